/- Texts put together: Pl7, Pl8, Pl9. -/
import Derived.Test.YtapdmlfjohiekaaQ7
import Derived.Deep.CutRange
namespace Go.Proofs.Ytapdmlfjohiekaa
open Go.RowKit

theorem perm_le {secs : Int} (h : permB secs = true) : 1 ≤ secs ∧ secs ≤ 1000000000 := by
  unfold permB at h
  simpa using h
set_option linter.unusedVariables false in
set_option linter.unusedSimpArgs false in
set_option maxRecDepth 100000 in
set_option maxHeartbeats 16000000 in
theorem ptake_arg {lo gt : Nat} {now : Int} {hs : List (Mc6 × Ad4)} {l : List Sd} (m : Mc6) (a : Ad4) (t secs : Int)  (w : World) (hT : Pl lo gt w ⟨now, hs, l⟩) (hpm : permB secs = false) : Calls Try.prog 46 #[.pointer (some ⟨gt, 0, none⟩), .agg #[.int .u8 (m.a.toNat : Int), .int .u8 (m.b.toNat : Int), .int .u8 (m.c.toNat : Int), .int .u8 (m.d.toNat : Int), .int .u8 (m.e.toNat : Int), .int .u8 (m.f.toNat : Int)], .agg #[.int .u8 (a.a.toNat : Int), .int .u8 (a.b.toNat : Int), .int .u8 (a.c.toNat : Int), .int .u8 (a.d.toNat : Int)], .int .i64 t, .int .i64 secs] w fun e w' => e = .returned (.int .i64 1) ∧ Pl lo gt w' ⟨(padv now t), hs, l⟩ ∧ Kt [84, 101] w w' ∧ Below lo w w' := by
  obtain ⟨A, n, c, mb, htb, otb, hM, own, hok⟩ := hT
  dsimp only at htb hM own
  have hlo : lo ≤ w.heap.size := Nat.le_trans otb (Nat.le_of_lt (hlt htb))
  have off_tb := ofs_type own htb (by decide)
  have hl := row_len (by decide) slE_len own
  have HLL := Lib.hid hl
  have HLO := Lib.hid hlo
  have HOK := Lib.hid hok
  have H32 : Hid (n ≤ 1000) := Lib.hid (by have := hok.len; simp only at this; omega)
  have kt := Kt.refl [84, 101] w
  clear hl hok
  obtain ⟨nw, hnw⟩ : ∃ x, padv now t = x := ⟨_, rfl⟩
  have HNW := Lib.hid hnw
  have HOK2 : Hid (St.ok ⟨nw, hs, l⟩) := Lib.hid (by rw [← hnw]; exact HOK.out.adv t)
  have n0_ : 0 ≤ nw := HOK2.out.n0
  have n1_ : nw ≤ 1099511627776 := HOK2.out.n1
  have N0_ := Lib.hid n0_
  have N1_ := Lib.hid n1_
  clear hnw n0_ n1_
  have HPM := Lib.hid hpm
  clear hpm
  have bel := Below.refl lo w
  go_enter Try.func46, Try.ntmps46
  go_wp2_with (first | ((with_reducible show wpList _ _ _ (⟨some 6, _, _, _, _, _⟩ :: _) _ _); refine wpList_box_n rfl 32 (.tmp 1) rfl #[.int .u8 (m.a.toNat : Int), .int .u8 (m.b.toNat : Int), .int .u8 (m.c.toNat : Int), .int .u8 (m.d.toNat : Int), .int .u8 (m.e.toNat : Int), .int .u8 (m.f.toNat : Int)] rfl ?_; intro g6 w1 ge lt hh bb; have d_tb_mB := ne_new (hlt htb) ge; have omB := Nat.le_trans (Nat.le_trans hlo bel.size) ge; have off_mB := owk_new own ge; have pn_mB := Nat.le_trans bel.size ge; replace htb := blk_u htb bb; replace own := owk_under own bb; replace kt := kt.trans (kt_below bb); replace hM := hM.below bb; replace bel := bel.trans (bb.mono (Nat.le_trans hlo bel.size)); have hmB := hh; clear hh lt ge bb) | ((with_reducible show wpList _ _ _ (⟨some 7, _, _, _, _, _⟩ :: _) _ _); refine wpList_box_n rfl 28 (.tmp 2) rfl #[.int .u8 (a.a.toNat : Int), .int .u8 (a.b.toNat : Int), .int .u8 (a.c.toNat : Int), .int .u8 (a.d.toNat : Int)] rfl ?_; intro g7 w2 ge lt hh bb; have d_tb_aB := ne_new (hlt htb) ge; have d_mB_aB := ne_new (hlt hmB) ge; have oaB := Nat.le_trans (Nat.le_trans hlo bel.size) ge; have off_aB := owk_new own ge; have pn_aB := Nat.le_trans bel.size ge; replace htb := blk_u htb bb; replace hmB := blk_u hmB bb; replace own := owk_under own bb; replace kt := kt.trans (kt_below bb); replace hM := hM.below bb; replace bel := bel.trans (bb.mono (Nat.le_trans hlo bel.size)); have haB := hh; clear hh lt ge bb))
  with_reducible refine (padv_any _ _ htb).mono ?_
  rintro e w3 ⟨rfl, htb_, b3⟩
  replace hmB := blk_a hmB b3 (ne_symm d_tb_mB)
  replace haB := blk_a haB b3 (ne_symm d_tb_aB)
  replace own := owk_off own off_tb b3
  replace kt := kt.trans (kt_grown b3 htb (by simp))
  replace hM := hM.grown b3 htb
  replace bel := below_grown bel b3 otb (Nat.le_trans hlo bel.size)
  clear b3
  clear htb
  rw [HNW.out] at htb_
  have htb := htb_
  clear htb_
  go_wp2_with fail
  with_reducible refine (perm_any _ HPM.out).mono ?_
  rintro e _ ⟨rfl, rfl⟩
  go_wp2_with fail
  go_ret
  exact ⟨rfl, (by rw [HNW.out]; exact ⟨A, n, c, mb, htb, otb, hM, own, HOK2.out⟩), kt, bel⟩
set_option linter.unusedVariables false in
set_option linter.unusedSimpArgs false in
set_option maxRecDepth 100000 in
set_option maxHeartbeats 16000000 in
theorem ptake_no {lo gt : Nat} {now : Int} {hs : List (Mc6 × Ad4)} {l : List Sd} (m : Mc6) (a : Ad4) (t secs : Int) {r : Int}  (w : World) (hT : Pl lo gt w ⟨now, hs, l⟩) (hpm : permB secs = true) (hr : mayE ⟨padv now t, hs, l⟩ m a = r) (hr0 : ¬ r = 0) : Calls Try.prog 46 #[.pointer (some ⟨gt, 0, none⟩), .agg #[.int .u8 (m.a.toNat : Int), .int .u8 (m.b.toNat : Int), .int .u8 (m.c.toNat : Int), .int .u8 (m.d.toNat : Int), .int .u8 (m.e.toNat : Int), .int .u8 (m.f.toNat : Int)], .agg #[.int .u8 (a.a.toNat : Int), .int .u8 (a.b.toNat : Int), .int .u8 (a.c.toNat : Int), .int .u8 (a.d.toNat : Int)], .int .i64 t, .int .i64 secs] w fun e w' => e = .returned (.int .i64 r) ∧ Pl lo gt w' ⟨(padv now t), hs, l⟩ ∧ Kt [84, 101] w w' ∧ Below lo w w' := by
  obtain ⟨A, n, c, mb, htb, otb, hM, own, hok⟩ := hT
  dsimp only at htb hM own
  have hlo : lo ≤ w.heap.size := Nat.le_trans otb (Nat.le_of_lt (hlt htb))
  have off_tb := ofs_type own htb (by decide)
  have hl := row_len (by decide) slE_len own
  have HLL := Lib.hid hl
  have HLO := Lib.hid hlo
  have HOK := Lib.hid hok
  have H32 : Hid (n ≤ 1000) := Lib.hid (by have := hok.len; simp only at this; omega)
  have kt := Kt.refl [84, 101] w
  clear hl hok
  obtain ⟨nw, hnw⟩ : ∃ x, padv now t = x := ⟨_, rfl⟩
  have HNW := Lib.hid hnw
  have HOK2 : Hid (St.ok ⟨nw, hs, l⟩) := Lib.hid (by rw [← hnw]; exact HOK.out.adv t)
  have n0_ : 0 ≤ nw := HOK2.out.n0
  have n1_ : nw ≤ 1099511627776 := HOK2.out.n1
  have N0_ := Lib.hid n0_
  have N1_ := Lib.hid n1_
  clear hnw n0_ n1_
  have HPM := Lib.hid hpm
  clear hpm
  have hr_ : _ := hr
  rw [HNW.out] at hr_
  have HR := Lib.hid hr_
  clear hr hr_
  have hr1 : (r != 0) = true := bne_iff_ne.2 hr0
  clear hr0
  have bel := Below.refl lo w
  go_enter Try.func46, Try.ntmps46
  go_wp2_with (first | ((with_reducible show wpList _ _ _ (⟨some 6, _, _, _, _, _⟩ :: _) _ _); refine wpList_box_n rfl 32 (.tmp 1) rfl #[.int .u8 (m.a.toNat : Int), .int .u8 (m.b.toNat : Int), .int .u8 (m.c.toNat : Int), .int .u8 (m.d.toNat : Int), .int .u8 (m.e.toNat : Int), .int .u8 (m.f.toNat : Int)] rfl ?_; intro g6 w1 ge lt hh bb; have d_tb_mB := ne_new (hlt htb) ge; have omB := Nat.le_trans (Nat.le_trans hlo bel.size) ge; have off_mB := owk_new own ge; have pn_mB := Nat.le_trans bel.size ge; replace htb := blk_u htb bb; replace own := owk_under own bb; replace kt := kt.trans (kt_below bb); replace hM := hM.below bb; replace bel := bel.trans (bb.mono (Nat.le_trans hlo bel.size)); have hmB := hh; clear hh lt ge bb) | ((with_reducible show wpList _ _ _ (⟨some 7, _, _, _, _, _⟩ :: _) _ _); refine wpList_box_n rfl 28 (.tmp 2) rfl #[.int .u8 (a.a.toNat : Int), .int .u8 (a.b.toNat : Int), .int .u8 (a.c.toNat : Int), .int .u8 (a.d.toNat : Int)] rfl ?_; intro g7 w2 ge lt hh bb; have d_tb_aB := ne_new (hlt htb) ge; have d_mB_aB := ne_new (hlt hmB) ge; have oaB := Nat.le_trans (Nat.le_trans hlo bel.size) ge; have off_aB := owk_new own ge; have pn_aB := Nat.le_trans bel.size ge; replace htb := blk_u htb bb; replace hmB := blk_u hmB bb; replace own := owk_under own bb; replace kt := kt.trans (kt_below bb); replace hM := hM.below bb; replace bel := bel.trans (bb.mono (Nat.le_trans hlo bel.size)); have haB := hh; clear hh lt ge bb))
  with_reducible refine (padv_any _ _ htb).mono ?_
  rintro e w3 ⟨rfl, htb_, b3⟩
  replace hmB := blk_a hmB b3 (ne_symm d_tb_mB)
  replace haB := blk_a haB b3 (ne_symm d_tb_aB)
  replace own := owk_off own off_tb b3
  replace kt := kt.trans (kt_grown b3 htb (by simp))
  replace hM := hM.grown b3 htb
  replace bel := below_grown bel b3 otb (Nat.le_trans hlo bel.size)
  clear b3
  clear htb
  rw [HNW.out] at htb_
  have htb := htb_
  clear htb_
  go_wp2_with fail
  with_reducible refine (perm_any _ HPM.out).mono ?_
  rintro e _ ⟨rfl, rfl⟩
  have R23 := Lib.hid (range_lit hmB 0 6 [.int .u8 (m.a.toNat : Int), .int .u8 (m.b.toNat : Int), .int .u8 (m.c.toNat : Int), .int .u8 (m.d.toNat : Int), .int .u8 (m.e.toNat : Int), .int .u8 (m.f.toNat : Int)] rfl)
  go_wp2_with (first | ((with_reducible show wpList _ _ _ (⟨some 23, _, _, _, _, _⟩ :: _) _ _); refine wpList_load_rng 32 (.tmp 6) rfl (by kernel_rfl) _ _ rfl _ R23.out _ Try.underlying32 rfl (by kernel_rfl) ?_; have R24 := Lib.hid (range_lit haB 0 4 [.int .u8 (a.a.toNat : Int), .int .u8 (a.b.toNat : Int), .int .u8 (a.c.toNat : Int), .int .u8 (a.d.toNat : Int)] rfl)) | ((with_reducible show wpList _ _ _ (⟨some 24, _, _, _, _, _⟩ :: _) _ _); refine wpList_load_rng 28 (.tmp 7) rfl (by kernel_rfl) _ _ rfl _ R24.out _ Try.underlying28 rfl (by kernel_rfl) ?_))
  try clear R23
  try clear R24
  with_reducible refine (may_any m a _ htb own H32.out hM HOK2.out.srt HR.out).mono ?_
  rintro e w4 ⟨rfl, b4⟩
  replace htb := blk_u htb b4
  replace hmB := blk_u hmB b4
  replace haB := blk_u haB b4
  replace own := owk_under own b4
  replace kt := kt.trans (kt_below b4)
  replace hM := hM.below b4
  replace bel := bel.trans (b4.mono (Nat.le_trans hlo bel.size))
  clear b4
  go_wp2_with fail
  go_ret
  exact ⟨rfl, (by rw [HNW.out]; exact ⟨A, n, c, mb, htb, otb, hM, own, HOK2.out⟩), kt, bel⟩
set_option linter.unusedVariables false in
set_option linter.unusedSimpArgs false in
set_option maxRecDepth 100000 in
set_option maxHeartbeats 16000000 in
theorem ptake_new {lo gt : Nat} {now : Int} {hs : List (Mc6 × Ad4)} {l : List Sd} (m : Mc6) (a : Ad4) (t secs : Int) {p : Nat} {y : Sd}  (w : World) (hT : Pl lo gt w ⟨now, hs, l⟩) (hpm : permB secs = true) (hr : mayE ⟨padv now t, hs, l⟩ m a = 0) (hf : hldF m (padv now t) l = none) (hp : sfpos l a.num = p) (hs_ : sfhas l a.num = true) (hy : l[p]? = some y) (hok3 : St.ok ⟨padv now t, hs, l.set p ⟨m, a, (padv now t + secs), y.fx, true, false, y.br⟩⟩) : Calls Try.prog 46 #[.pointer (some ⟨gt, 0, none⟩), .agg #[.int .u8 (m.a.toNat : Int), .int .u8 (m.b.toNat : Int), .int .u8 (m.c.toNat : Int), .int .u8 (m.d.toNat : Int), .int .u8 (m.e.toNat : Int), .int .u8 (m.f.toNat : Int)], .agg #[.int .u8 (a.a.toNat : Int), .int .u8 (a.b.toNat : Int), .int .u8 (a.c.toNat : Int), .int .u8 (a.d.toNat : Int)], .int .i64 t, .int .i64 secs] w fun e w' => e = .returned (.int .i64 0) ∧ Pl lo gt w' ⟨(padv now t), hs, (l.set p ⟨m, a, (padv now t + secs), y.fx, true, false, y.br⟩)⟩ ∧ Kt [84, 101] w w' ∧ Below lo w w' := by
  obtain ⟨A, n, c, mb, htb, otb, hM, own, hok⟩ := hT
  dsimp only at htb hM own
  have hlo : lo ≤ w.heap.size := Nat.le_trans otb (Nat.le_of_lt (hlt htb))
  have off_tb := ofs_type own htb (by decide)
  have hl := row_len (by decide) slE_len own
  have HLL := Lib.hid hl
  have HLO := Lib.hid hlo
  have HOK := Lib.hid hok
  have H32 : Hid (n ≤ 1000) := Lib.hid (by have := hok.len; simp only at this; omega)
  have kt := Kt.refl [84, 101] w
  clear hl hok
  obtain ⟨nw, hnw⟩ : ∃ x, padv now t = x := ⟨_, rfl⟩
  have HNW := Lib.hid hnw
  have HOK2 : Hid (St.ok ⟨nw, hs, l⟩) := Lib.hid (by rw [← hnw]; exact HOK.out.adv t)
  have n0_ : 0 ≤ nw := HOK2.out.n0
  have n1_ : nw ≤ 1099511627776 := HOK2.out.n1
  have N0_ := Lib.hid n0_
  have N1_ := Lib.hid n1_
  clear hnw n0_ n1_
  have hf_ : _ := hf
  rw [HNW.out] at hf_
  clear hf
  have hf := hf_
  clear hf_
  have hsb := perm_le hpm
  have hwr : IntKind.i64.wrap (nw + secs) = nw + secs := IntWalk.i64_in _ (by have := N0_.out; have := N1_.out; omega)
  clear hsb
  have HPM := Lib.hid hpm
  clear hpm
  have hr_ : _ := hr
  rw [HNW.out] at hr_
  have HR := Lib.hid hr_
  clear hr hr_
  have hin_ : p < n := by have h1_ := (List.getElem?_eq_some_iff.1 hy).1; have h2_ := HLL.out; omega
  have i0 : (0 : Int) ≤ p := by omega
  have i1 : (p : Int) < n := by omega
  obtain ⟨gE, rfl, _⟩ := row_at own (by omega)
  have en := (owk_sle (by decide) slE_len own).1
  have av_en_tb := owk_av own off_tb
  have HOK3 : Hid (St.ok ⟨nw, hs, l.set p ⟨m, a, (nw + secs), y.fx, true, false, y.br⟩⟩) := Lib.hid (by rw [← HNW.out]; exact hok3)
  clear hok3
  have HFS := Lib.hid hs_
  clear hs_
  have HF := Lib.hid hf
  clear hf
  have HP := Lib.hid hp
  clear hp
  have HY := Lib.hid hy
  clear hy
  have bel := Below.refl lo w
  go_enter Try.func46, Try.ntmps46
  go_wp2_with (first | ((with_reducible show wpList _ _ _ (⟨some 6, _, _, _, _, _⟩ :: _) _ _); refine wpList_box_n rfl 32 (.tmp 1) rfl #[.int .u8 (m.a.toNat : Int), .int .u8 (m.b.toNat : Int), .int .u8 (m.c.toNat : Int), .int .u8 (m.d.toNat : Int), .int .u8 (m.e.toNat : Int), .int .u8 (m.f.toNat : Int)] rfl ?_; intro g6 w1 ge lt hh bb; have d_tb_mB := ne_new (hlt htb) ge; have av_en_mB := en.av_new ge; have omB := Nat.le_trans (Nat.le_trans hlo bel.size) ge; have off_mB := owk_new own ge; have pn_mB := Nat.le_trans bel.size ge; replace htb := blk_u htb bb; replace en := en.below bb; replace own := owk_under own bb; replace kt := kt.trans (kt_below bb); replace hM := hM.below bb; replace bel := bel.trans (bb.mono (Nat.le_trans hlo bel.size)); have hmB := hh; clear hh lt ge bb) | ((with_reducible show wpList _ _ _ (⟨some 7, _, _, _, _, _⟩ :: _) _ _); refine wpList_box_n rfl 28 (.tmp 2) rfl #[.int .u8 (a.a.toNat : Int), .int .u8 (a.b.toNat : Int), .int .u8 (a.c.toNat : Int), .int .u8 (a.d.toNat : Int)] rfl ?_; intro g7 w2 ge lt hh bb; have d_tb_aB := ne_new (hlt htb) ge; have d_mB_aB := ne_new (hlt hmB) ge; have av_en_aB := en.av_new ge; have oaB := Nat.le_trans (Nat.le_trans hlo bel.size) ge; have off_aB := owk_new own ge; have pn_aB := Nat.le_trans bel.size ge; replace htb := blk_u htb bb; replace hmB := blk_u hmB bb; replace en := en.below bb; replace own := owk_under own bb; replace kt := kt.trans (kt_below bb); replace hM := hM.below bb; replace bel := bel.trans (bb.mono (Nat.le_trans hlo bel.size)); have haB := hh; clear hh lt ge bb))
  with_reducible refine (padv_any _ _ htb).mono ?_
  rintro e w3 ⟨rfl, htb_, b3⟩
  replace en := en.away av_en_tb b3
  replace hmB := blk_a hmB b3 (ne_symm d_tb_mB)
  replace haB := blk_a haB b3 (ne_symm d_tb_aB)
  replace own := owk_off own off_tb b3
  replace kt := kt.trans (kt_grown b3 htb (by simp))
  replace hM := hM.grown b3 htb
  replace bel := below_grown bel b3 otb (Nat.le_trans hlo bel.size)
  clear b3
  clear htb
  rw [HNW.out] at htb_
  have htb := htb_
  clear htb_
  go_wp2_with fail
  with_reducible refine (perm_any _ HPM.out).mono ?_
  rintro e _ ⟨rfl, rfl⟩
  have R23 := Lib.hid (range_lit hmB 0 6 [.int .u8 (m.a.toNat : Int), .int .u8 (m.b.toNat : Int), .int .u8 (m.c.toNat : Int), .int .u8 (m.d.toNat : Int), .int .u8 (m.e.toNat : Int), .int .u8 (m.f.toNat : Int)] rfl)
  go_wp2_with (first | ((with_reducible show wpList _ _ _ (⟨some 23, _, _, _, _, _⟩ :: _) _ _); refine wpList_load_rng 32 (.tmp 6) rfl (by kernel_rfl) _ _ rfl _ R23.out _ Try.underlying32 rfl (by kernel_rfl) ?_; have R24 := Lib.hid (range_lit haB 0 4 [.int .u8 (a.a.toNat : Int), .int .u8 (a.b.toNat : Int), .int .u8 (a.c.toNat : Int), .int .u8 (a.d.toNat : Int)] rfl)) | ((with_reducible show wpList _ _ _ (⟨some 24, _, _, _, _, _⟩ :: _) _ _); refine wpList_load_rng 28 (.tmp 7) rfl (by kernel_rfl) _ _ rfl _ R24.out _ Try.underlying28 rfl (by kernel_rfl) ?_))
  try clear R23
  try clear R24
  with_reducible refine (may_any m a _ htb own H32.out hM HOK2.out.srt HR.out).mono ?_
  rintro e w4 ⟨rfl, b4⟩
  replace htb := blk_u htb b4
  replace hmB := blk_u hmB b4
  replace haB := blk_u haB b4
  replace en := en.below b4
  replace own := owk_under own b4
  replace kt := kt.trans (kt_below b4)
  replace hM := hM.below b4
  replace bel := bel.trans (b4.mono (Nat.le_trans hlo bel.size))
  clear b4
  have R30 := Lib.hid (range_lit hmB 0 6 [.int .u8 (m.a.toNat : Int), .int .u8 (m.b.toNat : Int), .int .u8 (m.c.toNat : Int), .int .u8 (m.d.toNat : Int), .int .u8 (m.e.toNat : Int), .int .u8 (m.f.toNat : Int)] rfl)
  go_wp2_with (first | ((with_reducible show wpList _ _ _ (⟨some 30, _, _, _, _, _⟩ :: _) _ _); refine wpList_load_rng 32 (.tmp 6) rfl (by kernel_rfl) _ _ rfl _ R30.out _ Try.underlying32 rfl (by kernel_rfl) ?_))
  try clear R30
  with_reducible refine (lof_none m _ htb own H32.out HF.out).mono ?_
  rintro e w5 ⟨rfl, b5⟩
  replace htb := blk_u htb b5
  replace hmB := blk_u hmB b5
  replace haB := blk_u haB b5
  replace en := en.below b5
  replace own := owk_under own b5
  replace kt := kt.trans (kt_below b5)
  replace hM := hM.below b5
  replace bel := bel.trans (b5.mono (Nat.le_trans hlo bel.size))
  clear b5
  have R40 := Lib.hid (range_lit haB 0 4 [.int .u8 (a.a.toNat : Int), .int .u8 (a.b.toNat : Int), .int .u8 (a.c.toNat : Int), .int .u8 (a.d.toNat : Int)] rfl)
  go_wp2_with (first | ((with_reducible show wpList _ _ _ (⟨some 40, _, _, _, _, _⟩ :: _) _ _); refine wpList_load_rng 28 (.tmp 7) rfl (by kernel_rfl) _ _ rfl _ R40.out _ Try.underlying28 rfl (by kernel_rfl) ?_))
  try clear R40
  with_reducible refine (pfind_is a _ htb (owk_sle (by decide) slE_len own).1 HOK2.out.srt H32.out HP.out HFS.out).mono ?_
  rintro e w6 ⟨rfl, b6⟩
  replace htb := blk_u htb b6
  replace hmB := blk_u hmB b6
  replace haB := blk_u haB b6
  replace en := en.below b6
  replace own := owk_under own b6
  replace kt := kt.trans (kt_below b6)
  replace hM := hM.below b6
  replace bel := bel.trans (b6.mono (Nat.le_trans hlo bel.size))
  clear b6
  have R47 := cell_lit htb 2 _ rfl
  go_wp2_with fail
  clear R47
  replace bel := bel.drew
  replace htb : w6.drew.heap[gt]? = _ := htb
  replace hmB : w6.drew.heap[g6]? = _ := hmB
  replace haB : w6.drew.heap[g7]? = _ := haB
  replace en := en.drew
  replace own := World.ownsRow.drew own
  replace kt := kt_drew kt
  replace hM := hm_drew hM
  refine wp_region_held_drew (S := fun W => W.heap[g6]? = some (.cells #[.int .u8 (m.a.toNat : Int), .int .u8 (m.b.toNat : Int), .int .u8 (m.c.toNat : Int), .int .u8 (m.d.toNat : Int), .int .u8 (m.e.toNat : Int), .int .u8 (m.f.toNat : Int)] 32 (0, 0)) ∧ W.heap[g7]? = some (.cells #[.int .u8 (a.a.toNat : Int), .int .u8 (a.b.toNat : Int), .int .u8 (a.c.toNat : Int), .int .u8 (a.d.toNat : Int)] 28 (0, 0)) ∧ W.heap[gt]? = some (.cells #[.int .i64 nw, .map (some mb), .slice (some ⟨gE, 0, none⟩) n c] 84 (0, 0))) (by kernel_rfl) ⟨hmB, haB, htb⟩ (fun hH => ?_)
  generalize w6.drew = w7 at bel htb hmB haB en own kt hM hH ⊢
  refine wpAnyH_take (i := 0) (v := ?_) rfl (by kernel_rfl) (by kernel_rfl) (by kernel_rfl) (fun _ _ _ h => h) (Or.inl ⟨by rfl, ?_⟩) hH ?_
  rotate_left
  · ((intro W hW; clear hW; go_simp) <;> with_reducible rfl)
  simp only [Act.put, List.getElem_toArray, List.getElem_cons_zero, List.setIfInBounds_toArray, List.set_cons_zero, List.set_cons_succ]
  refine wpAnyH_take (i := 1) (v := .agg #[.int .u8 (m.a.toNat : Int), .int .u8 (m.b.toNat : Int), .int .u8 (m.c.toNat : Int), .int .u8 (m.d.toNat : Int), .int .u8 (m.e.toNat : Int), .int .u8 (m.f.toNat : Int)]) rfl (by kernel_rfl) (by kernel_rfl) (by kernel_rfl) (fun _ _ _ h => h) (yieldsIf_load_part (by kernel_rfl) 32 _ rfl g6 0 6 rfl _ 32 (0, 0) (fun W hW => hW.1) _ rfl _ Try.underlying32 rfl (by kernel_rfl)) hH ?_
  simp only [Act.put, List.getElem_toArray, List.getElem_cons_zero, List.getElem_cons_succ, List.setIfInBounds_toArray, List.set_cons_zero, List.set_cons_succ]
  refine wpAnyH_take (i := 2) (v := .agg #[.int .u8 (a.a.toNat : Int), .int .u8 (a.b.toNat : Int), .int .u8 (a.c.toNat : Int), .int .u8 (a.d.toNat : Int)]) rfl (by kernel_rfl) (by kernel_rfl) (by kernel_rfl) (fun _ _ _ h => h) (yieldsIf_load_part (by kernel_rfl) 28 _ rfl g7 0 4 rfl _ 28 (0, 0) (fun W hW => hW.2.1) _ rfl _ Try.underlying28 rfl (by kernel_rfl)) hH ?_
  simp only [Act.put, List.getElem_toArray, List.getElem_cons_zero, List.getElem_cons_succ, List.setIfInBounds_toArray, List.set_cons_zero, List.set_cons_succ]
  refine wpAnyH_take (i := 3) (v := ?_) rfl (by kernel_rfl) (by kernel_rfl) (by kernel_rfl) (fun _ _ _ h => h) (Or.inl ⟨by rfl, ?_⟩) hH ?_
  rotate_left
  · ((intro W hW; clear hW; go_simp) <;> with_reducible rfl)
  simp only [Act.put, List.getElem_toArray, List.getElem_cons_zero, List.getElem_cons_succ, List.setIfInBounds_toArray, List.set_cons_zero, List.set_cons_succ]
  refine wpAnyH_take (i := 4) (v := ?_) rfl (by kernel_rfl) (by kernel_rfl) (by kernel_rfl) (fun _ _ _ h => h) (Or.inl ⟨by rfl, ?_⟩) hH ?_
  rotate_left
  · ((intro W hW; clear hW; go_simp) <;> with_reducible rfl)
  simp only [Act.put, List.getElem_toArray, List.getElem_cons_zero, List.getElem_cons_succ, List.setIfInBounds_toArray, List.set_cons_zero, List.set_cons_succ]
  refine wpAnyH_take (i := 5) (v := ?_) rfl (by kernel_rfl) (by kernel_rfl) (by kernel_rfl) (fun _ _ _ h => h) (Or.inl ⟨by rfl, ?_⟩) hH ?_
  rotate_left
  · ((intro W hW; clear hW; go_simp) <;> with_reducible rfl)
  simp only [Act.put, List.getElem_toArray, List.getElem_cons_zero, List.getElem_cons_succ, List.setIfInBounds_toArray, List.set_cons_zero, List.set_cons_succ]
  refine wpAnyH_take (i := 6) (v := ?_) rfl (by kernel_rfl) (by kernel_rfl) (by kernel_rfl) (fun _ _ _ h => h) (Or.inl ⟨by rfl, ?_⟩) hH ?_
  rotate_left
  · ((intro W hW; have hk := cell_lit (hW.2.2) 0 _ rfl; clear hW; go_simp) <;> with_reducible rfl)
  simp only [Act.put, List.getElem_toArray, List.getElem_cons_zero, List.getElem_cons_succ, List.setIfInBounds_toArray, List.set_cons_zero, List.set_cons_succ]
  refine wpAnyH_take (i := 7) (v := ?_) rfl (by kernel_rfl) (by kernel_rfl) (by kernel_rfl) (fun _ _ _ h => h) (Or.inl ⟨by rfl, ?_⟩) hH ?_
  rotate_left
  · ((intro W hW; clear hW; go_simp) <;> with_reducible rfl)
  simp only [Act.put, List.getElem_toArray, List.getElem_cons_zero, List.getElem_cons_succ, List.setIfInBounds_toArray, List.set_cons_zero, List.set_cons_succ]
  refine wpAnyH_take (i := 8) (v := ?_) rfl (by kernel_rfl) (by kernel_rfl) (by kernel_rfl) (fun _ _ _ h => h) (Or.inl ⟨by rfl, ?_⟩) hH ?_
  rotate_left
  · ((intro W hW; clear hW; go_simp) <;> with_reducible rfl)
  simp only [Act.put, List.getElem_toArray, List.getElem_cons_zero, List.getElem_cons_succ, List.setIfInBounds_toArray, List.set_cons_zero, List.set_cons_succ]
  refine wpAnyH_take (i := 9) (v := ?_) rfl (by kernel_rfl) (by kernel_rfl) (by kernel_rfl) (fun _ _ _ h => h) (Or.inl ⟨by rfl, ?_⟩) hH ?_
  rotate_left
  · ((intro W hW; clear hW; go_simp) <;> with_reducible rfl)
  simp only [Act.put, List.getElem_toArray, List.getElem_cons_zero, List.getElem_cons_succ, List.setIfInBounds_toArray, List.set_cons_zero, List.set_cons_succ]
  refine wpAnyH_take (i := 10) (v := ?_) rfl (by kernel_rfl) (by kernel_rfl) (by kernel_rfl) (fun _ _ _ h => h) (Or.inl ⟨by rfl, ?_⟩) hH ?_
  rotate_left
  · ((intro W hW; clear hW; go_simp) <;> with_reducible rfl)
  simp only [Act.put, List.getElem_toArray, List.getElem_cons_zero, List.getElem_cons_succ, List.setIfInBounds_toArray, List.set_cons_zero, List.set_cons_succ]
  refine wpAnyH_take (i := 11) (v := ?_) rfl (by kernel_rfl) (by kernel_rfl) (by kernel_rfl) (fun _ _ _ h => h) (Or.inl ⟨by rfl, ?_⟩) hH ?_
  rotate_left
  · ((intro W hW; clear hW; go_simp) <;> with_reducible rfl)
  simp only [Act.put, List.getElem_toArray, List.getElem_cons_zero, List.getElem_cons_succ, List.setIfInBounds_toArray, List.set_cons_zero, List.set_cons_succ]
  refine wpAnyH_ready (rs := [12]) (by kernel_rfl) (by simp) ?_
  refine AllReadyH.cons (o := _) rfl (fun K hK => ?_) AllReadyH.nil
  simp only [List.getElem_toArray, List.getElem_cons_zero, List.getElem_cons_succ]
  rw [if_pos (by rfl)]
  refine wp_store_el 56 (.tmp 61) (.tmp 59) rfl gE p 0 y (⟨m, a, (nw + secs), y.fx, y.le, y.rp, y.br⟩) rfl [.int .u8 (m.a.toNat : Int), .int .u8 (m.b.toNat : Int), .int .u8 (m.c.toNat : Int), .int .u8 (m.d.toNat : Int), .int .u8 (m.e.toNat : Int), .int .u8 (m.f.toNat : Int), .int .u8 (a.a.toNat : Int), .int .u8 (a.b.toNat : Int), .int .u8 (a.c.toNat : Int), .int .u8 (a.d.toNat : Int), .int .i64 (nw + secs)] rfl (by decide) slE_len own HY.out (Nat.le_of_ble_eq_true rfl) rfl (by kernel_rfl) (by rfl) ?_
  intro w8 own_ gw
  replace bel := bel.trans (row_bel gw own (Nat.le_trans hlo bel.size))
  replace htb := blk_own (v := .slice (some ⟨gE, 0, none⟩) n c) htb gw off_tb
  replace hmB := blk_own (v := .slice (some ⟨gE, 0, none⟩) n c) hmB gw off_mB
  replace haB := blk_own (v := .slice (some ⟨gE, 0, none⟩) n c) haB gw off_aB
  replace kt := kt.trans (kt_row gw own (by simp))
  replace hM := hM.row gw own
  clear own
  have own := own_
  clear own_ gw
  replace en := (owk_sle (by decide) slE_len own).1
  have HY1 : Hid ((l.set p ⟨m, a, (nw + secs), y.fx, y.le, y.rp, y.br⟩)[p]? = some ⟨m, a, (nw + secs), y.fx, y.le, y.rp, y.br⟩) := Lib.hid (List.getElem?_set_self (List.getElem?_eq_some_iff.1 HY.out).1)
  refine hK.out _ _ ⟨hmB, haB, htb⟩ (fun hH9 => ?_)
  clear hK K
  simp only [Act.put]
  refine wpAnyH_done (by kernel_rfl) ?_ _
  go_wp2_with (first | ((with_reducible show wpList _ _ _ (⟨none, Op.store _ (.tmp 64) _, _, _, _, _⟩ :: _) _ _); refine wpList_store_el rfl 4 (.tmp 64) (.const (.bool true)) rfl gE p 12 (⟨m, a, (nw + secs), y.fx, y.le, y.rp, y.br⟩) (⟨m, a, (nw + secs), y.fx, true, y.rp, y.br⟩) rfl [.bool true] rfl (by decide) slE_len own HY1.out (Nat.le_of_ble_eq_true rfl) rfl (by kernel_rfl) (by rfl) ?_; intro w10 own_ gw; replace bel := bel.trans (row_bel gw own (Nat.le_trans hlo bel.size)); replace htb := blk_own (v := .slice (some ⟨gE, 0, none⟩) n c) htb gw off_tb; replace hmB := blk_own (v := .slice (some ⟨gE, 0, none⟩) n c) hmB gw off_mB; replace haB := blk_own (v := .slice (some ⟨gE, 0, none⟩) n c) haB gw off_aB; replace kt := kt.trans (kt_row gw own (by simp)); replace hM := hM.row gw own; clear own; have own := own_; clear own_ gw; replace en := (owk_sle (by decide) slE_len own).1; have HY2 : Hid (((l.set p ⟨m, a, (nw + secs), y.fx, y.le, y.rp, y.br⟩).set p ⟨m, a, (nw + secs), y.fx, true, y.rp, y.br⟩)[p]? = some ⟨m, a, (nw + secs), y.fx, true, y.rp, y.br⟩) := Lib.hid (List.getElem?_set_self (List.getElem?_eq_some_iff.1 HY1.out).1)) | ((with_reducible show wpList _ _ _ (⟨none, Op.store _ (.tmp 67) _, _, _, _, _⟩ :: _) _ _); refine wpList_store_el rfl 4 (.tmp 67) (.const (.bool false)) rfl gE p 13 (⟨m, a, (nw + secs), y.fx, true, y.rp, y.br⟩) (⟨m, a, (nw + secs), y.fx, true, false, y.br⟩) rfl [.bool false] rfl (by decide) slE_len own HY2.out (Nat.le_of_ble_eq_true rfl) rfl (by kernel_rfl) (by rfl) ?_; intro w11 own_ gw; replace bel := bel.trans (row_bel gw own (Nat.le_trans hlo bel.size)); replace htb := blk_own (v := .slice (some ⟨gE, 0, none⟩) n c) htb gw off_tb; replace hmB := blk_own (v := .slice (some ⟨gE, 0, none⟩) n c) hmB gw off_mB; replace haB := blk_own (v := .slice (some ⟨gE, 0, none⟩) n c) haB gw off_aB; replace kt := kt.trans (kt_row gw own (by simp)); replace hM := hM.row gw own; clear own; have own := own_; clear own_ gw; replace en := (owk_sle (by decide) slE_len own).1))
  go_ret
  exact ⟨rfl, (by rw [HNW.out]; exact ⟨(some ⟨gE, 0, none⟩), n, c, mb, htb, otb, hM, (by have h_ := own; rw [List.set_set, List.set_set] at h_; exact h_), HOK3.out⟩), kt, bel⟩
set_option linter.unusedVariables false in
set_option linter.unusedSimpArgs false in
set_option maxRecDepth 100000 in
set_option maxHeartbeats 16000000 in
theorem ptake_move {lo gt : Nat} {now : Int} {hs : List (Mc6 × Ad4)} {l : List Sd} (m : Mc6) (a : Ad4) (t secs : Int) {i p : Nat} {x y : Sd}  (w : World) (hT : Pl lo gt w ⟨now, hs, l⟩) (hpm : permB secs = true) (hr : mayE ⟨padv now t, hs, l⟩ m a = 0) (hf : hldF m (padv now t) l = some i) (hx : l[i]? = some x) (hp : sfpos l a.num = p) (hs_ : sfhas l a.num = true) (hy : (l.set i ⟨x.m, x.ad, 0, x.fx, x.le, x.rp, x.br⟩)[p]? = some y) (hok3 : St.ok ⟨padv now t, hs, (l.set i ⟨x.m, x.ad, 0, x.fx, x.le, x.rp, x.br⟩).set p ⟨m, a, (padv now t + secs), y.fx, true, false, y.br⟩⟩) : Calls Try.prog 46 #[.pointer (some ⟨gt, 0, none⟩), .agg #[.int .u8 (m.a.toNat : Int), .int .u8 (m.b.toNat : Int), .int .u8 (m.c.toNat : Int), .int .u8 (m.d.toNat : Int), .int .u8 (m.e.toNat : Int), .int .u8 (m.f.toNat : Int)], .agg #[.int .u8 (a.a.toNat : Int), .int .u8 (a.b.toNat : Int), .int .u8 (a.c.toNat : Int), .int .u8 (a.d.toNat : Int)], .int .i64 t, .int .i64 secs] w fun e w' => e = .returned (.int .i64 0) ∧ Pl lo gt w' ⟨(padv now t), hs, ((l.set i ⟨x.m, x.ad, 0, x.fx, x.le, x.rp, x.br⟩).set p ⟨m, a, (padv now t + secs), y.fx, true, false, y.br⟩)⟩ ∧ Kt [84, 101] w w' ∧ Below lo w w' := by
  obtain ⟨A, n, c, mb, htb, otb, hM, own, hok⟩ := hT
  dsimp only at htb hM own
  have hlo : lo ≤ w.heap.size := Nat.le_trans otb (Nat.le_of_lt (hlt htb))
  have off_tb := ofs_type own htb (by decide)
  have hl := row_len (by decide) slE_len own
  have HLL := Lib.hid hl
  have HLO := Lib.hid hlo
  have HOK := Lib.hid hok
  have H32 : Hid (n ≤ 1000) := Lib.hid (by have := hok.len; simp only at this; omega)
  have kt := Kt.refl [84, 101] w
  clear hl hok
  obtain ⟨nw, hnw⟩ : ∃ x, padv now t = x := ⟨_, rfl⟩
  have HNW := Lib.hid hnw
  have HOK2 : Hid (St.ok ⟨nw, hs, l⟩) := Lib.hid (by rw [← hnw]; exact HOK.out.adv t)
  have n0_ : 0 ≤ nw := HOK2.out.n0
  have n1_ : nw ≤ 1099511627776 := HOK2.out.n1
  have N0_ := Lib.hid n0_
  have N1_ := Lib.hid n1_
  clear hnw n0_ n1_
  have hf_ : _ := hf
  rw [HNW.out] at hf_
  clear hf
  have hf := hf_
  clear hf_
  have hsb := perm_le hpm
  have hwr : IntKind.i64.wrap (nw + secs) = nw + secs := IntWalk.i64_in _ (by have := N0_.out; have := N1_.out; omega)
  clear hsb
  have HPM := Lib.hid hpm
  clear hpm
  have hr_ : _ := hr
  rw [HNW.out] at hr_
  have HR := Lib.hid hr_
  clear hr hr_
  have hin_ : i < n := by have h1_ := (List.getElem?_eq_some_iff.1 hx).1; have h2_ := HLL.out; omega
  have i0 : (0 : Int) ≤ i := by omega
  have i1 : (i : Int) < n := by omega
  obtain ⟨gE, rfl, _⟩ := row_at own (by omega)
  have en := (owk_sle (by decide) slE_len own).1
  have av_en_tb := owk_av own off_tb
  have hpn_ : p < n := by have h1_ := (List.getElem?_eq_some_iff.1 hy).1; have h2_ := HLL.out; simp only [List.length_set] at h1_; omega
  have k0 : (0 : Int) ≤ p := by omega
  have k1 : (p : Int) < n := by omega
  have HOK3 : Hid (St.ok ⟨nw, hs, (l.set i ⟨x.m, x.ad, 0, x.fx, x.le, x.rp, x.br⟩).set p ⟨m, a, (nw + secs), y.fx, true, false, y.br⟩⟩) := Lib.hid (by rw [← HNW.out]; exact hok3)
  clear hok3
  have hmp := map_set (y := ⟨x.m, x.ad, 0, x.fx, x.le, x.rp, x.br⟩) hx rfl
  have HS1 : Hid (SSrt (l.set i ⟨x.m, x.ad, 0, x.fx, x.le, x.rp, x.br⟩)) := Lib.hid (ssrt_map hmp HOK2.out.srt)
  have HP1 : Hid (sfpos (l.set i ⟨x.m, x.ad, 0, x.fx, x.le, x.rp, x.br⟩) a.num = p) := Lib.hid ((sfpos_map hmp _).trans hp)
  have HF1 : Hid (sfhas (l.set i ⟨x.m, x.ad, 0, x.fx, x.le, x.rp, x.br⟩) a.num = true) := Lib.hid ((sfhas_map hmp _).trans hs_)
  clear hmp hp hs_
  have HF := Lib.hid hf
  clear hf
  have HX := Lib.hid hx
  clear hx
  have HY := Lib.hid hy
  clear hy
  have bel := Below.refl lo w
  go_enter Try.func46, Try.ntmps46
  go_wp2_with (first | ((with_reducible show wpList _ _ _ (⟨some 6, _, _, _, _, _⟩ :: _) _ _); refine wpList_box_n rfl 32 (.tmp 1) rfl #[.int .u8 (m.a.toNat : Int), .int .u8 (m.b.toNat : Int), .int .u8 (m.c.toNat : Int), .int .u8 (m.d.toNat : Int), .int .u8 (m.e.toNat : Int), .int .u8 (m.f.toNat : Int)] rfl ?_; intro g6 w1 ge lt hh bb; have d_tb_mB := ne_new (hlt htb) ge; have av_en_mB := en.av_new ge; have omB := Nat.le_trans (Nat.le_trans hlo bel.size) ge; have off_mB := owk_new own ge; have pn_mB := Nat.le_trans bel.size ge; replace htb := blk_u htb bb; replace en := en.below bb; replace own := owk_under own bb; replace kt := kt.trans (kt_below bb); replace hM := hM.below bb; replace bel := bel.trans (bb.mono (Nat.le_trans hlo bel.size)); have hmB := hh; clear hh lt ge bb) | ((with_reducible show wpList _ _ _ (⟨some 7, _, _, _, _, _⟩ :: _) _ _); refine wpList_box_n rfl 28 (.tmp 2) rfl #[.int .u8 (a.a.toNat : Int), .int .u8 (a.b.toNat : Int), .int .u8 (a.c.toNat : Int), .int .u8 (a.d.toNat : Int)] rfl ?_; intro g7 w2 ge lt hh bb; have d_tb_aB := ne_new (hlt htb) ge; have d_mB_aB := ne_new (hlt hmB) ge; have av_en_aB := en.av_new ge; have oaB := Nat.le_trans (Nat.le_trans hlo bel.size) ge; have off_aB := owk_new own ge; have pn_aB := Nat.le_trans bel.size ge; replace htb := blk_u htb bb; replace hmB := blk_u hmB bb; replace en := en.below bb; replace own := owk_under own bb; replace kt := kt.trans (kt_below bb); replace hM := hM.below bb; replace bel := bel.trans (bb.mono (Nat.le_trans hlo bel.size)); have haB := hh; clear hh lt ge bb))
  with_reducible refine (padv_any _ _ htb).mono ?_
  rintro e w3 ⟨rfl, htb_, b3⟩
  replace en := en.away av_en_tb b3
  replace hmB := blk_a hmB b3 (ne_symm d_tb_mB)
  replace haB := blk_a haB b3 (ne_symm d_tb_aB)
  replace own := owk_off own off_tb b3
  replace kt := kt.trans (kt_grown b3 htb (by simp))
  replace hM := hM.grown b3 htb
  replace bel := below_grown bel b3 otb (Nat.le_trans hlo bel.size)
  clear b3
  clear htb
  rw [HNW.out] at htb_
  have htb := htb_
  clear htb_
  go_wp2_with fail
  with_reducible refine (perm_any _ HPM.out).mono ?_
  rintro e _ ⟨rfl, rfl⟩
  have R23 := Lib.hid (range_lit hmB 0 6 [.int .u8 (m.a.toNat : Int), .int .u8 (m.b.toNat : Int), .int .u8 (m.c.toNat : Int), .int .u8 (m.d.toNat : Int), .int .u8 (m.e.toNat : Int), .int .u8 (m.f.toNat : Int)] rfl)
  go_wp2_with (first | ((with_reducible show wpList _ _ _ (⟨some 23, _, _, _, _, _⟩ :: _) _ _); refine wpList_load_rng 32 (.tmp 6) rfl (by kernel_rfl) _ _ rfl _ R23.out _ Try.underlying32 rfl (by kernel_rfl) ?_; have R24 := Lib.hid (range_lit haB 0 4 [.int .u8 (a.a.toNat : Int), .int .u8 (a.b.toNat : Int), .int .u8 (a.c.toNat : Int), .int .u8 (a.d.toNat : Int)] rfl)) | ((with_reducible show wpList _ _ _ (⟨some 24, _, _, _, _, _⟩ :: _) _ _); refine wpList_load_rng 28 (.tmp 7) rfl (by kernel_rfl) _ _ rfl _ R24.out _ Try.underlying28 rfl (by kernel_rfl) ?_))
  try clear R23
  try clear R24
  with_reducible refine (may_any m a _ htb own H32.out hM HOK2.out.srt HR.out).mono ?_
  rintro e w4 ⟨rfl, b4⟩
  replace htb := blk_u htb b4
  replace hmB := blk_u hmB b4
  replace haB := blk_u haB b4
  replace en := en.below b4
  replace own := owk_under own b4
  replace kt := kt.trans (kt_below b4)
  replace hM := hM.below b4
  replace bel := bel.trans (b4.mono (Nat.le_trans hlo bel.size))
  clear b4
  have R30 := Lib.hid (range_lit hmB 0 6 [.int .u8 (m.a.toNat : Int), .int .u8 (m.b.toNat : Int), .int .u8 (m.c.toNat : Int), .int .u8 (m.d.toNat : Int), .int .u8 (m.e.toNat : Int), .int .u8 (m.f.toNat : Int)] rfl)
  go_wp2_with (first | ((with_reducible show wpList _ _ _ (⟨some 30, _, _, _, _, _⟩ :: _) _ _); refine wpList_load_rng 32 (.tmp 6) rfl (by kernel_rfl) _ _ rfl _ R30.out _ Try.underlying32 rfl (by kernel_rfl) ?_))
  try clear R30
  with_reducible refine (lof_at m _ htb own H32.out HF.out).mono ?_
  rintro e w5 ⟨rfl, b5⟩
  replace htb := blk_u htb b5
  replace hmB := blk_u hmB b5
  replace haB := blk_u haB b5
  replace en := en.below b5
  replace own := owk_under own b5
  replace kt := kt.trans (kt_below b5)
  replace hM := hM.below b5
  replace bel := bel.trans (b5.mono (Nat.le_trans hlo bel.size))
  clear b5
  go_wp2_with (first | ((with_reducible show wpList _ _ _ (⟨none, Op.store _ (.tmp 37) _, _, _, _, _⟩ :: _) _ _); refine wpList_store_el rfl 2 (.tmp 37) (.const (.int .i64 0)) rfl gE i 10 x (⟨x.m, x.ad, 0, x.fx, x.le, x.rp, x.br⟩) rfl [.int .i64 0] rfl (by decide) slE_len own HX.out (Nat.le_of_ble_eq_true rfl) rfl (by kernel_rfl) (by rfl) ?_; intro w6 own_ gw; replace bel := bel.trans (row_bel gw own (Nat.le_trans hlo bel.size)); replace htb := blk_own (v := .slice (some ⟨gE, 0, none⟩) n c) htb gw off_tb; replace hmB := blk_own (v := .slice (some ⟨gE, 0, none⟩) n c) hmB gw off_mB; replace haB := blk_own (v := .slice (some ⟨gE, 0, none⟩) n c) haB gw off_aB; replace kt := kt.trans (kt_row gw own (by simp)); replace hM := hM.row gw own; clear own; have own := own_; clear own_ gw; replace en := (owk_sle (by decide) slE_len own).1; have R40 := Lib.hid (range_lit haB 0 4 [.int .u8 (a.a.toNat : Int), .int .u8 (a.b.toNat : Int), .int .u8 (a.c.toNat : Int), .int .u8 (a.d.toNat : Int)] rfl)) | ((with_reducible show wpList _ _ _ (⟨some 40, _, _, _, _, _⟩ :: _) _ _); refine wpList_load_rng 28 (.tmp 7) rfl (by kernel_rfl) _ _ rfl _ R40.out _ Try.underlying28 rfl (by kernel_rfl) ?_))
  try clear R40
  with_reducible refine (pfind_is a _ htb (owk_sle (by decide) slE_len own).1 HS1.out H32.out HP1.out HF1.out).mono ?_
  rintro e w7 ⟨rfl, b7⟩
  replace htb := blk_u htb b7
  replace hmB := blk_u hmB b7
  replace haB := blk_u haB b7
  replace en := en.below b7
  replace own := owk_under own b7
  replace kt := kt.trans (kt_below b7)
  replace hM := hM.below b7
  replace bel := bel.trans (b7.mono (Nat.le_trans hlo bel.size))
  clear b7
  have R47 := cell_lit htb 2 _ rfl
  go_wp2_with fail
  clear R47
  replace bel := bel.drew
  replace htb : w7.drew.heap[gt]? = _ := htb
  replace hmB : w7.drew.heap[g6]? = _ := hmB
  replace haB : w7.drew.heap[g7]? = _ := haB
  replace en := en.drew
  replace own := World.ownsRow.drew own
  replace kt := kt_drew kt
  replace hM := hm_drew hM
  refine wp_region_held_drew (S := fun W => W.heap[g6]? = some (.cells #[.int .u8 (m.a.toNat : Int), .int .u8 (m.b.toNat : Int), .int .u8 (m.c.toNat : Int), .int .u8 (m.d.toNat : Int), .int .u8 (m.e.toNat : Int), .int .u8 (m.f.toNat : Int)] 32 (0, 0)) ∧ W.heap[g7]? = some (.cells #[.int .u8 (a.a.toNat : Int), .int .u8 (a.b.toNat : Int), .int .u8 (a.c.toNat : Int), .int .u8 (a.d.toNat : Int)] 28 (0, 0)) ∧ W.heap[gt]? = some (.cells #[.int .i64 nw, .map (some mb), .slice (some ⟨gE, 0, none⟩) n c] 84 (0, 0))) (by kernel_rfl) ⟨hmB, haB, htb⟩ (fun hH => ?_)
  generalize w7.drew = w8 at bel htb hmB haB en own kt hM hH ⊢
  refine wpAnyH_take (i := 0) (v := ?_) rfl (by kernel_rfl) (by kernel_rfl) (by kernel_rfl) (fun _ _ _ h => h) (Or.inl ⟨by rfl, ?_⟩) hH ?_
  rotate_left
  · ((intro W hW; clear hW; go_simp) <;> with_reducible rfl)
  simp only [Act.put, List.getElem_toArray, List.getElem_cons_zero, List.setIfInBounds_toArray, List.set_cons_zero, List.set_cons_succ]
  refine wpAnyH_take (i := 1) (v := .agg #[.int .u8 (m.a.toNat : Int), .int .u8 (m.b.toNat : Int), .int .u8 (m.c.toNat : Int), .int .u8 (m.d.toNat : Int), .int .u8 (m.e.toNat : Int), .int .u8 (m.f.toNat : Int)]) rfl (by kernel_rfl) (by kernel_rfl) (by kernel_rfl) (fun _ _ _ h => h) (yieldsIf_load_part (by kernel_rfl) 32 _ rfl g6 0 6 rfl _ 32 (0, 0) (fun W hW => hW.1) _ rfl _ Try.underlying32 rfl (by kernel_rfl)) hH ?_
  simp only [Act.put, List.getElem_toArray, List.getElem_cons_zero, List.getElem_cons_succ, List.setIfInBounds_toArray, List.set_cons_zero, List.set_cons_succ]
  refine wpAnyH_take (i := 2) (v := .agg #[.int .u8 (a.a.toNat : Int), .int .u8 (a.b.toNat : Int), .int .u8 (a.c.toNat : Int), .int .u8 (a.d.toNat : Int)]) rfl (by kernel_rfl) (by kernel_rfl) (by kernel_rfl) (fun _ _ _ h => h) (yieldsIf_load_part (by kernel_rfl) 28 _ rfl g7 0 4 rfl _ 28 (0, 0) (fun W hW => hW.2.1) _ rfl _ Try.underlying28 rfl (by kernel_rfl)) hH ?_
  simp only [Act.put, List.getElem_toArray, List.getElem_cons_zero, List.getElem_cons_succ, List.setIfInBounds_toArray, List.set_cons_zero, List.set_cons_succ]
  refine wpAnyH_take (i := 3) (v := ?_) rfl (by kernel_rfl) (by kernel_rfl) (by kernel_rfl) (fun _ _ _ h => h) (Or.inl ⟨by rfl, ?_⟩) hH ?_
  rotate_left
  · ((intro W hW; clear hW; go_simp) <;> with_reducible rfl)
  simp only [Act.put, List.getElem_toArray, List.getElem_cons_zero, List.getElem_cons_succ, List.setIfInBounds_toArray, List.set_cons_zero, List.set_cons_succ]
  refine wpAnyH_take (i := 4) (v := ?_) rfl (by kernel_rfl) (by kernel_rfl) (by kernel_rfl) (fun _ _ _ h => h) (Or.inl ⟨by rfl, ?_⟩) hH ?_
  rotate_left
  · ((intro W hW; clear hW; go_simp) <;> with_reducible rfl)
  simp only [Act.put, List.getElem_toArray, List.getElem_cons_zero, List.getElem_cons_succ, List.setIfInBounds_toArray, List.set_cons_zero, List.set_cons_succ]
  refine wpAnyH_take (i := 5) (v := ?_) rfl (by kernel_rfl) (by kernel_rfl) (by kernel_rfl) (fun _ _ _ h => h) (Or.inl ⟨by rfl, ?_⟩) hH ?_
  rotate_left
  · ((intro W hW; clear hW; go_simp) <;> with_reducible rfl)
  simp only [Act.put, List.getElem_toArray, List.getElem_cons_zero, List.getElem_cons_succ, List.setIfInBounds_toArray, List.set_cons_zero, List.set_cons_succ]
  refine wpAnyH_take (i := 6) (v := ?_) rfl (by kernel_rfl) (by kernel_rfl) (by kernel_rfl) (fun _ _ _ h => h) (Or.inl ⟨by rfl, ?_⟩) hH ?_
  rotate_left
  · ((intro W hW; have hk := cell_lit (hW.2.2) 0 _ rfl; clear hW; go_simp) <;> with_reducible rfl)
  simp only [Act.put, List.getElem_toArray, List.getElem_cons_zero, List.getElem_cons_succ, List.setIfInBounds_toArray, List.set_cons_zero, List.set_cons_succ]
  refine wpAnyH_take (i := 7) (v := ?_) rfl (by kernel_rfl) (by kernel_rfl) (by kernel_rfl) (fun _ _ _ h => h) (Or.inl ⟨by rfl, ?_⟩) hH ?_
  rotate_left
  · ((intro W hW; clear hW; go_simp) <;> with_reducible rfl)
  simp only [Act.put, List.getElem_toArray, List.getElem_cons_zero, List.getElem_cons_succ, List.setIfInBounds_toArray, List.set_cons_zero, List.set_cons_succ]
  refine wpAnyH_take (i := 8) (v := ?_) rfl (by kernel_rfl) (by kernel_rfl) (by kernel_rfl) (fun _ _ _ h => h) (Or.inl ⟨by rfl, ?_⟩) hH ?_
  rotate_left
  · ((intro W hW; clear hW; go_simp) <;> with_reducible rfl)
  simp only [Act.put, List.getElem_toArray, List.getElem_cons_zero, List.getElem_cons_succ, List.setIfInBounds_toArray, List.set_cons_zero, List.set_cons_succ]
  refine wpAnyH_take (i := 9) (v := ?_) rfl (by kernel_rfl) (by kernel_rfl) (by kernel_rfl) (fun _ _ _ h => h) (Or.inl ⟨by rfl, ?_⟩) hH ?_
  rotate_left
  · ((intro W hW; clear hW; go_simp) <;> with_reducible rfl)
  simp only [Act.put, List.getElem_toArray, List.getElem_cons_zero, List.getElem_cons_succ, List.setIfInBounds_toArray, List.set_cons_zero, List.set_cons_succ]
  refine wpAnyH_take (i := 10) (v := ?_) rfl (by kernel_rfl) (by kernel_rfl) (by kernel_rfl) (fun _ _ _ h => h) (Or.inl ⟨by rfl, ?_⟩) hH ?_
  rotate_left
  · ((intro W hW; clear hW; go_simp) <;> with_reducible rfl)
  simp only [Act.put, List.getElem_toArray, List.getElem_cons_zero, List.getElem_cons_succ, List.setIfInBounds_toArray, List.set_cons_zero, List.set_cons_succ]
  refine wpAnyH_take (i := 11) (v := ?_) rfl (by kernel_rfl) (by kernel_rfl) (by kernel_rfl) (fun _ _ _ h => h) (Or.inl ⟨by rfl, ?_⟩) hH ?_
  rotate_left
  · ((intro W hW; clear hW; go_simp) <;> with_reducible rfl)
  simp only [Act.put, List.getElem_toArray, List.getElem_cons_zero, List.getElem_cons_succ, List.setIfInBounds_toArray, List.set_cons_zero, List.set_cons_succ]
  refine wpAnyH_ready (rs := [12]) (by kernel_rfl) (by simp) ?_
  refine AllReadyH.cons (o := _) rfl (fun K hK => ?_) AllReadyH.nil
  simp only [List.getElem_toArray, List.getElem_cons_zero, List.getElem_cons_succ]
  rw [if_pos (by rfl)]
  refine wp_store_el 56 (.tmp 61) (.tmp 59) rfl gE p 0 y (⟨m, a, (nw + secs), y.fx, y.le, y.rp, y.br⟩) rfl [.int .u8 (m.a.toNat : Int), .int .u8 (m.b.toNat : Int), .int .u8 (m.c.toNat : Int), .int .u8 (m.d.toNat : Int), .int .u8 (m.e.toNat : Int), .int .u8 (m.f.toNat : Int), .int .u8 (a.a.toNat : Int), .int .u8 (a.b.toNat : Int), .int .u8 (a.c.toNat : Int), .int .u8 (a.d.toNat : Int), .int .i64 (nw + secs)] rfl (by decide) slE_len own HY.out (Nat.le_of_ble_eq_true rfl) rfl (by kernel_rfl) (by rfl) ?_
  intro w9 own_ gw
  replace bel := bel.trans (row_bel gw own (Nat.le_trans hlo bel.size))
  replace htb := blk_own (v := .slice (some ⟨gE, 0, none⟩) n c) htb gw off_tb
  replace hmB := blk_own (v := .slice (some ⟨gE, 0, none⟩) n c) hmB gw off_mB
  replace haB := blk_own (v := .slice (some ⟨gE, 0, none⟩) n c) haB gw off_aB
  replace kt := kt.trans (kt_row gw own (by simp))
  replace hM := hM.row gw own
  clear own
  have own := own_
  clear own_ gw
  replace en := (owk_sle (by decide) slE_len own).1
  have HY1 : Hid (((l.set i ⟨x.m, x.ad, 0, x.fx, x.le, x.rp, x.br⟩).set p ⟨m, a, (nw + secs), y.fx, y.le, y.rp, y.br⟩)[p]? = some ⟨m, a, (nw + secs), y.fx, y.le, y.rp, y.br⟩) := Lib.hid (List.getElem?_set_self (List.getElem?_eq_some_iff.1 HY.out).1)
  refine hK.out _ _ ⟨hmB, haB, htb⟩ (fun hH10 => ?_)
  clear hK K
  simp only [Act.put]
  refine wpAnyH_done (by kernel_rfl) ?_ _
  go_wp2_with (first | ((with_reducible show wpList _ _ _ (⟨none, Op.store _ (.tmp 64) _, _, _, _, _⟩ :: _) _ _); refine wpList_store_el rfl 4 (.tmp 64) (.const (.bool true)) rfl gE p 12 (⟨m, a, (nw + secs), y.fx, y.le, y.rp, y.br⟩) (⟨m, a, (nw + secs), y.fx, true, y.rp, y.br⟩) rfl [.bool true] rfl (by decide) slE_len own HY1.out (Nat.le_of_ble_eq_true rfl) rfl (by kernel_rfl) (by rfl) ?_; intro w11 own_ gw; replace bel := bel.trans (row_bel gw own (Nat.le_trans hlo bel.size)); replace htb := blk_own (v := .slice (some ⟨gE, 0, none⟩) n c) htb gw off_tb; replace hmB := blk_own (v := .slice (some ⟨gE, 0, none⟩) n c) hmB gw off_mB; replace haB := blk_own (v := .slice (some ⟨gE, 0, none⟩) n c) haB gw off_aB; replace kt := kt.trans (kt_row gw own (by simp)); replace hM := hM.row gw own; clear own; have own := own_; clear own_ gw; replace en := (owk_sle (by decide) slE_len own).1; have HY2 : Hid ((((l.set i ⟨x.m, x.ad, 0, x.fx, x.le, x.rp, x.br⟩).set p ⟨m, a, (nw + secs), y.fx, y.le, y.rp, y.br⟩).set p ⟨m, a, (nw + secs), y.fx, true, y.rp, y.br⟩)[p]? = some ⟨m, a, (nw + secs), y.fx, true, y.rp, y.br⟩) := Lib.hid (List.getElem?_set_self (List.getElem?_eq_some_iff.1 HY1.out).1)) | ((with_reducible show wpList _ _ _ (⟨none, Op.store _ (.tmp 67) _, _, _, _, _⟩ :: _) _ _); refine wpList_store_el rfl 4 (.tmp 67) (.const (.bool false)) rfl gE p 13 (⟨m, a, (nw + secs), y.fx, true, y.rp, y.br⟩) (⟨m, a, (nw + secs), y.fx, true, false, y.br⟩) rfl [.bool false] rfl (by decide) slE_len own HY2.out (Nat.le_of_ble_eq_true rfl) rfl (by kernel_rfl) (by rfl) ?_; intro w12 own_ gw; replace bel := bel.trans (row_bel gw own (Nat.le_trans hlo bel.size)); replace htb := blk_own (v := .slice (some ⟨gE, 0, none⟩) n c) htb gw off_tb; replace hmB := blk_own (v := .slice (some ⟨gE, 0, none⟩) n c) hmB gw off_mB; replace haB := blk_own (v := .slice (some ⟨gE, 0, none⟩) n c) haB gw off_aB; replace kt := kt.trans (kt_row gw own (by simp)); replace hM := hM.row gw own; clear own; have own := own_; clear own_ gw; replace en := (owk_sle (by decide) slE_len own).1))
  go_ret
  exact ⟨rfl, (by rw [HNW.out]; exact ⟨(some ⟨gE, 0, none⟩), n, c, mb, htb, otb, hM, (by have h_ := own; rw [List.set_set, List.set_set] at h_; exact h_), HOK3.out⟩), kt, bel⟩
theorem ptake_any {lo gt : Nat} {s s' : St} (m : Mc6) (a : Ad4) (t secs : Int) (w : World) (hT : Pl lo gt w s) {r : Int} (hr : takeS s m a t secs = (r, s')) : Calls Try.prog 46 #[.pointer (some ⟨gt, 0, none⟩), .agg #[.int .u8 (m.a.toNat : Int), .int .u8 (m.b.toNat : Int), .int .u8 (m.c.toNat : Int), .int .u8 (m.d.toNat : Int), .int .u8 (m.e.toNat : Int), .int .u8 (m.f.toNat : Int)], .agg #[.int .u8 (a.a.toNat : Int), .int .u8 (a.b.toNat : Int), .int .u8 (a.c.toNat : Int), .int .u8 (a.d.toNat : Int)], .int .i64 t, .int .i64 secs] w fun e w' => e = .returned (.int .i64 r) ∧ Pl lo gt w' s' ∧ Kt [84, 101] w w' ∧ Below lo w w' := by
  have hok := takeS_ok hT.ok m a t secs
  rw [hr] at hok
  obtain ⟨now, hs, l⟩ := s
  have hok1 := hT.ok
  unfold takeS at hr
  cases hpm : permB secs with
  | false =>
    simp only [hpm, Bool.false_eq_true, if_false] at hr
    injection hr with h1 h2
    subst h1; subst h2
    exact ptake_arg m a t secs w hT hpm
  | true =>
    simp only [hpm, if_true] at hr
    obtain ⟨q, hq⟩ : ∃ q, mayE ⟨padv now t, hs, l⟩ m a = q := ⟨_, rfl⟩
    have hq' : mayE (St.adv ⟨now, hs, l⟩ t) m a = q := hq
    simp only [hq'] at hr
    by_cases h0 : q = 0
    · subst h0
      simp only [beq_self_eq_true, if_true] at hr
      injection hr with h1 h2
      subst h1; subst h2
      have hs_ : sfhas l a.num = true := mayE_has (hok1.adv t) hq
      obtain ⟨x0, hx0, _⟩ := sfhas_at hs_
      have hn : (St.adv ⟨now, hs, l⟩ t).now = padv now t := rfl
      have hl : (St.l ⟨now, hs, l⟩) = l := rfl
      cases hf : hldF m (padv now t) l with
      | none =>
        have he : slPut (endL m (St.adv ⟨now, hs, l⟩ t).now (St.l ⟨now, hs, l⟩)) m a ((St.adv ⟨now, hs, l⟩ t).now + secs) = l.set (sfpos l a.num) ⟨m, a, padv now t + secs, x0.fx, true, false, x0.br⟩ := by
          simp only [hn, endL, hf, slPut]
          rw [modify_at hx0]
        rw [he] at hok ⊢
        exact ptake_new m a t secs w hT hpm hq hf rfl hs_ hx0 hok
      | some i =>
        obtain ⟨x, hx, _⟩ := hldF_at hf
        have hmp : (l.set i ⟨x.m, x.ad, 0, x.fx, x.le, x.rp, x.br⟩).map Sd.num = l.map Sd.num := map_set hx rfl
        obtain ⟨y, hy⟩ : ∃ y, (l.set i ⟨x.m, x.ad, 0, x.fx, x.le, x.rp, x.br⟩)[sfpos l a.num]? = some y := ⟨_, List.getElem?_eq_getElem (by rw [List.length_set]; exact (List.getElem?_eq_some_iff.1 hx0).1)⟩
        have he : slPut (endL m (St.adv ⟨now, hs, l⟩ t).now (St.l ⟨now, hs, l⟩)) m a ((St.adv ⟨now, hs, l⟩ t).now + secs) = (l.set i ⟨x.m, x.ad, 0, x.fx, x.le, x.rp, x.br⟩).set (sfpos l a.num) ⟨m, a, padv now t + secs, y.fx, true, false, y.br⟩ := by
          simp only [hn, endL, hf, slPut]
          rw [modify_at hx, sfpos_map hmp, modify_at hy]
        rw [he] at hok ⊢
        exact ptake_move m a t secs w hT hpm hq hf hx rfl hs_ hy hok
    · have h0' : (q == 0) = false := beq_eq_false_iff_ne.2 h0
      simp only [h0', Bool.false_eq_true, if_false] at hr
      injection hr with h1 h2
      subst h1; subst h2
      exact ptake_no m a t secs w hT hpm hq h0
open Go.RowKit

theorem Try.info_lease : (Try.prog.info? 56).map (fun i => (i.zero, i.size, i.bytes)) = some (some (.agg #[.int .u8 0, .int .u8 0, .int .u8 0, .int .u8 0, .int .u8 0, .int .u8 0, .int .u8 0, .int .u8 0, .int .u8 0, .int .u8 0, .int .i64 0]), 11, 24) := by kernel_rfl
/-- A row that is new is written into: what was there before stays. -/
theorem Kt.newrow {S : List TypeId} {w0 w w' : World} {B k n : Nat} {T : TypeId} {v : Value} {xs : List Value} (h : Kt S w0 w) (g : w.grownBy w' v.ownBlock) (ho : w.ownsRow B T k v n xs) (hB : w0.heap.size ≤ B) (hs : w0.heap.size ≤ w.heap.size) : Kt S w0 w' := fun i c T' fz hx hT =>
  (g.block i (Nat.lt_of_lt_of_le (hlt hx) hs) (fun e => by have h1 := (ho.lt i e.symm).1; have h2 := hlt hx; omega)).trans (h i c T' fz hx hT)
def tkE (now : Int) (e : Sd) : Sd := if e.overB now = true then { e with rp := true } else e
theorem pfil_skip {l : List Sd} {k : Nat} {e : Sd} {p : Sd → Bool} (he : l[k]? = some e) (hp : p e = false) : ((l.take (k + 1)).filter p).map (·.lease) = ((l.take k).filter p).map (·.lease) := by
  rw [List.take_add_one, he, List.filter_append]
  simp [hp]
theorem pfil_keep {l : List Sd} {k : Nat} {e : Sd} {p : Sd → Bool} (he : l[k]? = some e) (hp : p e = true) : ((l.take (k + 1)).filter p).map (·.lease) = ((l.take k).filter p).map (·.lease) ++ [e.lease] := by
  rw [List.take_add_one, he, List.filter_append]
  simp [hp]
set_option linter.unusedVariables false in
set_option linter.unusedSimpArgs false in
set_option maxRecDepth 100000 in
set_option maxHeartbeats 16000000 in
theorem pall_any {lo gt : Nat} {s : St} (t : Int) (w : World) (hT : Pl lo gt w s) : Calls Try.prog 27 #[.pointer (some ⟨gt, 0, none⟩), .int .i64 t] w fun e w' => ∃ A2 n2 c2, e = .returned (.slice A2 n2 c2) ∧ w'.ownsRow w.heap.size 56 11 (.slice A2 n2 c2) n2 ((allO (s.adv t).now s.l).flatMap leE) ∧ Pl lo gt w' (s.adv t) ∧ Kt [84, 101] w w' ∧ Below lo w w' := by
  obtain ⟨now, hs, l⟩ := s
  show Calls Try.prog 27 #[.pointer (some ⟨gt, 0, none⟩), .int .i64 t] w fun e w' => ∃ A2 n2 c2, e = .returned (.slice A2 n2 c2) ∧ w'.ownsRow w.heap.size 56 11 (.slice A2 n2 c2) n2 ((allO (padv now t) l).flatMap leE) ∧ Pl lo gt w' ⟨padv now t, hs, l⟩ ∧ Kt [84, 101] w w' ∧ Below lo w w'
  obtain ⟨A, n, c, mb, htb, otb, hM, own, hok⟩ := hT
  dsimp only at htb hM own
  have hlo : lo ≤ w.heap.size := Nat.le_trans otb (Nat.le_of_lt (hlt htb))
  have off_tb := ofs_type own htb (by decide)
  have hl := row_len (by decide) slE_len own
  have HLL := Lib.hid hl
  have HLO := Lib.hid hlo
  have HOK := Lib.hid hok
  have H32 : Hid (n ≤ 1000) := Lib.hid (by have := hok.len; simp only at this; omega)
  have kt := Kt.refl [84, 101] w
  clear hl hok
  obtain ⟨nw, hnw⟩ : ∃ x, padv now t = x := ⟨_, rfl⟩
  have HNW := Lib.hid hnw
  have HOK2 : Hid (St.ok ⟨nw, hs, l⟩) := Lib.hid (by rw [← hnw]; exact HOK.out.adv t)
  have n0_ : 0 ≤ nw := HOK2.out.n0
  have n1_ : nw ≤ 1099511627776 := HOK2.out.n1
  have N0_ := Lib.hid n0_
  have N1_ := Lib.hid n1_
  clear hnw n0_ n1_
  obtain ⟨il, hil, hil0, hil1, hil2⟩ := info_parts Try.info_lease
  have bel := Below.refl lo w
  go_enter Try.func27, Try.ntmps27
  go_wp2_with fail
  with_reducible refine (padv_any _ _ htb).mono ?_
  rintro e w1 ⟨rfl, htb_, b1⟩
  replace own := owk_off own off_tb b1
  replace kt := kt.trans (kt_grown b1 htb (by simp))
  replace hM := hM.grown b1 htb
  replace bel := below_grown bel b1 otb (Nat.le_trans hlo bel.size)
  clear b1
  clear htb
  rw [HNW.out] at htb_
  have htb := htb_
  clear htb_
  have ask : w1.ownsRow w.heap.size 56 11 (.slice none 0 0) 0 (([] : List Le).flatMap leE) := World.ownsRow_nil _ _ _ _
  have R14 := cell_lit htb 2 _ rfl
  go_wp2_with fail
  clear R14
  go_loopg [16, 5] (n) (fun gk s16 s5 wr => ∃ k : Nat, ∃ Aa : Option Addr, ∃ na : Nat, ∃ ca : Nat, ∃ la : List Le, gk = n - k ∧ k ≤ n ∧ Hid (la = ((l.take k).filter (fun e => e.liveB nw)).map (·.lease)) ∧ na ≤ k ∧ wr.ownsRow lo 101 15 (.slice A n c) n (l.flatMap slE) ∧ Kt [84, 101] w wr ∧ Hm lo mb wr hs ∧ wr.ownsRow w.heap.size 56 11 (.slice Aa na ca) na (la.flatMap leE) ∧ s16 = .int .i64 (k : Int) ∧ s5 = .slice Aa na ca ∧ wr.heap[gt]? = some (.cells #[.int .i64 nw, .map (some mb), .slice A n c] 84 (0, 0)) ∧ Below lo w wr)
  case atStart => exact ⟨0, none, 0, 0, [], Nat.sub_zero _, Nat.zero_le _, Lib.hid rfl, Nat.le_refl _, own, kt, hM, ask, rfl, rfl, htb, bel⟩
  case round =>
    clear own kt hM ask htb bel
    obtain ⟨k, Aa, na, ca, la, HGK, hkn, HLA, hnk, own, kt, hM, ask, rfl, rfl, htb, bel⟩ := hrel
    have HGK_ := Lib.hid HGK
    clear HGK
    by_cases h : k < n
    rotate_left
    · obtain rfl : k = n := by omega
      replace h : decide (k < k) = false := decide_eq_false (by omega)
      go_wp2_with fail
      go_ret
      exact ⟨Aa, na, ca, rfl, (by have h_ := ask; rw [HLA.out, List.take_of_length_le (Nat.le_of_eq HLL.out), ← HNW.out] at h_; exact h_), (by rw [HNW.out]; exact ⟨A, k, c, mb, htb, otb, hM, own, HOK2.out⟩), kt, bel⟩
    obtain ⟨x, hx⟩ : ∃ x, l[k]? = some x := ⟨_, List.getElem?_eq_getElem (by have := HLL.out; omega)⟩
    have HX := Lib.hid hx
    clear hx
    have k0 : (0 : Int) ≤ k := by omega
    have k1 : (k : Int) < n := by omega
    have k2 : (k : Int) ≤ 1000 := by have := H32.out; omega
    obtain ⟨gE, rfl, _⟩ := row_at own (by omega)
    have en := (owk_sle (by decide) slE_len own).1
    have av_en_tb := owk_av own off_tb
    obtain ⟨b1, H1_⟩ : ∃ b, x.liveB nw = b := ⟨_, rfl⟩
    have H1 := Lib.hid H1_
    clear H1_
    rcases b1 with _ | _
    · have R19 := Lib.hid (Sle.zrange0 en HX.out 15 [.int .u8 (x.m.a.toNat : Int), .int .u8 (x.m.b.toNat : Int), .int .u8 (x.m.c.toNat : Int), .int .u8 (x.m.d.toNat : Int), .int .u8 (x.m.e.toNat : Int), .int .u8 (x.m.f.toNat : Int), .int .u8 (x.ad.a.toNat : Int), .int .u8 (x.ad.b.toNat : Int), .int .u8 (x.ad.c.toNat : Int), .int .u8 (x.ad.d.toNat : Int), .int .i64 x.u, .bool x.fx, .bool x.le, .bool x.rp, .int .i64 x.br] rfl)
      go_wp2_with (first | ((with_reducible show wpList _ _ _ (⟨some 19, _, _, _, _, _⟩ :: _) _ _); refine wpList_load_rng 101 (.tmp 18) rfl (by kernel_rfl) _ _ rfl _ R19.out _ Try.underlying101 rfl (by kernel_rfl) ?_) | ((with_reducible show wpList _ _ _ (⟨some 7, _, _, _, _, _⟩ :: _) _ _); refine wpList_new_a rfl 101 rfl #[.int .u8 0, .int .u8 0, .int .u8 0, .int .u8 0, .int .u8 0, .int .u8 0, .int .u8 0, .int .u8 0, .int .u8 0, .int .u8 0, .int .i64 0, .bool false, .bool false, .bool false, .int .i64 0] (by kernel_rfl) ?_; intro g7 w2 ge hh bb; have d_tb_sB := ne_new (hlt htb) ge; have av_en_sB := en.av_new ge; have osB := Nat.le_trans (Nat.le_trans hlo bel.size) ge; have off_sB := owk_new own ge; have pn_sB := Nat.le_trans bel.size ge; replace htb := blk_u htb bb; replace en := en.below bb; replace own := owk_under own bb; replace kt := kt.trans (kt_below bb); replace hM := hM.below bb; replace ask := owk_under ask bb; replace bel := bel.trans (bb.mono (Nat.le_trans hlo bel.size)); have hsB := hh; clear hh ge bb) | ((with_reducible show wpList _ _ _ (⟨none, Op.store _ (.tmp 7) _, _, _, _, _⟩ :: _) _ _); refine wpList_store_blk rfl 101 (.tmp 7) (.tmp 19) rfl g7 rfl _ rfl _ 101 hsB (by rfl) (by kernel_rfl) (by kernel_rfl) ?_; intro w3 hq gr; replace en := en.away av_en_sB gr; replace htb := blk_a htb gr d_tb_sB; replace own := owk_off own off_sB gr; replace kt := kt.newer gr pn_sB bel.size; replace hM := hM.grown gr hsB; replace ask := owk_off ask (ofs_type ask hsB (by decide)) gr; replace bel := below_grown bel gr osB (Nat.le_trans hlo bel.size); clear hsB; have hsB := hq; clear hq gr; have R23 := cell_lit htb 0 _ rfl))
      try clear R19
      try clear R23
      with_reducible refine (live_box (x := x) _ hsB H1.out).mono ?_
      rintro e _ ⟨rfl, rfl⟩
      go_wp2_with fail
      go_roundg (n - (k + 1))
      case measure => have := HGK_.out; omega
      case rel => exact ⟨k + 1, Aa, na, ca, la, rfl, by omega, Lib.hid (by rw [pfil_skip HX.out H1.out]; exact HLA.out), by omega, own, kt, hM, ask, by go_num, by go_num, htb, bel⟩
    have HB1 : Hid (na + 1 ≤ maxLen) := Lib.hid (by have := H32.out; unfold maxLen; omega)
    have HB2 : Hid ((na + 1) * 24 ≤ 140737488355328) := Lib.hid (by have := H32.out; omega)
    have R19 := Lib.hid (Sle.zrange0 en HX.out 15 [.int .u8 (x.m.a.toNat : Int), .int .u8 (x.m.b.toNat : Int), .int .u8 (x.m.c.toNat : Int), .int .u8 (x.m.d.toNat : Int), .int .u8 (x.m.e.toNat : Int), .int .u8 (x.m.f.toNat : Int), .int .u8 (x.ad.a.toNat : Int), .int .u8 (x.ad.b.toNat : Int), .int .u8 (x.ad.c.toNat : Int), .int .u8 (x.ad.d.toNat : Int), .int .i64 x.u, .bool x.fx, .bool x.le, .bool x.rp, .int .i64 x.br] rfl)
    go_wp2_with (first | ((with_reducible show wpList _ _ _ (⟨some 19, _, _, _, _, _⟩ :: _) _ _); refine wpList_load_rng 101 (.tmp 18) rfl (by kernel_rfl) _ _ rfl _ R19.out _ Try.underlying101 rfl (by kernel_rfl) ?_) | ((with_reducible show wpList _ _ _ (⟨some 7, _, _, _, _, _⟩ :: _) _ _); refine wpList_new_a rfl 101 rfl #[.int .u8 0, .int .u8 0, .int .u8 0, .int .u8 0, .int .u8 0, .int .u8 0, .int .u8 0, .int .u8 0, .int .u8 0, .int .u8 0, .int .i64 0, .bool false, .bool false, .bool false, .int .i64 0] (by kernel_rfl) ?_; intro g7 w2 ge hh bb; have d_tb_sB := ne_new (hlt htb) ge; have av_en_sB := en.av_new ge; have osB := Nat.le_trans (Nat.le_trans hlo bel.size) ge; have off_sB := owk_new own ge; have pn_sB := Nat.le_trans bel.size ge; replace htb := blk_u htb bb; replace en := en.below bb; replace own := owk_under own bb; replace kt := kt.trans (kt_below bb); replace hM := hM.below bb; replace ask := owk_under ask bb; replace bel := bel.trans (bb.mono (Nat.le_trans hlo bel.size)); have hsB := hh; clear hh ge bb) | ((with_reducible show wpList _ _ _ (⟨none, Op.store _ (.tmp 7) _, _, _, _, _⟩ :: _) _ _); refine wpList_store_blk rfl 101 (.tmp 7) (.tmp 19) rfl g7 rfl _ rfl _ 101 hsB (by rfl) (by kernel_rfl) (by kernel_rfl) ?_; intro w3 hq gr; replace en := en.away av_en_sB gr; replace htb := blk_a htb gr d_tb_sB; replace own := owk_off own off_sB gr; replace kt := kt.newer gr pn_sB bel.size; replace hM := hM.grown gr hsB; replace ask := owk_off ask (ofs_type ask hsB (by decide)) gr; replace bel := below_grown bel gr osB (Nat.le_trans hlo bel.size); clear hsB; have hsB := hq; clear hq gr; have R23 := cell_lit htb 0 _ rfl))
    try clear R19
    try clear R23
    with_reducible refine (live_box (x := x) _ hsB H1.out).mono ?_
    rintro e _ ⟨rfl, rfl⟩
    have R27 := Lib.hid (range_lit hsB 0 11 [.int .u8 (x.m.a.toNat : Int), .int .u8 (x.m.b.toNat : Int), .int .u8 (x.m.c.toNat : Int), .int .u8 (x.m.d.toNat : Int), .int .u8 (x.m.e.toNat : Int), .int .u8 (x.m.f.toNat : Int), .int .u8 (x.ad.a.toNat : Int), .int .u8 (x.ad.b.toNat : Int), .int .u8 (x.ad.c.toNat : Int), .int .u8 (x.ad.d.toNat : Int), .int .i64 x.u] rfl)
    go_wp2_with (first | ((with_reducible show wpList _ _ _ (⟨some 27, _, _, _, _, _⟩ :: _) _ _); refine wpList_load_rng 56 (.tmp 26) rfl (by kernel_rfl) _ _ rfl _ R27.out _ Try.underlying56 rfl (by kernel_rfl) ?_) | ((with_reducible show wpList _ _ _ (⟨some 28, _, _, _, _, _⟩ :: _) _ _); refine wpList_lit_n rfl 52 56 1 _ rfl #[.int .u8 (x.m.a.toNat : Int), .int .u8 (x.m.b.toNat : Int), .int .u8 (x.m.c.toNat : Int), .int .u8 (x.m.d.toNat : Int), .int .u8 (x.m.e.toNat : Int), .int .u8 (x.m.f.toNat : Int), .int .u8 (x.ad.a.toNat : Int), .int .u8 (x.ad.b.toNat : Int), .int .u8 (x.ad.c.toNat : Int), .int .u8 (x.ad.d.toNat : Int), .int .i64 x.u] (.agg #[.int .u8 0, .int .u8 0, .int .u8 0, .int .u8 0, .int .u8 0, .int .u8 0, .int .u8 0, .int .u8 0, .int .u8 0, .int .u8 0, .int .i64 0]) Try.underlying52 (by kernel_rfl) 11 (by kernel_rfl) (by decide) (by kernel_rfl) ?_; intro g28 w4 ge lt hh bb; have d_tb_b28 := ne_new (hlt htb) ge; have d_sB_b28 := ne_new (hlt hsB) ge; have av_en_b28 := en.av_new ge; have ob28 := Nat.le_trans (Nat.le_trans hlo bel.size) ge; have off_b28 := owk_new own ge; have pn_b28 := Nat.le_trans bel.size ge; replace htb := blk_u htb bb; replace hsB := blk_u hsB bb; replace en := en.below bb; replace own := owk_under own bb; replace kt := kt.trans (kt_below bb); replace hM := hM.below bb; replace ask := owk_under ask bb; replace bel := bel.trans (bb.mono (Nat.le_trans hlo bel.size)); have hb28 := hh; clear hh lt ge bb; have lt : Sle leE 11 w4 (some ⟨g28, 0, none⟩) (1) (1) ([x.lease]) := sle_lit ([x.lease]) (by decide) leE_len hb28 rfl (by simp [maxLen])) | ((with_reducible show wpList _ _ _ (⟨some 29, _, _, _, _, _⟩ :: _) _ _); refine wpList_append_sle rfl (.tmp 25) (.tmp 28) 52 rfl (w.heap.size) 56 il (.agg #[.int .u8 0, .int .u8 0, .int .u8 0, .int .u8 0, .int .u8 0, .int .u8 0, .int .u8 0, .int .u8 0, .int .u8 0, .int .u8 0, .int .i64 0]) 24 Try.underlying52 hil hil0 hil1 hil2 rfl leE_one _ na la rfl ask (some ⟨g28, 0, none⟩) 1 1 [x.lease] rfl lt HB1.out HB2.out bel.size ?_; intro v29 w91 own_ bb gw ofw; have k9 := kt_row (S := [56]) gw ask (by simp); replace own := k9.own own (by decide); replace en := (owk_sle (by decide) slE_len own).1; replace htb := k9.blk htb (by decide); replace hM := hM.row gw ask; replace kt := kt.newrow gw ask (Nat.le_refl _) bel.size; replace bel := bel.trans (bb.mono hlo); clear ask k9 bb gw ofw lt hb28 hsB; obtain ⟨A29, c29, rfl⟩ := owk_val own_; have ask := own_; clear own_))
    try clear R27
    go_roundg (n - (k + 1))
    case measure => have := HGK_.out; omega
    case rel => exact ⟨k + 1, A29, na + 1, c29, la ++ [x.lease], rfl, by omega, Lib.hid (by rw [pfil_keep HX.out H1.out, HLA.out]), by omega, own, kt, hM, ask, by go_num, by go_num, htb, bel⟩
open Go.RowKit

theorem cmpN_gt {x y : Nat} (h : y < x) : cmpN x y = 1 := by
  unfold cmpN
  rw [if_neg (by omega), if_pos h]
set_option linter.unusedVariables false in
set_option linter.unusedSimpArgs false in
set_option maxRecDepth 100000 in
set_option maxHeartbeats 16000000 in
theorem len64_0 (w : World) : Calls Try.prog 91 #[.int .u64 0] w fun e w' => e = .returned (.int .i64 0) ∧ w = w' := by
  skip
  go_enter Try.func91, Try.ntmps91
  go_wp2_with fail
  go_ret
  exact ⟨by kernel_rfl, rfl⟩
set_option linter.unusedVariables false in
set_option linter.unusedSimpArgs false in
set_option maxRecDepth 100000 in
set_option maxHeartbeats 16000000 in
theorem blen_0 (w : World) : Calls Try.prog 74 #[.int .u64 0] w fun e w' => e = .returned (.int .i64 0) ∧ w = w' := by
  skip
  go_enter Try.func74, Try.ntmps74
  go_wp2_with fail
  with_reducible refine (len64_0 _).mono ?_
  rintro e _ ⟨rfl, rfl⟩
  go_wp2_with fail
  go_ret
  exact ⟨rfl, rfl⟩
set_option linter.unusedVariables false in
set_option linter.unusedSimpArgs false in
set_option maxRecDepth 100000 in
set_option maxHeartbeats 16000000 in
theorem len64_1 (w : World) : Calls Try.prog 91 #[.int .u64 1] w fun e w' => e = .returned (.int .i64 1) ∧ w = w' := by
  skip
  go_enter Try.func91, Try.ntmps91
  go_wp2_with fail
  go_ret
  exact ⟨by kernel_rfl, rfl⟩
set_option linter.unusedVariables false in
set_option linter.unusedSimpArgs false in
set_option maxRecDepth 100000 in
set_option maxHeartbeats 16000000 in
theorem blen_1 (w : World) : Calls Try.prog 74 #[.int .u64 1] w fun e w' => e = .returned (.int .i64 1) ∧ w = w' := by
  skip
  go_enter Try.func74, Try.ntmps74
  go_wp2_with fail
  with_reducible refine (len64_1 _).mono ?_
  rintro e _ ⟨rfl, rfl⟩
  go_wp2_with fail
  go_ret
  exact ⟨rfl, rfl⟩
set_option linter.unusedVariables false in
set_option linter.unusedSimpArgs false in
set_option maxRecDepth 100000 in
set_option maxHeartbeats 16000000 in
theorem len64_2 (w : World) : Calls Try.prog 91 #[.int .u64 2] w fun e w' => e = .returned (.int .i64 2) ∧ w = w' := by
  skip
  go_enter Try.func91, Try.ntmps91
  go_wp2_with fail
  go_ret
  exact ⟨by kernel_rfl, rfl⟩
set_option linter.unusedVariables false in
set_option linter.unusedSimpArgs false in
set_option maxRecDepth 100000 in
set_option maxHeartbeats 16000000 in
theorem blen_2 (w : World) : Calls Try.prog 74 #[.int .u64 2] w fun e w' => e = .returned (.int .i64 2) ∧ w = w' := by
  skip
  go_enter Try.func74, Try.ntmps74
  go_wp2_with fail
  with_reducible refine (len64_2 _).mono ?_
  rintro e _ ⟨rfl, rfl⟩
  go_wp2_with fail
  go_ret
  exact ⟨rfl, rfl⟩
set_option linter.unusedVariables false in
set_option linter.unusedSimpArgs false in
set_option maxRecDepth 100000 in
set_option maxHeartbeats 16000000 in
theorem pins_pos {A : Option Addr} {n c : Nat} {l : List Sd} (w : World) (en : Sle slE 15 w A n c l) (hS : SSrt l) (hn1 : 1 ≤ n) (hn : n ≤ 12) : Calls Try.prog 82 #[.slice A n c, .int .i64 0, .int .i64 (n : Int), .func (.func 59) #[] #[]] w fun e w' => e = .returned (.tuple #[]) ∧ Below w.heap.size w w' := by
  have HS := Lib.hid hS
  clear hS
  have HL : Hid (l.length = n) := Lib.hid en.1
  obtain ⟨gE, oE, rfl⟩ := en.place (by omega)
  have hn0 : (n : Int) ≤ 12 := by omega
  have bel := Below.refl w.heap.size w
  go_enter Try.func82, Try.ntmps82
  go_wp2_with fail
  go_loopg [8] (n) (fun gk s8 wr => ∃ k : Nat, gk = n + 1 - k ∧ 1 ≤ k ∧ k ≤ n ∧ s8 = .int .i64 (k : Int) ∧ Sle slE 15 wr (some ⟨gE, oE, none⟩) (n) (c) (l) ∧ Below w.heap.size w wr)
  case atStart => exact ⟨1, (Nat.add_sub_cancel _ _).symm, Nat.le_refl _, hn1, rfl, en, bel⟩
  case round =>
    clear en bel
    obtain ⟨k, HGK, hk1, hkn, rfl, en, bel⟩ := hrel
    have HGK_ := Lib.hid HGK
    clear HGK
    by_cases h : k < n
    rotate_left
    · obtain rfl : k = n := by omega
      replace h : decide (k < k) = false := decide_eq_false (by omega)
      go_wp2_with fail
      exact bodyPost_end (results_none rfl _ _ _) rfl ⟨rfl, bel⟩
    obtain ⟨q, hq⟩ : ∃ q, q + 1 = k := ⟨k - 1, by omega⟩
    have hkk : (k : Int) - 1 = (q : Int) := by omega
    have k0 : (0 : Int) < k := by omega
    have k0n : 0 < k := by omega
    have k00 : (0 : Int) ≤ k := by omega
    have k1 : (k : Int) < n := by omega
    have q0 : (0 : Int) ≤ q := by omega
    have q1 : (q : Int) < n := by omega
    have hwq : IntKind.i64.wrap (q : Int) = (q : Int) := IntWalk.i64_in _ (by omega)
    obtain ⟨x, hx⟩ : ∃ x, l[k]? = some x := ⟨_, List.getElem?_eq_getElem (by have := HL.out; omega)⟩
    obtain ⟨y, hy⟩ : ∃ y, l[q]? = some y := ⟨_, List.getElem?_eq_getElem (by have := HL.out; omega)⟩
    have hlt_ := HS.out.lt (by omega : q < k) hy hx
    have HC : Hid (cmpN x.num y.num = 1) := Lib.hid (cmpN_gt hlt_)
    have HX := Lib.hid hx
    have HY := Lib.hid hy
    have kn2 : (k : Int) ≤ 12 := by omega
    clear hx hy hlt_ hq
    go_wp2_with fail
    refine wp_loop_rounds 1 ?_
    rw [rounds_succ]
    go_wp2_with fail
    replace bel := bel.drew
    replace en := en.drew
    refine wp_region_held_drew (S := fun W => Sle slE 15 W (some ⟨gE, oE, none⟩) (n) (c) (l)) (by kernel_rfl) en (fun hH => ?_)
    generalize wr.drew = w1 at bel en hH ⊢
    refine wpAnyH_take (i := 0) (v := ?_) rfl (by kernel_rfl) (by kernel_rfl) (by kernel_rfl) (fun _ _ _ h => h) (Or.inl ⟨by rfl, ?_⟩) hH ?_
    rotate_left
    · ((intro W hW; clear hW; go_simp) <;> with_reducible rfl)
    simp only [Act.put, List.getElem_toArray, List.getElem_cons_zero, List.setIfInBounds_toArray, List.set_cons_zero, List.set_cons_succ]
    refine wpAnyH_take (i := 1) (v := ?_) rfl (by kernel_rfl) (by kernel_rfl) (by kernel_rfl) (fun _ _ _ h => h) (Or.inl ⟨by rfl, ?_⟩) hH ?_
    rotate_left
    · ((intro W hW; clear hW; go_simp) <;> with_reducible rfl)
    simp only [Act.put, List.getElem_toArray, List.getElem_cons_zero, List.getElem_cons_succ, List.setIfInBounds_toArray, List.set_cons_zero, List.set_cons_succ]
    refine wpAnyH_take (i := 2) (v := ?_) rfl (by kernel_rfl) (by kernel_rfl) (by kernel_rfl) (fun _ _ _ h => h) (Or.inl ⟨by rfl, ?_⟩) hH ?_
    rotate_left
    · ((intro W hW; clear hW; go_simp) <;> with_reducible rfl)
    simp only [Act.put, List.getElem_toArray, List.getElem_cons_zero, List.getElem_cons_succ, List.setIfInBounds_toArray, List.set_cons_zero, List.set_cons_succ]
    refine wpAnyH_take (i := 3) (v := ?_) rfl (by kernel_rfl) (by kernel_rfl) (by kernel_rfl) (fun _ _ _ h => h) (Or.inl ⟨by rfl, ?_⟩) hH ?_
    rotate_left
    · ((intro W hW; clear hW; go_simp) <;> with_reducible rfl)
    simp only [Act.put, List.getElem_toArray, List.getElem_cons_zero, List.getElem_cons_succ, List.setIfInBounds_toArray, List.set_cons_zero, List.set_cons_succ]
    refine wpAnyH_take (i := 4) (v := ?_) rfl (by kernel_rfl) (by kernel_rfl) (by kernel_rfl) (fun _ _ _ h => h) (Or.inl ⟨by rfl, ?_⟩) hH ?_
    rotate_left
    · ((intro W hW; clear hW; go_simp) <;> with_reducible rfl)
    simp only [Act.put, List.getElem_toArray, List.getElem_cons_zero, List.getElem_cons_succ, List.setIfInBounds_toArray, List.set_cons_zero, List.set_cons_succ]
    refine wpAnyH_take (i := 5) (v := ?_) rfl (by kernel_rfl) (by kernel_rfl) (by kernel_rfl) (fun _ _ _ h => h) (Or.inl ⟨by rfl, ?_⟩) hH ?_
    rotate_left
    · ((intro W hW; clear hW; go_simp) <;> with_reducible rfl)
    simp only [Act.put, List.getElem_toArray, List.getElem_cons_zero, List.getElem_cons_succ, List.setIfInBounds_toArray, List.set_cons_zero, List.set_cons_succ]
    refine wpAnyH_take (i := 6) (v := ?_) rfl (by kernel_rfl) (by kernel_rfl) (by kernel_rfl) (fun _ _ _ h => h) (Or.inl ⟨by rfl, ?_⟩) hH ?_
    rotate_left
    · ((intro W hW; clear hW; go_simp) <;> with_reducible rfl)
    simp only [Act.put, List.getElem_toArray, List.getElem_cons_zero, List.getElem_cons_succ, List.setIfInBounds_toArray, List.set_cons_zero, List.set_cons_succ]
    refine wpAnyH_take (i := 7) (v := ?_) rfl (by kernel_rfl) (by kernel_rfl) (by kernel_rfl) (fun _ _ _ h => h) (Or.inl ⟨by rfl, ?_⟩) hH ?_
    rotate_left
    · ((intro W hW; clear hW; go_simp) <;> with_reducible rfl)
    simp only [Act.put, List.getElem_toArray, List.getElem_cons_zero, List.getElem_cons_succ, List.setIfInBounds_toArray, List.set_cons_zero, List.set_cons_succ]
    refine wpAnyH_take (i := 8) (v := .agg #[.int .u8 (x.m.a.toNat : Int), .int .u8 (x.m.b.toNat : Int), .int .u8 (x.m.c.toNat : Int), .int .u8 (x.m.d.toNat : Int), .int .u8 (x.m.e.toNat : Int), .int .u8 (x.m.f.toNat : Int), .int .u8 (x.ad.a.toNat : Int), .int .u8 (x.ad.b.toNat : Int), .int .u8 (x.ad.c.toNat : Int), .int .u8 (x.ad.d.toNat : Int), .int .i64 x.u, .bool x.fx, .bool x.le, .bool x.rp, .int .i64 x.br]) rfl (by kernel_rfl) (by kernel_rfl) (by kernel_rfl) (fun _ _ _ h => h) (yieldsIf_load_mid (by kernel_rfl) 101 _ rfl gE (oE + k * 15) rfl [.int .u8 (x.m.a.toNat : Int), .int .u8 (x.m.b.toNat : Int), .int .u8 (x.m.c.toNat : Int), .int .u8 (x.m.d.toNat : Int), .int .u8 (x.m.e.toNat : Int), .int .u8 (x.m.f.toNat : Int), .int .u8 (x.ad.a.toNat : Int), .int .u8 (x.ad.b.toNat : Int), .int .u8 (x.ad.c.toNat : Int), .int .u8 (x.ad.d.toNat : Int), .int .i64 x.u, .bool x.fx, .bool x.le, .bool x.rp, .int .i64 x.br] _ (fun W hW => Sle.range0 (hW) HX.out 15 [.int .u8 (x.m.a.toNat : Int), .int .u8 (x.m.b.toNat : Int), .int .u8 (x.m.c.toNat : Int), .int .u8 (x.m.d.toNat : Int), .int .u8 (x.m.e.toNat : Int), .int .u8 (x.m.f.toNat : Int), .int .u8 (x.ad.a.toNat : Int), .int .u8 (x.ad.b.toNat : Int), .int .u8 (x.ad.c.toNat : Int), .int .u8 (x.ad.d.toNat : Int), .int .i64 x.u, .bool x.fx, .bool x.le, .bool x.rp, .int .i64 x.br] rfl) Try.underlying101 rfl (by kernel_rfl)) hH ?_
    simp only [Act.put, List.getElem_toArray, List.getElem_cons_zero, List.getElem_cons_succ, List.setIfInBounds_toArray, List.set_cons_zero, List.set_cons_succ]
    refine wpAnyH_take (i := 9) (v := ?_) rfl (by kernel_rfl) (by kernel_rfl) (by kernel_rfl) (fun _ _ _ h => h) (Or.inl ⟨by rfl, ?_⟩) hH ?_
    rotate_left
    · ((intro W hW; clear hW; go_simp) <;> with_reducible rfl)
    simp only [Act.put, List.getElem_toArray, List.getElem_cons_zero, List.getElem_cons_succ, List.setIfInBounds_toArray, List.set_cons_zero, List.set_cons_succ]
    refine wpAnyH_take (i := 10) (v := ?_) rfl (by kernel_rfl) (by kernel_rfl) (by kernel_rfl) (fun _ _ _ h => h) (Or.inl ⟨by rfl, ?_⟩) hH ?_
    rotate_left
    · ((intro W hW; clear hW; go_simp) <;> with_reducible rfl)
    simp only [Act.put, List.getElem_toArray, List.getElem_cons_zero, List.getElem_cons_succ, List.setIfInBounds_toArray, List.set_cons_zero, List.set_cons_succ]
    refine wpAnyH_take (i := 11) (v := ?_) rfl (by kernel_rfl) (by kernel_rfl) (by kernel_rfl) (fun _ _ _ h => h) (Or.inl ⟨by rfl, ?_⟩) hH ?_
    rotate_left
    · ((intro W hW; clear hW; go_simp) <;> with_reducible rfl)
    simp only [Act.put, List.getElem_toArray, List.getElem_cons_zero, List.getElem_cons_succ, List.setIfInBounds_toArray, List.set_cons_zero, List.set_cons_succ]
    refine wpAnyH_take (i := 12) (v := ?_) rfl (by kernel_rfl) (by kernel_rfl) (by kernel_rfl) (fun _ _ _ h => h) (Or.inl ⟨by rfl, ?_⟩) hH ?_
    rotate_left
    · ((intro W hW; clear hW; go_simp) <;> with_reducible rfl)
    simp only [Act.put, List.getElem_toArray, List.getElem_cons_zero, List.getElem_cons_succ, List.setIfInBounds_toArray, List.set_cons_zero, List.set_cons_succ]
    refine wpAnyH_take (i := 13) (v := .agg #[.int .u8 (y.m.a.toNat : Int), .int .u8 (y.m.b.toNat : Int), .int .u8 (y.m.c.toNat : Int), .int .u8 (y.m.d.toNat : Int), .int .u8 (y.m.e.toNat : Int), .int .u8 (y.m.f.toNat : Int), .int .u8 (y.ad.a.toNat : Int), .int .u8 (y.ad.b.toNat : Int), .int .u8 (y.ad.c.toNat : Int), .int .u8 (y.ad.d.toNat : Int), .int .i64 y.u, .bool y.fx, .bool y.le, .bool y.rp, .int .i64 y.br]) rfl (by kernel_rfl) (by kernel_rfl) (by kernel_rfl) (fun _ _ _ h => h) (yieldsIf_load_mid (by kernel_rfl) 101 _ rfl gE (oE + q * 15) rfl [.int .u8 (y.m.a.toNat : Int), .int .u8 (y.m.b.toNat : Int), .int .u8 (y.m.c.toNat : Int), .int .u8 (y.m.d.toNat : Int), .int .u8 (y.m.e.toNat : Int), .int .u8 (y.m.f.toNat : Int), .int .u8 (y.ad.a.toNat : Int), .int .u8 (y.ad.b.toNat : Int), .int .u8 (y.ad.c.toNat : Int), .int .u8 (y.ad.d.toNat : Int), .int .i64 y.u, .bool y.fx, .bool y.le, .bool y.rp, .int .i64 y.br] _ (fun W hW => Sle.range0 (hW) HY.out 15 [.int .u8 (y.m.a.toNat : Int), .int .u8 (y.m.b.toNat : Int), .int .u8 (y.m.c.toNat : Int), .int .u8 (y.m.d.toNat : Int), .int .u8 (y.m.e.toNat : Int), .int .u8 (y.m.f.toNat : Int), .int .u8 (y.ad.a.toNat : Int), .int .u8 (y.ad.b.toNat : Int), .int .u8 (y.ad.c.toNat : Int), .int .u8 (y.ad.d.toNat : Int), .int .i64 y.u, .bool y.fx, .bool y.le, .bool y.rp, .int .i64 y.br] rfl) Try.underlying101 rfl (by kernel_rfl)) hH ?_
    simp only [Act.put, List.getElem_toArray, List.getElem_cons_zero, List.getElem_cons_succ, List.setIfInBounds_toArray, List.set_cons_zero, List.set_cons_succ]
    refine wpAnyH_ready (rs := [14]) (by kernel_rfl) (by simp) ?_
    refine AllReadyH.cons (o := _) rfl (fun K hK => ?_) AllReadyH.nil
    simp only [List.getElem_toArray, List.getElem_cons_zero, List.getElem_cons_succ]
    go_simp
    with_reducible refine (presf_any x y _).mono ?_
    rintro e w2 ⟨rfl, b2⟩
    dsimp only
    replace en := en.below b2
    replace bel := bel.trans (b2.mono bel.size)
    clear b2
    rw [HC.out]
    refine hK.out _ _ en (fun hH3 => ?_)
    clear hK K
    refine wpAnyH_take (i := 15) (v := ?_) rfl (by kernel_rfl) (by kernel_rfl) (by kernel_rfl) (fun _ _ _ h => h) (Or.inl ⟨by rfl, ?_⟩) hH3 ?_
    rotate_left
    · ((intro W hW; clear hW; go_simp) <;> with_reducible rfl)
    simp only [Act.put, List.getElem_toArray, List.getElem_cons_zero, List.getElem_cons_succ, List.setIfInBounds_toArray, List.set_cons_zero, List.set_cons_succ]
    refine wpAnyH_take (i := 16) (v := ?_) rfl (by kernel_rfl) (by kernel_rfl) (by kernel_rfl) (fun _ _ _ h => h) (Or.inl ⟨by rfl, ?_⟩) hH3 ?_
    rotate_left
    · ((intro W hW; clear hW; go_simp) <;> with_reducible rfl)
    simp only [Act.put, List.getElem_toArray, List.getElem_cons_zero, List.getElem_cons_succ, List.setIfInBounds_toArray, List.set_cons_zero, List.set_cons_succ]
    refine wpAnyH_done (by kernel_rfl) ?_ _
    go_wp2_with fail
    go_roundg (n + 1 - (k + 1))
    case measure => have := HGK_.out; omega
    case rel => exact ⟨k + 1, rfl, by omega, by omega, by go_num, en, bel⟩
set_option linter.unusedVariables false in
set_option linter.unusedSimpArgs false in
set_option maxRecDepth 100000 in
set_option maxHeartbeats 16000000 in
theorem pins_nil {A : Option Addr} {c : Nat} (w : World) : Calls Try.prog 82 #[.slice A 0 c, .int .i64 0, .int .i64 0, .func (.func 59) #[] #[]] w fun e w' => e = .returned (.tuple #[]) ∧ Below w.heap.size w w' := by
  have bel := Below.refl w.heap.size w
  go_enter Try.func82, Try.ntmps82
  go_wp2_with fail
  refine wp_loop_rounds 1 ?_
  rw [rounds_succ]
  go_wp2_with fail
  exact bodyPost_end (results_none rfl _ _ _) rfl ⟨rfl, bel⟩
theorem pins_any {A : Option Addr} {n c : Nat} {l : List Sd} (w : World) (en : Sle slE 15 w A n c l) (hS : SSrt l) (hn : n ≤ 12) : Calls Try.prog 82 #[.slice A n c, .int .i64 0, .int .i64 (n : Int), .func (.func 59) #[] #[]] w fun e w' => e = .returned (.tuple #[]) ∧ Below w.heap.size w w' := by
  rcases Nat.eq_zero_or_pos n with h0 | h0
  · subst h0; exact pins_nil w
  · exact pins_pos w en hS h0 hn
set_option linter.unusedVariables false in
set_option linter.unusedSimpArgs false in
set_option maxRecDepth 100000 in
set_option maxHeartbeats 16000000 in
theorem ppdq_any {A : Option Addr} {n c : Nat} {lim : Int} {l : List Sd} (w : World) (en : Sle slE 15 w A n c l) (hS : SSrt l) (hn : n ≤ 12) : Calls Try.prog 73 #[.slice A n c, .int .i64 0, .int .i64 (n : Int), .int .i64 lim, .func (.func 59) #[] #[]] w fun e w' => e = .returned (.tuple #[]) ∧ Below w.heap.size w w' := by
  have HS := Lib.hid hS
  clear hS
  have n0 : (0 : Int) ≤ n := by omega
  have n1 : (n : Int) ≤ 12 := by omega
  have hwn : IntKind.i64.wrap (n : Int) = (n : Int) := IntWalk.i64_in _ (by omega)
  have bel := Below.refl w.heap.size w
  go_enter Try.func73, Try.ntmps73
  go_wp2_with fail
  refine wp_loop_rounds 1 ?_
  rw [rounds_succ]
  go_wp2_with fail
  with_reducible refine (pins_any _ en HS.out hn).mono ?_
  rintro e w1 ⟨rfl, b1⟩
  replace en := en.below b1
  replace bel := bel.trans (b1.mono bel.size)
  clear b1
  go_wp2_with fail
  exact bodyPost_ret (results_none rfl _ _ _) rfl ⟨rfl, bel⟩
theorem ppdq_0 {A : Option Addr} {c : Nat} {lim : Int} {l : List Sd} (w : World) (en : Sle slE 15 w A 0 c l) (hS : SSrt l) : Calls Try.prog 73 #[.slice A 0 c, .int .i64 0, .int .i64 0, .int .i64 lim, .func (.func 59) #[] #[]] w fun e w' => e = .returned (.tuple #[]) ∧ Below w.heap.size w w' := ppdq_any (n := 0) w en hS (by decide)
theorem ppdq_1 {A : Option Addr} {c : Nat} {lim : Int} {l : List Sd} (w : World) (en : Sle slE 15 w A 1 c l) (hS : SSrt l) : Calls Try.prog 73 #[.slice A 1 c, .int .i64 0, .int .i64 1, .int .i64 lim, .func (.func 59) #[] #[]] w fun e w' => e = .returned (.tuple #[]) ∧ Below w.heap.size w w' := ppdq_any (n := 1) w en hS (by decide)
theorem ppdq_2 {A : Option Addr} {c : Nat} {lim : Int} {l : List Sd} (w : World) (en : Sle slE 15 w A 2 c l) (hS : SSrt l) : Calls Try.prog 73 #[.slice A 2 c, .int .i64 0, .int .i64 2, .int .i64 lim, .func (.func 59) #[] #[]] w fun e w' => e = .returned (.tuple #[]) ∧ Below w.heap.size w w' := ppdq_any (n := 2) w en hS (by decide)
set_option linter.unusedVariables false in
set_option linter.unusedSimpArgs false in
set_option maxRecDepth 100000 in
set_option maxHeartbeats 16000000 in
theorem psort_0 {A : Option Addr} {c : Nat} {l : List Sd} (w : World) (en : Sle slE 15 w A 0 c l) (hS : SSrt l) : Calls Try.prog 58 #[.slice A 0 c, .func (.func 59) #[] #[]] w fun e w' => e = .returned (.tuple #[]) ∧ Below w.heap.size w w' := by
  have HS := Lib.hid hS
  clear hS
  have bel := Below.refl w.heap.size w
  go_enter Try.func58, Try.ntmps58
  go_wp2_with fail
  with_reducible refine (blen_0 _).mono ?_
  rintro e _ ⟨rfl, rfl⟩
  go_wp2_with fail
  with_reducible refine (ppdq_0 _ en HS.out).mono ?_
  rintro e w1 ⟨rfl, b1⟩
  replace en := en.below b1
  replace bel := bel.trans (b1.mono bel.size)
  clear b1
  go_wp2_with fail
  exact bodyPost_end (results_none rfl _ _ _) rfl ⟨rfl, bel⟩
set_option linter.unusedVariables false in
set_option linter.unusedSimpArgs false in
set_option maxRecDepth 100000 in
set_option maxHeartbeats 16000000 in
theorem psort_1 {A : Option Addr} {c : Nat} {l : List Sd} (w : World) (en : Sle slE 15 w A 1 c l) (hS : SSrt l) : Calls Try.prog 58 #[.slice A 1 c, .func (.func 59) #[] #[]] w fun e w' => e = .returned (.tuple #[]) ∧ Below w.heap.size w w' := by
  have HS := Lib.hid hS
  clear hS
  have bel := Below.refl w.heap.size w
  go_enter Try.func58, Try.ntmps58
  go_wp2_with fail
  with_reducible refine (blen_1 _).mono ?_
  rintro e _ ⟨rfl, rfl⟩
  go_wp2_with fail
  with_reducible refine (ppdq_1 _ en HS.out).mono ?_
  rintro e w1 ⟨rfl, b1⟩
  replace en := en.below b1
  replace bel := bel.trans (b1.mono bel.size)
  clear b1
  go_wp2_with fail
  exact bodyPost_end (results_none rfl _ _ _) rfl ⟨rfl, bel⟩
set_option linter.unusedVariables false in
set_option linter.unusedSimpArgs false in
set_option maxRecDepth 100000 in
set_option maxHeartbeats 16000000 in
theorem psort_2 {A : Option Addr} {c : Nat} {l : List Sd} (w : World) (en : Sle slE 15 w A 2 c l) (hS : SSrt l) : Calls Try.prog 58 #[.slice A 2 c, .func (.func 59) #[] #[]] w fun e w' => e = .returned (.tuple #[]) ∧ Below w.heap.size w w' := by
  have HS := Lib.hid hS
  clear hS
  have bel := Below.refl w.heap.size w
  go_enter Try.func58, Try.ntmps58
  go_wp2_with fail
  with_reducible refine (blen_2 _).mono ?_
  rintro e _ ⟨rfl, rfl⟩
  go_wp2_with fail
  with_reducible refine (ppdq_2 _ en HS.out).mono ?_
  rintro e w1 ⟨rfl, b1⟩
  replace en := en.below b1
  replace bel := bel.trans (b1.mono bel.size)
  clear b1
  go_wp2_with fail
  exact bodyPost_end (results_none rfl _ _ _) rfl ⟨rfl, bel⟩
/-- Slots that stand in order stay (two at most). -/
theorem psort_any {A : Option Addr} {n c : Nat} {l : List Sd} (w : World) (en : Sle slE 15 w A n c l) (hS : SSrt l) (hn : n ≤ 2) : Calls Try.prog 58 #[.slice A n c, .func (.func 59) #[] #[]] w fun e w' => e = .returned (.tuple #[]) ∧ Below w.heap.size w w' := by
  match n, hn with
  | 0, _ => exact psort_0 w en hS
  | 1, _ => exact psort_1 w en hS
  | 2, _ => exact psort_2 w en hS
end Go.Proofs.Ytapdmlfjohiekaa
