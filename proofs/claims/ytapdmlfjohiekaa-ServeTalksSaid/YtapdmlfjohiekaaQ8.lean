/- Texts put together: Pl7, Pl8. -/
import Derived.Test.YtapdmlfjohiekaaQ1
import Derived.Test.YtapdmlfjohiekaaQ7
namespace Go.Proofs.Ytapdmlfjohiekaa
open Go.RowKit

theorem perm_le {secs : Int} (h : permB secs = true) : 1 ≤ secs ∧ secs ≤ 1000000000 := by
  unfold permB at h
  simpa using h
set_option linter.unusedVariables false in
set_option linter.unusedSimpArgs false in
set_option maxRecDepth 100000 in
set_option maxHeartbeats 16000000 in
theorem ptake_arg {lo gt : Nat} {now : Int} {hs : List (Mc6 × Ad4)} {l : List Sd} (m : Mc6) (a : Ad4) (t secs : Int)  (w : World) (hT : Pl lo gt w ⟨now, hs, l⟩) (hpm : permB secs = false) : Calls Try.prog 46 #[.pointer (some ⟨gt, 0, none⟩), .agg #[.int .u8 (m.a.toNat : Int), .int .u8 (m.b.toNat : Int), .int .u8 (m.c.toNat : Int), .int .u8 (m.d.toNat : Int), .int .u8 (m.e.toNat : Int), .int .u8 (m.f.toNat : Int)], .agg #[.int .u8 (a.a.toNat : Int), .int .u8 (a.b.toNat : Int), .int .u8 (a.c.toNat : Int), .int .u8 (a.d.toNat : Int)], .int .i64 t, .int .i64 secs] w fun e w' => e = .returned (.int .i64 1) ∧ Pl lo gt w' ⟨(padv now t), hs, l⟩ ∧ Kt [84, 101] w w' ∧ Below lo w w' := by
  obtain ⟨A, n, c, mb, htb, otb, hM, own, hok⟩ := hT
  dsimp only at htb hM own
  have hlo : lo ≤ w.heap.size := Nat.le_trans otb (Nat.le_of_lt (hlt htb))
  have off_tb := ofs_type own htb (by decide)
  have hl := row_len (by decide) slE_len own
  have HLL := Lib.hid hl
  have HLO := Lib.hid hlo
  have HOK := Lib.hid hok
  have H32 : Hid (n ≤ 1000) := Lib.hid (by have := hok.len; simp only at this; omega)
  have kt := Kt.refl [84, 101] w
  clear hl hok
  obtain ⟨nw, hnw⟩ : ∃ x, padv now t = x := ⟨_, rfl⟩
  have HNW := Lib.hid hnw
  have HOK2 : Hid (St.ok ⟨nw, hs, l⟩) := Lib.hid (by rw [← hnw]; exact HOK.out.adv t)
  have n0_ : 0 ≤ nw := HOK2.out.n0
  have n1_ : nw ≤ 1099511627776 := HOK2.out.n1
  have N0_ := Lib.hid n0_
  have N1_ := Lib.hid n1_
  clear hnw n0_ n1_
  have HPM := Lib.hid hpm
  clear hpm
  have bel := Below.refl lo w
  go_enter Try.func46, Try.ntmps46
  go_wp2_with (first | ((with_reducible show wpList _ _ _ (⟨some 6, _, _, _, _, _⟩ :: _) _ _); refine wpList_box_n rfl 32 (.tmp 1) rfl #[.int .u8 (m.a.toNat : Int), .int .u8 (m.b.toNat : Int), .int .u8 (m.c.toNat : Int), .int .u8 (m.d.toNat : Int), .int .u8 (m.e.toNat : Int), .int .u8 (m.f.toNat : Int)] rfl ?_; intro g6 w1 ge lt hh bb; have d_tb_mB := ne_new (hlt htb) ge; have omB := Nat.le_trans (Nat.le_trans hlo bel.size) ge; have off_mB := owk_new own ge; have pn_mB := Nat.le_trans bel.size ge; replace htb := blk_u htb bb; replace own := owk_under own bb; replace kt := kt.trans (kt_below bb); replace hM := hM.below bb; replace bel := bel.trans (bb.mono (Nat.le_trans hlo bel.size)); have hmB := hh; clear hh lt ge bb) | ((with_reducible show wpList _ _ _ (⟨some 7, _, _, _, _, _⟩ :: _) _ _); refine wpList_box_n rfl 28 (.tmp 2) rfl #[.int .u8 (a.a.toNat : Int), .int .u8 (a.b.toNat : Int), .int .u8 (a.c.toNat : Int), .int .u8 (a.d.toNat : Int)] rfl ?_; intro g7 w2 ge lt hh bb; have d_tb_aB := ne_new (hlt htb) ge; have d_mB_aB := ne_new (hlt hmB) ge; have oaB := Nat.le_trans (Nat.le_trans hlo bel.size) ge; have off_aB := owk_new own ge; have pn_aB := Nat.le_trans bel.size ge; replace htb := blk_u htb bb; replace hmB := blk_u hmB bb; replace own := owk_under own bb; replace kt := kt.trans (kt_below bb); replace hM := hM.below bb; replace bel := bel.trans (bb.mono (Nat.le_trans hlo bel.size)); have haB := hh; clear hh lt ge bb))
  with_reducible refine (padv_any _ _ htb).mono ?_
  rintro e w3 ⟨rfl, htb_, b3⟩
  replace hmB := blk_a hmB b3 (ne_symm d_tb_mB)
  replace haB := blk_a haB b3 (ne_symm d_tb_aB)
  replace own := owk_off own off_tb b3
  replace kt := kt.trans (kt_grown b3 htb (by simp))
  replace hM := hM.grown b3 htb
  replace bel := below_grown bel b3 otb (Nat.le_trans hlo bel.size)
  clear b3
  clear htb
  rw [HNW.out] at htb_
  have htb := htb_
  clear htb_
  go_wp2_with fail
  with_reducible refine (perm_any _ HPM.out).mono ?_
  rintro e _ ⟨rfl, rfl⟩
  go_wp2_with fail
  go_ret
  exact ⟨rfl, (by rw [HNW.out]; exact ⟨A, n, c, mb, htb, otb, hM, own, HOK2.out⟩), kt, bel⟩
set_option linter.unusedVariables false in
set_option linter.unusedSimpArgs false in
set_option maxRecDepth 100000 in
set_option maxHeartbeats 16000000 in
theorem ptake_no {lo gt : Nat} {now : Int} {hs : List (Mc6 × Ad4)} {l : List Sd} (m : Mc6) (a : Ad4) (t secs : Int) {r : Int}  (w : World) (hT : Pl lo gt w ⟨now, hs, l⟩) (hpm : permB secs = true) (hr : mayE ⟨padv now t, hs, l⟩ m a = r) (hr0 : ¬ r = 0) : Calls Try.prog 46 #[.pointer (some ⟨gt, 0, none⟩), .agg #[.int .u8 (m.a.toNat : Int), .int .u8 (m.b.toNat : Int), .int .u8 (m.c.toNat : Int), .int .u8 (m.d.toNat : Int), .int .u8 (m.e.toNat : Int), .int .u8 (m.f.toNat : Int)], .agg #[.int .u8 (a.a.toNat : Int), .int .u8 (a.b.toNat : Int), .int .u8 (a.c.toNat : Int), .int .u8 (a.d.toNat : Int)], .int .i64 t, .int .i64 secs] w fun e w' => e = .returned (.int .i64 r) ∧ Pl lo gt w' ⟨(padv now t), hs, l⟩ ∧ Kt [84, 101] w w' ∧ Below lo w w' := by
  obtain ⟨A, n, c, mb, htb, otb, hM, own, hok⟩ := hT
  dsimp only at htb hM own
  have hlo : lo ≤ w.heap.size := Nat.le_trans otb (Nat.le_of_lt (hlt htb))
  have off_tb := ofs_type own htb (by decide)
  have hl := row_len (by decide) slE_len own
  have HLL := Lib.hid hl
  have HLO := Lib.hid hlo
  have HOK := Lib.hid hok
  have H32 : Hid (n ≤ 1000) := Lib.hid (by have := hok.len; simp only at this; omega)
  have kt := Kt.refl [84, 101] w
  clear hl hok
  obtain ⟨nw, hnw⟩ : ∃ x, padv now t = x := ⟨_, rfl⟩
  have HNW := Lib.hid hnw
  have HOK2 : Hid (St.ok ⟨nw, hs, l⟩) := Lib.hid (by rw [← hnw]; exact HOK.out.adv t)
  have n0_ : 0 ≤ nw := HOK2.out.n0
  have n1_ : nw ≤ 1099511627776 := HOK2.out.n1
  have N0_ := Lib.hid n0_
  have N1_ := Lib.hid n1_
  clear hnw n0_ n1_
  have HPM := Lib.hid hpm
  clear hpm
  have hr_ : _ := hr
  rw [HNW.out] at hr_
  have HR := Lib.hid hr_
  clear hr hr_
  have hr1 : (r != 0) = true := bne_iff_ne.2 hr0
  clear hr0
  have bel := Below.refl lo w
  go_enter Try.func46, Try.ntmps46
  go_wp2_with (first | ((with_reducible show wpList _ _ _ (⟨some 6, _, _, _, _, _⟩ :: _) _ _); refine wpList_box_n rfl 32 (.tmp 1) rfl #[.int .u8 (m.a.toNat : Int), .int .u8 (m.b.toNat : Int), .int .u8 (m.c.toNat : Int), .int .u8 (m.d.toNat : Int), .int .u8 (m.e.toNat : Int), .int .u8 (m.f.toNat : Int)] rfl ?_; intro g6 w1 ge lt hh bb; have d_tb_mB := ne_new (hlt htb) ge; have omB := Nat.le_trans (Nat.le_trans hlo bel.size) ge; have off_mB := owk_new own ge; have pn_mB := Nat.le_trans bel.size ge; replace htb := blk_u htb bb; replace own := owk_under own bb; replace kt := kt.trans (kt_below bb); replace hM := hM.below bb; replace bel := bel.trans (bb.mono (Nat.le_trans hlo bel.size)); have hmB := hh; clear hh lt ge bb) | ((with_reducible show wpList _ _ _ (⟨some 7, _, _, _, _, _⟩ :: _) _ _); refine wpList_box_n rfl 28 (.tmp 2) rfl #[.int .u8 (a.a.toNat : Int), .int .u8 (a.b.toNat : Int), .int .u8 (a.c.toNat : Int), .int .u8 (a.d.toNat : Int)] rfl ?_; intro g7 w2 ge lt hh bb; have d_tb_aB := ne_new (hlt htb) ge; have d_mB_aB := ne_new (hlt hmB) ge; have oaB := Nat.le_trans (Nat.le_trans hlo bel.size) ge; have off_aB := owk_new own ge; have pn_aB := Nat.le_trans bel.size ge; replace htb := blk_u htb bb; replace hmB := blk_u hmB bb; replace own := owk_under own bb; replace kt := kt.trans (kt_below bb); replace hM := hM.below bb; replace bel := bel.trans (bb.mono (Nat.le_trans hlo bel.size)); have haB := hh; clear hh lt ge bb))
  with_reducible refine (padv_any _ _ htb).mono ?_
  rintro e w3 ⟨rfl, htb_, b3⟩
  replace hmB := blk_a hmB b3 (ne_symm d_tb_mB)
  replace haB := blk_a haB b3 (ne_symm d_tb_aB)
  replace own := owk_off own off_tb b3
  replace kt := kt.trans (kt_grown b3 htb (by simp))
  replace hM := hM.grown b3 htb
  replace bel := below_grown bel b3 otb (Nat.le_trans hlo bel.size)
  clear b3
  clear htb
  rw [HNW.out] at htb_
  have htb := htb_
  clear htb_
  go_wp2_with fail
  with_reducible refine (perm_any _ HPM.out).mono ?_
  rintro e _ ⟨rfl, rfl⟩
  have R23 := Lib.hid (range_lit hmB 0 6 [.int .u8 (m.a.toNat : Int), .int .u8 (m.b.toNat : Int), .int .u8 (m.c.toNat : Int), .int .u8 (m.d.toNat : Int), .int .u8 (m.e.toNat : Int), .int .u8 (m.f.toNat : Int)] rfl)
  go_wp2_with (first | ((with_reducible show wpList _ _ _ (⟨some 23, _, _, _, _, _⟩ :: _) _ _); refine wpList_load_rng 32 (.tmp 6) rfl (by kernel_rfl) _ _ rfl _ R23.out _ Try.underlying32 rfl (by kernel_rfl) ?_; have R24 := Lib.hid (range_lit haB 0 4 [.int .u8 (a.a.toNat : Int), .int .u8 (a.b.toNat : Int), .int .u8 (a.c.toNat : Int), .int .u8 (a.d.toNat : Int)] rfl)) | ((with_reducible show wpList _ _ _ (⟨some 24, _, _, _, _, _⟩ :: _) _ _); refine wpList_load_rng 28 (.tmp 7) rfl (by kernel_rfl) _ _ rfl _ R24.out _ Try.underlying28 rfl (by kernel_rfl) ?_))
  try clear R23
  try clear R24
  with_reducible refine (may_any m a _ htb own H32.out hM HOK2.out.srt HR.out).mono ?_
  rintro e w4 ⟨rfl, b4⟩
  replace htb := blk_u htb b4
  replace hmB := blk_u hmB b4
  replace haB := blk_u haB b4
  replace own := owk_under own b4
  replace kt := kt.trans (kt_below b4)
  replace hM := hM.below b4
  replace bel := bel.trans (b4.mono (Nat.le_trans hlo bel.size))
  clear b4
  go_wp2_with fail
  go_ret
  exact ⟨rfl, (by rw [HNW.out]; exact ⟨A, n, c, mb, htb, otb, hM, own, HOK2.out⟩), kt, bel⟩
set_option linter.unusedVariables false in
set_option linter.unusedSimpArgs false in
set_option maxRecDepth 100000 in
set_option maxHeartbeats 16000000 in
theorem ptake_new {lo gt : Nat} {now : Int} {hs : List (Mc6 × Ad4)} {l : List Sd} (m : Mc6) (a : Ad4) (t secs : Int) {p : Nat} {y : Sd}  (w : World) (hT : Pl lo gt w ⟨now, hs, l⟩) (hpm : permB secs = true) (hr : mayE ⟨padv now t, hs, l⟩ m a = 0) (hf : hldF m (padv now t) l = none) (hp : sfpos l a.num = p) (hs_ : sfhas l a.num = true) (hy : l[p]? = some y) (hok3 : St.ok ⟨padv now t, hs, l.set p ⟨m, a, (padv now t + secs), y.fx, true, false, y.br⟩⟩) : Calls Try.prog 46 #[.pointer (some ⟨gt, 0, none⟩), .agg #[.int .u8 (m.a.toNat : Int), .int .u8 (m.b.toNat : Int), .int .u8 (m.c.toNat : Int), .int .u8 (m.d.toNat : Int), .int .u8 (m.e.toNat : Int), .int .u8 (m.f.toNat : Int)], .agg #[.int .u8 (a.a.toNat : Int), .int .u8 (a.b.toNat : Int), .int .u8 (a.c.toNat : Int), .int .u8 (a.d.toNat : Int)], .int .i64 t, .int .i64 secs] w fun e w' => e = .returned (.int .i64 0) ∧ Pl lo gt w' ⟨(padv now t), hs, (l.set p ⟨m, a, (padv now t + secs), y.fx, true, false, y.br⟩)⟩ ∧ Kt [84, 101] w w' ∧ Below lo w w' := by
  obtain ⟨A, n, c, mb, htb, otb, hM, own, hok⟩ := hT
  dsimp only at htb hM own
  have hlo : lo ≤ w.heap.size := Nat.le_trans otb (Nat.le_of_lt (hlt htb))
  have off_tb := ofs_type own htb (by decide)
  have hl := row_len (by decide) slE_len own
  have HLL := Lib.hid hl
  have HLO := Lib.hid hlo
  have HOK := Lib.hid hok
  have H32 : Hid (n ≤ 1000) := Lib.hid (by have := hok.len; simp only at this; omega)
  have kt := Kt.refl [84, 101] w
  clear hl hok
  obtain ⟨nw, hnw⟩ : ∃ x, padv now t = x := ⟨_, rfl⟩
  have HNW := Lib.hid hnw
  have HOK2 : Hid (St.ok ⟨nw, hs, l⟩) := Lib.hid (by rw [← hnw]; exact HOK.out.adv t)
  have n0_ : 0 ≤ nw := HOK2.out.n0
  have n1_ : nw ≤ 1099511627776 := HOK2.out.n1
  have N0_ := Lib.hid n0_
  have N1_ := Lib.hid n1_
  clear hnw n0_ n1_
  have hf_ : _ := hf
  rw [HNW.out] at hf_
  clear hf
  have hf := hf_
  clear hf_
  have hsb := perm_le hpm
  have hwr : IntKind.i64.wrap (nw + secs) = nw + secs := IntWalk.i64_in _ (by have := N0_.out; have := N1_.out; omega)
  clear hsb
  have HPM := Lib.hid hpm
  clear hpm
  have hr_ : _ := hr
  rw [HNW.out] at hr_
  have HR := Lib.hid hr_
  clear hr hr_
  have hin_ : p < n := by have h1_ := (List.getElem?_eq_some_iff.1 hy).1; have h2_ := HLL.out; omega
  have i0 : (0 : Int) ≤ p := by omega
  have i1 : (p : Int) < n := by omega
  obtain ⟨gE, rfl, _⟩ := row_at own (by omega)
  have en := (owk_sle (by decide) slE_len own).1
  have av_en_tb := owk_av own off_tb
  have HOK3 : Hid (St.ok ⟨nw, hs, l.set p ⟨m, a, (nw + secs), y.fx, true, false, y.br⟩⟩) := Lib.hid (by rw [← HNW.out]; exact hok3)
  clear hok3
  have HFS := Lib.hid hs_
  clear hs_
  have HF := Lib.hid hf
  clear hf
  have HP := Lib.hid hp
  clear hp
  have HY := Lib.hid hy
  clear hy
  have bel := Below.refl lo w
  go_enter Try.func46, Try.ntmps46
  go_wp2_with (first | ((with_reducible show wpList _ _ _ (⟨some 6, _, _, _, _, _⟩ :: _) _ _); refine wpList_box_n rfl 32 (.tmp 1) rfl #[.int .u8 (m.a.toNat : Int), .int .u8 (m.b.toNat : Int), .int .u8 (m.c.toNat : Int), .int .u8 (m.d.toNat : Int), .int .u8 (m.e.toNat : Int), .int .u8 (m.f.toNat : Int)] rfl ?_; intro g6 w1 ge lt hh bb; have d_tb_mB := ne_new (hlt htb) ge; have av_en_mB := en.av_new ge; have omB := Nat.le_trans (Nat.le_trans hlo bel.size) ge; have off_mB := owk_new own ge; have pn_mB := Nat.le_trans bel.size ge; replace htb := blk_u htb bb; replace en := en.below bb; replace own := owk_under own bb; replace kt := kt.trans (kt_below bb); replace hM := hM.below bb; replace bel := bel.trans (bb.mono (Nat.le_trans hlo bel.size)); have hmB := hh; clear hh lt ge bb) | ((with_reducible show wpList _ _ _ (⟨some 7, _, _, _, _, _⟩ :: _) _ _); refine wpList_box_n rfl 28 (.tmp 2) rfl #[.int .u8 (a.a.toNat : Int), .int .u8 (a.b.toNat : Int), .int .u8 (a.c.toNat : Int), .int .u8 (a.d.toNat : Int)] rfl ?_; intro g7 w2 ge lt hh bb; have d_tb_aB := ne_new (hlt htb) ge; have d_mB_aB := ne_new (hlt hmB) ge; have av_en_aB := en.av_new ge; have oaB := Nat.le_trans (Nat.le_trans hlo bel.size) ge; have off_aB := owk_new own ge; have pn_aB := Nat.le_trans bel.size ge; replace htb := blk_u htb bb; replace hmB := blk_u hmB bb; replace en := en.below bb; replace own := owk_under own bb; replace kt := kt.trans (kt_below bb); replace hM := hM.below bb; replace bel := bel.trans (bb.mono (Nat.le_trans hlo bel.size)); have haB := hh; clear hh lt ge bb))
  with_reducible refine (padv_any _ _ htb).mono ?_
  rintro e w3 ⟨rfl, htb_, b3⟩
  replace en := en.away av_en_tb b3
  replace hmB := blk_a hmB b3 (ne_symm d_tb_mB)
  replace haB := blk_a haB b3 (ne_symm d_tb_aB)
  replace own := owk_off own off_tb b3
  replace kt := kt.trans (kt_grown b3 htb (by simp))
  replace hM := hM.grown b3 htb
  replace bel := below_grown bel b3 otb (Nat.le_trans hlo bel.size)
  clear b3
  clear htb
  rw [HNW.out] at htb_
  have htb := htb_
  clear htb_
  go_wp2_with fail
  with_reducible refine (perm_any _ HPM.out).mono ?_
  rintro e _ ⟨rfl, rfl⟩
  have R23 := Lib.hid (range_lit hmB 0 6 [.int .u8 (m.a.toNat : Int), .int .u8 (m.b.toNat : Int), .int .u8 (m.c.toNat : Int), .int .u8 (m.d.toNat : Int), .int .u8 (m.e.toNat : Int), .int .u8 (m.f.toNat : Int)] rfl)
  go_wp2_with (first | ((with_reducible show wpList _ _ _ (⟨some 23, _, _, _, _, _⟩ :: _) _ _); refine wpList_load_rng 32 (.tmp 6) rfl (by kernel_rfl) _ _ rfl _ R23.out _ Try.underlying32 rfl (by kernel_rfl) ?_; have R24 := Lib.hid (range_lit haB 0 4 [.int .u8 (a.a.toNat : Int), .int .u8 (a.b.toNat : Int), .int .u8 (a.c.toNat : Int), .int .u8 (a.d.toNat : Int)] rfl)) | ((with_reducible show wpList _ _ _ (⟨some 24, _, _, _, _, _⟩ :: _) _ _); refine wpList_load_rng 28 (.tmp 7) rfl (by kernel_rfl) _ _ rfl _ R24.out _ Try.underlying28 rfl (by kernel_rfl) ?_))
  try clear R23
  try clear R24
  with_reducible refine (may_any m a _ htb own H32.out hM HOK2.out.srt HR.out).mono ?_
  rintro e w4 ⟨rfl, b4⟩
  replace htb := blk_u htb b4
  replace hmB := blk_u hmB b4
  replace haB := blk_u haB b4
  replace en := en.below b4
  replace own := owk_under own b4
  replace kt := kt.trans (kt_below b4)
  replace hM := hM.below b4
  replace bel := bel.trans (b4.mono (Nat.le_trans hlo bel.size))
  clear b4
  have R30 := Lib.hid (range_lit hmB 0 6 [.int .u8 (m.a.toNat : Int), .int .u8 (m.b.toNat : Int), .int .u8 (m.c.toNat : Int), .int .u8 (m.d.toNat : Int), .int .u8 (m.e.toNat : Int), .int .u8 (m.f.toNat : Int)] rfl)
  go_wp2_with (first | ((with_reducible show wpList _ _ _ (⟨some 30, _, _, _, _, _⟩ :: _) _ _); refine wpList_load_rng 32 (.tmp 6) rfl (by kernel_rfl) _ _ rfl _ R30.out _ Try.underlying32 rfl (by kernel_rfl) ?_))
  try clear R30
  with_reducible refine (lof_none m _ htb own H32.out HF.out).mono ?_
  rintro e w5 ⟨rfl, b5⟩
  replace htb := blk_u htb b5
  replace hmB := blk_u hmB b5
  replace haB := blk_u haB b5
  replace en := en.below b5
  replace own := owk_under own b5
  replace kt := kt.trans (kt_below b5)
  replace hM := hM.below b5
  replace bel := bel.trans (b5.mono (Nat.le_trans hlo bel.size))
  clear b5
  have R40 := Lib.hid (range_lit haB 0 4 [.int .u8 (a.a.toNat : Int), .int .u8 (a.b.toNat : Int), .int .u8 (a.c.toNat : Int), .int .u8 (a.d.toNat : Int)] rfl)
  go_wp2_with (first | ((with_reducible show wpList _ _ _ (⟨some 40, _, _, _, _, _⟩ :: _) _ _); refine wpList_load_rng 28 (.tmp 7) rfl (by kernel_rfl) _ _ rfl _ R40.out _ Try.underlying28 rfl (by kernel_rfl) ?_))
  try clear R40
  with_reducible refine (pfind_is a _ htb (owk_sle (by decide) slE_len own).1 HOK2.out.srt H32.out HP.out HFS.out).mono ?_
  rintro e w6 ⟨rfl, b6⟩
  replace htb := blk_u htb b6
  replace hmB := blk_u hmB b6
  replace haB := blk_u haB b6
  replace en := en.below b6
  replace own := owk_under own b6
  replace kt := kt.trans (kt_below b6)
  replace hM := hM.below b6
  replace bel := bel.trans (b6.mono (Nat.le_trans hlo bel.size))
  clear b6
  have R47 := cell_lit htb 2 _ rfl
  go_wp2_with fail
  clear R47
  replace bel := bel.drew
  replace htb : w6.drew.heap[gt]? = _ := htb
  replace hmB : w6.drew.heap[g6]? = _ := hmB
  replace haB : w6.drew.heap[g7]? = _ := haB
  replace en := en.drew
  replace own := World.ownsRow.drew own
  replace kt := kt_drew kt
  replace hM := hm_drew hM
  refine wp_region_held_drew (S := fun W => W.heap[g6]? = some (.cells #[.int .u8 (m.a.toNat : Int), .int .u8 (m.b.toNat : Int), .int .u8 (m.c.toNat : Int), .int .u8 (m.d.toNat : Int), .int .u8 (m.e.toNat : Int), .int .u8 (m.f.toNat : Int)] 32 (0, 0)) ∧ W.heap[g7]? = some (.cells #[.int .u8 (a.a.toNat : Int), .int .u8 (a.b.toNat : Int), .int .u8 (a.c.toNat : Int), .int .u8 (a.d.toNat : Int)] 28 (0, 0)) ∧ W.heap[gt]? = some (.cells #[.int .i64 nw, .map (some mb), .slice (some ⟨gE, 0, none⟩) n c] 84 (0, 0))) (by kernel_rfl) ⟨hmB, haB, htb⟩ (fun hH => ?_)
  generalize w6.drew = w7 at bel htb hmB haB en own kt hM hH ⊢
  refine wpAnyH_take (i := 0) (v := ?_) rfl (by kernel_rfl) (by kernel_rfl) (by kernel_rfl) (fun _ _ _ h => h) (Or.inl ⟨by rfl, ?_⟩) hH ?_
  rotate_left
  · ((intro W hW; clear hW; go_simp) <;> with_reducible rfl)
  simp only [Act.put, List.getElem_toArray, List.getElem_cons_zero, List.setIfInBounds_toArray, List.set_cons_zero, List.set_cons_succ]
  refine wpAnyH_take (i := 1) (v := .agg #[.int .u8 (m.a.toNat : Int), .int .u8 (m.b.toNat : Int), .int .u8 (m.c.toNat : Int), .int .u8 (m.d.toNat : Int), .int .u8 (m.e.toNat : Int), .int .u8 (m.f.toNat : Int)]) rfl (by kernel_rfl) (by kernel_rfl) (by kernel_rfl) (fun _ _ _ h => h) (yieldsIf_load_part (by kernel_rfl) 32 _ rfl g6 0 6 rfl _ 32 (0, 0) (fun W hW => hW.1) _ rfl _ Try.underlying32 rfl (by kernel_rfl)) hH ?_
  simp only [sq3, sq4]
  refine wpAnyH_take (i := 2) (v := .agg #[.int .u8 (a.a.toNat : Int), .int .u8 (a.b.toNat : Int), .int .u8 (a.c.toNat : Int), .int .u8 (a.d.toNat : Int)]) rfl (by kernel_rfl) (by kernel_rfl) (by kernel_rfl) (fun _ _ _ h => h) (yieldsIf_load_part (by kernel_rfl) 28 _ rfl g7 0 4 rfl _ 28 (0, 0) (fun W hW => hW.2.1) _ rfl _ Try.underlying28 rfl (by kernel_rfl)) hH ?_
  simp only [sq3, sq4]
  refine wpAnyH_take (i := 3) (v := ?_) rfl (by kernel_rfl) (by kernel_rfl) (by kernel_rfl) (fun _ _ _ h => h) (Or.inl ⟨by rfl, ?_⟩) hH ?_
  rotate_left
  · ((intro W hW; clear hW; go_simp) <;> with_reducible rfl)
  simp only [sq3, sq4]
  refine wpAnyH_take (i := 4) (v := ?_) rfl (by kernel_rfl) (by kernel_rfl) (by kernel_rfl) (fun _ _ _ h => h) (Or.inl ⟨by rfl, ?_⟩) hH ?_
  rotate_left
  · ((intro W hW; clear hW; go_simp) <;> with_reducible rfl)
  simp only [sq3, sq4]
  refine wpAnyH_take (i := 5) (v := ?_) rfl (by kernel_rfl) (by kernel_rfl) (by kernel_rfl) (fun _ _ _ h => h) (Or.inl ⟨by rfl, ?_⟩) hH ?_
  rotate_left
  · ((intro W hW; clear hW; go_simp) <;> with_reducible rfl)
  simp only [sq3, sq4]
  refine wpAnyH_take (i := 6) (v := ?_) rfl (by kernel_rfl) (by kernel_rfl) (by kernel_rfl) (fun _ _ _ h => h) (Or.inl ⟨by rfl, ?_⟩) hH ?_
  rotate_left
  · ((intro W hW; have hk := cell_lit (hW.2.2) 0 _ rfl; clear hW; go_simp) <;> with_reducible rfl)
  simp only [sq3, sq4]
  refine wpAnyH_take (i := 7) (v := ?_) rfl (by kernel_rfl) (by kernel_rfl) (by kernel_rfl) (fun _ _ _ h => h) (Or.inl ⟨by rfl, ?_⟩) hH ?_
  rotate_left
  · ((intro W hW; clear hW; go_simp) <;> with_reducible rfl)
  simp only [sq3, sq4]
  refine wpAnyH_take (i := 8) (v := ?_) rfl (by kernel_rfl) (by kernel_rfl) (by kernel_rfl) (fun _ _ _ h => h) (Or.inl ⟨by rfl, ?_⟩) hH ?_
  rotate_left
  · ((intro W hW; clear hW; go_simp) <;> with_reducible rfl)
  simp only [sq3, sq4]
  refine wpAnyH_take (i := 9) (v := ?_) rfl (by kernel_rfl) (by kernel_rfl) (by kernel_rfl) (fun _ _ _ h => h) (Or.inl ⟨by rfl, ?_⟩) hH ?_
  rotate_left
  · ((intro W hW; clear hW; go_simp) <;> with_reducible rfl)
  simp only [sq3, sq4]
  refine wpAnyH_take (i := 10) (v := ?_) rfl (by kernel_rfl) (by kernel_rfl) (by kernel_rfl) (fun _ _ _ h => h) (Or.inl ⟨by rfl, ?_⟩) hH ?_
  rotate_left
  · ((intro W hW; clear hW; go_simp) <;> with_reducible rfl)
  simp only [sq3, sq4]
  refine wpAnyH_take (i := 11) (v := ?_) rfl (by kernel_rfl) (by kernel_rfl) (by kernel_rfl) (fun _ _ _ h => h) (Or.inl ⟨by rfl, ?_⟩) hH ?_
  rotate_left
  · ((intro W hW; clear hW; go_simp) <;> with_reducible rfl)
  simp only [sq3, sq4]
  refine wpAnyH_ready (rs := [12]) (by kernel_rfl) (by simp) ?_
  refine AllReadyH.cons (o := _) rfl (fun K hK => ?_) AllReadyH.nil
  simp only [sq3]
  rw [if_pos (by rfl)]
  refine wp_store_el 56 (.tmp 61) (.tmp 59) rfl gE p 0 y (⟨m, a, (nw + secs), y.fx, y.le, y.rp, y.br⟩) rfl [.int .u8 (m.a.toNat : Int), .int .u8 (m.b.toNat : Int), .int .u8 (m.c.toNat : Int), .int .u8 (m.d.toNat : Int), .int .u8 (m.e.toNat : Int), .int .u8 (m.f.toNat : Int), .int .u8 (a.a.toNat : Int), .int .u8 (a.b.toNat : Int), .int .u8 (a.c.toNat : Int), .int .u8 (a.d.toNat : Int), .int .i64 (nw + secs)] rfl (by decide) slE_len own HY.out (Nat.le_of_ble_eq_true rfl) rfl (by kernel_rfl) (by rfl) ?_
  intro w8 own_ gw
  replace bel := bel.trans (row_bel gw own (Nat.le_trans hlo bel.size))
  replace htb := blk_own (v := .slice (some ⟨gE, 0, none⟩) n c) htb gw off_tb
  replace hmB := blk_own (v := .slice (some ⟨gE, 0, none⟩) n c) hmB gw off_mB
  replace haB := blk_own (v := .slice (some ⟨gE, 0, none⟩) n c) haB gw off_aB
  replace kt := kt.trans (kt_row gw own (by simp))
  replace hM := hM.row gw own
  clear own
  have own := own_
  clear own_ gw
  replace en := (owk_sle (by decide) slE_len own).1
  have HY1 : Hid ((l.set p ⟨m, a, (nw + secs), y.fx, y.le, y.rp, y.br⟩)[p]? = some ⟨m, a, (nw + secs), y.fx, y.le, y.rp, y.br⟩) := Lib.hid (List.getElem?_set_self (List.getElem?_eq_some_iff.1 HY.out).1)
  refine hK.out _ _ ⟨hmB, haB, htb⟩ (fun hH9 => ?_)
  clear hK K
  simp only [Act.put]
  refine wpAnyH_done (by kernel_rfl) ?_ _
  go_wp2_with (first | ((with_reducible show wpList _ _ _ (⟨none, Op.store _ (.tmp 64) _, _, _, _, _⟩ :: _) _ _); refine wpList_store_el rfl 4 (.tmp 64) (.const (.bool true)) rfl gE p 12 (⟨m, a, (nw + secs), y.fx, y.le, y.rp, y.br⟩) (⟨m, a, (nw + secs), y.fx, true, y.rp, y.br⟩) rfl [.bool true] rfl (by decide) slE_len own HY1.out (Nat.le_of_ble_eq_true rfl) rfl (by kernel_rfl) (by rfl) ?_; intro w10 own_ gw; replace bel := bel.trans (row_bel gw own (Nat.le_trans hlo bel.size)); replace htb := blk_own (v := .slice (some ⟨gE, 0, none⟩) n c) htb gw off_tb; replace hmB := blk_own (v := .slice (some ⟨gE, 0, none⟩) n c) hmB gw off_mB; replace haB := blk_own (v := .slice (some ⟨gE, 0, none⟩) n c) haB gw off_aB; replace kt := kt.trans (kt_row gw own (by simp)); replace hM := hM.row gw own; clear own; have own := own_; clear own_ gw; replace en := (owk_sle (by decide) slE_len own).1; have HY2 : Hid (((l.set p ⟨m, a, (nw + secs), y.fx, y.le, y.rp, y.br⟩).set p ⟨m, a, (nw + secs), y.fx, true, y.rp, y.br⟩)[p]? = some ⟨m, a, (nw + secs), y.fx, true, y.rp, y.br⟩) := Lib.hid (List.getElem?_set_self (List.getElem?_eq_some_iff.1 HY1.out).1)) | ((with_reducible show wpList _ _ _ (⟨none, Op.store _ (.tmp 67) _, _, _, _, _⟩ :: _) _ _); refine wpList_store_el rfl 4 (.tmp 67) (.const (.bool false)) rfl gE p 13 (⟨m, a, (nw + secs), y.fx, true, y.rp, y.br⟩) (⟨m, a, (nw + secs), y.fx, true, false, y.br⟩) rfl [.bool false] rfl (by decide) slE_len own HY2.out (Nat.le_of_ble_eq_true rfl) rfl (by kernel_rfl) (by rfl) ?_; intro w11 own_ gw; replace bel := bel.trans (row_bel gw own (Nat.le_trans hlo bel.size)); replace htb := blk_own (v := .slice (some ⟨gE, 0, none⟩) n c) htb gw off_tb; replace hmB := blk_own (v := .slice (some ⟨gE, 0, none⟩) n c) hmB gw off_mB; replace haB := blk_own (v := .slice (some ⟨gE, 0, none⟩) n c) haB gw off_aB; replace kt := kt.trans (kt_row gw own (by simp)); replace hM := hM.row gw own; clear own; have own := own_; clear own_ gw; replace en := (owk_sle (by decide) slE_len own).1))
  go_ret
  exact ⟨rfl, (by rw [HNW.out]; exact ⟨(some ⟨gE, 0, none⟩), n, c, mb, htb, otb, hM, (by have h_ := own; rw [List.set_set, List.set_set] at h_; exact h_), HOK3.out⟩), kt, bel⟩
set_option linter.unusedVariables false in
set_option linter.unusedSimpArgs false in
set_option maxRecDepth 100000 in
set_option maxHeartbeats 16000000 in
theorem ptake_move {lo gt : Nat} {now : Int} {hs : List (Mc6 × Ad4)} {l : List Sd} (m : Mc6) (a : Ad4) (t secs : Int) {i p : Nat} {x y : Sd}  (w : World) (hT : Pl lo gt w ⟨now, hs, l⟩) (hpm : permB secs = true) (hr : mayE ⟨padv now t, hs, l⟩ m a = 0) (hf : hldF m (padv now t) l = some i) (hx : l[i]? = some x) (hp : sfpos l a.num = p) (hs_ : sfhas l a.num = true) (hy : (l.set i ⟨x.m, x.ad, 0, x.fx, x.le, x.rp, x.br⟩)[p]? = some y) (hok3 : St.ok ⟨padv now t, hs, (l.set i ⟨x.m, x.ad, 0, x.fx, x.le, x.rp, x.br⟩).set p ⟨m, a, (padv now t + secs), y.fx, true, false, y.br⟩⟩) : Calls Try.prog 46 #[.pointer (some ⟨gt, 0, none⟩), .agg #[.int .u8 (m.a.toNat : Int), .int .u8 (m.b.toNat : Int), .int .u8 (m.c.toNat : Int), .int .u8 (m.d.toNat : Int), .int .u8 (m.e.toNat : Int), .int .u8 (m.f.toNat : Int)], .agg #[.int .u8 (a.a.toNat : Int), .int .u8 (a.b.toNat : Int), .int .u8 (a.c.toNat : Int), .int .u8 (a.d.toNat : Int)], .int .i64 t, .int .i64 secs] w fun e w' => e = .returned (.int .i64 0) ∧ Pl lo gt w' ⟨(padv now t), hs, ((l.set i ⟨x.m, x.ad, 0, x.fx, x.le, x.rp, x.br⟩).set p ⟨m, a, (padv now t + secs), y.fx, true, false, y.br⟩)⟩ ∧ Kt [84, 101] w w' ∧ Below lo w w' := by
  obtain ⟨A, n, c, mb, htb, otb, hM, own, hok⟩ := hT
  dsimp only at htb hM own
  have hlo : lo ≤ w.heap.size := Nat.le_trans otb (Nat.le_of_lt (hlt htb))
  have off_tb := ofs_type own htb (by decide)
  have hl := row_len (by decide) slE_len own
  have HLL := Lib.hid hl
  have HLO := Lib.hid hlo
  have HOK := Lib.hid hok
  have H32 : Hid (n ≤ 1000) := Lib.hid (by have := hok.len; simp only at this; omega)
  have kt := Kt.refl [84, 101] w
  clear hl hok
  obtain ⟨nw, hnw⟩ : ∃ x, padv now t = x := ⟨_, rfl⟩
  have HNW := Lib.hid hnw
  have HOK2 : Hid (St.ok ⟨nw, hs, l⟩) := Lib.hid (by rw [← hnw]; exact HOK.out.adv t)
  have n0_ : 0 ≤ nw := HOK2.out.n0
  have n1_ : nw ≤ 1099511627776 := HOK2.out.n1
  have N0_ := Lib.hid n0_
  have N1_ := Lib.hid n1_
  clear hnw n0_ n1_
  have hf_ : _ := hf
  rw [HNW.out] at hf_
  clear hf
  have hf := hf_
  clear hf_
  have hsb := perm_le hpm
  have hwr : IntKind.i64.wrap (nw + secs) = nw + secs := IntWalk.i64_in _ (by have := N0_.out; have := N1_.out; omega)
  clear hsb
  have HPM := Lib.hid hpm
  clear hpm
  have hr_ : _ := hr
  rw [HNW.out] at hr_
  have HR := Lib.hid hr_
  clear hr hr_
  have hin_ : i < n := by have h1_ := (List.getElem?_eq_some_iff.1 hx).1; have h2_ := HLL.out; omega
  have i0 : (0 : Int) ≤ i := by omega
  have i1 : (i : Int) < n := by omega
  obtain ⟨gE, rfl, _⟩ := row_at own (by omega)
  have en := (owk_sle (by decide) slE_len own).1
  have av_en_tb := owk_av own off_tb
  have hpn_ : p < n := by have h1_ := (List.getElem?_eq_some_iff.1 hy).1; have h2_ := HLL.out; simp only [List.length_set] at h1_; omega
  have k0 : (0 : Int) ≤ p := by omega
  have k1 : (p : Int) < n := by omega
  have HOK3 : Hid (St.ok ⟨nw, hs, (l.set i ⟨x.m, x.ad, 0, x.fx, x.le, x.rp, x.br⟩).set p ⟨m, a, (nw + secs), y.fx, true, false, y.br⟩⟩) := Lib.hid (by rw [← HNW.out]; exact hok3)
  clear hok3
  have hmp := map_set (y := ⟨x.m, x.ad, 0, x.fx, x.le, x.rp, x.br⟩) hx rfl
  have HS1 : Hid (SSrt (l.set i ⟨x.m, x.ad, 0, x.fx, x.le, x.rp, x.br⟩)) := Lib.hid (ssrt_map hmp HOK2.out.srt)
  have HP1 : Hid (sfpos (l.set i ⟨x.m, x.ad, 0, x.fx, x.le, x.rp, x.br⟩) a.num = p) := Lib.hid ((sfpos_map hmp _).trans hp)
  have HF1 : Hid (sfhas (l.set i ⟨x.m, x.ad, 0, x.fx, x.le, x.rp, x.br⟩) a.num = true) := Lib.hid ((sfhas_map hmp _).trans hs_)
  clear hmp hp hs_
  have HF := Lib.hid hf
  clear hf
  have HX := Lib.hid hx
  clear hx
  have HY := Lib.hid hy
  clear hy
  have bel := Below.refl lo w
  go_enter Try.func46, Try.ntmps46
  go_wp2_with (first | ((with_reducible show wpList _ _ _ (⟨some 6, _, _, _, _, _⟩ :: _) _ _); refine wpList_box_n rfl 32 (.tmp 1) rfl #[.int .u8 (m.a.toNat : Int), .int .u8 (m.b.toNat : Int), .int .u8 (m.c.toNat : Int), .int .u8 (m.d.toNat : Int), .int .u8 (m.e.toNat : Int), .int .u8 (m.f.toNat : Int)] rfl ?_; intro g6 w1 ge lt hh bb; have d_tb_mB := ne_new (hlt htb) ge; have av_en_mB := en.av_new ge; have omB := Nat.le_trans (Nat.le_trans hlo bel.size) ge; have off_mB := owk_new own ge; have pn_mB := Nat.le_trans bel.size ge; replace htb := blk_u htb bb; replace en := en.below bb; replace own := owk_under own bb; replace kt := kt.trans (kt_below bb); replace hM := hM.below bb; replace bel := bel.trans (bb.mono (Nat.le_trans hlo bel.size)); have hmB := hh; clear hh lt ge bb) | ((with_reducible show wpList _ _ _ (⟨some 7, _, _, _, _, _⟩ :: _) _ _); refine wpList_box_n rfl 28 (.tmp 2) rfl #[.int .u8 (a.a.toNat : Int), .int .u8 (a.b.toNat : Int), .int .u8 (a.c.toNat : Int), .int .u8 (a.d.toNat : Int)] rfl ?_; intro g7 w2 ge lt hh bb; have d_tb_aB := ne_new (hlt htb) ge; have d_mB_aB := ne_new (hlt hmB) ge; have av_en_aB := en.av_new ge; have oaB := Nat.le_trans (Nat.le_trans hlo bel.size) ge; have off_aB := owk_new own ge; have pn_aB := Nat.le_trans bel.size ge; replace htb := blk_u htb bb; replace hmB := blk_u hmB bb; replace en := en.below bb; replace own := owk_under own bb; replace kt := kt.trans (kt_below bb); replace hM := hM.below bb; replace bel := bel.trans (bb.mono (Nat.le_trans hlo bel.size)); have haB := hh; clear hh lt ge bb))
  with_reducible refine (padv_any _ _ htb).mono ?_
  rintro e w3 ⟨rfl, htb_, b3⟩
  replace en := en.away av_en_tb b3
  replace hmB := blk_a hmB b3 (ne_symm d_tb_mB)
  replace haB := blk_a haB b3 (ne_symm d_tb_aB)
  replace own := owk_off own off_tb b3
  replace kt := kt.trans (kt_grown b3 htb (by simp))
  replace hM := hM.grown b3 htb
  replace bel := below_grown bel b3 otb (Nat.le_trans hlo bel.size)
  clear b3
  clear htb
  rw [HNW.out] at htb_
  have htb := htb_
  clear htb_
  go_wp2_with fail
  with_reducible refine (perm_any _ HPM.out).mono ?_
  rintro e _ ⟨rfl, rfl⟩
  have R23 := Lib.hid (range_lit hmB 0 6 [.int .u8 (m.a.toNat : Int), .int .u8 (m.b.toNat : Int), .int .u8 (m.c.toNat : Int), .int .u8 (m.d.toNat : Int), .int .u8 (m.e.toNat : Int), .int .u8 (m.f.toNat : Int)] rfl)
  go_wp2_with (first | ((with_reducible show wpList _ _ _ (⟨some 23, _, _, _, _, _⟩ :: _) _ _); refine wpList_load_rng 32 (.tmp 6) rfl (by kernel_rfl) _ _ rfl _ R23.out _ Try.underlying32 rfl (by kernel_rfl) ?_; have R24 := Lib.hid (range_lit haB 0 4 [.int .u8 (a.a.toNat : Int), .int .u8 (a.b.toNat : Int), .int .u8 (a.c.toNat : Int), .int .u8 (a.d.toNat : Int)] rfl)) | ((with_reducible show wpList _ _ _ (⟨some 24, _, _, _, _, _⟩ :: _) _ _); refine wpList_load_rng 28 (.tmp 7) rfl (by kernel_rfl) _ _ rfl _ R24.out _ Try.underlying28 rfl (by kernel_rfl) ?_))
  try clear R23
  try clear R24
  with_reducible refine (may_any m a _ htb own H32.out hM HOK2.out.srt HR.out).mono ?_
  rintro e w4 ⟨rfl, b4⟩
  replace htb := blk_u htb b4
  replace hmB := blk_u hmB b4
  replace haB := blk_u haB b4
  replace en := en.below b4
  replace own := owk_under own b4
  replace kt := kt.trans (kt_below b4)
  replace hM := hM.below b4
  replace bel := bel.trans (b4.mono (Nat.le_trans hlo bel.size))
  clear b4
  have R30 := Lib.hid (range_lit hmB 0 6 [.int .u8 (m.a.toNat : Int), .int .u8 (m.b.toNat : Int), .int .u8 (m.c.toNat : Int), .int .u8 (m.d.toNat : Int), .int .u8 (m.e.toNat : Int), .int .u8 (m.f.toNat : Int)] rfl)
  go_wp2_with (first | ((with_reducible show wpList _ _ _ (⟨some 30, _, _, _, _, _⟩ :: _) _ _); refine wpList_load_rng 32 (.tmp 6) rfl (by kernel_rfl) _ _ rfl _ R30.out _ Try.underlying32 rfl (by kernel_rfl) ?_))
  try clear R30
  with_reducible refine (lof_at m _ htb own H32.out HF.out).mono ?_
  rintro e w5 ⟨rfl, b5⟩
  replace htb := blk_u htb b5
  replace hmB := blk_u hmB b5
  replace haB := blk_u haB b5
  replace en := en.below b5
  replace own := owk_under own b5
  replace kt := kt.trans (kt_below b5)
  replace hM := hM.below b5
  replace bel := bel.trans (b5.mono (Nat.le_trans hlo bel.size))
  clear b5
  go_wp2_with (first | ((with_reducible show wpList _ _ _ (⟨none, Op.store _ (.tmp 37) _, _, _, _, _⟩ :: _) _ _); refine wpList_store_el rfl 2 (.tmp 37) (.const (.int .i64 0)) rfl gE i 10 x (⟨x.m, x.ad, 0, x.fx, x.le, x.rp, x.br⟩) rfl [.int .i64 0] rfl (by decide) slE_len own HX.out (Nat.le_of_ble_eq_true rfl) rfl (by kernel_rfl) (by rfl) ?_; intro w6 own_ gw; replace bel := bel.trans (row_bel gw own (Nat.le_trans hlo bel.size)); replace htb := blk_own (v := .slice (some ⟨gE, 0, none⟩) n c) htb gw off_tb; replace hmB := blk_own (v := .slice (some ⟨gE, 0, none⟩) n c) hmB gw off_mB; replace haB := blk_own (v := .slice (some ⟨gE, 0, none⟩) n c) haB gw off_aB; replace kt := kt.trans (kt_row gw own (by simp)); replace hM := hM.row gw own; clear own; have own := own_; clear own_ gw; replace en := (owk_sle (by decide) slE_len own).1; have R40 := Lib.hid (range_lit haB 0 4 [.int .u8 (a.a.toNat : Int), .int .u8 (a.b.toNat : Int), .int .u8 (a.c.toNat : Int), .int .u8 (a.d.toNat : Int)] rfl)) | ((with_reducible show wpList _ _ _ (⟨some 40, _, _, _, _, _⟩ :: _) _ _); refine wpList_load_rng 28 (.tmp 7) rfl (by kernel_rfl) _ _ rfl _ R40.out _ Try.underlying28 rfl (by kernel_rfl) ?_))
  try clear R40
  with_reducible refine (pfind_is a _ htb (owk_sle (by decide) slE_len own).1 HS1.out H32.out HP1.out HF1.out).mono ?_
  rintro e w7 ⟨rfl, b7⟩
  replace htb := blk_u htb b7
  replace hmB := blk_u hmB b7
  replace haB := blk_u haB b7
  replace en := en.below b7
  replace own := owk_under own b7
  replace kt := kt.trans (kt_below b7)
  replace hM := hM.below b7
  replace bel := bel.trans (b7.mono (Nat.le_trans hlo bel.size))
  clear b7
  have R47 := cell_lit htb 2 _ rfl
  go_wp2_with fail
  clear R47
  replace bel := bel.drew
  replace htb : w7.drew.heap[gt]? = _ := htb
  replace hmB : w7.drew.heap[g6]? = _ := hmB
  replace haB : w7.drew.heap[g7]? = _ := haB
  replace en := en.drew
  replace own := World.ownsRow.drew own
  replace kt := kt_drew kt
  replace hM := hm_drew hM
  refine wp_region_held_drew (S := fun W => W.heap[g6]? = some (.cells #[.int .u8 (m.a.toNat : Int), .int .u8 (m.b.toNat : Int), .int .u8 (m.c.toNat : Int), .int .u8 (m.d.toNat : Int), .int .u8 (m.e.toNat : Int), .int .u8 (m.f.toNat : Int)] 32 (0, 0)) ∧ W.heap[g7]? = some (.cells #[.int .u8 (a.a.toNat : Int), .int .u8 (a.b.toNat : Int), .int .u8 (a.c.toNat : Int), .int .u8 (a.d.toNat : Int)] 28 (0, 0)) ∧ W.heap[gt]? = some (.cells #[.int .i64 nw, .map (some mb), .slice (some ⟨gE, 0, none⟩) n c] 84 (0, 0))) (by kernel_rfl) ⟨hmB, haB, htb⟩ (fun hH => ?_)
  generalize w7.drew = w8 at bel htb hmB haB en own kt hM hH ⊢
  refine wpAnyH_take (i := 0) (v := ?_) rfl (by kernel_rfl) (by kernel_rfl) (by kernel_rfl) (fun _ _ _ h => h) (Or.inl ⟨by rfl, ?_⟩) hH ?_
  rotate_left
  · ((intro W hW; clear hW; go_simp) <;> with_reducible rfl)
  simp only [Act.put, List.getElem_toArray, List.getElem_cons_zero, List.setIfInBounds_toArray, List.set_cons_zero, List.set_cons_succ]
  refine wpAnyH_take (i := 1) (v := .agg #[.int .u8 (m.a.toNat : Int), .int .u8 (m.b.toNat : Int), .int .u8 (m.c.toNat : Int), .int .u8 (m.d.toNat : Int), .int .u8 (m.e.toNat : Int), .int .u8 (m.f.toNat : Int)]) rfl (by kernel_rfl) (by kernel_rfl) (by kernel_rfl) (fun _ _ _ h => h) (yieldsIf_load_part (by kernel_rfl) 32 _ rfl g6 0 6 rfl _ 32 (0, 0) (fun W hW => hW.1) _ rfl _ Try.underlying32 rfl (by kernel_rfl)) hH ?_
  simp only [sq3, sq4]
  refine wpAnyH_take (i := 2) (v := .agg #[.int .u8 (a.a.toNat : Int), .int .u8 (a.b.toNat : Int), .int .u8 (a.c.toNat : Int), .int .u8 (a.d.toNat : Int)]) rfl (by kernel_rfl) (by kernel_rfl) (by kernel_rfl) (fun _ _ _ h => h) (yieldsIf_load_part (by kernel_rfl) 28 _ rfl g7 0 4 rfl _ 28 (0, 0) (fun W hW => hW.2.1) _ rfl _ Try.underlying28 rfl (by kernel_rfl)) hH ?_
  simp only [sq3, sq4]
  refine wpAnyH_take (i := 3) (v := ?_) rfl (by kernel_rfl) (by kernel_rfl) (by kernel_rfl) (fun _ _ _ h => h) (Or.inl ⟨by rfl, ?_⟩) hH ?_
  rotate_left
  · ((intro W hW; clear hW; go_simp) <;> with_reducible rfl)
  simp only [sq3, sq4]
  refine wpAnyH_take (i := 4) (v := ?_) rfl (by kernel_rfl) (by kernel_rfl) (by kernel_rfl) (fun _ _ _ h => h) (Or.inl ⟨by rfl, ?_⟩) hH ?_
  rotate_left
  · ((intro W hW; clear hW; go_simp) <;> with_reducible rfl)
  simp only [sq3, sq4]
  refine wpAnyH_take (i := 5) (v := ?_) rfl (by kernel_rfl) (by kernel_rfl) (by kernel_rfl) (fun _ _ _ h => h) (Or.inl ⟨by rfl, ?_⟩) hH ?_
  rotate_left
  · ((intro W hW; clear hW; go_simp) <;> with_reducible rfl)
  simp only [sq3, sq4]
  refine wpAnyH_take (i := 6) (v := ?_) rfl (by kernel_rfl) (by kernel_rfl) (by kernel_rfl) (fun _ _ _ h => h) (Or.inl ⟨by rfl, ?_⟩) hH ?_
  rotate_left
  · ((intro W hW; have hk := cell_lit (hW.2.2) 0 _ rfl; clear hW; go_simp) <;> with_reducible rfl)
  simp only [sq3, sq4]
  refine wpAnyH_take (i := 7) (v := ?_) rfl (by kernel_rfl) (by kernel_rfl) (by kernel_rfl) (fun _ _ _ h => h) (Or.inl ⟨by rfl, ?_⟩) hH ?_
  rotate_left
  · ((intro W hW; clear hW; go_simp) <;> with_reducible rfl)
  simp only [sq3, sq4]
  refine wpAnyH_take (i := 8) (v := ?_) rfl (by kernel_rfl) (by kernel_rfl) (by kernel_rfl) (fun _ _ _ h => h) (Or.inl ⟨by rfl, ?_⟩) hH ?_
  rotate_left
  · ((intro W hW; clear hW; go_simp) <;> with_reducible rfl)
  simp only [sq3, sq4]
  refine wpAnyH_take (i := 9) (v := ?_) rfl (by kernel_rfl) (by kernel_rfl) (by kernel_rfl) (fun _ _ _ h => h) (Or.inl ⟨by rfl, ?_⟩) hH ?_
  rotate_left
  · ((intro W hW; clear hW; go_simp) <;> with_reducible rfl)
  simp only [sq3, sq4]
  refine wpAnyH_take (i := 10) (v := ?_) rfl (by kernel_rfl) (by kernel_rfl) (by kernel_rfl) (fun _ _ _ h => h) (Or.inl ⟨by rfl, ?_⟩) hH ?_
  rotate_left
  · ((intro W hW; clear hW; go_simp) <;> with_reducible rfl)
  simp only [sq3, sq4]
  refine wpAnyH_take (i := 11) (v := ?_) rfl (by kernel_rfl) (by kernel_rfl) (by kernel_rfl) (fun _ _ _ h => h) (Or.inl ⟨by rfl, ?_⟩) hH ?_
  rotate_left
  · ((intro W hW; clear hW; go_simp) <;> with_reducible rfl)
  simp only [sq3, sq4]
  refine wpAnyH_ready (rs := [12]) (by kernel_rfl) (by simp) ?_
  refine AllReadyH.cons (o := _) rfl (fun K hK => ?_) AllReadyH.nil
  simp only [sq3]
  rw [if_pos (by rfl)]
  refine wp_store_el 56 (.tmp 61) (.tmp 59) rfl gE p 0 y (⟨m, a, (nw + secs), y.fx, y.le, y.rp, y.br⟩) rfl [.int .u8 (m.a.toNat : Int), .int .u8 (m.b.toNat : Int), .int .u8 (m.c.toNat : Int), .int .u8 (m.d.toNat : Int), .int .u8 (m.e.toNat : Int), .int .u8 (m.f.toNat : Int), .int .u8 (a.a.toNat : Int), .int .u8 (a.b.toNat : Int), .int .u8 (a.c.toNat : Int), .int .u8 (a.d.toNat : Int), .int .i64 (nw + secs)] rfl (by decide) slE_len own HY.out (Nat.le_of_ble_eq_true rfl) rfl (by kernel_rfl) (by rfl) ?_
  intro w9 own_ gw
  replace bel := bel.trans (row_bel gw own (Nat.le_trans hlo bel.size))
  replace htb := blk_own (v := .slice (some ⟨gE, 0, none⟩) n c) htb gw off_tb
  replace hmB := blk_own (v := .slice (some ⟨gE, 0, none⟩) n c) hmB gw off_mB
  replace haB := blk_own (v := .slice (some ⟨gE, 0, none⟩) n c) haB gw off_aB
  replace kt := kt.trans (kt_row gw own (by simp))
  replace hM := hM.row gw own
  clear own
  have own := own_
  clear own_ gw
  replace en := (owk_sle (by decide) slE_len own).1
  have HY1 : Hid (((l.set i ⟨x.m, x.ad, 0, x.fx, x.le, x.rp, x.br⟩).set p ⟨m, a, (nw + secs), y.fx, y.le, y.rp, y.br⟩)[p]? = some ⟨m, a, (nw + secs), y.fx, y.le, y.rp, y.br⟩) := Lib.hid (List.getElem?_set_self (List.getElem?_eq_some_iff.1 HY.out).1)
  refine hK.out _ _ ⟨hmB, haB, htb⟩ (fun hH10 => ?_)
  clear hK K
  simp only [Act.put]
  refine wpAnyH_done (by kernel_rfl) ?_ _
  go_wp2_with (first | ((with_reducible show wpList _ _ _ (⟨none, Op.store _ (.tmp 64) _, _, _, _, _⟩ :: _) _ _); refine wpList_store_el rfl 4 (.tmp 64) (.const (.bool true)) rfl gE p 12 (⟨m, a, (nw + secs), y.fx, y.le, y.rp, y.br⟩) (⟨m, a, (nw + secs), y.fx, true, y.rp, y.br⟩) rfl [.bool true] rfl (by decide) slE_len own HY1.out (Nat.le_of_ble_eq_true rfl) rfl (by kernel_rfl) (by rfl) ?_; intro w11 own_ gw; replace bel := bel.trans (row_bel gw own (Nat.le_trans hlo bel.size)); replace htb := blk_own (v := .slice (some ⟨gE, 0, none⟩) n c) htb gw off_tb; replace hmB := blk_own (v := .slice (some ⟨gE, 0, none⟩) n c) hmB gw off_mB; replace haB := blk_own (v := .slice (some ⟨gE, 0, none⟩) n c) haB gw off_aB; replace kt := kt.trans (kt_row gw own (by simp)); replace hM := hM.row gw own; clear own; have own := own_; clear own_ gw; replace en := (owk_sle (by decide) slE_len own).1; have HY2 : Hid ((((l.set i ⟨x.m, x.ad, 0, x.fx, x.le, x.rp, x.br⟩).set p ⟨m, a, (nw + secs), y.fx, y.le, y.rp, y.br⟩).set p ⟨m, a, (nw + secs), y.fx, true, y.rp, y.br⟩)[p]? = some ⟨m, a, (nw + secs), y.fx, true, y.rp, y.br⟩) := Lib.hid (List.getElem?_set_self (List.getElem?_eq_some_iff.1 HY1.out).1)) | ((with_reducible show wpList _ _ _ (⟨none, Op.store _ (.tmp 67) _, _, _, _, _⟩ :: _) _ _); refine wpList_store_el rfl 4 (.tmp 67) (.const (.bool false)) rfl gE p 13 (⟨m, a, (nw + secs), y.fx, true, y.rp, y.br⟩) (⟨m, a, (nw + secs), y.fx, true, false, y.br⟩) rfl [.bool false] rfl (by decide) slE_len own HY2.out (Nat.le_of_ble_eq_true rfl) rfl (by kernel_rfl) (by rfl) ?_; intro w12 own_ gw; replace bel := bel.trans (row_bel gw own (Nat.le_trans hlo bel.size)); replace htb := blk_own (v := .slice (some ⟨gE, 0, none⟩) n c) htb gw off_tb; replace hmB := blk_own (v := .slice (some ⟨gE, 0, none⟩) n c) hmB gw off_mB; replace haB := blk_own (v := .slice (some ⟨gE, 0, none⟩) n c) haB gw off_aB; replace kt := kt.trans (kt_row gw own (by simp)); replace hM := hM.row gw own; clear own; have own := own_; clear own_ gw; replace en := (owk_sle (by decide) slE_len own).1))
  go_ret
  exact ⟨rfl, (by rw [HNW.out]; exact ⟨(some ⟨gE, 0, none⟩), n, c, mb, htb, otb, hM, (by have h_ := own; rw [List.set_set, List.set_set] at h_; exact h_), HOK3.out⟩), kt, bel⟩
theorem ptake_any {lo gt : Nat} {s s' : St} (m : Mc6) (a : Ad4) (t secs : Int) (w : World) (hT : Pl lo gt w s) {r : Int} (hr : takeS s m a t secs = (r, s')) : Calls Try.prog 46 #[.pointer (some ⟨gt, 0, none⟩), .agg #[.int .u8 (m.a.toNat : Int), .int .u8 (m.b.toNat : Int), .int .u8 (m.c.toNat : Int), .int .u8 (m.d.toNat : Int), .int .u8 (m.e.toNat : Int), .int .u8 (m.f.toNat : Int)], .agg #[.int .u8 (a.a.toNat : Int), .int .u8 (a.b.toNat : Int), .int .u8 (a.c.toNat : Int), .int .u8 (a.d.toNat : Int)], .int .i64 t, .int .i64 secs] w fun e w' => e = .returned (.int .i64 r) ∧ Pl lo gt w' s' ∧ Kt [84, 101] w w' ∧ Below lo w w' := by
  have hok := takeS_ok hT.ok m a t secs
  rw [hr] at hok
  obtain ⟨now, hs, l⟩ := s
  have hok1 := hT.ok
  unfold takeS at hr
  cases hpm : permB secs with
  | false =>
    simp only [hpm, Bool.false_eq_true, if_false] at hr
    injection hr with h1 h2
    subst h1; subst h2
    exact ptake_arg m a t secs w hT hpm
  | true =>
    simp only [hpm, if_true] at hr
    obtain ⟨q, hq⟩ : ∃ q, mayE ⟨padv now t, hs, l⟩ m a = q := ⟨_, rfl⟩
    have hq' : mayE (St.adv ⟨now, hs, l⟩ t) m a = q := hq
    simp only [hq'] at hr
    by_cases h0 : q = 0
    · subst h0
      simp only [beq_self_eq_true, if_true] at hr
      injection hr with h1 h2
      subst h1; subst h2
      have hs_ : sfhas l a.num = true := mayE_has (hok1.adv t) hq
      obtain ⟨x0, hx0, _⟩ := sfhas_at hs_
      have hn : (St.adv ⟨now, hs, l⟩ t).now = padv now t := rfl
      have hl : (St.l ⟨now, hs, l⟩) = l := rfl
      cases hf : hldF m (padv now t) l with
      | none =>
        have he : slPut (endL m (St.adv ⟨now, hs, l⟩ t).now (St.l ⟨now, hs, l⟩)) m a ((St.adv ⟨now, hs, l⟩ t).now + secs) = l.set (sfpos l a.num) ⟨m, a, padv now t + secs, x0.fx, true, false, x0.br⟩ := by
          simp only [hn, endL, hf, slPut]
          rw [modify_at hx0]
        rw [he] at hok ⊢
        exact ptake_new m a t secs w hT hpm hq hf rfl hs_ hx0 hok
      | some i =>
        obtain ⟨x, hx, _⟩ := hldF_at hf
        have hmp : (l.set i ⟨x.m, x.ad, 0, x.fx, x.le, x.rp, x.br⟩).map Sd.num = l.map Sd.num := map_set hx rfl
        obtain ⟨y, hy⟩ : ∃ y, (l.set i ⟨x.m, x.ad, 0, x.fx, x.le, x.rp, x.br⟩)[sfpos l a.num]? = some y := ⟨_, List.getElem?_eq_getElem (by rw [List.length_set]; exact (List.getElem?_eq_some_iff.1 hx0).1)⟩
        have he : slPut (endL m (St.adv ⟨now, hs, l⟩ t).now (St.l ⟨now, hs, l⟩)) m a ((St.adv ⟨now, hs, l⟩ t).now + secs) = (l.set i ⟨x.m, x.ad, 0, x.fx, x.le, x.rp, x.br⟩).set (sfpos l a.num) ⟨m, a, padv now t + secs, y.fx, true, false, y.br⟩ := by
          simp only [hn, endL, hf, slPut]
          rw [modify_at hx, sfpos_map hmp, modify_at hy]
        rw [he] at hok ⊢
        exact ptake_move m a t secs w hT hpm hq hf hx rfl hs_ hy hok
    · have h0' : (q == 0) = false := beq_eq_false_iff_ne.2 h0
      simp only [h0', Bool.false_eq_true, if_false] at hr
      injection hr with h1 h2
      subst h1; subst h2
      exact ptake_no m a t secs w hT hpm hq h0
set_option linter.unusedVariables false in
set_option linter.unusedSimpArgs false in
set_option maxRecDepth 100000 in
set_option maxHeartbeats 16000000 in
theorem pbar_no0 {lo gt : Nat} {now : Int} {hs : List (Mc6 × Ad4)} {l : List Sd} (a : Ad4) (t secs : Int)  (w : World) (hT : Pl lo gt w ⟨now, hs, l⟩) (hs_ : sfhas l a.num = false) : Calls Try.prog 48 #[.pointer (some ⟨gt, 0, none⟩), .agg #[.int .u8 (a.a.toNat : Int), .int .u8 (a.b.toNat : Int), .int .u8 (a.c.toNat : Int), .int .u8 (a.d.toNat : Int)], .int .i64 t, .int .i64 secs] w fun e w' => e = .returned (.bool false) ∧ Pl lo gt w' ⟨(padv now t), hs, l⟩ ∧ Kt [84, 101] w w' ∧ Below lo w w' := by
  obtain ⟨A, n, c, mb, htb, otb, hM, own, hok⟩ := hT
  dsimp only at htb hM own
  have hlo : lo ≤ w.heap.size := Nat.le_trans otb (Nat.le_of_lt (hlt htb))
  have off_tb := ofs_type own htb (by decide)
  have hl := row_len (by decide) slE_len own
  have HLL := Lib.hid hl
  have HLO := Lib.hid hlo
  have HOK := Lib.hid hok
  have H32 : Hid (n ≤ 1000) := Lib.hid (by have := hok.len; simp only at this; omega)
  have kt := Kt.refl [84, 101] w
  clear hl hok
  obtain ⟨nw, hnw⟩ : ∃ x, padv now t = x := ⟨_, rfl⟩
  have HNW := Lib.hid hnw
  have HOK2 : Hid (St.ok ⟨nw, hs, l⟩) := Lib.hid (by rw [← hnw]; exact HOK.out.adv t)
  have n0_ : 0 ≤ nw := HOK2.out.n0
  have n1_ : nw ≤ 1099511627776 := HOK2.out.n1
  have N0_ := Lib.hid n0_
  have N1_ := Lib.hid n1_
  clear hnw n0_ n1_
  have HFS := Lib.hid hs_
  clear hs_
  obtain ⟨p, hp⟩ : ∃ p, sfpos l a.num = p := ⟨_, rfl⟩
  have HP := Lib.hid hp
  clear hp
  have bel := Below.refl lo w
  go_enter Try.func48, Try.ntmps48
  go_wp2_with (first | ((with_reducible show wpList _ _ _ (⟨some 5, _, _, _, _, _⟩ :: _) _ _); refine wpList_box_n rfl 28 (.tmp 1) rfl #[.int .u8 (a.a.toNat : Int), .int .u8 (a.b.toNat : Int), .int .u8 (a.c.toNat : Int), .int .u8 (a.d.toNat : Int)] rfl ?_; intro g5 w1 ge lt hh bb; have d_tb_aB := ne_new (hlt htb) ge; have oaB := Nat.le_trans (Nat.le_trans hlo bel.size) ge; have off_aB := owk_new own ge; have pn_aB := Nat.le_trans bel.size ge; replace htb := blk_u htb bb; replace own := owk_under own bb; replace kt := kt.trans (kt_below bb); replace hM := hM.below bb; replace bel := bel.trans (bb.mono (Nat.le_trans hlo bel.size)); have haB := hh; clear hh lt ge bb))
  with_reducible refine (padv_any _ _ htb).mono ?_
  rintro e w2 ⟨rfl, htb_, b2⟩
  replace haB := blk_a haB b2 (ne_symm d_tb_aB)
  replace own := owk_off own off_tb b2
  replace kt := kt.trans (kt_grown b2 htb (by simp))
  replace hM := hM.grown b2 htb
  replace bel := below_grown bel b2 otb (Nat.le_trans hlo bel.size)
  clear b2
  clear htb
  rw [HNW.out] at htb_
  have htb := htb_
  clear htb_
  have R16 := Lib.hid (range_lit haB 0 4 [.int .u8 (a.a.toNat : Int), .int .u8 (a.b.toNat : Int), .int .u8 (a.c.toNat : Int), .int .u8 (a.d.toNat : Int)] rfl)
  go_wp2_with (first | ((with_reducible show wpList _ _ _ (⟨some 16, _, _, _, _, _⟩ :: _) _ _); refine wpList_load_rng 28 (.tmp 5) rfl (by kernel_rfl) _ _ rfl _ R16.out _ Try.underlying28 rfl (by kernel_rfl) ?_))
  try clear R16
  with_reducible refine (pfind_is a _ htb (owk_sle (by decide) slE_len own).1 HOK2.out.srt H32.out HP.out HFS.out).mono ?_
  rintro e w3 ⟨rfl, b3⟩
  replace htb := blk_u htb b3
  replace haB := blk_u haB b3
  replace own := owk_under own b3
  replace kt := kt.trans (kt_below b3)
  replace hM := hM.below b3
  replace bel := bel.trans (b3.mono (Nat.le_trans hlo bel.size))
  clear b3
  go_wp2_with fail
  go_ret
  exact ⟨rfl, (by rw [HNW.out]; exact ⟨A, n, c, mb, htb, otb, hM, own, HOK2.out⟩), kt, bel⟩
set_option linter.unusedVariables false in
set_option linter.unusedSimpArgs false in
set_option maxRecDepth 100000 in
set_option maxHeartbeats 16000000 in
theorem pbar_no1 {lo gt : Nat} {now : Int} {hs : List (Mc6 × Ad4)} {l : List Sd} (a : Ad4) (t secs : Int) {i : Nat} {xm : Mc6} {xa : Ad4} {xu : Int} {xl xr : Bool} {xb : Int}  (w : World) (hT : Pl lo gt w ⟨now, hs, l⟩) (hs_ : sfhas l a.num = true) (hp : sfpos l a.num = i) (hx : l[i]? = some ⟨xm, xa, xu, true, xl, xr, xb⟩) : Calls Try.prog 48 #[.pointer (some ⟨gt, 0, none⟩), .agg #[.int .u8 (a.a.toNat : Int), .int .u8 (a.b.toNat : Int), .int .u8 (a.c.toNat : Int), .int .u8 (a.d.toNat : Int)], .int .i64 t, .int .i64 secs] w fun e w' => e = .returned (.bool false) ∧ Pl lo gt w' ⟨(padv now t), hs, l⟩ ∧ Kt [84, 101] w w' ∧ Below lo w w' := by
  obtain ⟨A, n, c, mb, htb, otb, hM, own, hok⟩ := hT
  dsimp only at htb hM own
  have hlo : lo ≤ w.heap.size := Nat.le_trans otb (Nat.le_of_lt (hlt htb))
  have off_tb := ofs_type own htb (by decide)
  have hl := row_len (by decide) slE_len own
  have HLL := Lib.hid hl
  have HLO := Lib.hid hlo
  have HOK := Lib.hid hok
  have H32 : Hid (n ≤ 1000) := Lib.hid (by have := hok.len; simp only at this; omega)
  have kt := Kt.refl [84, 101] w
  clear hl hok
  obtain ⟨nw, hnw⟩ : ∃ x, padv now t = x := ⟨_, rfl⟩
  have HNW := Lib.hid hnw
  have HOK2 : Hid (St.ok ⟨nw, hs, l⟩) := Lib.hid (by rw [← hnw]; exact HOK.out.adv t)
  have n0_ : 0 ≤ nw := HOK2.out.n0
  have n1_ : nw ≤ 1099511627776 := HOK2.out.n1
  have N0_ := Lib.hid n0_
  have N1_ := Lib.hid n1_
  clear hnw n0_ n1_
  have hin_ : i < n := by have h1_ := (List.getElem?_eq_some_iff.1 hx).1; have h2_ := HLL.out; omega
  have i0 : (0 : Int) ≤ i := by omega
  have i1 : (i : Int) < n := by omega
  obtain ⟨gE, rfl, _⟩ := row_at own (by omega)
  have en := (owk_sle (by decide) slE_len own).1
  have av_en_tb := owk_av own off_tb
  have HFS := Lib.hid hs_
  clear hs_
  have HP := Lib.hid hp
  clear hp
  have HX := Lib.hid hx
  clear hx
  have bel := Below.refl lo w
  go_enter Try.func48, Try.ntmps48
  go_wp2_with (first | ((with_reducible show wpList _ _ _ (⟨some 5, _, _, _, _, _⟩ :: _) _ _); refine wpList_box_n rfl 28 (.tmp 1) rfl #[.int .u8 (a.a.toNat : Int), .int .u8 (a.b.toNat : Int), .int .u8 (a.c.toNat : Int), .int .u8 (a.d.toNat : Int)] rfl ?_; intro g5 w1 ge lt hh bb; have d_tb_aB := ne_new (hlt htb) ge; have av_en_aB := en.av_new ge; have oaB := Nat.le_trans (Nat.le_trans hlo bel.size) ge; have off_aB := owk_new own ge; have pn_aB := Nat.le_trans bel.size ge; replace htb := blk_u htb bb; replace en := en.below bb; replace own := owk_under own bb; replace kt := kt.trans (kt_below bb); replace hM := hM.below bb; replace bel := bel.trans (bb.mono (Nat.le_trans hlo bel.size)); have haB := hh; clear hh lt ge bb))
  with_reducible refine (padv_any _ _ htb).mono ?_
  rintro e w2 ⟨rfl, htb_, b2⟩
  replace en := en.away av_en_tb b2
  replace haB := blk_a haB b2 (ne_symm d_tb_aB)
  replace own := owk_off own off_tb b2
  replace kt := kt.trans (kt_grown b2 htb (by simp))
  replace hM := hM.grown b2 htb
  replace bel := below_grown bel b2 otb (Nat.le_trans hlo bel.size)
  clear b2
  clear htb
  rw [HNW.out] at htb_
  have htb := htb_
  clear htb_
  have R16 := Lib.hid (range_lit haB 0 4 [.int .u8 (a.a.toNat : Int), .int .u8 (a.b.toNat : Int), .int .u8 (a.c.toNat : Int), .int .u8 (a.d.toNat : Int)] rfl)
  go_wp2_with (first | ((with_reducible show wpList _ _ _ (⟨some 16, _, _, _, _, _⟩ :: _) _ _); refine wpList_load_rng 28 (.tmp 5) rfl (by kernel_rfl) _ _ rfl _ R16.out _ Try.underlying28 rfl (by kernel_rfl) ?_))
  try clear R16
  with_reducible refine (pfind_is a _ htb (owk_sle (by decide) slE_len own).1 HOK2.out.srt H32.out HP.out HFS.out).mono ?_
  rintro e w3 ⟨rfl, b3⟩
  replace htb := blk_u htb b3
  replace haB := blk_u haB b3
  replace en := en.below b3
  replace own := owk_under own b3
  replace kt := kt.trans (kt_below b3)
  replace hM := hM.below b3
  replace bel := bel.trans (b3.mono (Nat.le_trans hlo bel.size))
  clear b3
  have R26 := cell_lit htb 2 _ rfl
  have R30 := Sle.zcell en HX.out 11 _ rfl
  go_wp2_with fail
  clear R26 R30
  go_ret
  exact ⟨rfl, (by rw [HNW.out]; exact ⟨(some ⟨gE, 0, none⟩), n, c, mb, htb, otb, hM, own, HOK2.out⟩), kt, bel⟩
set_option linter.unusedVariables false in
set_option linter.unusedSimpArgs false in
set_option maxRecDepth 100000 in
set_option maxHeartbeats 16000000 in
theorem pbar_no2 {lo gt : Nat} {now : Int} {hs : List (Mc6 × Ad4)} {l : List Sd} (a : Ad4) (t secs : Int) {i : Nat} {xm : Mc6} {xa : Ad4} {xu : Int} {xl xr : Bool} {xb : Int}  (w : World) (hT : Pl lo gt w ⟨now, hs, l⟩) (hs_ : sfhas l a.num = true) (hp : sfpos l a.num = i) (hx : l[i]? = some ⟨xm, xa, xu, false, xl, xr, xb⟩) (hpm : permB secs = false) : Calls Try.prog 48 #[.pointer (some ⟨gt, 0, none⟩), .agg #[.int .u8 (a.a.toNat : Int), .int .u8 (a.b.toNat : Int), .int .u8 (a.c.toNat : Int), .int .u8 (a.d.toNat : Int)], .int .i64 t, .int .i64 secs] w fun e w' => e = .returned (.bool false) ∧ Pl lo gt w' ⟨(padv now t), hs, l⟩ ∧ Kt [84, 101] w w' ∧ Below lo w w' := by
  obtain ⟨A, n, c, mb, htb, otb, hM, own, hok⟩ := hT
  dsimp only at htb hM own
  have hlo : lo ≤ w.heap.size := Nat.le_trans otb (Nat.le_of_lt (hlt htb))
  have off_tb := ofs_type own htb (by decide)
  have hl := row_len (by decide) slE_len own
  have HLL := Lib.hid hl
  have HLO := Lib.hid hlo
  have HOK := Lib.hid hok
  have H32 : Hid (n ≤ 1000) := Lib.hid (by have := hok.len; simp only at this; omega)
  have kt := Kt.refl [84, 101] w
  clear hl hok
  obtain ⟨nw, hnw⟩ : ∃ x, padv now t = x := ⟨_, rfl⟩
  have HNW := Lib.hid hnw
  have HOK2 : Hid (St.ok ⟨nw, hs, l⟩) := Lib.hid (by rw [← hnw]; exact HOK.out.adv t)
  have n0_ : 0 ≤ nw := HOK2.out.n0
  have n1_ : nw ≤ 1099511627776 := HOK2.out.n1
  have N0_ := Lib.hid n0_
  have N1_ := Lib.hid n1_
  clear hnw n0_ n1_
  have hin_ : i < n := by have h1_ := (List.getElem?_eq_some_iff.1 hx).1; have h2_ := HLL.out; omega
  have i0 : (0 : Int) ≤ i := by omega
  have i1 : (i : Int) < n := by omega
  obtain ⟨gE, rfl, _⟩ := row_at own (by omega)
  have en := (owk_sle (by decide) slE_len own).1
  have av_en_tb := owk_av own off_tb
  have HFS := Lib.hid hs_
  clear hs_
  have HPM := Lib.hid hpm
  clear hpm
  have HP := Lib.hid hp
  clear hp
  have HX := Lib.hid hx
  clear hx
  have bel := Below.refl lo w
  go_enter Try.func48, Try.ntmps48
  go_wp2_with (first | ((with_reducible show wpList _ _ _ (⟨some 5, _, _, _, _, _⟩ :: _) _ _); refine wpList_box_n rfl 28 (.tmp 1) rfl #[.int .u8 (a.a.toNat : Int), .int .u8 (a.b.toNat : Int), .int .u8 (a.c.toNat : Int), .int .u8 (a.d.toNat : Int)] rfl ?_; intro g5 w1 ge lt hh bb; have d_tb_aB := ne_new (hlt htb) ge; have av_en_aB := en.av_new ge; have oaB := Nat.le_trans (Nat.le_trans hlo bel.size) ge; have off_aB := owk_new own ge; have pn_aB := Nat.le_trans bel.size ge; replace htb := blk_u htb bb; replace en := en.below bb; replace own := owk_under own bb; replace kt := kt.trans (kt_below bb); replace hM := hM.below bb; replace bel := bel.trans (bb.mono (Nat.le_trans hlo bel.size)); have haB := hh; clear hh lt ge bb))
  with_reducible refine (padv_any _ _ htb).mono ?_
  rintro e w2 ⟨rfl, htb_, b2⟩
  replace en := en.away av_en_tb b2
  replace haB := blk_a haB b2 (ne_symm d_tb_aB)
  replace own := owk_off own off_tb b2
  replace kt := kt.trans (kt_grown b2 htb (by simp))
  replace hM := hM.grown b2 htb
  replace bel := below_grown bel b2 otb (Nat.le_trans hlo bel.size)
  clear b2
  clear htb
  rw [HNW.out] at htb_
  have htb := htb_
  clear htb_
  have R16 := Lib.hid (range_lit haB 0 4 [.int .u8 (a.a.toNat : Int), .int .u8 (a.b.toNat : Int), .int .u8 (a.c.toNat : Int), .int .u8 (a.d.toNat : Int)] rfl)
  go_wp2_with (first | ((with_reducible show wpList _ _ _ (⟨some 16, _, _, _, _, _⟩ :: _) _ _); refine wpList_load_rng 28 (.tmp 5) rfl (by kernel_rfl) _ _ rfl _ R16.out _ Try.underlying28 rfl (by kernel_rfl) ?_))
  try clear R16
  with_reducible refine (pfind_is a _ htb (owk_sle (by decide) slE_len own).1 HOK2.out.srt H32.out HP.out HFS.out).mono ?_
  rintro e w3 ⟨rfl, b3⟩
  replace htb := blk_u htb b3
  replace haB := blk_u haB b3
  replace en := en.below b3
  replace own := owk_under own b3
  replace kt := kt.trans (kt_below b3)
  replace hM := hM.below b3
  replace bel := bel.trans (b3.mono (Nat.le_trans hlo bel.size))
  clear b3
  have R26 := cell_lit htb 2 _ rfl
  have R30 := Sle.zcell en HX.out 11 _ rfl
  go_wp2_with fail
  clear R26 R30
  with_reducible refine (perm_any _ HPM.out).mono ?_
  rintro e _ ⟨rfl, rfl⟩
  go_wp2_with fail
  go_ret
  exact ⟨rfl, (by rw [HNW.out]; exact ⟨(some ⟨gE, 0, none⟩), n, c, mb, htb, otb, hM, own, HOK2.out⟩), kt, bel⟩
set_option linter.unusedVariables false in
set_option linter.unusedSimpArgs false in
set_option maxRecDepth 100000 in
set_option maxHeartbeats 16000000 in
theorem pbar_yes {lo gt : Nat} {now : Int} {hs : List (Mc6 × Ad4)} {l : List Sd} (a : Ad4) (t secs : Int) {i : Nat} {xm : Mc6} {xa : Ad4} {xu : Int} {xl xr : Bool} {xb : Int}  (w : World) (hT : Pl lo gt w ⟨now, hs, l⟩) (hs_ : sfhas l a.num = true) (hp : sfpos l a.num = i) (hx : l[i]? = some ⟨xm, xa, xu, false, xl, xr, xb⟩) (hpm : permB secs = true) (hok3 : St.ok ⟨padv now t, hs, l.set i ⟨xm, xa, 0, false, xl, xr, (padv now t + secs)⟩⟩) : Calls Try.prog 48 #[.pointer (some ⟨gt, 0, none⟩), .agg #[.int .u8 (a.a.toNat : Int), .int .u8 (a.b.toNat : Int), .int .u8 (a.c.toNat : Int), .int .u8 (a.d.toNat : Int)], .int .i64 t, .int .i64 secs] w fun e w' => e = .returned (.bool true) ∧ Pl lo gt w' ⟨(padv now t), hs, (l.set i ⟨xm, xa, 0, false, xl, xr, (padv now t + secs)⟩)⟩ ∧ Kt [84, 101] w w' ∧ Below lo w w' := by
  obtain ⟨A, n, c, mb, htb, otb, hM, own, hok⟩ := hT
  dsimp only at htb hM own
  have hlo : lo ≤ w.heap.size := Nat.le_trans otb (Nat.le_of_lt (hlt htb))
  have off_tb := ofs_type own htb (by decide)
  have hl := row_len (by decide) slE_len own
  have HLL := Lib.hid hl
  have HLO := Lib.hid hlo
  have HOK := Lib.hid hok
  have H32 : Hid (n ≤ 1000) := Lib.hid (by have := hok.len; simp only at this; omega)
  have kt := Kt.refl [84, 101] w
  clear hl hok
  obtain ⟨nw, hnw⟩ : ∃ x, padv now t = x := ⟨_, rfl⟩
  have HNW := Lib.hid hnw
  have HOK2 : Hid (St.ok ⟨nw, hs, l⟩) := Lib.hid (by rw [← hnw]; exact HOK.out.adv t)
  have n0_ : 0 ≤ nw := HOK2.out.n0
  have n1_ : nw ≤ 1099511627776 := HOK2.out.n1
  have N0_ := Lib.hid n0_
  have N1_ := Lib.hid n1_
  clear hnw n0_ n1_
  have hin_ : i < n := by have h1_ := (List.getElem?_eq_some_iff.1 hx).1; have h2_ := HLL.out; omega
  have i0 : (0 : Int) ≤ i := by omega
  have i1 : (i : Int) < n := by omega
  obtain ⟨gE, rfl, _⟩ := row_at own (by omega)
  have en := (owk_sle (by decide) slE_len own).1
  have av_en_tb := owk_av own off_tb
  have HFS := Lib.hid hs_
  clear hs_
  have hsb := perm_le hpm
  have hwr : IntKind.i64.wrap (nw + secs) = nw + secs := IntWalk.i64_in _ (by have := N0_.out; have := N1_.out; omega)
  clear hsb
  have HPM := Lib.hid hpm
  clear hpm
  have HOK3 : Hid (St.ok ⟨nw, hs, l.set i ⟨xm, xa, 0, false, xl, xr, (nw + secs)⟩⟩) := Lib.hid (by rw [← HNW.out]; exact hok3)
  clear hok3
  have HP := Lib.hid hp
  clear hp
  have HX := Lib.hid hx
  clear hx
  have bel := Below.refl lo w
  go_enter Try.func48, Try.ntmps48
  go_wp2_with (first | ((with_reducible show wpList _ _ _ (⟨some 5, _, _, _, _, _⟩ :: _) _ _); refine wpList_box_n rfl 28 (.tmp 1) rfl #[.int .u8 (a.a.toNat : Int), .int .u8 (a.b.toNat : Int), .int .u8 (a.c.toNat : Int), .int .u8 (a.d.toNat : Int)] rfl ?_; intro g5 w1 ge lt hh bb; have d_tb_aB := ne_new (hlt htb) ge; have av_en_aB := en.av_new ge; have oaB := Nat.le_trans (Nat.le_trans hlo bel.size) ge; have off_aB := owk_new own ge; have pn_aB := Nat.le_trans bel.size ge; replace htb := blk_u htb bb; replace en := en.below bb; replace own := owk_under own bb; replace kt := kt.trans (kt_below bb); replace hM := hM.below bb; replace bel := bel.trans (bb.mono (Nat.le_trans hlo bel.size)); have haB := hh; clear hh lt ge bb))
  with_reducible refine (padv_any _ _ htb).mono ?_
  rintro e w2 ⟨rfl, htb_, b2⟩
  replace en := en.away av_en_tb b2
  replace haB := blk_a haB b2 (ne_symm d_tb_aB)
  replace own := owk_off own off_tb b2
  replace kt := kt.trans (kt_grown b2 htb (by simp))
  replace hM := hM.grown b2 htb
  replace bel := below_grown bel b2 otb (Nat.le_trans hlo bel.size)
  clear b2
  clear htb
  rw [HNW.out] at htb_
  have htb := htb_
  clear htb_
  have R16 := Lib.hid (range_lit haB 0 4 [.int .u8 (a.a.toNat : Int), .int .u8 (a.b.toNat : Int), .int .u8 (a.c.toNat : Int), .int .u8 (a.d.toNat : Int)] rfl)
  go_wp2_with (first | ((with_reducible show wpList _ _ _ (⟨some 16, _, _, _, _, _⟩ :: _) _ _); refine wpList_load_rng 28 (.tmp 5) rfl (by kernel_rfl) _ _ rfl _ R16.out _ Try.underlying28 rfl (by kernel_rfl) ?_))
  try clear R16
  with_reducible refine (pfind_is a _ htb (owk_sle (by decide) slE_len own).1 HOK2.out.srt H32.out HP.out HFS.out).mono ?_
  rintro e w3 ⟨rfl, b3⟩
  replace htb := blk_u htb b3
  replace haB := blk_u haB b3
  replace en := en.below b3
  replace own := owk_under own b3
  replace kt := kt.trans (kt_below b3)
  replace hM := hM.below b3
  replace bel := bel.trans (b3.mono (Nat.le_trans hlo bel.size))
  clear b3
  have R26 := cell_lit htb 2 _ rfl
  have R30 := Sle.zcell en HX.out 11 _ rfl
  go_wp2_with fail
  clear R26 R30
  with_reducible refine (perm_any _ HPM.out).mono ?_
  rintro e _ ⟨rfl, rfl⟩
  go_wp2_with fail
  replace bel := bel.drew
  replace htb : w3.drew.heap[gt]? = _ := htb
  replace haB : w3.drew.heap[g5]? = _ := haB
  replace en := en.drew
  replace own := World.ownsRow.drew own
  replace kt := kt_drew kt
  replace hM := hm_drew hM
  refine wp_region_held_drew (S := fun W => W.heap[gt]? = some (.cells #[.int .i64 nw, .map (some mb), .slice (some ⟨gE, 0, none⟩) n c] 84 (0, 0))) (by kernel_rfl) htb (fun hH => ?_)
  generalize w3.drew = w4 at bel htb haB en own kt hM hH ⊢
  refine wpAnyH_take (i := 0) (v := ?_) rfl (by kernel_rfl) (by kernel_rfl) (by kernel_rfl) (fun _ _ _ h => h) (Or.inl ⟨by rfl, ?_⟩) hH ?_
  rotate_left
  · ((intro W hW; clear hW; go_simp) <;> with_reducible rfl)
  simp only [Act.put, List.getElem_toArray, List.getElem_cons_zero, List.setIfInBounds_toArray, List.set_cons_zero, List.set_cons_succ]
  refine wpAnyH_take (i := 1) (v := ?_) rfl (by kernel_rfl) (by kernel_rfl) (by kernel_rfl) (fun _ _ _ h => h) (Or.inl ⟨by rfl, ?_⟩) hH ?_
  rotate_left
  · ((intro W hW; clear hW; go_simp) <;> with_reducible rfl)
  simp only [sq3, sq4]
  refine wpAnyH_take (i := 2) (v := ?_) rfl (by kernel_rfl) (by kernel_rfl) (by kernel_rfl) (fun _ _ _ h => h) (Or.inl ⟨by rfl, ?_⟩) hH ?_
  rotate_left
  · ((intro W hW; clear hW; go_simp) <;> with_reducible rfl)
  simp only [sq3, sq4]
  refine wpAnyH_take (i := 3) (v := ?_) rfl (by kernel_rfl) (by kernel_rfl) (by kernel_rfl) (fun _ _ _ h => h) (Or.inl ⟨by rfl, ?_⟩) hH ?_
  rotate_left
  · ((intro W hW; have hk := cell_lit (hW) 2 _ rfl; clear hW; go_simp) <;> with_reducible rfl)
  simp only [sq3, sq4]
  refine wpAnyH_take (i := 4) (v := ?_) rfl (by kernel_rfl) (by kernel_rfl) (by kernel_rfl) (fun _ _ _ h => h) (Or.inl ⟨by rfl, ?_⟩) hH ?_
  rotate_left
  · ((intro W hW; clear hW; go_simp) <;> with_reducible rfl)
  simp only [sq3, sq4]
  refine wpAnyH_take (i := 5) (v := ?_) rfl (by kernel_rfl) (by kernel_rfl) (by kernel_rfl) (fun _ _ _ h => h) (Or.inl ⟨by rfl, ?_⟩) hH ?_
  rotate_left
  · ((intro W hW; clear hW; go_simp) <;> with_reducible rfl)
  simp only [sq3, sq4]
  refine wpAnyH_take (i := 6) (v := ?_) rfl (by kernel_rfl) (by kernel_rfl) (by kernel_rfl) (fun _ _ _ h => h) (Or.inl ⟨by rfl, ?_⟩) hH ?_
  rotate_left
  · ((intro W hW; clear hW; go_simp) <;> with_reducible rfl)
  simp only [sq3, sq4]
  refine wpAnyH_take (i := 7) (v := ?_) rfl (by kernel_rfl) (by kernel_rfl) (by kernel_rfl) (fun _ _ _ h => h) (Or.inl ⟨by rfl, ?_⟩) hH ?_
  rotate_left
  · ((intro W hW; clear hW; go_simp) <;> with_reducible rfl)
  simp only [sq3, sq4]
  refine wpAnyH_take (i := 8) (v := ?_) rfl (by kernel_rfl) (by kernel_rfl) (by kernel_rfl) (fun _ _ _ h => h) (Or.inl ⟨by rfl, ?_⟩) hH ?_
  rotate_left
  · ((intro W hW; have hk := cell_lit (hW) 0 _ rfl; clear hW; go_simp) <;> with_reducible rfl)
  simp only [sq3, sq4]
  refine wpAnyH_take (i := 9) (v := ?_) rfl (by kernel_rfl) (by kernel_rfl) (by kernel_rfl) (fun _ _ _ h => h) (Or.inl ⟨by rfl, ?_⟩) hH ?_
  rotate_left
  · ((intro W hW; clear hW; go_simp) <;> with_reducible rfl)
  simp only [sq3, sq4]
  refine wpAnyH_take (i := 10) (v := ?_) rfl (by kernel_rfl) (by kernel_rfl) (by kernel_rfl) (fun _ _ _ h => h) (Or.inl ⟨by rfl, ?_⟩) hH ?_
  rotate_left
  · ((intro W hW; clear hW; go_simp) <;> with_reducible rfl)
  simp only [sq3, sq4]
  refine wpAnyH_take (i := 11) (v := ?_) rfl (by kernel_rfl) (by kernel_rfl) (by kernel_rfl) (fun _ _ _ h => h) (Or.inl ⟨by rfl, ?_⟩) hH ?_
  rotate_left
  · ((intro W hW; clear hW; go_simp) <;> with_reducible rfl)
  simp only [sq3, sq4]
  refine wpAnyH_take (i := 12) (v := ?_) rfl (by kernel_rfl) (by kernel_rfl) (by kernel_rfl) (fun _ _ _ h => h) (Or.inl ⟨by rfl, ?_⟩) hH ?_
  rotate_left
  · ((intro W hW; clear hW; go_simp) <;> with_reducible rfl)
  simp only [sq3, sq4]
  refine wpAnyH_ready (rs := [13]) (by kernel_rfl) (by simp) ?_
  refine AllReadyH.cons (o := _) rfl (fun K hK => ?_) AllReadyH.nil
  simp only [sq3]
  rw [if_pos (by rfl)]
  refine wp_store_el 2 (.tmp 49) (.tmp 47) rfl gE i 14 (⟨xm, xa, xu, false, xl, xr, xb⟩) (⟨xm, xa, xu, false, xl, xr, (nw + secs)⟩) rfl [.int .i64 (nw + secs)] rfl (by decide) slE_len own HX.out (Nat.le_of_ble_eq_true rfl) rfl (by kernel_rfl) (by rfl) ?_
  intro w5 own_ gw
  replace bel := bel.trans (row_bel gw own (Nat.le_trans hlo bel.size))
  replace htb := blk_own (v := .slice (some ⟨gE, 0, none⟩) n c) htb gw off_tb
  replace haB := blk_own (v := .slice (some ⟨gE, 0, none⟩) n c) haB gw off_aB
  replace kt := kt.trans (kt_row gw own (by simp))
  replace hM := hM.row gw own
  clear own
  have own := own_
  clear own_ gw
  replace en := (owk_sle (by decide) slE_len own).1
  have HX1 : Hid ((l.set i ⟨xm, xa, xu, false, xl, xr, (nw + secs)⟩)[i]? = some ⟨xm, xa, xu, false, xl, xr, (nw + secs)⟩) := Lib.hid (List.getElem?_set_self (List.getElem?_eq_some_iff.1 HX.out).1)
  refine hK.out _ _ htb (fun hH6 => ?_)
  clear hK K
  simp only [Act.put]
  refine wpAnyH_done (by kernel_rfl) ?_ _
  have R53 := cell_lit htb 2 _ rfl
  go_wp2_with (first | ((with_reducible show wpList _ _ _ (⟨none, Op.store _ (.tmp 57) _, _, _, _, _⟩ :: _) _ _); refine wpList_store_el rfl 2 (.tmp 57) (.const (.int .i64 0)) rfl gE i 10 (⟨xm, xa, xu, false, xl, xr, (nw + secs)⟩) (⟨xm, xa, 0, false, xl, xr, (nw + secs)⟩) rfl [.int .i64 0] rfl (by decide) slE_len own HX1.out (Nat.le_of_ble_eq_true rfl) rfl (by kernel_rfl) (by rfl) ?_; intro w7 own_ gw; replace bel := bel.trans (row_bel gw own (Nat.le_trans hlo bel.size)); replace htb := blk_own (v := .slice (some ⟨gE, 0, none⟩) n c) htb gw off_tb; replace haB := blk_own (v := .slice (some ⟨gE, 0, none⟩) n c) haB gw off_aB; replace kt := kt.trans (kt_row gw own (by simp)); replace hM := hM.row gw own; clear own; have own := own_; clear own_ gw; replace en := (owk_sle (by decide) slE_len own).1))
  try clear R53
  go_ret
  exact ⟨rfl, (by rw [HNW.out]; exact ⟨(some ⟨gE, 0, none⟩), n, c, mb, htb, otb, hM, (by have h_ := own; rw [List.set_set] at h_; exact h_), HOK3.out⟩), kt, bel⟩
theorem pbar_any {lo gt : Nat} {s : St} (a : Ad4) (t secs : Int) (w : World) (hT : Pl lo gt w s) {b : Bool} (hr : barB s a secs = b) : Calls Try.prog 48 #[.pointer (some ⟨gt, 0, none⟩), .agg #[.int .u8 (a.a.toNat : Int), .int .u8 (a.b.toNat : Int), .int .u8 (a.c.toNat : Int), .int .u8 (a.d.toNat : Int)], .int .i64 t, .int .i64 secs] w fun e w' => e = .returned (.bool b) ∧ Pl lo gt w' (barS s a t secs) ∧ Kt [84, 101] w w' ∧ Below lo w w' := by
  have hok := barS_ok hT.ok a t secs
  obtain ⟨now, hs, l⟩ := s
  unfold barS at hok ⊢
  rw [hr] at hok ⊢
  unfold barB at hr
  cases hs_ : sfhas l a.num with
  | false =>
    simp only [hs_, Bool.false_and] at hr
    subst hr
    exact pbar_no0 a t secs w hT hs_
  | true =>
    obtain ⟨⟨xm, xa, xu, xf, xl, xr, xb⟩, hx, _⟩ := sfhas_at hs_
    simp only [hs_, Bool.true_and, hx] at hr
    cases xf with
    | true =>
      simp only [Bool.not_true, Bool.false_and] at hr
      subst hr
      exact pbar_no1 a t secs w hT hs_ rfl hx
    | false =>
      simp only [Bool.not_false, Bool.true_and] at hr
      subst hr
      cases hpm : permB secs with
      | false => exact pbar_no2 a t secs w hT hs_ rfl hx hpm
      | true =>
        rw [hpm, if_pos rfl] at hok
        rw [if_pos rfl]
        have he : (St.l ⟨now, hs, l⟩).modify (sfpos (St.l ⟨now, hs, l⟩) a.num) (fun x => { x with u := 0, br := (St.adv ⟨now, hs, l⟩ t).now + secs }) = l.set (sfpos l a.num) ⟨xm, xa, 0, false, xl, xr, padv now t + secs⟩ := modify_at hx
        rw [he] at hok ⊢
        exact pbar_yes a t secs w hT hs_ rfl hx hpm hok
open Go.RowKit

theorem Try.info_lease : (Try.prog.info? 56).map (fun i => (i.zero, i.size, i.bytes)) = some (some (.agg #[.int .u8 0, .int .u8 0, .int .u8 0, .int .u8 0, .int .u8 0, .int .u8 0, .int .u8 0, .int .u8 0, .int .u8 0, .int .u8 0, .int .i64 0]), 11, 24) := by kernel_rfl
/-- A row that is new is written into: what was there before stays. -/
theorem Kt.newrow {S : List TypeId} {w0 w w' : World} {B k n : Nat} {T : TypeId} {v : Value} {xs : List Value} (h : Kt S w0 w) (g : w.grownBy w' v.ownBlock) (ho : w.ownsRow B T k v n xs) (hB : w0.heap.size ≤ B) (hs : w0.heap.size ≤ w.heap.size) : Kt S w0 w' := fun i c T' fz hx hT =>
  (g.block i (Nat.lt_of_lt_of_le (hlt hx) hs) (fun e => by have h1 := (ho.lt i e.symm).1; have h2 := hlt hx; omega)).trans (h i c T' fz hx hT)
def tkE (now : Int) (e : Sd) : Sd := if e.overB now = true then { e with rp := true } else e
theorem pdrop_head {α : Type} {cur l : List α} {k : Nat} (h : cur.drop k = l.drop k) : cur[k]? = l[k]? := by
  have := congrArg (fun q => q[0]?) h
  simpa using this
theorem pdrop_more {α : Type} {cur l : List α} {k : Nat} (h : cur.drop k = l.drop k) : cur.drop (k + 1) = l.drop (k + 1) := by
  have := congrArg (fun q => q.drop 1) h
  simpa [List.drop_drop, Nat.add_comm] using this
theorem pdrop_set {α : Type} {cur l : List α} {k : Nat} {y : α} (h : cur.drop k = l.drop k) : (cur.set k y).drop (k + 1) = l.drop (k + 1) := by
  rw [List.drop_set, if_pos (by omega)]; exact pdrop_more h
theorem pmap_skip {α : Type} {l cur : List α} {k : Nat} {e : α} {f : α → α} (he : l[k]? = some e) (hx : cur[k]? = some e) (hf : f e = e) (h : cur.take k = (l.take k).map f) : cur.take (k + 1) = (l.take (k + 1)).map f := by
  rw [List.take_add_one, List.take_add_one, hx, he, List.map_append, h]
  simp [hf]
theorem pmap_set {α : Type} {l cur : List α} {k : Nat} {e y : α} {f : α → α} (he : l[k]? = some e) (hx : cur[k]? = some e) (hf : f e = y) (h : cur.take k = (l.take k).map f) : (cur.set k y).take (k + 1) = (l.take (k + 1)).map f := by
  have hk := (List.getElem?_eq_some_iff.1 hx).1
  rw [List.take_add_one, List.take_add_one, he, List.map_append, List.getElem?_set_self hk, List.take_set_of_le (Nat.le_refl _), h]
  simp [hf]
theorem pfil_skip {l : List Sd} {k : Nat} {e : Sd} {p : Sd → Bool} (he : l[k]? = some e) (hp : p e = false) : ((l.take (k + 1)).filter p).map (·.lease) = ((l.take k).filter p).map (·.lease) := by
  rw [List.take_add_one, he, List.filter_append]
  simp [hp]
theorem pfil_keep {l : List Sd} {k : Nat} {e : Sd} {p : Sd → Bool} (he : l[k]? = some e) (hp : p e = true) : ((l.take (k + 1)).filter p).map (·.lease) = ((l.take k).filter p).map (·.lease) ++ [e.lease] := by
  rw [List.take_add_one, he, List.filter_append]
  simp [hp]
set_option linter.unusedVariables false in
set_option linter.unusedSimpArgs false in
set_option maxRecDepth 100000 in
set_option maxHeartbeats 16000000 in
theorem pall_any {lo gt : Nat} {s : St} (t : Int) (w : World) (hT : Pl lo gt w s) : Calls Try.prog 27 #[.pointer (some ⟨gt, 0, none⟩), .int .i64 t] w fun e w' => ∃ A2 n2 c2, e = .returned (.slice A2 n2 c2) ∧ w'.ownsRow w.heap.size 56 11 (.slice A2 n2 c2) n2 ((allO (s.adv t).now s.l).flatMap leE) ∧ Pl lo gt w' (s.adv t) ∧ Kt [84, 101] w w' ∧ Below lo w w' := by
  obtain ⟨now, hs, l⟩ := s
  show Calls Try.prog 27 #[.pointer (some ⟨gt, 0, none⟩), .int .i64 t] w fun e w' => ∃ A2 n2 c2, e = .returned (.slice A2 n2 c2) ∧ w'.ownsRow w.heap.size 56 11 (.slice A2 n2 c2) n2 ((allO (padv now t) l).flatMap leE) ∧ Pl lo gt w' ⟨padv now t, hs, l⟩ ∧ Kt [84, 101] w w' ∧ Below lo w w'
  obtain ⟨A, n, c, mb, htb, otb, hM, own, hok⟩ := hT
  dsimp only at htb hM own
  have hlo : lo ≤ w.heap.size := Nat.le_trans otb (Nat.le_of_lt (hlt htb))
  have off_tb := ofs_type own htb (by decide)
  have hl := row_len (by decide) slE_len own
  have HLL := Lib.hid hl
  have HLO := Lib.hid hlo
  have HOK := Lib.hid hok
  have H32 : Hid (n ≤ 1000) := Lib.hid (by have := hok.len; simp only at this; omega)
  have kt := Kt.refl [84, 101] w
  clear hl hok
  obtain ⟨nw, hnw⟩ : ∃ x, padv now t = x := ⟨_, rfl⟩
  have HNW := Lib.hid hnw
  have HOK2 : Hid (St.ok ⟨nw, hs, l⟩) := Lib.hid (by rw [← hnw]; exact HOK.out.adv t)
  have n0_ : 0 ≤ nw := HOK2.out.n0
  have n1_ : nw ≤ 1099511627776 := HOK2.out.n1
  have N0_ := Lib.hid n0_
  have N1_ := Lib.hid n1_
  clear hnw n0_ n1_
  obtain ⟨il, hil, hil0, hil1, hil2⟩ := info_parts Try.info_lease
  have bel := Below.refl lo w
  go_enter Try.func27, Try.ntmps27
  go_wp2_with fail
  with_reducible refine (padv_any _ _ htb).mono ?_
  rintro e w1 ⟨rfl, htb_, b1⟩
  replace own := owk_off own off_tb b1
  replace kt := kt.trans (kt_grown b1 htb (by simp))
  replace hM := hM.grown b1 htb
  replace bel := below_grown bel b1 otb (Nat.le_trans hlo bel.size)
  clear b1
  clear htb
  rw [HNW.out] at htb_
  have htb := htb_
  clear htb_
  have ask : w1.ownsRow w.heap.size 56 11 (.slice none 0 0) 0 (([] : List Le).flatMap leE) := World.ownsRow_nil _ _ _ _
  have R14 := cell_lit htb 2 _ rfl
  go_wp2_with fail
  clear R14
  go_loopg [16, 5] (n) (fun gk s16 s5 wr => ∃ k : Nat, ∃ Aa : Option Addr, ∃ na : Nat, ∃ ca : Nat, ∃ la : List Le, gk = n - k ∧ k ≤ n ∧ Hid (la = ((l.take k).filter (fun e => e.liveB nw)).map (·.lease)) ∧ na ≤ k ∧ wr.ownsRow lo 101 15 (.slice A n c) n (l.flatMap slE) ∧ Kt [84, 101] w wr ∧ Hm lo mb wr hs ∧ wr.ownsRow w.heap.size 56 11 (.slice Aa na ca) na (la.flatMap leE) ∧ s16 = .int .i64 (k : Int) ∧ s5 = .slice Aa na ca ∧ wr.heap[gt]? = some (.cells #[.int .i64 nw, .map (some mb), .slice A n c] 84 (0, 0)) ∧ Below lo w wr)
  case atStart => exact ⟨0, none, 0, 0, [], Nat.sub_zero _, Nat.zero_le _, Lib.hid rfl, Nat.le_refl _, own, kt, hM, ask, rfl, rfl, htb, bel⟩
  case round =>
    clear own kt hM ask htb bel
    obtain ⟨k, Aa, na, ca, la, HGK, hkn, HLA, hnk, own, kt, hM, ask, rfl, rfl, htb, bel⟩ := hrel
    have HGK_ := Lib.hid HGK
    clear HGK
    by_cases h : k < n
    rotate_left
    · obtain rfl : k = n := by omega
      replace h : decide (k < k) = false := decide_eq_false (by omega)
      go_wp2_with fail
      go_ret
      exact ⟨Aa, na, ca, rfl, (by have h_ := ask; rw [HLA.out, List.take_of_length_le (Nat.le_of_eq HLL.out), ← HNW.out] at h_; exact h_), (by rw [HNW.out]; exact ⟨A, k, c, mb, htb, otb, hM, own, HOK2.out⟩), kt, bel⟩
    obtain ⟨x, hx⟩ : ∃ x, l[k]? = some x := ⟨_, List.getElem?_eq_getElem (by have := HLL.out; omega)⟩
    have HX := Lib.hid hx
    clear hx
    have k0 : (0 : Int) ≤ k := by omega
    have k1 : (k : Int) < n := by omega
    have k2 : (k : Int) ≤ 1000 := by have := H32.out; omega
    obtain ⟨gE, rfl, _⟩ := row_at own (by omega)
    have en := (owk_sle (by decide) slE_len own).1
    have av_en_tb := owk_av own off_tb
    obtain ⟨b1, H1_⟩ : ∃ b, x.liveB nw = b := ⟨_, rfl⟩
    have H1 := Lib.hid H1_
    clear H1_
    rcases b1 with _ | _
    · have R19 := Lib.hid (Sle.zrange0 en HX.out 15 [.int .u8 (x.m.a.toNat : Int), .int .u8 (x.m.b.toNat : Int), .int .u8 (x.m.c.toNat : Int), .int .u8 (x.m.d.toNat : Int), .int .u8 (x.m.e.toNat : Int), .int .u8 (x.m.f.toNat : Int), .int .u8 (x.ad.a.toNat : Int), .int .u8 (x.ad.b.toNat : Int), .int .u8 (x.ad.c.toNat : Int), .int .u8 (x.ad.d.toNat : Int), .int .i64 x.u, .bool x.fx, .bool x.le, .bool x.rp, .int .i64 x.br] rfl)
      go_wp2_with (first | ((with_reducible show wpList _ _ _ (⟨some 19, _, _, _, _, _⟩ :: _) _ _); refine wpList_load_rng 101 (.tmp 18) rfl (by kernel_rfl) _ _ rfl _ R19.out _ Try.underlying101 rfl (by kernel_rfl) ?_) | ((with_reducible show wpList _ _ _ (⟨some 7, _, _, _, _, _⟩ :: _) _ _); refine wpList_new_a rfl 101 rfl #[.int .u8 0, .int .u8 0, .int .u8 0, .int .u8 0, .int .u8 0, .int .u8 0, .int .u8 0, .int .u8 0, .int .u8 0, .int .u8 0, .int .i64 0, .bool false, .bool false, .bool false, .int .i64 0] (by kernel_rfl) ?_; intro g7 w2 ge hh bb; have d_tb_sB := ne_new (hlt htb) ge; have av_en_sB := en.av_new ge; have osB := Nat.le_trans (Nat.le_trans hlo bel.size) ge; have off_sB := owk_new own ge; have pn_sB := Nat.le_trans bel.size ge; replace htb := blk_u htb bb; replace en := en.below bb; replace own := owk_under own bb; replace kt := kt.trans (kt_below bb); replace hM := hM.below bb; replace ask := owk_under ask bb; replace bel := bel.trans (bb.mono (Nat.le_trans hlo bel.size)); have hsB := hh; clear hh ge bb) | ((with_reducible show wpList _ _ _ (⟨none, Op.store _ (.tmp 7) _, _, _, _, _⟩ :: _) _ _); refine wpList_store_blk rfl 101 (.tmp 7) (.tmp 19) rfl g7 rfl _ rfl _ 101 hsB (by rfl) (by kernel_rfl) (by kernel_rfl) ?_; intro w3 hq gr; replace en := en.away av_en_sB gr; replace htb := blk_a htb gr d_tb_sB; replace own := owk_off own off_sB gr; replace kt := kt.newer gr pn_sB bel.size; replace hM := hM.grown gr hsB; replace ask := owk_off ask (ofs_type ask hsB (by decide)) gr; replace bel := below_grown bel gr osB (Nat.le_trans hlo bel.size); clear hsB; have hsB := hq; clear hq gr; have R23 := cell_lit htb 0 _ rfl))
      try clear R19
      try clear R23
      with_reducible refine (live_box (x := x) _ hsB H1.out).mono ?_
      rintro e _ ⟨rfl, rfl⟩
      go_wp2_with fail
      go_roundg (n - (k + 1))
      case measure => have := HGK_.out; omega
      case rel => exact ⟨k + 1, Aa, na, ca, la, rfl, by omega, Lib.hid (by rw [pfil_skip HX.out H1.out]; exact HLA.out), by omega, own, kt, hM, ask, by go_num, by go_num, htb, bel⟩
    have HB1 : Hid (na + 1 ≤ maxLen) := Lib.hid (by have := H32.out; unfold maxLen; omega)
    have HB2 : Hid ((na + 1) * 24 ≤ 140737488355328) := Lib.hid (by have := H32.out; omega)
    have R19 := Lib.hid (Sle.zrange0 en HX.out 15 [.int .u8 (x.m.a.toNat : Int), .int .u8 (x.m.b.toNat : Int), .int .u8 (x.m.c.toNat : Int), .int .u8 (x.m.d.toNat : Int), .int .u8 (x.m.e.toNat : Int), .int .u8 (x.m.f.toNat : Int), .int .u8 (x.ad.a.toNat : Int), .int .u8 (x.ad.b.toNat : Int), .int .u8 (x.ad.c.toNat : Int), .int .u8 (x.ad.d.toNat : Int), .int .i64 x.u, .bool x.fx, .bool x.le, .bool x.rp, .int .i64 x.br] rfl)
    go_wp2_with (first | ((with_reducible show wpList _ _ _ (⟨some 19, _, _, _, _, _⟩ :: _) _ _); refine wpList_load_rng 101 (.tmp 18) rfl (by kernel_rfl) _ _ rfl _ R19.out _ Try.underlying101 rfl (by kernel_rfl) ?_) | ((with_reducible show wpList _ _ _ (⟨some 7, _, _, _, _, _⟩ :: _) _ _); refine wpList_new_a rfl 101 rfl #[.int .u8 0, .int .u8 0, .int .u8 0, .int .u8 0, .int .u8 0, .int .u8 0, .int .u8 0, .int .u8 0, .int .u8 0, .int .u8 0, .int .i64 0, .bool false, .bool false, .bool false, .int .i64 0] (by kernel_rfl) ?_; intro g7 w2 ge hh bb; have d_tb_sB := ne_new (hlt htb) ge; have av_en_sB := en.av_new ge; have osB := Nat.le_trans (Nat.le_trans hlo bel.size) ge; have off_sB := owk_new own ge; have pn_sB := Nat.le_trans bel.size ge; replace htb := blk_u htb bb; replace en := en.below bb; replace own := owk_under own bb; replace kt := kt.trans (kt_below bb); replace hM := hM.below bb; replace ask := owk_under ask bb; replace bel := bel.trans (bb.mono (Nat.le_trans hlo bel.size)); have hsB := hh; clear hh ge bb) | ((with_reducible show wpList _ _ _ (⟨none, Op.store _ (.tmp 7) _, _, _, _, _⟩ :: _) _ _); refine wpList_store_blk rfl 101 (.tmp 7) (.tmp 19) rfl g7 rfl _ rfl _ 101 hsB (by rfl) (by kernel_rfl) (by kernel_rfl) ?_; intro w3 hq gr; replace en := en.away av_en_sB gr; replace htb := blk_a htb gr d_tb_sB; replace own := owk_off own off_sB gr; replace kt := kt.newer gr pn_sB bel.size; replace hM := hM.grown gr hsB; replace ask := owk_off ask (ofs_type ask hsB (by decide)) gr; replace bel := below_grown bel gr osB (Nat.le_trans hlo bel.size); clear hsB; have hsB := hq; clear hq gr; have R23 := cell_lit htb 0 _ rfl))
    try clear R19
    try clear R23
    with_reducible refine (live_box (x := x) _ hsB H1.out).mono ?_
    rintro e _ ⟨rfl, rfl⟩
    have R27 := Lib.hid (range_lit hsB 0 11 [.int .u8 (x.m.a.toNat : Int), .int .u8 (x.m.b.toNat : Int), .int .u8 (x.m.c.toNat : Int), .int .u8 (x.m.d.toNat : Int), .int .u8 (x.m.e.toNat : Int), .int .u8 (x.m.f.toNat : Int), .int .u8 (x.ad.a.toNat : Int), .int .u8 (x.ad.b.toNat : Int), .int .u8 (x.ad.c.toNat : Int), .int .u8 (x.ad.d.toNat : Int), .int .i64 x.u] rfl)
    go_wp2_with (first | ((with_reducible show wpList _ _ _ (⟨some 27, _, _, _, _, _⟩ :: _) _ _); refine wpList_load_rng 56 (.tmp 26) rfl (by kernel_rfl) _ _ rfl _ R27.out _ Try.underlying56 rfl (by kernel_rfl) ?_) | ((with_reducible show wpList _ _ _ (⟨some 28, _, _, _, _, _⟩ :: _) _ _); refine wpList_lit_n rfl 52 56 1 _ rfl #[.int .u8 (x.m.a.toNat : Int), .int .u8 (x.m.b.toNat : Int), .int .u8 (x.m.c.toNat : Int), .int .u8 (x.m.d.toNat : Int), .int .u8 (x.m.e.toNat : Int), .int .u8 (x.m.f.toNat : Int), .int .u8 (x.ad.a.toNat : Int), .int .u8 (x.ad.b.toNat : Int), .int .u8 (x.ad.c.toNat : Int), .int .u8 (x.ad.d.toNat : Int), .int .i64 x.u] (.agg #[.int .u8 0, .int .u8 0, .int .u8 0, .int .u8 0, .int .u8 0, .int .u8 0, .int .u8 0, .int .u8 0, .int .u8 0, .int .u8 0, .int .i64 0]) Try.underlying52 (by kernel_rfl) 11 (by kernel_rfl) (by decide) (by kernel_rfl) ?_; intro g28 w4 ge lt hh bb; have d_tb_b28 := ne_new (hlt htb) ge; have d_sB_b28 := ne_new (hlt hsB) ge; have av_en_b28 := en.av_new ge; have ob28 := Nat.le_trans (Nat.le_trans hlo bel.size) ge; have off_b28 := owk_new own ge; have pn_b28 := Nat.le_trans bel.size ge; replace htb := blk_u htb bb; replace hsB := blk_u hsB bb; replace en := en.below bb; replace own := owk_under own bb; replace kt := kt.trans (kt_below bb); replace hM := hM.below bb; replace ask := owk_under ask bb; replace bel := bel.trans (bb.mono (Nat.le_trans hlo bel.size)); have hb28 := hh; clear hh lt ge bb; have lt : Sle leE 11 w4 (some ⟨g28, 0, none⟩) (1) (1) ([x.lease]) := sle_lit ([x.lease]) (by decide) leE_len hb28 rfl (by simp [maxLen])) | ((with_reducible show wpList _ _ _ (⟨some 29, _, _, _, _, _⟩ :: _) _ _); refine wpList_append_sle rfl (.tmp 25) (.tmp 28) 52 rfl (w.heap.size) 56 il (.agg #[.int .u8 0, .int .u8 0, .int .u8 0, .int .u8 0, .int .u8 0, .int .u8 0, .int .u8 0, .int .u8 0, .int .u8 0, .int .u8 0, .int .i64 0]) 24 Try.underlying52 hil hil0 hil1 hil2 rfl leE_one _ na la rfl ask (some ⟨g28, 0, none⟩) 1 1 [x.lease] rfl lt HB1.out HB2.out bel.size ?_; intro v29 w91 own_ bb gw ofw; have k9 := kt_row (S := [56]) gw ask (by simp); replace own := k9.own own (by decide); replace en := (owk_sle (by decide) slE_len own).1; replace htb := k9.blk htb (by decide); replace hM := hM.row gw ask; replace kt := kt.newrow gw ask (Nat.le_refl _) bel.size; replace bel := bel.trans (bb.mono hlo); clear ask k9 bb gw ofw lt hb28 hsB; obtain ⟨A29, c29, rfl⟩ := owk_val own_; have ask := own_; clear own_))
    try clear R27
    go_roundg (n - (k + 1))
    case measure => have := HGK_.out; omega
    case rel => exact ⟨k + 1, A29, na + 1, c29, la ++ [x.lease], rfl, by omega, Lib.hid (by rw [pfil_keep HX.out H1.out, HLA.out]), by omega, own, kt, hM, ask, by go_num, by go_num, htb, bel⟩
set_option linter.unusedVariables false in
set_option linter.unusedSimpArgs false in
set_option maxRecDepth 100000 in
set_option maxHeartbeats 16000000 in
theorem ptick_any {lo gt : Nat} {s : St} (t : Int) (w : World) (hT : Pl lo gt w s) : Calls Try.prog 29 #[.pointer (some ⟨gt, 0, none⟩), .int .i64 t] w fun e w' => ∃ A2 n2 c2, e = .returned (.slice A2 n2 c2) ∧ w'.ownsRow w.heap.size 56 11 (.slice A2 n2 c2) n2 ((tickO (s.adv t).now s.l).flatMap leE) ∧ Pl lo gt w' { s.adv t with l := tickL (s.adv t).now s.l } ∧ Kt [84, 101] w w' ∧ Below lo w w' := by
  obtain ⟨now, hs, l⟩ := s
  show Calls Try.prog 29 #[.pointer (some ⟨gt, 0, none⟩), .int .i64 t] w fun e w' => ∃ A2 n2 c2, e = .returned (.slice A2 n2 c2) ∧ w'.ownsRow w.heap.size 56 11 (.slice A2 n2 c2) n2 ((tickO (padv now t) l).flatMap leE) ∧ Pl lo gt w' ⟨padv now t, hs, tickL (padv now t) l⟩ ∧ Kt [84, 101] w w' ∧ Below lo w w'
  obtain ⟨A, n, c, mb, htb, otb, hM, own, hok⟩ := hT
  dsimp only at htb hM own
  have hlo : lo ≤ w.heap.size := Nat.le_trans otb (Nat.le_of_lt (hlt htb))
  have off_tb := ofs_type own htb (by decide)
  have hl := row_len (by decide) slE_len own
  have HLL := Lib.hid hl
  have HLO := Lib.hid hlo
  have HOK := Lib.hid hok
  have H32 : Hid (n ≤ 1000) := Lib.hid (by have := hok.len; simp only at this; omega)
  have kt := Kt.refl [84, 101] w
  clear hl hok
  obtain ⟨nw, hnw⟩ : ∃ x, padv now t = x := ⟨_, rfl⟩
  have HNW := Lib.hid hnw
  have HOK2 : Hid (St.ok ⟨nw, hs, l⟩) := Lib.hid (by rw [← hnw]; exact HOK.out.adv t)
  have n0_ : 0 ≤ nw := HOK2.out.n0
  have n1_ : nw ≤ 1099511627776 := HOK2.out.n1
  have N0_ := Lib.hid n0_
  have N1_ := Lib.hid n1_
  clear hnw n0_ n1_
  obtain ⟨il, hil, hil0, hil1, hil2⟩ := info_parts Try.info_lease
  have HOK3 : Hid (St.ok ⟨nw, hs, tickL nw l⟩) := Lib.hid (by rw [← HNW.out]; exact tickS_ok HOK.out t)
  have bel := Below.refl lo w
  go_enter Try.func29, Try.ntmps29
  go_wp2_with fail
  with_reducible refine (padv_any _ _ htb).mono ?_
  rintro e w1 ⟨rfl, htb_, b1⟩
  replace own := owk_off own off_tb b1
  replace kt := kt.trans (kt_grown b1 htb (by simp))
  replace hM := hM.grown b1 htb
  replace bel := below_grown bel b1 otb (Nat.le_trans hlo bel.size)
  clear b1
  clear htb
  rw [HNW.out] at htb_
  have htb := htb_
  clear htb_
  have ask : w1.ownsRow w.heap.size 56 11 (.slice none 0 0) 0 (([] : List Le).flatMap leE) := World.ownsRow_nil _ _ _ _
  have R14 := cell_lit htb 2 _ rfl
  go_wp2_with fail
  clear R14
  go_loopg [16, 5] (n) (fun gk s16 s5 wr => ∃ k : Nat, ∃ cur : List Sd, ∃ Aa : Option Addr, ∃ na : Nat, ∃ ca : Nat, ∃ la : List Le, gk = n - k ∧ k ≤ n ∧ Hid (cur.length = n) ∧ Hid (cur.take k = (l.take k).map (tkE nw)) ∧ Hid (cur.drop k = l.drop k) ∧ Hid (la = ((l.take k).filter (fun e => e.overB nw)).map (·.lease)) ∧ na ≤ k ∧ wr.ownsRow lo 101 15 (.slice A n c) n (cur.flatMap slE) ∧ Kt [84, 101] w wr ∧ Hm lo mb wr hs ∧ wr.ownsRow w.heap.size 56 11 (.slice Aa na ca) na (la.flatMap leE) ∧ s16 = .int .i64 (k : Int) ∧ s5 = .slice Aa na ca ∧ wr.heap[gt]? = some (.cells #[.int .i64 nw, .map (some mb), .slice A n c] 84 (0, 0)) ∧ Below lo w wr)
  case atStart => exact ⟨0, l, none, 0, 0, [], Nat.sub_zero _, Nat.zero_le _, HLL, Lib.hid rfl, Lib.hid rfl, Lib.hid rfl, Nat.le_refl _, own, kt, hM, ask, rfl, rfl, htb, bel⟩
  case round =>
    clear own kt hM ask htb bel
    obtain ⟨k, cur, Aa, na, ca, la, HGK, hkn, HCL, HCT, HCD, HLA, hnk, own, kt, hM, ask, rfl, rfl, htb, bel⟩ := hrel
    have HGK_ := Lib.hid HGK
    clear HGK
    by_cases h : k < n
    rotate_left
    · obtain rfl : k = n := by omega
      replace h : decide (k < k) = false := decide_eq_false (by omega)
      have HCT_ : Hid (cur = tickL nw l) := Lib.hid (by have h1 := HCT.out; rw [List.take_of_length_le (Nat.le_of_eq HCL.out), List.take_of_length_le (Nat.le_of_eq HLL.out)] at h1; exact h1)
      go_wp2_with fail
      go_ret
      exact ⟨Aa, na, ca, rfl, (by have h_ := ask; rw [HLA.out, List.take_of_length_le (Nat.le_of_eq HLL.out), ← HNW.out] at h_; exact h_), (by rw [HNW.out]; exact ⟨A, k, c, mb, htb, otb, hM, (by rw [← HCT_.out]; exact own), HOK3.out⟩), kt, bel⟩
    have HX0 := pdrop_head HCD.out
    obtain ⟨x, hx⟩ : ∃ x, l[k]? = some x := ⟨_, List.getElem?_eq_getElem (by have := HLL.out; omega)⟩
    have HXL := Lib.hid hx
    have HX : Hid (cur[k]? = some x) := Lib.hid (HX0.trans hx)
    clear HX0 hx
    have k0 : (0 : Int) ≤ k := by omega
    have k1 : (k : Int) < n := by omega
    have k2 : (k : Int) ≤ 1000 := by have := H32.out; omega
    obtain ⟨gE, rfl, _⟩ := row_at own (by omega)
    have en := (owk_sle (by decide) slE_len own).1
    have av_en_tb := owk_av own off_tb
    obtain ⟨xm, xa, xu, xf, xl, xr, xb⟩ := x
    rcases xl with _ | _
    · have HOV : Hid (Sd.overB nw ⟨xm, xa, xu, xf, false, xr, xb⟩ = false) := Lib.hid (rfl)
      have HUF : Hid (tkE nw ⟨xm, xa, xu, xf, false, xr, xb⟩ = ⟨xm, xa, xu, xf, false, xr, xb⟩) := Lib.hid (by unfold tkE; rw [HOV.out]; rfl)
      have R22 := cell_lit htb 2 _ rfl
      have R28 := Sle.zcell en HX.out 12 _ rfl
      go_wp2_with fail
      clear R22 R28
      go_roundg (n - (k + 1))
      case measure => have := HGK_.out; omega
      case rel => exact ⟨k + 1, cur, Aa, na, ca, la, rfl, by omega, HCL, Lib.hid (pmap_skip HXL.out HX.out HUF.out HCT.out), Lib.hid (pdrop_more HCD.out), Lib.hid (by rw [pfil_skip HXL.out HOV.out]; exact HLA.out), by omega, own, kt, hM, ask, by go_num, by go_num, htb, bel⟩
    rcases xr with _ | _
    rotate_left
    · have HOV : Hid (Sd.overB nw ⟨xm, xa, xu, xf, true, true, xb⟩ = false) := Lib.hid (rfl)
      have HUF : Hid (tkE nw ⟨xm, xa, xu, xf, true, true, xb⟩ = ⟨xm, xa, xu, xf, true, true, xb⟩) := Lib.hid (by unfold tkE; rw [HOV.out]; rfl)
      have R22 := cell_lit htb 2 _ rfl
      have R28 := Sle.zcell en HX.out 12 _ rfl
      have R33 := Sle.zcell en HX.out 13 _ rfl
      go_wp2_with fail
      clear R22 R28 R33
      go_roundg (n - (k + 1))
      case measure => have := HGK_.out; omega
      case rel => exact ⟨k + 1, cur, Aa, na, ca, la, rfl, by omega, HCL, Lib.hid (pmap_skip HXL.out HX.out HUF.out HCT.out), Lib.hid (pdrop_more HCD.out), Lib.hid (by rw [pfil_skip HXL.out HOV.out]; exact HLA.out), by omega, own, kt, hM, ask, by go_num, by go_num, htb, bel⟩
    obtain ⟨b1, H1_⟩ : ∃ b, Sd.liveB nw ⟨xm, xa, xu, xf, true, false, xb⟩ = b := ⟨_, rfl⟩
    have H1 := Lib.hid H1_
    clear H1_
    rcases b1 with _ | _
    rotate_left
    · have HOV : Hid (Sd.overB nw ⟨xm, xa, xu, xf, true, false, xb⟩ = false) := Lib.hid (by unfold Sd.overB; rw [H1.out]; rfl)
      have HUF : Hid (tkE nw ⟨xm, xa, xu, xf, true, false, xb⟩ = ⟨xm, xa, xu, xf, true, false, xb⟩) := Lib.hid (by unfold tkE; rw [HOV.out]; rfl)
      have R22 := cell_lit htb 2 _ rfl
      have R28 := Sle.zcell en HX.out 12 _ rfl
      have R33 := Sle.zcell en HX.out 13 _ rfl
      have R41 := cell_lit htb 0 _ rfl
      go_wp2_with fail
      clear R22 R28 R33 R41
      with_reducible refine (live_el _ en HX.out H1.out).mono ?_
      rintro e _ ⟨rfl, rfl⟩
      go_wp2_with fail
      go_roundg (n - (k + 1))
      case measure => have := HGK_.out; omega
      case rel => exact ⟨k + 1, cur, Aa, na, ca, la, rfl, by omega, HCL, Lib.hid (pmap_skip HXL.out HX.out HUF.out HCT.out), Lib.hid (pdrop_more HCD.out), Lib.hid (by rw [pfil_skip HXL.out HOV.out]; exact HLA.out), by omega, own, kt, hM, ask, by go_num, by go_num, htb, bel⟩
    have HOV : Hid (Sd.overB nw ⟨xm, xa, xu, xf, true, false, xb⟩ = true) := Lib.hid (by unfold Sd.overB; rw [H1.out]; rfl)
    have HUF : Hid (tkE nw ⟨xm, xa, xu, xf, true, false, xb⟩ = ⟨xm, xa, xu, xf, true, true, xb⟩) := Lib.hid (by unfold tkE; rw [HOV.out]; rfl)
    have HB1 : Hid (na + 1 ≤ maxLen) := Lib.hid (by have := H32.out; unfold maxLen; omega)
    have HB2 : Hid ((na + 1) * 24 ≤ 140737488355328) := Lib.hid (by have := H32.out; omega)
    have R22 := cell_lit htb 2 _ rfl
    have R28 := Sle.zcell en HX.out 12 _ rfl
    have R33 := Sle.zcell en HX.out 13 _ rfl
    have R41 := cell_lit htb 0 _ rfl
    go_wp2_with fail
    clear R22 R28 R33 R41
    with_reducible refine (live_el _ en HX.out H1.out).mono ?_
    rintro e _ ⟨rfl, rfl⟩
    go_wp2_with (first | ((with_reducible show wpList _ _ _ (⟨none, Op.store _ (.tmp 47) _, _, _, _, _⟩ :: _) _ _); refine wpList_store_el rfl 4 (.tmp 47) (.const (.bool true)) rfl gE k 13 (⟨xm, xa, xu, xf, true, false, xb⟩) (⟨xm, xa, xu, xf, true, true, xb⟩) rfl [.bool true] rfl (by decide) slE_len own HX.out (Nat.le_of_ble_eq_true rfl) rfl (by kernel_rfl) (by rfl) ?_; intro w2 own_ gw; replace bel := bel.trans (row_bel gw own (Nat.le_trans hlo bel.size)); replace htb := blk_own (v := .slice (some ⟨gE, 0, none⟩) n c) htb gw off_tb; replace kt := kt.trans (kt_row gw own (by simp)); replace hM := hM.row gw own; replace ask := (kt_row gw own (by decide) : Kt [101] _ _).own ask (by decide); clear own; have own := own_; clear own_ gw; replace en := (owk_sle (by decide) slE_len own).1; have HXY : Hid ((cur.set k ⟨xm, xa, xu, xf, true, true, xb⟩)[k]? = some ⟨xm, xa, xu, xf, true, true, xb⟩) := Lib.hid (List.getElem?_set_self (List.getElem?_eq_some_iff.1 HX.out).1); have R52 := Lib.hid (Sle.zrange0 en HXY.out 11 [.int .u8 (xm.a.toNat : Int), .int .u8 (xm.b.toNat : Int), .int .u8 (xm.c.toNat : Int), .int .u8 (xm.d.toNat : Int), .int .u8 (xm.e.toNat : Int), .int .u8 (xm.f.toNat : Int), .int .u8 (xa.a.toNat : Int), .int .u8 (xa.b.toNat : Int), .int .u8 (xa.c.toNat : Int), .int .u8 (xa.d.toNat : Int), .int .i64 xu] rfl)) | ((with_reducible show wpList _ _ _ (⟨some 52, _, _, _, _, _⟩ :: _) _ _); refine wpList_load_rng 56 (.tmp 51) rfl (by kernel_rfl) _ _ rfl _ R52.out _ Try.underlying56 rfl (by kernel_rfl) ?_) | ((with_reducible show wpList _ _ _ (⟨some 53, _, _, _, _, _⟩ :: _) _ _); refine wpList_lit_n rfl 52 56 1 _ rfl #[.int .u8 (xm.a.toNat : Int), .int .u8 (xm.b.toNat : Int), .int .u8 (xm.c.toNat : Int), .int .u8 (xm.d.toNat : Int), .int .u8 (xm.e.toNat : Int), .int .u8 (xm.f.toNat : Int), .int .u8 (xa.a.toNat : Int), .int .u8 (xa.b.toNat : Int), .int .u8 (xa.c.toNat : Int), .int .u8 (xa.d.toNat : Int), .int .i64 xu] (.agg #[.int .u8 0, .int .u8 0, .int .u8 0, .int .u8 0, .int .u8 0, .int .u8 0, .int .u8 0, .int .u8 0, .int .u8 0, .int .u8 0, .int .i64 0]) Try.underlying52 (by kernel_rfl) 11 (by kernel_rfl) (by decide) (by kernel_rfl) ?_; intro g53 w3 ge lt hh bb; have d_tb_b53 := ne_new (hlt htb) ge; have av_en_b53 := en.av_new ge; have ob53 := Nat.le_trans (Nat.le_trans hlo bel.size) ge; have off_b53 := owk_new own ge; have pn_b53 := Nat.le_trans bel.size ge; replace htb := blk_u htb bb; replace en := en.below bb; replace own := owk_under own bb; replace kt := kt.trans (kt_below bb); replace hM := hM.below bb; replace ask := owk_under ask bb; replace bel := bel.trans (bb.mono (Nat.le_trans hlo bel.size)); have hb53 := hh; clear hh lt ge bb; have lt : Sle leE 11 w3 (some ⟨g53, 0, none⟩) (1) (1) ([(⟨xm, xa, xu⟩ : Le)]) := sle_lit ([(⟨xm, xa, xu⟩ : Le)]) (by decide) leE_len hb53 rfl (by simp [maxLen])) | ((with_reducible show wpList _ _ _ (⟨some 54, _, _, _, _, _⟩ :: _) _ _); refine wpList_append_sle rfl (.tmp 48) (.tmp 53) 52 rfl (w.heap.size) 56 il (.agg #[.int .u8 0, .int .u8 0, .int .u8 0, .int .u8 0, .int .u8 0, .int .u8 0, .int .u8 0, .int .u8 0, .int .u8 0, .int .u8 0, .int .i64 0]) 24 Try.underlying52 hil hil0 hil1 hil2 rfl leE_one _ na la rfl ask (some ⟨g53, 0, none⟩) 1 1 [(⟨xm, xa, xu⟩ : Le)] rfl lt HB1.out HB2.out bel.size ?_; intro v54 w91 own_ bb gw ofw; have k9 := kt_row (S := [56]) gw ask (by simp); replace own := k9.own own (by decide); replace en := (owk_sle (by decide) slE_len own).1; replace htb := k9.blk htb (by decide); replace hM := hM.row gw ask; replace kt := kt.newrow gw ask (Nat.le_refl _) bel.size; replace bel := bel.trans (bb.mono hlo); clear ask k9 bb gw ofw lt hb53; obtain ⟨A54, c54, rfl⟩ := owk_val own_; have ask := own_; clear own_))
    try clear R52
    go_roundg (n - (k + 1))
    case measure => have := HGK_.out; omega
    case rel => exact ⟨k + 1, cur.set k ⟨xm, xa, xu, xf, true, true, xb⟩, A54, na + 1, c54, la ++ [(⟨xm, xa, xu⟩ : Le)], rfl, by omega, Lib.hid (by rw [List.length_set]; exact HCL.out), Lib.hid (pmap_set HXL.out HX.out HUF.out HCT.out), Lib.hid (pdrop_set HCD.out), Lib.hid (by rw [pfil_keep HXL.out HOV.out, HLA.out]; rfl), by omega, own, kt, hM, ask, by go_num, by go_num, htb, bel⟩
end Go.Proofs.Ytapdmlfjohiekaa
