/- Texts put together: Pl7. -/
import Derived.Test.YtapdmlfjohiekaaK1
import Derived.Test.YtapdmlfjohiekaaK7
namespace Go.Proofs.Ytapdmlfjohiekaa
open Go.RowKit

theorem perm_le {secs : Int} (h : permB secs = true) : 1 ≤ secs ∧ secs ≤ 1000000000 := by
  unfold permB at h
  simpa using h
set_option linter.unusedVariables false in
set_option linter.unusedSimpArgs false in
set_option maxRecDepth 100000 in
set_option maxHeartbeats 16000000 in
theorem ptake_arg {lo gt : Nat} {now : Int} {hs : List (Mc6 × Ad4)} {l : List Sd} (m : Mc6) (a : Ad4) (t secs : Int)  (w : World) (hT : Pl lo gt w ⟨now, hs, l⟩) (hpm : permB secs = false) : Calls Try.prog 46 #[.pointer (some ⟨gt, 0, none⟩), .agg #[.int .u8 (m.a.toNat : Int), .int .u8 (m.b.toNat : Int), .int .u8 (m.c.toNat : Int), .int .u8 (m.d.toNat : Int), .int .u8 (m.e.toNat : Int), .int .u8 (m.f.toNat : Int)], .agg #[.int .u8 (a.a.toNat : Int), .int .u8 (a.b.toNat : Int), .int .u8 (a.c.toNat : Int), .int .u8 (a.d.toNat : Int)], .int .i64 t, .int .i64 secs] w fun e w' => e = .returned (.int .i64 1) ∧ Pl lo gt w' ⟨(padv now t), hs, l⟩ ∧ Kt [84, 101] w w' ∧ Below lo w w' := by
  obtain ⟨A, n, c, mb, htb, otb, hM, own, hok⟩ := hT
  dsimp only at htb hM own
  have hlo : lo ≤ w.heap.size := Nat.le_trans otb (Nat.le_of_lt (hlt htb))
  have off_tb := ofs_type own htb (by decide)
  have hl := row_len (by decide) slE_len own
  have HLL := Lib.hid hl
  have HLO := Lib.hid hlo
  have HOK := Lib.hid hok
  have H32 : Hid (n ≤ 1000) := Lib.hid (by have := hok.len; simp only at this; omega)
  have kt := Kt.refl [84, 101] w
  clear hl hok
  obtain ⟨nw, hnw⟩ : ∃ x, padv now t = x := ⟨_, rfl⟩
  have HNW := Lib.hid hnw
  have HOK2 : Hid (St.ok ⟨nw, hs, l⟩) := Lib.hid (by rw [← hnw]; exact HOK.out.adv t)
  have n0_ : 0 ≤ nw := HOK2.out.n0
  have n1_ : nw ≤ 1099511627776 := HOK2.out.n1
  have N0_ := Lib.hid n0_
  have N1_ := Lib.hid n1_
  clear hnw n0_ n1_
  have HPM := Lib.hid hpm
  clear hpm
  have bel := Below.refl lo w
  go_enter Try.func46, Try.ntmps46
  go_wp2_with (first | ((with_reducible show wpList _ _ _ (⟨some 6, _, _, _, _, _⟩ :: _) _ _); refine wpList_box_n rfl 32 (.tmp 1) rfl #[.int .u8 (m.a.toNat : Int), .int .u8 (m.b.toNat : Int), .int .u8 (m.c.toNat : Int), .int .u8 (m.d.toNat : Int), .int .u8 (m.e.toNat : Int), .int .u8 (m.f.toNat : Int)] rfl ?_; intro g6 w1 ge lt hh bb; have d_tb_mB := ne_new (hlt htb) ge; have omB := Nat.le_trans (Nat.le_trans hlo bel.size) ge; have off_mB := owk_new own ge; have pn_mB := Nat.le_trans bel.size ge; replace htb := blk_u htb bb; replace own := owk_under own bb; replace kt := kt.trans (kt_below bb); replace hM := hM.below bb; replace bel := bel.trans (bb.mono (Nat.le_trans hlo bel.size)); have hmB := hh; clear hh lt ge bb) | ((with_reducible show wpList _ _ _ (⟨some 7, _, _, _, _, _⟩ :: _) _ _); refine wpList_box_n rfl 28 (.tmp 2) rfl #[.int .u8 (a.a.toNat : Int), .int .u8 (a.b.toNat : Int), .int .u8 (a.c.toNat : Int), .int .u8 (a.d.toNat : Int)] rfl ?_; intro g7 w2 ge lt hh bb; have d_tb_aB := ne_new (hlt htb) ge; have d_mB_aB := ne_new (hlt hmB) ge; have oaB := Nat.le_trans (Nat.le_trans hlo bel.size) ge; have off_aB := owk_new own ge; have pn_aB := Nat.le_trans bel.size ge; replace htb := blk_u htb bb; replace hmB := blk_u hmB bb; replace own := owk_under own bb; replace kt := kt.trans (kt_below bb); replace hM := hM.below bb; replace bel := bel.trans (bb.mono (Nat.le_trans hlo bel.size)); have haB := hh; clear hh lt ge bb))
  with_reducible refine (padv_any _ _ htb).mono ?_
  rintro e w3 ⟨rfl, htb_, b3⟩
  replace hmB := blk_a hmB b3 (ne_symm d_tb_mB)
  replace haB := blk_a haB b3 (ne_symm d_tb_aB)
  replace own := owk_off own off_tb b3
  replace kt := kt.trans (kt_grown b3 htb (by simp))
  replace hM := hM.grown b3 htb
  replace bel := below_grown bel b3 otb (Nat.le_trans hlo bel.size)
  clear b3
  clear htb
  rw [HNW.out] at htb_
  have htb := htb_
  clear htb_
  go_wp2_with fail
  with_reducible refine (perm_any _ HPM.out).mono ?_
  rintro e _ ⟨rfl, rfl⟩
  go_wp2_with fail
  go_ret
  exact ⟨rfl, (by rw [HNW.out]; exact ⟨A, n, c, mb, htb, otb, hM, own, HOK2.out⟩), kt, bel⟩
set_option linter.unusedVariables false in
set_option linter.unusedSimpArgs false in
set_option maxRecDepth 100000 in
set_option maxHeartbeats 16000000 in
theorem ptake_no {lo gt : Nat} {now : Int} {hs : List (Mc6 × Ad4)} {l : List Sd} (m : Mc6) (a : Ad4) (t secs : Int) {r : Int}  (w : World) (hT : Pl lo gt w ⟨now, hs, l⟩) (hpm : permB secs = true) (hr : mayE ⟨padv now t, hs, l⟩ m a = r) (hr0 : ¬ r = 0) : Calls Try.prog 46 #[.pointer (some ⟨gt, 0, none⟩), .agg #[.int .u8 (m.a.toNat : Int), .int .u8 (m.b.toNat : Int), .int .u8 (m.c.toNat : Int), .int .u8 (m.d.toNat : Int), .int .u8 (m.e.toNat : Int), .int .u8 (m.f.toNat : Int)], .agg #[.int .u8 (a.a.toNat : Int), .int .u8 (a.b.toNat : Int), .int .u8 (a.c.toNat : Int), .int .u8 (a.d.toNat : Int)], .int .i64 t, .int .i64 secs] w fun e w' => e = .returned (.int .i64 r) ∧ Pl lo gt w' ⟨(padv now t), hs, l⟩ ∧ Kt [84, 101] w w' ∧ Below lo w w' := by
  obtain ⟨A, n, c, mb, htb, otb, hM, own, hok⟩ := hT
  dsimp only at htb hM own
  have hlo : lo ≤ w.heap.size := Nat.le_trans otb (Nat.le_of_lt (hlt htb))
  have off_tb := ofs_type own htb (by decide)
  have hl := row_len (by decide) slE_len own
  have HLL := Lib.hid hl
  have HLO := Lib.hid hlo
  have HOK := Lib.hid hok
  have H32 : Hid (n ≤ 1000) := Lib.hid (by have := hok.len; simp only at this; omega)
  have kt := Kt.refl [84, 101] w
  clear hl hok
  obtain ⟨nw, hnw⟩ : ∃ x, padv now t = x := ⟨_, rfl⟩
  have HNW := Lib.hid hnw
  have HOK2 : Hid (St.ok ⟨nw, hs, l⟩) := Lib.hid (by rw [← hnw]; exact HOK.out.adv t)
  have n0_ : 0 ≤ nw := HOK2.out.n0
  have n1_ : nw ≤ 1099511627776 := HOK2.out.n1
  have N0_ := Lib.hid n0_
  have N1_ := Lib.hid n1_
  clear hnw n0_ n1_
  have HPM := Lib.hid hpm
  clear hpm
  have hr_ : _ := hr
  rw [HNW.out] at hr_
  have HR := Lib.hid hr_
  clear hr hr_
  have hr1 : (r != 0) = true := bne_iff_ne.2 hr0
  clear hr0
  have bel := Below.refl lo w
  go_enter Try.func46, Try.ntmps46
  go_wp2_with (first | ((with_reducible show wpList _ _ _ (⟨some 6, _, _, _, _, _⟩ :: _) _ _); refine wpList_box_n rfl 32 (.tmp 1) rfl #[.int .u8 (m.a.toNat : Int), .int .u8 (m.b.toNat : Int), .int .u8 (m.c.toNat : Int), .int .u8 (m.d.toNat : Int), .int .u8 (m.e.toNat : Int), .int .u8 (m.f.toNat : Int)] rfl ?_; intro g6 w1 ge lt hh bb; have d_tb_mB := ne_new (hlt htb) ge; have omB := Nat.le_trans (Nat.le_trans hlo bel.size) ge; have off_mB := owk_new own ge; have pn_mB := Nat.le_trans bel.size ge; replace htb := blk_u htb bb; replace own := owk_under own bb; replace kt := kt.trans (kt_below bb); replace hM := hM.below bb; replace bel := bel.trans (bb.mono (Nat.le_trans hlo bel.size)); have hmB := hh; clear hh lt ge bb) | ((with_reducible show wpList _ _ _ (⟨some 7, _, _, _, _, _⟩ :: _) _ _); refine wpList_box_n rfl 28 (.tmp 2) rfl #[.int .u8 (a.a.toNat : Int), .int .u8 (a.b.toNat : Int), .int .u8 (a.c.toNat : Int), .int .u8 (a.d.toNat : Int)] rfl ?_; intro g7 w2 ge lt hh bb; have d_tb_aB := ne_new (hlt htb) ge; have d_mB_aB := ne_new (hlt hmB) ge; have oaB := Nat.le_trans (Nat.le_trans hlo bel.size) ge; have off_aB := owk_new own ge; have pn_aB := Nat.le_trans bel.size ge; replace htb := blk_u htb bb; replace hmB := blk_u hmB bb; replace own := owk_under own bb; replace kt := kt.trans (kt_below bb); replace hM := hM.below bb; replace bel := bel.trans (bb.mono (Nat.le_trans hlo bel.size)); have haB := hh; clear hh lt ge bb))
  with_reducible refine (padv_any _ _ htb).mono ?_
  rintro e w3 ⟨rfl, htb_, b3⟩
  replace hmB := blk_a hmB b3 (ne_symm d_tb_mB)
  replace haB := blk_a haB b3 (ne_symm d_tb_aB)
  replace own := owk_off own off_tb b3
  replace kt := kt.trans (kt_grown b3 htb (by simp))
  replace hM := hM.grown b3 htb
  replace bel := below_grown bel b3 otb (Nat.le_trans hlo bel.size)
  clear b3
  clear htb
  rw [HNW.out] at htb_
  have htb := htb_
  clear htb_
  go_wp2_with fail
  with_reducible refine (perm_any _ HPM.out).mono ?_
  rintro e _ ⟨rfl, rfl⟩
  have R23 := Lib.hid (range_lit hmB 0 6 [.int .u8 (m.a.toNat : Int), .int .u8 (m.b.toNat : Int), .int .u8 (m.c.toNat : Int), .int .u8 (m.d.toNat : Int), .int .u8 (m.e.toNat : Int), .int .u8 (m.f.toNat : Int)] rfl)
  go_wp2_with (first | ((with_reducible show wpList _ _ _ (⟨some 23, _, _, _, _, _⟩ :: _) _ _); refine wpList_load_rng 32 (.tmp 6) rfl (by kernel_rfl) _ _ rfl _ R23.out _ Try.underlying32 rfl (by kernel_rfl) ?_; have R24 := Lib.hid (range_lit haB 0 4 [.int .u8 (a.a.toNat : Int), .int .u8 (a.b.toNat : Int), .int .u8 (a.c.toNat : Int), .int .u8 (a.d.toNat : Int)] rfl)) | ((with_reducible show wpList _ _ _ (⟨some 24, _, _, _, _, _⟩ :: _) _ _); refine wpList_load_rng 28 (.tmp 7) rfl (by kernel_rfl) _ _ rfl _ R24.out _ Try.underlying28 rfl (by kernel_rfl) ?_))
  try clear R23
  try clear R24
  with_reducible refine (may_any m a _ htb own H32.out hM HOK2.out.srt HR.out).mono ?_
  rintro e w4 ⟨rfl, b4⟩
  replace htb := blk_u htb b4
  replace hmB := blk_u hmB b4
  replace haB := blk_u haB b4
  replace own := owk_under own b4
  replace kt := kt.trans (kt_below b4)
  replace hM := hM.below b4
  replace bel := bel.trans (b4.mono (Nat.le_trans hlo bel.size))
  clear b4
  go_wp2_with fail
  go_ret
  exact ⟨rfl, (by rw [HNW.out]; exact ⟨A, n, c, mb, htb, otb, hM, own, HOK2.out⟩), kt, bel⟩
set_option linter.unusedVariables false in
set_option linter.unusedSimpArgs false in
set_option maxRecDepth 100000 in
set_option maxHeartbeats 16000000 in
theorem ptake_new {lo gt : Nat} {now : Int} {hs : List (Mc6 × Ad4)} {l : List Sd} (m : Mc6) (a : Ad4) (t secs : Int) {p : Nat} {y : Sd}  (w : World) (hT : Pl lo gt w ⟨now, hs, l⟩) (hpm : permB secs = true) (hr : mayE ⟨padv now t, hs, l⟩ m a = 0) (hf : hldF m (padv now t) l = none) (hp : sfpos l a.num = p) (hs_ : sfhas l a.num = true) (hy : l[p]? = some y) (hok3 : St.ok ⟨padv now t, hs, l.set p ⟨m, a, (padv now t + secs), y.fx, true, false, y.br⟩⟩) : Calls Try.prog 46 #[.pointer (some ⟨gt, 0, none⟩), .agg #[.int .u8 (m.a.toNat : Int), .int .u8 (m.b.toNat : Int), .int .u8 (m.c.toNat : Int), .int .u8 (m.d.toNat : Int), .int .u8 (m.e.toNat : Int), .int .u8 (m.f.toNat : Int)], .agg #[.int .u8 (a.a.toNat : Int), .int .u8 (a.b.toNat : Int), .int .u8 (a.c.toNat : Int), .int .u8 (a.d.toNat : Int)], .int .i64 t, .int .i64 secs] w fun e w' => e = .returned (.int .i64 0) ∧ Pl lo gt w' ⟨(padv now t), hs, (l.set p ⟨m, a, (padv now t + secs), y.fx, true, false, y.br⟩)⟩ ∧ Kt [84, 101] w w' ∧ Below lo w w' := by
  obtain ⟨A, n, c, mb, htb, otb, hM, own, hok⟩ := hT
  dsimp only at htb hM own
  have hlo : lo ≤ w.heap.size := Nat.le_trans otb (Nat.le_of_lt (hlt htb))
  have off_tb := ofs_type own htb (by decide)
  have hl := row_len (by decide) slE_len own
  have HLL := Lib.hid hl
  have HLO := Lib.hid hlo
  have HOK := Lib.hid hok
  have H32 : Hid (n ≤ 1000) := Lib.hid (by have := hok.len; simp only at this; omega)
  have kt := Kt.refl [84, 101] w
  clear hl hok
  obtain ⟨nw, hnw⟩ : ∃ x, padv now t = x := ⟨_, rfl⟩
  have HNW := Lib.hid hnw
  have HOK2 : Hid (St.ok ⟨nw, hs, l⟩) := Lib.hid (by rw [← hnw]; exact HOK.out.adv t)
  have n0_ : 0 ≤ nw := HOK2.out.n0
  have n1_ : nw ≤ 1099511627776 := HOK2.out.n1
  have N0_ := Lib.hid n0_
  have N1_ := Lib.hid n1_
  clear hnw n0_ n1_
  have hf_ : _ := hf
  rw [HNW.out] at hf_
  clear hf
  have hf := hf_
  clear hf_
  have hsb := perm_le hpm
  have hwr : IntKind.i64.wrap (nw + secs) = nw + secs := IntWalk.i64_in _ (by have := N0_.out; have := N1_.out; omega)
  clear hsb
  have HPM := Lib.hid hpm
  clear hpm
  have hr_ : _ := hr
  rw [HNW.out] at hr_
  have HR := Lib.hid hr_
  clear hr hr_
  have hin_ : p < n := by have h1_ := (List.getElem?_eq_some_iff.1 hy).1; have h2_ := HLL.out; omega
  have i0 : (0 : Int) ≤ p := by omega
  have i1 : (p : Int) < n := by omega
  obtain ⟨gE, rfl, _⟩ := row_at own (by omega)
  have en := (owk_sle (by decide) slE_len own).1
  have av_en_tb := owk_av own off_tb
  have HOK3 : Hid (St.ok ⟨nw, hs, l.set p ⟨m, a, (nw + secs), y.fx, true, false, y.br⟩⟩) := Lib.hid (by rw [← HNW.out]; exact hok3)
  clear hok3
  have HFS := Lib.hid hs_
  clear hs_
  have HF := Lib.hid hf
  clear hf
  have HP := Lib.hid hp
  clear hp
  have HY := Lib.hid hy
  clear hy
  have bel := Below.refl lo w
  go_enter Try.func46, Try.ntmps46
  go_wp2_with (first | ((with_reducible show wpList _ _ _ (⟨some 6, _, _, _, _, _⟩ :: _) _ _); refine wpList_box_n rfl 32 (.tmp 1) rfl #[.int .u8 (m.a.toNat : Int), .int .u8 (m.b.toNat : Int), .int .u8 (m.c.toNat : Int), .int .u8 (m.d.toNat : Int), .int .u8 (m.e.toNat : Int), .int .u8 (m.f.toNat : Int)] rfl ?_; intro g6 w1 ge lt hh bb; have d_tb_mB := ne_new (hlt htb) ge; have av_en_mB := en.av_new ge; have omB := Nat.le_trans (Nat.le_trans hlo bel.size) ge; have off_mB := owk_new own ge; have pn_mB := Nat.le_trans bel.size ge; replace htb := blk_u htb bb; replace en := en.below bb; replace own := owk_under own bb; replace kt := kt.trans (kt_below bb); replace hM := hM.below bb; replace bel := bel.trans (bb.mono (Nat.le_trans hlo bel.size)); have hmB := hh; clear hh lt ge bb) | ((with_reducible show wpList _ _ _ (⟨some 7, _, _, _, _, _⟩ :: _) _ _); refine wpList_box_n rfl 28 (.tmp 2) rfl #[.int .u8 (a.a.toNat : Int), .int .u8 (a.b.toNat : Int), .int .u8 (a.c.toNat : Int), .int .u8 (a.d.toNat : Int)] rfl ?_; intro g7 w2 ge lt hh bb; have d_tb_aB := ne_new (hlt htb) ge; have d_mB_aB := ne_new (hlt hmB) ge; have av_en_aB := en.av_new ge; have oaB := Nat.le_trans (Nat.le_trans hlo bel.size) ge; have off_aB := owk_new own ge; have pn_aB := Nat.le_trans bel.size ge; replace htb := blk_u htb bb; replace hmB := blk_u hmB bb; replace en := en.below bb; replace own := owk_under own bb; replace kt := kt.trans (kt_below bb); replace hM := hM.below bb; replace bel := bel.trans (bb.mono (Nat.le_trans hlo bel.size)); have haB := hh; clear hh lt ge bb))
  with_reducible refine (padv_any _ _ htb).mono ?_
  rintro e w3 ⟨rfl, htb_, b3⟩
  replace en := en.away av_en_tb b3
  replace hmB := blk_a hmB b3 (ne_symm d_tb_mB)
  replace haB := blk_a haB b3 (ne_symm d_tb_aB)
  replace own := owk_off own off_tb b3
  replace kt := kt.trans (kt_grown b3 htb (by simp))
  replace hM := hM.grown b3 htb
  replace bel := below_grown bel b3 otb (Nat.le_trans hlo bel.size)
  clear b3
  clear htb
  rw [HNW.out] at htb_
  have htb := htb_
  clear htb_
  go_wp2_with fail
  with_reducible refine (perm_any _ HPM.out).mono ?_
  rintro e _ ⟨rfl, rfl⟩
  have R23 := Lib.hid (range_lit hmB 0 6 [.int .u8 (m.a.toNat : Int), .int .u8 (m.b.toNat : Int), .int .u8 (m.c.toNat : Int), .int .u8 (m.d.toNat : Int), .int .u8 (m.e.toNat : Int), .int .u8 (m.f.toNat : Int)] rfl)
  go_wp2_with (first | ((with_reducible show wpList _ _ _ (⟨some 23, _, _, _, _, _⟩ :: _) _ _); refine wpList_load_rng 32 (.tmp 6) rfl (by kernel_rfl) _ _ rfl _ R23.out _ Try.underlying32 rfl (by kernel_rfl) ?_; have R24 := Lib.hid (range_lit haB 0 4 [.int .u8 (a.a.toNat : Int), .int .u8 (a.b.toNat : Int), .int .u8 (a.c.toNat : Int), .int .u8 (a.d.toNat : Int)] rfl)) | ((with_reducible show wpList _ _ _ (⟨some 24, _, _, _, _, _⟩ :: _) _ _); refine wpList_load_rng 28 (.tmp 7) rfl (by kernel_rfl) _ _ rfl _ R24.out _ Try.underlying28 rfl (by kernel_rfl) ?_))
  try clear R23
  try clear R24
  with_reducible refine (may_any m a _ htb own H32.out hM HOK2.out.srt HR.out).mono ?_
  rintro e w4 ⟨rfl, b4⟩
  replace htb := blk_u htb b4
  replace hmB := blk_u hmB b4
  replace haB := blk_u haB b4
  replace en := en.below b4
  replace own := owk_under own b4
  replace kt := kt.trans (kt_below b4)
  replace hM := hM.below b4
  replace bel := bel.trans (b4.mono (Nat.le_trans hlo bel.size))
  clear b4
  have R30 := Lib.hid (range_lit hmB 0 6 [.int .u8 (m.a.toNat : Int), .int .u8 (m.b.toNat : Int), .int .u8 (m.c.toNat : Int), .int .u8 (m.d.toNat : Int), .int .u8 (m.e.toNat : Int), .int .u8 (m.f.toNat : Int)] rfl)
  go_wp2_with (first | ((with_reducible show wpList _ _ _ (⟨some 30, _, _, _, _, _⟩ :: _) _ _); refine wpList_load_rng 32 (.tmp 6) rfl (by kernel_rfl) _ _ rfl _ R30.out _ Try.underlying32 rfl (by kernel_rfl) ?_))
  try clear R30
  with_reducible refine (lof_none m _ htb own H32.out HF.out).mono ?_
  rintro e w5 ⟨rfl, b5⟩
  replace htb := blk_u htb b5
  replace hmB := blk_u hmB b5
  replace haB := blk_u haB b5
  replace en := en.below b5
  replace own := owk_under own b5
  replace kt := kt.trans (kt_below b5)
  replace hM := hM.below b5
  replace bel := bel.trans (b5.mono (Nat.le_trans hlo bel.size))
  clear b5
  have R40 := Lib.hid (range_lit haB 0 4 [.int .u8 (a.a.toNat : Int), .int .u8 (a.b.toNat : Int), .int .u8 (a.c.toNat : Int), .int .u8 (a.d.toNat : Int)] rfl)
  go_wp2_with (first | ((with_reducible show wpList _ _ _ (⟨some 40, _, _, _, _, _⟩ :: _) _ _); refine wpList_load_rng 28 (.tmp 7) rfl (by kernel_rfl) _ _ rfl _ R40.out _ Try.underlying28 rfl (by kernel_rfl) ?_))
  try clear R40
  with_reducible refine (pfind_is a _ htb (owk_sle (by decide) slE_len own).1 HOK2.out.srt H32.out HP.out HFS.out).mono ?_
  rintro e w6 ⟨rfl, b6⟩
  replace htb := blk_u htb b6
  replace hmB := blk_u hmB b6
  replace haB := blk_u haB b6
  replace en := en.below b6
  replace own := owk_under own b6
  replace kt := kt.trans (kt_below b6)
  replace hM := hM.below b6
  replace bel := bel.trans (b6.mono (Nat.le_trans hlo bel.size))
  clear b6
  have R47 := cell_lit htb 2 _ rfl
  go_wp2_with fail
  clear R47
  replace bel := bel.drew
  replace htb : w6.drew.heap[gt]? = _ := htb
  replace hmB : w6.drew.heap[g6]? = _ := hmB
  replace haB : w6.drew.heap[g7]? = _ := haB
  replace en := en.drew
  replace own := World.ownsRow.drew own
  replace kt := kt_drew kt
  replace hM := hm_drew hM
  refine wp_region_held_drew (S := fun W => W.heap[g6]? = some (.cells #[.int .u8 (m.a.toNat : Int), .int .u8 (m.b.toNat : Int), .int .u8 (m.c.toNat : Int), .int .u8 (m.d.toNat : Int), .int .u8 (m.e.toNat : Int), .int .u8 (m.f.toNat : Int)] 32 (0, 0)) ∧ W.heap[g7]? = some (.cells #[.int .u8 (a.a.toNat : Int), .int .u8 (a.b.toNat : Int), .int .u8 (a.c.toNat : Int), .int .u8 (a.d.toNat : Int)] 28 (0, 0)) ∧ W.heap[gt]? = some (.cells #[.int .i64 nw, .map (some mb), .slice (some ⟨gE, 0, none⟩) n c] 84 (0, 0))) (by kernel_rfl) ⟨hmB, haB, htb⟩ (fun hH => ?_)
  generalize w6.drew = w7 at bel htb hmB haB en own kt hM hH ⊢
  refine wpAnyH_take (i := 0) (v := ?_) rfl (by kernel_rfl) (by kernel_rfl) (by kernel_rfl) (fun _ _ _ h => h) (Or.inl ⟨by rfl, ?_⟩) hH ?_
  rotate_left
  · ((intro W hW; clear hW; go_simp) <;> with_reducible rfl)
  simp only [Act.put, List.getElem_toArray, List.getElem_cons_zero, List.setIfInBounds_toArray, List.set_cons_zero, List.set_cons_succ]
  refine wpAnyH_take (i := 1) (v := .agg #[.int .u8 (m.a.toNat : Int), .int .u8 (m.b.toNat : Int), .int .u8 (m.c.toNat : Int), .int .u8 (m.d.toNat : Int), .int .u8 (m.e.toNat : Int), .int .u8 (m.f.toNat : Int)]) rfl (by kernel_rfl) (by kernel_rfl) (by kernel_rfl) (fun _ _ _ h => h) (yieldsIf_load_part (by kernel_rfl) 32 _ rfl g6 0 6 rfl _ 32 (0, 0) (fun W hW => hW.1) _ rfl _ Try.underlying32 rfl (by kernel_rfl)) hH ?_
  simp only [sq3, sq4]
  refine wpAnyH_take (i := 2) (v := .agg #[.int .u8 (a.a.toNat : Int), .int .u8 (a.b.toNat : Int), .int .u8 (a.c.toNat : Int), .int .u8 (a.d.toNat : Int)]) rfl (by kernel_rfl) (by kernel_rfl) (by kernel_rfl) (fun _ _ _ h => h) (yieldsIf_load_part (by kernel_rfl) 28 _ rfl g7 0 4 rfl _ 28 (0, 0) (fun W hW => hW.2.1) _ rfl _ Try.underlying28 rfl (by kernel_rfl)) hH ?_
  simp only [sq3, sq4]
  refine wpAnyH_take (i := 3) (v := ?_) rfl (by kernel_rfl) (by kernel_rfl) (by kernel_rfl) (fun _ _ _ h => h) (Or.inl ⟨by rfl, ?_⟩) hH ?_
  rotate_left
  · ((intro W hW; clear hW; go_simp) <;> with_reducible rfl)
  simp only [sq3, sq4]
  refine wpAnyH_take (i := 4) (v := ?_) rfl (by kernel_rfl) (by kernel_rfl) (by kernel_rfl) (fun _ _ _ h => h) (Or.inl ⟨by rfl, ?_⟩) hH ?_
  rotate_left
  · ((intro W hW; clear hW; go_simp) <;> with_reducible rfl)
  simp only [sq3, sq4]
  refine wpAnyH_take (i := 5) (v := ?_) rfl (by kernel_rfl) (by kernel_rfl) (by kernel_rfl) (fun _ _ _ h => h) (Or.inl ⟨by rfl, ?_⟩) hH ?_
  rotate_left
  · ((intro W hW; clear hW; go_simp) <;> with_reducible rfl)
  simp only [sq3, sq4]
  refine wpAnyH_take (i := 6) (v := ?_) rfl (by kernel_rfl) (by kernel_rfl) (by kernel_rfl) (fun _ _ _ h => h) (Or.inl ⟨by rfl, ?_⟩) hH ?_
  rotate_left
  · ((intro W hW; have hk := cell_lit (hW.2.2) 0 _ rfl; clear hW; go_simp) <;> with_reducible rfl)
  simp only [sq3, sq4]
  refine wpAnyH_take (i := 7) (v := ?_) rfl (by kernel_rfl) (by kernel_rfl) (by kernel_rfl) (fun _ _ _ h => h) (Or.inl ⟨by rfl, ?_⟩) hH ?_
  rotate_left
  · ((intro W hW; clear hW; go_simp) <;> with_reducible rfl)
  simp only [sq3, sq4]
  refine wpAnyH_take (i := 8) (v := ?_) rfl (by kernel_rfl) (by kernel_rfl) (by kernel_rfl) (fun _ _ _ h => h) (Or.inl ⟨by rfl, ?_⟩) hH ?_
  rotate_left
  · ((intro W hW; clear hW; go_simp) <;> with_reducible rfl)
  simp only [sq3, sq4]
  refine wpAnyH_take (i := 9) (v := ?_) rfl (by kernel_rfl) (by kernel_rfl) (by kernel_rfl) (fun _ _ _ h => h) (Or.inl ⟨by rfl, ?_⟩) hH ?_
  rotate_left
  · ((intro W hW; clear hW; go_simp) <;> with_reducible rfl)
  simp only [sq3, sq4]
  refine wpAnyH_take (i := 10) (v := ?_) rfl (by kernel_rfl) (by kernel_rfl) (by kernel_rfl) (fun _ _ _ h => h) (Or.inl ⟨by rfl, ?_⟩) hH ?_
  rotate_left
  · ((intro W hW; clear hW; go_simp) <;> with_reducible rfl)
  simp only [sq3, sq4]
  refine wpAnyH_take (i := 11) (v := ?_) rfl (by kernel_rfl) (by kernel_rfl) (by kernel_rfl) (fun _ _ _ h => h) (Or.inl ⟨by rfl, ?_⟩) hH ?_
  rotate_left
  · ((intro W hW; clear hW; go_simp) <;> with_reducible rfl)
  simp only [sq3, sq4]
  refine wpAnyH_ready (rs := [12]) (by kernel_rfl) (by simp) ?_
  refine AllReadyH.cons (o := _) rfl (fun K hK => ?_) AllReadyH.nil
  simp only [sq3]
  rw [if_pos (by rfl)]
  refine wp_store_el 56 (.tmp 61) (.tmp 59) rfl gE p 0 y (⟨m, a, (nw + secs), y.fx, y.le, y.rp, y.br⟩) rfl [.int .u8 (m.a.toNat : Int), .int .u8 (m.b.toNat : Int), .int .u8 (m.c.toNat : Int), .int .u8 (m.d.toNat : Int), .int .u8 (m.e.toNat : Int), .int .u8 (m.f.toNat : Int), .int .u8 (a.a.toNat : Int), .int .u8 (a.b.toNat : Int), .int .u8 (a.c.toNat : Int), .int .u8 (a.d.toNat : Int), .int .i64 (nw + secs)] rfl (by decide) slE_len own HY.out (Nat.le_of_ble_eq_true rfl) rfl (by kernel_rfl) (by rfl) ?_
  intro w8 own_ gw
  replace bel := bel.trans (row_bel gw own (Nat.le_trans hlo bel.size))
  replace htb := blk_own (v := .slice (some ⟨gE, 0, none⟩) n c) htb gw off_tb
  replace hmB := blk_own (v := .slice (some ⟨gE, 0, none⟩) n c) hmB gw off_mB
  replace haB := blk_own (v := .slice (some ⟨gE, 0, none⟩) n c) haB gw off_aB
  replace kt := kt.trans (kt_row gw own (by simp))
  replace hM := hM.row gw own
  clear own
  have own := own_
  clear own_ gw
  replace en := (owk_sle (by decide) slE_len own).1
  have HY1 : Hid ((l.set p ⟨m, a, (nw + secs), y.fx, y.le, y.rp, y.br⟩)[p]? = some ⟨m, a, (nw + secs), y.fx, y.le, y.rp, y.br⟩) := Lib.hid (List.getElem?_set_self (List.getElem?_eq_some_iff.1 HY.out).1)
  refine hK.out _ _ ⟨hmB, haB, htb⟩ (fun hH9 => ?_)
  clear hK K
  simp only [Act.put]
  refine wpAnyH_done (by kernel_rfl) ?_ _
  go_wp2_with (first | ((with_reducible show wpList _ _ _ (⟨none, Op.store _ (.tmp 64) _, _, _, _, _⟩ :: _) _ _); refine wpList_store_el rfl 4 (.tmp 64) (.const (.bool true)) rfl gE p 12 (⟨m, a, (nw + secs), y.fx, y.le, y.rp, y.br⟩) (⟨m, a, (nw + secs), y.fx, true, y.rp, y.br⟩) rfl [.bool true] rfl (by decide) slE_len own HY1.out (Nat.le_of_ble_eq_true rfl) rfl (by kernel_rfl) (by rfl) ?_; intro w10 own_ gw; replace bel := bel.trans (row_bel gw own (Nat.le_trans hlo bel.size)); replace htb := blk_own (v := .slice (some ⟨gE, 0, none⟩) n c) htb gw off_tb; replace hmB := blk_own (v := .slice (some ⟨gE, 0, none⟩) n c) hmB gw off_mB; replace haB := blk_own (v := .slice (some ⟨gE, 0, none⟩) n c) haB gw off_aB; replace kt := kt.trans (kt_row gw own (by simp)); replace hM := hM.row gw own; clear own; have own := own_; clear own_ gw; replace en := (owk_sle (by decide) slE_len own).1; have HY2 : Hid (((l.set p ⟨m, a, (nw + secs), y.fx, y.le, y.rp, y.br⟩).set p ⟨m, a, (nw + secs), y.fx, true, y.rp, y.br⟩)[p]? = some ⟨m, a, (nw + secs), y.fx, true, y.rp, y.br⟩) := Lib.hid (List.getElem?_set_self (List.getElem?_eq_some_iff.1 HY1.out).1)) | ((with_reducible show wpList _ _ _ (⟨none, Op.store _ (.tmp 67) _, _, _, _, _⟩ :: _) _ _); refine wpList_store_el rfl 4 (.tmp 67) (.const (.bool false)) rfl gE p 13 (⟨m, a, (nw + secs), y.fx, true, y.rp, y.br⟩) (⟨m, a, (nw + secs), y.fx, true, false, y.br⟩) rfl [.bool false] rfl (by decide) slE_len own HY2.out (Nat.le_of_ble_eq_true rfl) rfl (by kernel_rfl) (by rfl) ?_; intro w11 own_ gw; replace bel := bel.trans (row_bel gw own (Nat.le_trans hlo bel.size)); replace htb := blk_own (v := .slice (some ⟨gE, 0, none⟩) n c) htb gw off_tb; replace hmB := blk_own (v := .slice (some ⟨gE, 0, none⟩) n c) hmB gw off_mB; replace haB := blk_own (v := .slice (some ⟨gE, 0, none⟩) n c) haB gw off_aB; replace kt := kt.trans (kt_row gw own (by simp)); replace hM := hM.row gw own; clear own; have own := own_; clear own_ gw; replace en := (owk_sle (by decide) slE_len own).1))
  go_ret
  exact ⟨rfl, (by rw [HNW.out]; exact ⟨(some ⟨gE, 0, none⟩), n, c, mb, htb, otb, hM, (by have h_ := own; rw [List.set_set, List.set_set] at h_; exact h_), HOK3.out⟩), kt, bel⟩
set_option linter.unusedVariables false in
set_option linter.unusedSimpArgs false in
set_option maxRecDepth 100000 in
set_option maxHeartbeats 16000000 in
theorem ptake_move {lo gt : Nat} {now : Int} {hs : List (Mc6 × Ad4)} {l : List Sd} (m : Mc6) (a : Ad4) (t secs : Int) {i p : Nat} {x y : Sd}  (w : World) (hT : Pl lo gt w ⟨now, hs, l⟩) (hpm : permB secs = true) (hr : mayE ⟨padv now t, hs, l⟩ m a = 0) (hf : hldF m (padv now t) l = some i) (hx : l[i]? = some x) (hp : sfpos l a.num = p) (hs_ : sfhas l a.num = true) (hy : (l.set i ⟨x.m, x.ad, 0, x.fx, x.le, x.rp, x.br⟩)[p]? = some y) (hok3 : St.ok ⟨padv now t, hs, (l.set i ⟨x.m, x.ad, 0, x.fx, x.le, x.rp, x.br⟩).set p ⟨m, a, (padv now t + secs), y.fx, true, false, y.br⟩⟩) : Calls Try.prog 46 #[.pointer (some ⟨gt, 0, none⟩), .agg #[.int .u8 (m.a.toNat : Int), .int .u8 (m.b.toNat : Int), .int .u8 (m.c.toNat : Int), .int .u8 (m.d.toNat : Int), .int .u8 (m.e.toNat : Int), .int .u8 (m.f.toNat : Int)], .agg #[.int .u8 (a.a.toNat : Int), .int .u8 (a.b.toNat : Int), .int .u8 (a.c.toNat : Int), .int .u8 (a.d.toNat : Int)], .int .i64 t, .int .i64 secs] w fun e w' => e = .returned (.int .i64 0) ∧ Pl lo gt w' ⟨(padv now t), hs, ((l.set i ⟨x.m, x.ad, 0, x.fx, x.le, x.rp, x.br⟩).set p ⟨m, a, (padv now t + secs), y.fx, true, false, y.br⟩)⟩ ∧ Kt [84, 101] w w' ∧ Below lo w w' := by
  obtain ⟨A, n, c, mb, htb, otb, hM, own, hok⟩ := hT
  dsimp only at htb hM own
  have hlo : lo ≤ w.heap.size := Nat.le_trans otb (Nat.le_of_lt (hlt htb))
  have off_tb := ofs_type own htb (by decide)
  have hl := row_len (by decide) slE_len own
  have HLL := Lib.hid hl
  have HLO := Lib.hid hlo
  have HOK := Lib.hid hok
  have H32 : Hid (n ≤ 1000) := Lib.hid (by have := hok.len; simp only at this; omega)
  have kt := Kt.refl [84, 101] w
  clear hl hok
  obtain ⟨nw, hnw⟩ : ∃ x, padv now t = x := ⟨_, rfl⟩
  have HNW := Lib.hid hnw
  have HOK2 : Hid (St.ok ⟨nw, hs, l⟩) := Lib.hid (by rw [← hnw]; exact HOK.out.adv t)
  have n0_ : 0 ≤ nw := HOK2.out.n0
  have n1_ : nw ≤ 1099511627776 := HOK2.out.n1
  have N0_ := Lib.hid n0_
  have N1_ := Lib.hid n1_
  clear hnw n0_ n1_
  have hf_ : _ := hf
  rw [HNW.out] at hf_
  clear hf
  have hf := hf_
  clear hf_
  have hsb := perm_le hpm
  have hwr : IntKind.i64.wrap (nw + secs) = nw + secs := IntWalk.i64_in _ (by have := N0_.out; have := N1_.out; omega)
  clear hsb
  have HPM := Lib.hid hpm
  clear hpm
  have hr_ : _ := hr
  rw [HNW.out] at hr_
  have HR := Lib.hid hr_
  clear hr hr_
  have hin_ : i < n := by have h1_ := (List.getElem?_eq_some_iff.1 hx).1; have h2_ := HLL.out; omega
  have i0 : (0 : Int) ≤ i := by omega
  have i1 : (i : Int) < n := by omega
  obtain ⟨gE, rfl, _⟩ := row_at own (by omega)
  have en := (owk_sle (by decide) slE_len own).1
  have av_en_tb := owk_av own off_tb
  have hpn_ : p < n := by have h1_ := (List.getElem?_eq_some_iff.1 hy).1; have h2_ := HLL.out; simp only [List.length_set] at h1_; omega
  have k0 : (0 : Int) ≤ p := by omega
  have k1 : (p : Int) < n := by omega
  have HOK3 : Hid (St.ok ⟨nw, hs, (l.set i ⟨x.m, x.ad, 0, x.fx, x.le, x.rp, x.br⟩).set p ⟨m, a, (nw + secs), y.fx, true, false, y.br⟩⟩) := Lib.hid (by rw [← HNW.out]; exact hok3)
  clear hok3
  have hmp := map_set (y := ⟨x.m, x.ad, 0, x.fx, x.le, x.rp, x.br⟩) hx rfl
  have HS1 : Hid (SSrt (l.set i ⟨x.m, x.ad, 0, x.fx, x.le, x.rp, x.br⟩)) := Lib.hid (ssrt_map hmp HOK2.out.srt)
  have HP1 : Hid (sfpos (l.set i ⟨x.m, x.ad, 0, x.fx, x.le, x.rp, x.br⟩) a.num = p) := Lib.hid ((sfpos_map hmp _).trans hp)
  have HF1 : Hid (sfhas (l.set i ⟨x.m, x.ad, 0, x.fx, x.le, x.rp, x.br⟩) a.num = true) := Lib.hid ((sfhas_map hmp _).trans hs_)
  clear hmp hp hs_
  have HF := Lib.hid hf
  clear hf
  have HX := Lib.hid hx
  clear hx
  have HY := Lib.hid hy
  clear hy
  have bel := Below.refl lo w
  go_enter Try.func46, Try.ntmps46
  go_wp2_with (first | ((with_reducible show wpList _ _ _ (⟨some 6, _, _, _, _, _⟩ :: _) _ _); refine wpList_box_n rfl 32 (.tmp 1) rfl #[.int .u8 (m.a.toNat : Int), .int .u8 (m.b.toNat : Int), .int .u8 (m.c.toNat : Int), .int .u8 (m.d.toNat : Int), .int .u8 (m.e.toNat : Int), .int .u8 (m.f.toNat : Int)] rfl ?_; intro g6 w1 ge lt hh bb; have d_tb_mB := ne_new (hlt htb) ge; have av_en_mB := en.av_new ge; have omB := Nat.le_trans (Nat.le_trans hlo bel.size) ge; have off_mB := owk_new own ge; have pn_mB := Nat.le_trans bel.size ge; replace htb := blk_u htb bb; replace en := en.below bb; replace own := owk_under own bb; replace kt := kt.trans (kt_below bb); replace hM := hM.below bb; replace bel := bel.trans (bb.mono (Nat.le_trans hlo bel.size)); have hmB := hh; clear hh lt ge bb) | ((with_reducible show wpList _ _ _ (⟨some 7, _, _, _, _, _⟩ :: _) _ _); refine wpList_box_n rfl 28 (.tmp 2) rfl #[.int .u8 (a.a.toNat : Int), .int .u8 (a.b.toNat : Int), .int .u8 (a.c.toNat : Int), .int .u8 (a.d.toNat : Int)] rfl ?_; intro g7 w2 ge lt hh bb; have d_tb_aB := ne_new (hlt htb) ge; have d_mB_aB := ne_new (hlt hmB) ge; have av_en_aB := en.av_new ge; have oaB := Nat.le_trans (Nat.le_trans hlo bel.size) ge; have off_aB := owk_new own ge; have pn_aB := Nat.le_trans bel.size ge; replace htb := blk_u htb bb; replace hmB := blk_u hmB bb; replace en := en.below bb; replace own := owk_under own bb; replace kt := kt.trans (kt_below bb); replace hM := hM.below bb; replace bel := bel.trans (bb.mono (Nat.le_trans hlo bel.size)); have haB := hh; clear hh lt ge bb))
  with_reducible refine (padv_any _ _ htb).mono ?_
  rintro e w3 ⟨rfl, htb_, b3⟩
  replace en := en.away av_en_tb b3
  replace hmB := blk_a hmB b3 (ne_symm d_tb_mB)
  replace haB := blk_a haB b3 (ne_symm d_tb_aB)
  replace own := owk_off own off_tb b3
  replace kt := kt.trans (kt_grown b3 htb (by simp))
  replace hM := hM.grown b3 htb
  replace bel := below_grown bel b3 otb (Nat.le_trans hlo bel.size)
  clear b3
  clear htb
  rw [HNW.out] at htb_
  have htb := htb_
  clear htb_
  go_wp2_with fail
  with_reducible refine (perm_any _ HPM.out).mono ?_
  rintro e _ ⟨rfl, rfl⟩
  have R23 := Lib.hid (range_lit hmB 0 6 [.int .u8 (m.a.toNat : Int), .int .u8 (m.b.toNat : Int), .int .u8 (m.c.toNat : Int), .int .u8 (m.d.toNat : Int), .int .u8 (m.e.toNat : Int), .int .u8 (m.f.toNat : Int)] rfl)
  go_wp2_with (first | ((with_reducible show wpList _ _ _ (⟨some 23, _, _, _, _, _⟩ :: _) _ _); refine wpList_load_rng 32 (.tmp 6) rfl (by kernel_rfl) _ _ rfl _ R23.out _ Try.underlying32 rfl (by kernel_rfl) ?_; have R24 := Lib.hid (range_lit haB 0 4 [.int .u8 (a.a.toNat : Int), .int .u8 (a.b.toNat : Int), .int .u8 (a.c.toNat : Int), .int .u8 (a.d.toNat : Int)] rfl)) | ((with_reducible show wpList _ _ _ (⟨some 24, _, _, _, _, _⟩ :: _) _ _); refine wpList_load_rng 28 (.tmp 7) rfl (by kernel_rfl) _ _ rfl _ R24.out _ Try.underlying28 rfl (by kernel_rfl) ?_))
  try clear R23
  try clear R24
  with_reducible refine (may_any m a _ htb own H32.out hM HOK2.out.srt HR.out).mono ?_
  rintro e w4 ⟨rfl, b4⟩
  replace htb := blk_u htb b4
  replace hmB := blk_u hmB b4
  replace haB := blk_u haB b4
  replace en := en.below b4
  replace own := owk_under own b4
  replace kt := kt.trans (kt_below b4)
  replace hM := hM.below b4
  replace bel := bel.trans (b4.mono (Nat.le_trans hlo bel.size))
  clear b4
  have R30 := Lib.hid (range_lit hmB 0 6 [.int .u8 (m.a.toNat : Int), .int .u8 (m.b.toNat : Int), .int .u8 (m.c.toNat : Int), .int .u8 (m.d.toNat : Int), .int .u8 (m.e.toNat : Int), .int .u8 (m.f.toNat : Int)] rfl)
  go_wp2_with (first | ((with_reducible show wpList _ _ _ (⟨some 30, _, _, _, _, _⟩ :: _) _ _); refine wpList_load_rng 32 (.tmp 6) rfl (by kernel_rfl) _ _ rfl _ R30.out _ Try.underlying32 rfl (by kernel_rfl) ?_))
  try clear R30
  with_reducible refine (lof_at m _ htb own H32.out HF.out).mono ?_
  rintro e w5 ⟨rfl, b5⟩
  replace htb := blk_u htb b5
  replace hmB := blk_u hmB b5
  replace haB := blk_u haB b5
  replace en := en.below b5
  replace own := owk_under own b5
  replace kt := kt.trans (kt_below b5)
  replace hM := hM.below b5
  replace bel := bel.trans (b5.mono (Nat.le_trans hlo bel.size))
  clear b5
  go_wp2_with (first | ((with_reducible show wpList _ _ _ (⟨none, Op.store _ (.tmp 37) _, _, _, _, _⟩ :: _) _ _); refine wpList_store_el rfl 2 (.tmp 37) (.const (.int .i64 0)) rfl gE i 10 x (⟨x.m, x.ad, 0, x.fx, x.le, x.rp, x.br⟩) rfl [.int .i64 0] rfl (by decide) slE_len own HX.out (Nat.le_of_ble_eq_true rfl) rfl (by kernel_rfl) (by rfl) ?_; intro w6 own_ gw; replace bel := bel.trans (row_bel gw own (Nat.le_trans hlo bel.size)); replace htb := blk_own (v := .slice (some ⟨gE, 0, none⟩) n c) htb gw off_tb; replace hmB := blk_own (v := .slice (some ⟨gE, 0, none⟩) n c) hmB gw off_mB; replace haB := blk_own (v := .slice (some ⟨gE, 0, none⟩) n c) haB gw off_aB; replace kt := kt.trans (kt_row gw own (by simp)); replace hM := hM.row gw own; clear own; have own := own_; clear own_ gw; replace en := (owk_sle (by decide) slE_len own).1; have R40 := Lib.hid (range_lit haB 0 4 [.int .u8 (a.a.toNat : Int), .int .u8 (a.b.toNat : Int), .int .u8 (a.c.toNat : Int), .int .u8 (a.d.toNat : Int)] rfl)) | ((with_reducible show wpList _ _ _ (⟨some 40, _, _, _, _, _⟩ :: _) _ _); refine wpList_load_rng 28 (.tmp 7) rfl (by kernel_rfl) _ _ rfl _ R40.out _ Try.underlying28 rfl (by kernel_rfl) ?_))
  try clear R40
  with_reducible refine (pfind_is a _ htb (owk_sle (by decide) slE_len own).1 HS1.out H32.out HP1.out HF1.out).mono ?_
  rintro e w7 ⟨rfl, b7⟩
  replace htb := blk_u htb b7
  replace hmB := blk_u hmB b7
  replace haB := blk_u haB b7
  replace en := en.below b7
  replace own := owk_under own b7
  replace kt := kt.trans (kt_below b7)
  replace hM := hM.below b7
  replace bel := bel.trans (b7.mono (Nat.le_trans hlo bel.size))
  clear b7
  have R47 := cell_lit htb 2 _ rfl
  go_wp2_with fail
  clear R47
  replace bel := bel.drew
  replace htb : w7.drew.heap[gt]? = _ := htb
  replace hmB : w7.drew.heap[g6]? = _ := hmB
  replace haB : w7.drew.heap[g7]? = _ := haB
  replace en := en.drew
  replace own := World.ownsRow.drew own
  replace kt := kt_drew kt
  replace hM := hm_drew hM
  refine wp_region_held_drew (S := fun W => W.heap[g6]? = some (.cells #[.int .u8 (m.a.toNat : Int), .int .u8 (m.b.toNat : Int), .int .u8 (m.c.toNat : Int), .int .u8 (m.d.toNat : Int), .int .u8 (m.e.toNat : Int), .int .u8 (m.f.toNat : Int)] 32 (0, 0)) ∧ W.heap[g7]? = some (.cells #[.int .u8 (a.a.toNat : Int), .int .u8 (a.b.toNat : Int), .int .u8 (a.c.toNat : Int), .int .u8 (a.d.toNat : Int)] 28 (0, 0)) ∧ W.heap[gt]? = some (.cells #[.int .i64 nw, .map (some mb), .slice (some ⟨gE, 0, none⟩) n c] 84 (0, 0))) (by kernel_rfl) ⟨hmB, haB, htb⟩ (fun hH => ?_)
  generalize w7.drew = w8 at bel htb hmB haB en own kt hM hH ⊢
  refine wpAnyH_take (i := 0) (v := ?_) rfl (by kernel_rfl) (by kernel_rfl) (by kernel_rfl) (fun _ _ _ h => h) (Or.inl ⟨by rfl, ?_⟩) hH ?_
  rotate_left
  · ((intro W hW; clear hW; go_simp) <;> with_reducible rfl)
  simp only [Act.put, List.getElem_toArray, List.getElem_cons_zero, List.setIfInBounds_toArray, List.set_cons_zero, List.set_cons_succ]
  refine wpAnyH_take (i := 1) (v := .agg #[.int .u8 (m.a.toNat : Int), .int .u8 (m.b.toNat : Int), .int .u8 (m.c.toNat : Int), .int .u8 (m.d.toNat : Int), .int .u8 (m.e.toNat : Int), .int .u8 (m.f.toNat : Int)]) rfl (by kernel_rfl) (by kernel_rfl) (by kernel_rfl) (fun _ _ _ h => h) (yieldsIf_load_part (by kernel_rfl) 32 _ rfl g6 0 6 rfl _ 32 (0, 0) (fun W hW => hW.1) _ rfl _ Try.underlying32 rfl (by kernel_rfl)) hH ?_
  simp only [sq3, sq4]
  refine wpAnyH_take (i := 2) (v := .agg #[.int .u8 (a.a.toNat : Int), .int .u8 (a.b.toNat : Int), .int .u8 (a.c.toNat : Int), .int .u8 (a.d.toNat : Int)]) rfl (by kernel_rfl) (by kernel_rfl) (by kernel_rfl) (fun _ _ _ h => h) (yieldsIf_load_part (by kernel_rfl) 28 _ rfl g7 0 4 rfl _ 28 (0, 0) (fun W hW => hW.2.1) _ rfl _ Try.underlying28 rfl (by kernel_rfl)) hH ?_
  simp only [sq3, sq4]
  refine wpAnyH_take (i := 3) (v := ?_) rfl (by kernel_rfl) (by kernel_rfl) (by kernel_rfl) (fun _ _ _ h => h) (Or.inl ⟨by rfl, ?_⟩) hH ?_
  rotate_left
  · ((intro W hW; clear hW; go_simp) <;> with_reducible rfl)
  simp only [sq3, sq4]
  refine wpAnyH_take (i := 4) (v := ?_) rfl (by kernel_rfl) (by kernel_rfl) (by kernel_rfl) (fun _ _ _ h => h) (Or.inl ⟨by rfl, ?_⟩) hH ?_
  rotate_left
  · ((intro W hW; clear hW; go_simp) <;> with_reducible rfl)
  simp only [sq3, sq4]
  refine wpAnyH_take (i := 5) (v := ?_) rfl (by kernel_rfl) (by kernel_rfl) (by kernel_rfl) (fun _ _ _ h => h) (Or.inl ⟨by rfl, ?_⟩) hH ?_
  rotate_left
  · ((intro W hW; clear hW; go_simp) <;> with_reducible rfl)
  simp only [sq3, sq4]
  refine wpAnyH_take (i := 6) (v := ?_) rfl (by kernel_rfl) (by kernel_rfl) (by kernel_rfl) (fun _ _ _ h => h) (Or.inl ⟨by rfl, ?_⟩) hH ?_
  rotate_left
  · ((intro W hW; have hk := cell_lit (hW.2.2) 0 _ rfl; clear hW; go_simp) <;> with_reducible rfl)
  simp only [sq3, sq4]
  refine wpAnyH_take (i := 7) (v := ?_) rfl (by kernel_rfl) (by kernel_rfl) (by kernel_rfl) (fun _ _ _ h => h) (Or.inl ⟨by rfl, ?_⟩) hH ?_
  rotate_left
  · ((intro W hW; clear hW; go_simp) <;> with_reducible rfl)
  simp only [sq3, sq4]
  refine wpAnyH_take (i := 8) (v := ?_) rfl (by kernel_rfl) (by kernel_rfl) (by kernel_rfl) (fun _ _ _ h => h) (Or.inl ⟨by rfl, ?_⟩) hH ?_
  rotate_left
  · ((intro W hW; clear hW; go_simp) <;> with_reducible rfl)
  simp only [sq3, sq4]
  refine wpAnyH_take (i := 9) (v := ?_) rfl (by kernel_rfl) (by kernel_rfl) (by kernel_rfl) (fun _ _ _ h => h) (Or.inl ⟨by rfl, ?_⟩) hH ?_
  rotate_left
  · ((intro W hW; clear hW; go_simp) <;> with_reducible rfl)
  simp only [sq3, sq4]
  refine wpAnyH_take (i := 10) (v := ?_) rfl (by kernel_rfl) (by kernel_rfl) (by kernel_rfl) (fun _ _ _ h => h) (Or.inl ⟨by rfl, ?_⟩) hH ?_
  rotate_left
  · ((intro W hW; clear hW; go_simp) <;> with_reducible rfl)
  simp only [sq3, sq4]
  refine wpAnyH_take (i := 11) (v := ?_) rfl (by kernel_rfl) (by kernel_rfl) (by kernel_rfl) (fun _ _ _ h => h) (Or.inl ⟨by rfl, ?_⟩) hH ?_
  rotate_left
  · ((intro W hW; clear hW; go_simp) <;> with_reducible rfl)
  simp only [sq3, sq4]
  refine wpAnyH_ready (rs := [12]) (by kernel_rfl) (by simp) ?_
  refine AllReadyH.cons (o := _) rfl (fun K hK => ?_) AllReadyH.nil
  simp only [sq3]
  rw [if_pos (by rfl)]
  refine wp_store_el 56 (.tmp 61) (.tmp 59) rfl gE p 0 y (⟨m, a, (nw + secs), y.fx, y.le, y.rp, y.br⟩) rfl [.int .u8 (m.a.toNat : Int), .int .u8 (m.b.toNat : Int), .int .u8 (m.c.toNat : Int), .int .u8 (m.d.toNat : Int), .int .u8 (m.e.toNat : Int), .int .u8 (m.f.toNat : Int), .int .u8 (a.a.toNat : Int), .int .u8 (a.b.toNat : Int), .int .u8 (a.c.toNat : Int), .int .u8 (a.d.toNat : Int), .int .i64 (nw + secs)] rfl (by decide) slE_len own HY.out (Nat.le_of_ble_eq_true rfl) rfl (by kernel_rfl) (by rfl) ?_
  intro w9 own_ gw
  replace bel := bel.trans (row_bel gw own (Nat.le_trans hlo bel.size))
  replace htb := blk_own (v := .slice (some ⟨gE, 0, none⟩) n c) htb gw off_tb
  replace hmB := blk_own (v := .slice (some ⟨gE, 0, none⟩) n c) hmB gw off_mB
  replace haB := blk_own (v := .slice (some ⟨gE, 0, none⟩) n c) haB gw off_aB
  replace kt := kt.trans (kt_row gw own (by simp))
  replace hM := hM.row gw own
  clear own
  have own := own_
  clear own_ gw
  replace en := (owk_sle (by decide) slE_len own).1
  have HY1 : Hid (((l.set i ⟨x.m, x.ad, 0, x.fx, x.le, x.rp, x.br⟩).set p ⟨m, a, (nw + secs), y.fx, y.le, y.rp, y.br⟩)[p]? = some ⟨m, a, (nw + secs), y.fx, y.le, y.rp, y.br⟩) := Lib.hid (List.getElem?_set_self (List.getElem?_eq_some_iff.1 HY.out).1)
  refine hK.out _ _ ⟨hmB, haB, htb⟩ (fun hH10 => ?_)
  clear hK K
  simp only [Act.put]
  refine wpAnyH_done (by kernel_rfl) ?_ _
  go_wp2_with (first | ((with_reducible show wpList _ _ _ (⟨none, Op.store _ (.tmp 64) _, _, _, _, _⟩ :: _) _ _); refine wpList_store_el rfl 4 (.tmp 64) (.const (.bool true)) rfl gE p 12 (⟨m, a, (nw + secs), y.fx, y.le, y.rp, y.br⟩) (⟨m, a, (nw + secs), y.fx, true, y.rp, y.br⟩) rfl [.bool true] rfl (by decide) slE_len own HY1.out (Nat.le_of_ble_eq_true rfl) rfl (by kernel_rfl) (by rfl) ?_; intro w11 own_ gw; replace bel := bel.trans (row_bel gw own (Nat.le_trans hlo bel.size)); replace htb := blk_own (v := .slice (some ⟨gE, 0, none⟩) n c) htb gw off_tb; replace hmB := blk_own (v := .slice (some ⟨gE, 0, none⟩) n c) hmB gw off_mB; replace haB := blk_own (v := .slice (some ⟨gE, 0, none⟩) n c) haB gw off_aB; replace kt := kt.trans (kt_row gw own (by simp)); replace hM := hM.row gw own; clear own; have own := own_; clear own_ gw; replace en := (owk_sle (by decide) slE_len own).1; have HY2 : Hid ((((l.set i ⟨x.m, x.ad, 0, x.fx, x.le, x.rp, x.br⟩).set p ⟨m, a, (nw + secs), y.fx, y.le, y.rp, y.br⟩).set p ⟨m, a, (nw + secs), y.fx, true, y.rp, y.br⟩)[p]? = some ⟨m, a, (nw + secs), y.fx, true, y.rp, y.br⟩) := Lib.hid (List.getElem?_set_self (List.getElem?_eq_some_iff.1 HY1.out).1)) | ((with_reducible show wpList _ _ _ (⟨none, Op.store _ (.tmp 67) _, _, _, _, _⟩ :: _) _ _); refine wpList_store_el rfl 4 (.tmp 67) (.const (.bool false)) rfl gE p 13 (⟨m, a, (nw + secs), y.fx, true, y.rp, y.br⟩) (⟨m, a, (nw + secs), y.fx, true, false, y.br⟩) rfl [.bool false] rfl (by decide) slE_len own HY2.out (Nat.le_of_ble_eq_true rfl) rfl (by kernel_rfl) (by rfl) ?_; intro w12 own_ gw; replace bel := bel.trans (row_bel gw own (Nat.le_trans hlo bel.size)); replace htb := blk_own (v := .slice (some ⟨gE, 0, none⟩) n c) htb gw off_tb; replace hmB := blk_own (v := .slice (some ⟨gE, 0, none⟩) n c) hmB gw off_mB; replace haB := blk_own (v := .slice (some ⟨gE, 0, none⟩) n c) haB gw off_aB; replace kt := kt.trans (kt_row gw own (by simp)); replace hM := hM.row gw own; clear own; have own := own_; clear own_ gw; replace en := (owk_sle (by decide) slE_len own).1))
  go_ret
  exact ⟨rfl, (by rw [HNW.out]; exact ⟨(some ⟨gE, 0, none⟩), n, c, mb, htb, otb, hM, (by have h_ := own; rw [List.set_set, List.set_set] at h_; exact h_), HOK3.out⟩), kt, bel⟩
theorem ptake_any {lo gt : Nat} {s s' : St} (m : Mc6) (a : Ad4) (t secs : Int) (w : World) (hT : Pl lo gt w s) {r : Int} (hr : takeS s m a t secs = (r, s')) : Calls Try.prog 46 #[.pointer (some ⟨gt, 0, none⟩), .agg #[.int .u8 (m.a.toNat : Int), .int .u8 (m.b.toNat : Int), .int .u8 (m.c.toNat : Int), .int .u8 (m.d.toNat : Int), .int .u8 (m.e.toNat : Int), .int .u8 (m.f.toNat : Int)], .agg #[.int .u8 (a.a.toNat : Int), .int .u8 (a.b.toNat : Int), .int .u8 (a.c.toNat : Int), .int .u8 (a.d.toNat : Int)], .int .i64 t, .int .i64 secs] w fun e w' => e = .returned (.int .i64 r) ∧ Pl lo gt w' s' ∧ Kt [84, 101] w w' ∧ Below lo w w' := by
  have hok := takeS_ok hT.ok m a t secs
  rw [hr] at hok
  obtain ⟨now, hs, l⟩ := s
  have hok1 := hT.ok
  unfold takeS at hr
  cases hpm : permB secs with
  | false =>
    simp only [hpm, Bool.false_eq_true, if_false] at hr
    injection hr with h1 h2
    subst h1; subst h2
    exact ptake_arg m a t secs w hT hpm
  | true =>
    simp only [hpm, if_true] at hr
    obtain ⟨q, hq⟩ : ∃ q, mayE ⟨padv now t, hs, l⟩ m a = q := ⟨_, rfl⟩
    have hq' : mayE (St.adv ⟨now, hs, l⟩ t) m a = q := hq
    simp only [hq'] at hr
    by_cases h0 : q = 0
    · subst h0
      simp only [beq_self_eq_true, if_true] at hr
      injection hr with h1 h2
      subst h1; subst h2
      have hs_ : sfhas l a.num = true := mayE_has (hok1.adv t) hq
      obtain ⟨x0, hx0, _⟩ := sfhas_at hs_
      have hn : (St.adv ⟨now, hs, l⟩ t).now = padv now t := rfl
      have hl : (St.l ⟨now, hs, l⟩) = l := rfl
      cases hf : hldF m (padv now t) l with
      | none =>
        have he : slPut (endL m (St.adv ⟨now, hs, l⟩ t).now (St.l ⟨now, hs, l⟩)) m a ((St.adv ⟨now, hs, l⟩ t).now + secs) = l.set (sfpos l a.num) ⟨m, a, padv now t + secs, x0.fx, true, false, x0.br⟩ := by
          simp only [hn, endL, hf, slPut]
          rw [modify_at hx0]
        rw [he] at hok ⊢
        exact ptake_new m a t secs w hT hpm hq hf rfl hs_ hx0 hok
      | some i =>
        obtain ⟨x, hx, _⟩ := hldF_at hf
        have hmp : (l.set i ⟨x.m, x.ad, 0, x.fx, x.le, x.rp, x.br⟩).map Sd.num = l.map Sd.num := map_set hx rfl
        obtain ⟨y, hy⟩ : ∃ y, (l.set i ⟨x.m, x.ad, 0, x.fx, x.le, x.rp, x.br⟩)[sfpos l a.num]? = some y := ⟨_, List.getElem?_eq_getElem (by rw [List.length_set]; exact (List.getElem?_eq_some_iff.1 hx0).1)⟩
        have he : slPut (endL m (St.adv ⟨now, hs, l⟩ t).now (St.l ⟨now, hs, l⟩)) m a ((St.adv ⟨now, hs, l⟩ t).now + secs) = (l.set i ⟨x.m, x.ad, 0, x.fx, x.le, x.rp, x.br⟩).set (sfpos l a.num) ⟨m, a, padv now t + secs, y.fx, true, false, y.br⟩ := by
          simp only [hn, endL, hf, slPut]
          rw [modify_at hx, sfpos_map hmp, modify_at hy]
        rw [he] at hok ⊢
        exact ptake_move m a t secs w hT hpm hq hf hx rfl hs_ hy hok
    · have h0' : (q == 0) = false := beq_eq_false_iff_ne.2 h0
      simp only [h0', Bool.false_eq_true, if_false] at hr
      injection hr with h1 h2
      subst h1; subst h2
      exact ptake_no m a t secs w hT hpm hq h0
set_option linter.unusedVariables false in
set_option linter.unusedSimpArgs false in
set_option maxRecDepth 100000 in
set_option maxHeartbeats 16000000 in
theorem pend_no0 {lo gt : Nat} {now : Int} {hs : List (Mc6 × Ad4)} {l : List Sd} (m : Mc6) (a : Ad4)  (w : World) (hT : Pl lo gt w ⟨now, hs, l⟩) (hs_ : sfhas l a.num = false) : Calls Try.prog 23 #[.pointer (some ⟨gt, 0, none⟩), .agg #[.int .u8 (m.a.toNat : Int), .int .u8 (m.b.toNat : Int), .int .u8 (m.c.toNat : Int), .int .u8 (m.d.toNat : Int), .int .u8 (m.e.toNat : Int), .int .u8 (m.f.toNat : Int)], .agg #[.int .u8 (a.a.toNat : Int), .int .u8 (a.b.toNat : Int), .int .u8 (a.c.toNat : Int), .int .u8 (a.d.toNat : Int)]] w fun e w' => e = .returned (.bool false) ∧ Pl lo gt w' ⟨now, hs, l⟩ ∧ Kt [84, 101] w w' ∧ Below lo w w' := by
  obtain ⟨A, n, c, mb, htb, otb, hM, own, hok⟩ := hT
  dsimp only at htb hM own
  have hlo : lo ≤ w.heap.size := Nat.le_trans otb (Nat.le_of_lt (hlt htb))
  have off_tb := ofs_type own htb (by decide)
  have hl := row_len (by decide) slE_len own
  have HLL := Lib.hid hl
  have HLO := Lib.hid hlo
  have HOK := Lib.hid hok
  have H32 : Hid (n ≤ 1000) := Lib.hid (by have := hok.len; simp only at this; omega)
  have kt := Kt.refl [84, 101] w
  clear hl hok
  have HFS := Lib.hid hs_
  clear hs_
  obtain ⟨p, hp⟩ : ∃ p, sfpos l a.num = p := ⟨_, rfl⟩
  have HP := Lib.hid hp
  clear hp
  have bel := Below.refl lo w
  go_enter Try.func23, Try.ntmps23
  go_wp2_with (first | ((with_reducible show wpList _ _ _ (⟨some 4, _, _, _, _, _⟩ :: _) _ _); refine wpList_box_n rfl 32 (.tmp 1) rfl #[.int .u8 (m.a.toNat : Int), .int .u8 (m.b.toNat : Int), .int .u8 (m.c.toNat : Int), .int .u8 (m.d.toNat : Int), .int .u8 (m.e.toNat : Int), .int .u8 (m.f.toNat : Int)] rfl ?_; intro g4 w1 ge lt hh bb; have d_tb_mB := ne_new (hlt htb) ge; have omB := Nat.le_trans (Nat.le_trans hlo bel.size) ge; have off_mB := owk_new own ge; have pn_mB := Nat.le_trans bel.size ge; replace htb := blk_u htb bb; replace own := owk_under own bb; replace kt := kt.trans (kt_below bb); replace hM := hM.below bb; replace bel := bel.trans (bb.mono (Nat.le_trans hlo bel.size)); have hmB := hh; clear hh lt ge bb) | ((with_reducible show wpList _ _ _ (⟨some 5, _, _, _, _, _⟩ :: _) _ _); refine wpList_box_n rfl 28 (.tmp 2) rfl #[.int .u8 (a.a.toNat : Int), .int .u8 (a.b.toNat : Int), .int .u8 (a.c.toNat : Int), .int .u8 (a.d.toNat : Int)] rfl ?_; intro g5 w2 ge lt hh bb; have d_tb_aB := ne_new (hlt htb) ge; have d_mB_aB := ne_new (hlt hmB) ge; have oaB := Nat.le_trans (Nat.le_trans hlo bel.size) ge; have off_aB := owk_new own ge; have pn_aB := Nat.le_trans bel.size ge; replace htb := blk_u htb bb; replace hmB := blk_u hmB bb; replace own := owk_under own bb; replace kt := kt.trans (kt_below bb); replace hM := hM.below bb; replace bel := bel.trans (bb.mono (Nat.le_trans hlo bel.size)); have haB := hh; clear hh lt ge bb; have R11 := Lib.hid (range_lit haB 0 4 [.int .u8 (a.a.toNat : Int), .int .u8 (a.b.toNat : Int), .int .u8 (a.c.toNat : Int), .int .u8 (a.d.toNat : Int)] rfl)) | ((with_reducible show wpList _ _ _ (⟨some 11, _, _, _, _, _⟩ :: _) _ _); refine wpList_load_rng 28 (.tmp 5) rfl (by kernel_rfl) _ _ rfl _ R11.out _ Try.underlying28 rfl (by kernel_rfl) ?_))
  try clear R11
  with_reducible refine (pfind_is a _ htb (owk_sle (by decide) slE_len own).1 HOK.out.srt H32.out HP.out HFS.out).mono ?_
  rintro e w3 ⟨rfl, b3⟩
  replace htb := blk_u htb b3
  replace hmB := blk_u hmB b3
  replace haB := blk_u haB b3
  replace own := owk_under own b3
  replace kt := kt.trans (kt_below b3)
  replace hM := hM.below b3
  replace bel := bel.trans (b3.mono (Nat.le_trans hlo bel.size))
  clear b3
  go_wp2_with fail
  replace bel := bel.drew
  replace htb : w3.drew.heap[gt]? = _ := htb
  replace hmB : w3.drew.heap[g4]? = _ := hmB
  replace haB : w3.drew.heap[g5]? = _ := haB
  replace own := World.ownsRow.drew own
  replace kt := kt_drew kt
  replace hM := hm_drew hM
  refine wp_region_held_drew (S := fun W => W.heap[gt]? = some (.cells #[.int .i64 now, .map (some mb), .slice A n c] 84 (0, 0)) ∧ W.heap[g4]? = some (.cells #[.int .u8 (m.a.toNat : Int), .int .u8 (m.b.toNat : Int), .int .u8 (m.c.toNat : Int), .int .u8 (m.d.toNat : Int), .int .u8 (m.e.toNat : Int), .int .u8 (m.f.toNat : Int)] 32 (0, 0))) (by kernel_rfl) ⟨htb, hmB⟩ (fun hH => ?_)
  generalize w3.drew = w4 at bel htb hmB haB own kt hM hH ⊢
  refine wpAnyH_take (i := 0) (v := ?_) rfl (by kernel_rfl) (by kernel_rfl) (by kernel_rfl) (fun _ _ _ h => h) (Or.inl ⟨by rfl, ?_⟩) hH ?_
  rotate_left
  · ((intro W hW; clear hW; go_simp) <;> with_reducible rfl)
  simp only [Act.put, List.getElem_toArray, List.getElem_cons_zero, List.setIfInBounds_toArray, List.set_cons_zero, List.set_cons_succ]
  refine wpAnyH_take (i := 1) (v := ?_) rfl (by kernel_rfl) (by kernel_rfl) (by kernel_rfl) (fun _ _ _ h => h) (Or.inl ⟨by rfl, ?_⟩) hH ?_
  rotate_left
  · ((intro W hW; clear hW; go_simp) <;> with_reducible rfl)
  simp only [sq3, sq4]
  refine wpAnyH_take (i := 2) (v := ?_) rfl (by kernel_rfl) (by kernel_rfl) (by kernel_rfl) (fun _ _ _ h => h) (Or.inl ⟨by rfl, ?_⟩) hH ?_
  rotate_left
  · ((intro W hW; clear hW; go_simp) <;> with_reducible rfl)
  simp only [sq3, sq4]
  refine wpAnyH_take (i := 3) (v := undef) rfl (by kernel_rfl) (by kernel_rfl) (by kernel_rfl) (fun _ _ _ h => h) (Or.inr ⟨by rfl, rfl⟩) hH ?_
  simp only [sq3, sq4]
  refine wpAnyH_take (i := 4) (v := undef) rfl (by kernel_rfl) (by kernel_rfl) (by kernel_rfl) (fun _ _ _ h => h) (Or.inr ⟨by rfl, rfl⟩) hH ?_
  simp only [sq3, sq4]
  refine wpAnyH_take (i := 5) (v := undef) rfl (by kernel_rfl) (by kernel_rfl) (by kernel_rfl) (fun _ _ _ h => h) (Or.inr ⟨by rfl, rfl⟩) hH ?_
  simp only [sq3, sq4]
  refine wpAnyH_take (i := 6) (v := undef) rfl (by kernel_rfl) (by kernel_rfl) (by kernel_rfl) (fun _ _ _ h => h) (Or.inr ⟨by rfl, rfl⟩) hH ?_
  simp only [sq3, sq4]
  refine wpAnyH_take (i := 7) (v := undef) rfl (by kernel_rfl) (by kernel_rfl) (by kernel_rfl) (fun _ _ _ h => h) (Or.inr ⟨by rfl, rfl⟩) hH ?_
  simp only [sq3, sq4]
  refine wpAnyH_take (i := 8) (v := undef) rfl (by kernel_rfl) (by kernel_rfl) (by kernel_rfl) (fun _ _ _ h => h) (Or.inr ⟨by rfl, rfl⟩) hH ?_
  simp only [sq3, sq4]
  refine wpAnyH_take (i := 9) (v := undef) rfl (by kernel_rfl) (by kernel_rfl) (by kernel_rfl) (fun _ _ _ h => h) (Or.inr ⟨by rfl, rfl⟩) hH ?_
  simp only [sq3, sq4]
  refine wpAnyH_take (i := 10) (v := undef) rfl (by kernel_rfl) (by kernel_rfl) (by kernel_rfl) (fun _ _ _ h => h) (Or.inr ⟨by rfl, rfl⟩) hH ?_
  simp only [sq3, sq4]
  refine wpAnyH_take (i := 11) (v := undef) rfl (by kernel_rfl) (by kernel_rfl) (by kernel_rfl) (fun _ _ _ h => h) (Or.inr ⟨by rfl, rfl⟩) hH ?_
  simp only [sq3, sq4]
  refine wpAnyH_take (i := 12) (v := ?_) rfl (by kernel_rfl) (by kernel_rfl) (by kernel_rfl) (fun _ _ _ h => h) (Or.inl ⟨by rfl, ?_⟩) hH ?_
  rotate_left
  · ((intro W hW; clear hW; go_simp) <;> with_reducible rfl)
  simp only [sq3, sq4]
  refine wpAnyH_take (i := 13) (v := ?_) rfl (by kernel_rfl) (by kernel_rfl) (by kernel_rfl) (fun _ _ _ h => h) (Or.inl ⟨by rfl, ?_⟩) hH ?_
  rotate_left
  · ((intro W hW; clear hW; go_simp) <;> with_reducible rfl)
  simp only [sq3, sq4]
  refine wpAnyH_take (i := 14) (v := undef) rfl (by kernel_rfl) (by kernel_rfl) (by kernel_rfl) (fun _ _ _ h => h) (Or.inr ⟨by rfl, rfl⟩) hH ?_
  simp only [sq3, sq4]
  refine wpAnyH_take (i := 15) (v := undef) rfl (by kernel_rfl) (by kernel_rfl) (by kernel_rfl) (fun _ _ _ h => h) (Or.inr ⟨by rfl, rfl⟩) hH ?_
  simp only [sq3, sq4]
  refine wpAnyH_take (i := 16) (v := undef) rfl (by kernel_rfl) (by kernel_rfl) (by kernel_rfl) (fun _ _ _ h => h) (Or.inr ⟨by rfl, rfl⟩) hH ?_
  simp only [sq3, sq4]
  refine wpAnyH_take (i := 17) (v := undef) rfl (by kernel_rfl) (by kernel_rfl) (by kernel_rfl) (fun _ _ _ h => h) (Or.inr ⟨by rfl, rfl⟩) hH ?_
  simp only [sq3, sq4]
  refine wpAnyH_take (i := 18) (v := undef) rfl (by kernel_rfl) (by kernel_rfl) (by kernel_rfl) (fun _ _ _ h => h) (Or.inr ⟨by rfl, rfl⟩) hH ?_
  simp only [sq3, sq4]
  refine wpAnyH_take (i := 19) (v := undef) rfl (by kernel_rfl) (by kernel_rfl) (by kernel_rfl) (fun _ _ _ h => h) (Or.inr ⟨by rfl, rfl⟩) hH ?_
  simp only [sq3, sq4]
  refine wpAnyH_take (i := 20) (v := undef) rfl (by kernel_rfl) (by kernel_rfl) (by kernel_rfl) (fun _ _ _ h => h) (Or.inr ⟨by rfl, rfl⟩) hH ?_
  simp only [sq3, sq4]
  refine wpAnyH_take (i := 21) (v := undef) rfl (by kernel_rfl) (by kernel_rfl) (by kernel_rfl) (fun _ _ _ h => h) (Or.inr ⟨by rfl, rfl⟩) hH ?_
  simp only [sq3, sq4]
  refine wpAnyH_take (i := 22) (v := undef) rfl (by kernel_rfl) (by kernel_rfl) (by kernel_rfl) (fun _ _ _ h => h) (Or.inr ⟨by rfl, rfl⟩) hH ?_
  simp only [sq3, sq4]
  refine wpAnyH_take (i := 23) (v := undef) rfl (by kernel_rfl) (by kernel_rfl) (by kernel_rfl) (fun _ _ _ h => h) (Or.inr ⟨by rfl, rfl⟩) hH ?_
  simp only [sq3, sq4]
  refine wpAnyH_take (i := 24) (v := undef) rfl (by kernel_rfl) (by kernel_rfl) (by kernel_rfl) (fun _ _ _ h => h) (Or.inr ⟨by rfl, rfl⟩) hH ?_
  simp only [sq3, sq4]
  refine wpAnyH_take (i := 25) (v := ?_) rfl (by kernel_rfl) (by kernel_rfl) (by kernel_rfl) (fun _ _ _ h => h) (Or.inl ⟨by rfl, ?_⟩) hH ?_
  rotate_left
  · ((intro W hW; clear hW; go_simp) <;> with_reducible rfl)
  simp only [sq3, sq4]
  refine wpAnyH_done (by kernel_rfl) ?_ _
  go_wp2_with fail
  go_ret
  exact ⟨rfl, ⟨A, n, c, mb, htb, otb, hM, own, HOK.out⟩, kt, bel⟩
set_option linter.unusedVariables false in
set_option linter.unusedSimpArgs false in
set_option maxRecDepth 100000 in
set_option maxHeartbeats 16000000 in
theorem pend_no1 {lo gt : Nat} {now : Int} {hs : List (Mc6 × Ad4)} {l : List Sd} (m : Mc6) (a : Ad4) {i : Nat} {xm : Mc6} {xa : Ad4} {xu : Int} {xf xr : Bool} {xb : Int}  (w : World) (hT : Pl lo gt w ⟨now, hs, l⟩) (hs_ : sfhas l a.num = true) (hp : sfpos l a.num = i) (hx : l[i]? = some ⟨xm, xa, xu, xf, false, xr, xb⟩) : Calls Try.prog 23 #[.pointer (some ⟨gt, 0, none⟩), .agg #[.int .u8 (m.a.toNat : Int), .int .u8 (m.b.toNat : Int), .int .u8 (m.c.toNat : Int), .int .u8 (m.d.toNat : Int), .int .u8 (m.e.toNat : Int), .int .u8 (m.f.toNat : Int)], .agg #[.int .u8 (a.a.toNat : Int), .int .u8 (a.b.toNat : Int), .int .u8 (a.c.toNat : Int), .int .u8 (a.d.toNat : Int)]] w fun e w' => e = .returned (.bool false) ∧ Pl lo gt w' ⟨now, hs, l⟩ ∧ Kt [84, 101] w w' ∧ Below lo w w' := by
  obtain ⟨A, n, c, mb, htb, otb, hM, own, hok⟩ := hT
  dsimp only at htb hM own
  have hlo : lo ≤ w.heap.size := Nat.le_trans otb (Nat.le_of_lt (hlt htb))
  have off_tb := ofs_type own htb (by decide)
  have hl := row_len (by decide) slE_len own
  have HLL := Lib.hid hl
  have HLO := Lib.hid hlo
  have HOK := Lib.hid hok
  have H32 : Hid (n ≤ 1000) := Lib.hid (by have := hok.len; simp only at this; omega)
  have kt := Kt.refl [84, 101] w
  clear hl hok
  have hin_ : i < n := by have h1_ := (List.getElem?_eq_some_iff.1 hx).1; have h2_ := HLL.out; omega
  have i0 : (0 : Int) ≤ i := by omega
  have i1 : (i : Int) < n := by omega
  obtain ⟨gE, rfl, _⟩ := row_at own (by omega)
  have en := (owk_sle (by decide) slE_len own).1
  have av_en_tb := owk_av own off_tb
  have HFS := Lib.hid hs_
  clear hs_
  have HP := Lib.hid hp
  clear hp
  have HX := Lib.hid hx
  clear hx
  have bel := Below.refl lo w
  go_enter Try.func23, Try.ntmps23
  go_wp2_with (first | ((with_reducible show wpList _ _ _ (⟨some 4, _, _, _, _, _⟩ :: _) _ _); refine wpList_box_n rfl 32 (.tmp 1) rfl #[.int .u8 (m.a.toNat : Int), .int .u8 (m.b.toNat : Int), .int .u8 (m.c.toNat : Int), .int .u8 (m.d.toNat : Int), .int .u8 (m.e.toNat : Int), .int .u8 (m.f.toNat : Int)] rfl ?_; intro g4 w1 ge lt hh bb; have d_tb_mB := ne_new (hlt htb) ge; have av_en_mB := en.av_new ge; have omB := Nat.le_trans (Nat.le_trans hlo bel.size) ge; have off_mB := owk_new own ge; have pn_mB := Nat.le_trans bel.size ge; replace htb := blk_u htb bb; replace en := en.below bb; replace own := owk_under own bb; replace kt := kt.trans (kt_below bb); replace hM := hM.below bb; replace bel := bel.trans (bb.mono (Nat.le_trans hlo bel.size)); have hmB := hh; clear hh lt ge bb) | ((with_reducible show wpList _ _ _ (⟨some 5, _, _, _, _, _⟩ :: _) _ _); refine wpList_box_n rfl 28 (.tmp 2) rfl #[.int .u8 (a.a.toNat : Int), .int .u8 (a.b.toNat : Int), .int .u8 (a.c.toNat : Int), .int .u8 (a.d.toNat : Int)] rfl ?_; intro g5 w2 ge lt hh bb; have d_tb_aB := ne_new (hlt htb) ge; have d_mB_aB := ne_new (hlt hmB) ge; have av_en_aB := en.av_new ge; have oaB := Nat.le_trans (Nat.le_trans hlo bel.size) ge; have off_aB := owk_new own ge; have pn_aB := Nat.le_trans bel.size ge; replace htb := blk_u htb bb; replace hmB := blk_u hmB bb; replace en := en.below bb; replace own := owk_under own bb; replace kt := kt.trans (kt_below bb); replace hM := hM.below bb; replace bel := bel.trans (bb.mono (Nat.le_trans hlo bel.size)); have haB := hh; clear hh lt ge bb; have R11 := Lib.hid (range_lit haB 0 4 [.int .u8 (a.a.toNat : Int), .int .u8 (a.b.toNat : Int), .int .u8 (a.c.toNat : Int), .int .u8 (a.d.toNat : Int)] rfl)) | ((with_reducible show wpList _ _ _ (⟨some 11, _, _, _, _, _⟩ :: _) _ _); refine wpList_load_rng 28 (.tmp 5) rfl (by kernel_rfl) _ _ rfl _ R11.out _ Try.underlying28 rfl (by kernel_rfl) ?_))
  try clear R11
  with_reducible refine (pfind_is a _ htb (owk_sle (by decide) slE_len own).1 HOK.out.srt H32.out HP.out HFS.out).mono ?_
  rintro e w3 ⟨rfl, b3⟩
  replace htb := blk_u htb b3
  replace hmB := blk_u hmB b3
  replace haB := blk_u haB b3
  replace en := en.below b3
  replace own := owk_under own b3
  replace kt := kt.trans (kt_below b3)
  replace hM := hM.below b3
  replace bel := bel.trans (b3.mono (Nat.le_trans hlo bel.size))
  clear b3
  go_wp2_with fail
  replace bel := bel.drew
  replace htb : w3.drew.heap[gt]? = _ := htb
  replace hmB : w3.drew.heap[g4]? = _ := hmB
  replace haB : w3.drew.heap[g5]? = _ := haB
  replace en := en.drew
  replace own := World.ownsRow.drew own
  replace kt := kt_drew kt
  replace hM := hm_drew hM
  refine wp_region_held_drew (S := fun W => W.heap[gt]? = some (.cells #[.int .i64 now, .map (some mb), .slice (some ⟨gE, 0, none⟩) n c] 84 (0, 0)) ∧ W.heap[g4]? = some (.cells #[.int .u8 (m.a.toNat : Int), .int .u8 (m.b.toNat : Int), .int .u8 (m.c.toNat : Int), .int .u8 (m.d.toNat : Int), .int .u8 (m.e.toNat : Int), .int .u8 (m.f.toNat : Int)] 32 (0, 0)) ∧ Sle slE 15 W (some ⟨gE, 0, none⟩) (n) (c) (l)) (by kernel_rfl) ⟨htb, hmB, en⟩ (fun hH => ?_)
  generalize w3.drew = w4 at bel htb hmB haB en own kt hM hH ⊢
  refine wpAnyH_take (i := 0) (v := ?_) rfl (by kernel_rfl) (by kernel_rfl) (by kernel_rfl) (fun _ _ _ h => h) (Or.inl ⟨by rfl, ?_⟩) hH ?_
  rotate_left
  · ((intro W hW; clear hW; go_simp) <;> with_reducible rfl)
  simp only [Act.put, List.getElem_toArray, List.getElem_cons_zero, List.setIfInBounds_toArray, List.set_cons_zero, List.set_cons_succ]
  refine wpAnyH_take (i := 1) (v := ?_) rfl (by kernel_rfl) (by kernel_rfl) (by kernel_rfl) (fun _ _ _ h => h) (Or.inl ⟨by rfl, ?_⟩) hH ?_
  rotate_left
  · ((intro W hW; clear hW; go_simp) <;> with_reducible rfl)
  simp only [sq3, sq4]
  refine wpAnyH_take (i := 2) (v := ?_) rfl (by kernel_rfl) (by kernel_rfl) (by kernel_rfl) (fun _ _ _ h => h) (Or.inl ⟨by rfl, ?_⟩) hH ?_
  rotate_left
  · ((intro W hW; clear hW; go_simp) <;> with_reducible rfl)
  simp only [sq3, sq4]
  refine wpAnyH_take (i := 3) (v := ?_) rfl (by kernel_rfl) (by kernel_rfl) (by kernel_rfl) (fun _ _ _ h => h) (Or.inl ⟨by rfl, ?_⟩) hH ?_
  rotate_left
  · ((intro W hW; clear hW; go_simp) <;> with_reducible rfl)
  simp only [sq3, sq4]
  refine wpAnyH_take (i := 4) (v := ?_) rfl (by kernel_rfl) (by kernel_rfl) (by kernel_rfl) (fun _ _ _ h => h) (Or.inl ⟨by rfl, ?_⟩) hH ?_
  rotate_left
  · ((intro W hW; clear hW; go_simp) <;> with_reducible rfl)
  simp only [sq3, sq4]
  refine wpAnyH_take (i := 5) (v := ?_) rfl (by kernel_rfl) (by kernel_rfl) (by kernel_rfl) (fun _ _ _ h => h) (Or.inl ⟨by rfl, ?_⟩) hH ?_
  rotate_left
  · ((intro W hW; clear hW; go_simp) <;> with_reducible rfl)
  simp only [sq3, sq4]
  refine wpAnyH_take (i := 6) (v := ?_) rfl (by kernel_rfl) (by kernel_rfl) (by kernel_rfl) (fun _ _ _ h => h) (Or.inl ⟨by rfl, ?_⟩) hH ?_
  rotate_left
  · ((intro W hW; have hk := cell_lit (hW.1) 2 _ rfl; clear hW; go_simp) <;> with_reducible rfl)
  simp only [sq3, sq4]
  refine wpAnyH_take (i := 7) (v := ?_) rfl (by kernel_rfl) (by kernel_rfl) (by kernel_rfl) (fun _ _ _ h => h) (Or.inl ⟨by rfl, ?_⟩) hH ?_
  rotate_left
  · ((intro W hW; clear hW; go_simp) <;> with_reducible rfl)
  simp only [sq3, sq4]
  refine wpAnyH_take (i := 8) (v := ?_) rfl (by kernel_rfl) (by kernel_rfl) (by kernel_rfl) (fun _ _ _ h => h) (Or.inl ⟨by rfl, ?_⟩) hH ?_
  rotate_left
  · ((intro W hW; clear hW; go_simp) <;> with_reducible rfl)
  simp only [sq3, sq4]
  refine wpAnyH_take (i := 9) (v := ?_) rfl (by kernel_rfl) (by kernel_rfl) (by kernel_rfl) (fun _ _ _ h => h) (Or.inl ⟨by rfl, ?_⟩) hH ?_
  rotate_left
  · ((intro W hW; clear hW; go_simp) <;> with_reducible rfl)
  simp only [sq3, sq4]
  refine wpAnyH_take (i := 10) (v := ?_) rfl (by kernel_rfl) (by kernel_rfl) (by kernel_rfl) (fun _ _ _ h => h) (Or.inl ⟨by rfl, ?_⟩) hH ?_
  rotate_left
  · ((intro W hW; have hk := Sle.zcell (hW.2.2) HX.out 12 _ rfl; clear hW; go_simp) <;> with_reducible rfl)
  simp only [sq3, sq4]
  refine wpAnyH_take (i := 11) (v := ?_) rfl (by kernel_rfl) (by kernel_rfl) (by kernel_rfl) (fun _ _ _ h => h) (Or.inl ⟨by rfl, ?_⟩) hH ?_
  rotate_left
  · ((intro W hW; clear hW; go_simp) <;> with_reducible rfl)
  simp only [sq3, sq4]
  refine wpAnyH_take (i := 12) (v := ?_) rfl (by kernel_rfl) (by kernel_rfl) (by kernel_rfl) (fun _ _ _ h => h) (Or.inl ⟨by rfl, ?_⟩) hH ?_
  rotate_left
  · ((intro W hW; clear hW; go_simp) <;> with_reducible rfl)
  simp only [sq3, sq4]
  refine wpAnyH_take (i := 13) (v := ?_) rfl (by kernel_rfl) (by kernel_rfl) (by kernel_rfl) (fun _ _ _ h => h) (Or.inl ⟨by rfl, ?_⟩) hH ?_
  rotate_left
  · ((intro W hW; clear hW; go_simp) <;> with_reducible rfl)
  simp only [sq3, sq4]
  refine wpAnyH_take (i := 14) (v := undef) rfl (by kernel_rfl) (by kernel_rfl) (by kernel_rfl) (fun _ _ _ h => h) (Or.inr ⟨by rfl, rfl⟩) hH ?_
  simp only [sq3, sq4]
  refine wpAnyH_take (i := 15) (v := undef) rfl (by kernel_rfl) (by kernel_rfl) (by kernel_rfl) (fun _ _ _ h => h) (Or.inr ⟨by rfl, rfl⟩) hH ?_
  simp only [sq3, sq4]
  refine wpAnyH_take (i := 16) (v := undef) rfl (by kernel_rfl) (by kernel_rfl) (by kernel_rfl) (fun _ _ _ h => h) (Or.inr ⟨by rfl, rfl⟩) hH ?_
  simp only [sq3, sq4]
  refine wpAnyH_take (i := 17) (v := undef) rfl (by kernel_rfl) (by kernel_rfl) (by kernel_rfl) (fun _ _ _ h => h) (Or.inr ⟨by rfl, rfl⟩) hH ?_
  simp only [sq3, sq4]
  refine wpAnyH_take (i := 18) (v := undef) rfl (by kernel_rfl) (by kernel_rfl) (by kernel_rfl) (fun _ _ _ h => h) (Or.inr ⟨by rfl, rfl⟩) hH ?_
  simp only [sq3, sq4]
  refine wpAnyH_take (i := 19) (v := undef) rfl (by kernel_rfl) (by kernel_rfl) (by kernel_rfl) (fun _ _ _ h => h) (Or.inr ⟨by rfl, rfl⟩) hH ?_
  simp only [sq3, sq4]
  refine wpAnyH_take (i := 20) (v := undef) rfl (by kernel_rfl) (by kernel_rfl) (by kernel_rfl) (fun _ _ _ h => h) (Or.inr ⟨by rfl, rfl⟩) hH ?_
  simp only [sq3, sq4]
  refine wpAnyH_take (i := 21) (v := undef) rfl (by kernel_rfl) (by kernel_rfl) (by kernel_rfl) (fun _ _ _ h => h) (Or.inr ⟨by rfl, rfl⟩) hH ?_
  simp only [sq3, sq4]
  refine wpAnyH_take (i := 22) (v := undef) rfl (by kernel_rfl) (by kernel_rfl) (by kernel_rfl) (fun _ _ _ h => h) (Or.inr ⟨by rfl, rfl⟩) hH ?_
  simp only [sq3, sq4]
  refine wpAnyH_take (i := 23) (v := undef) rfl (by kernel_rfl) (by kernel_rfl) (by kernel_rfl) (fun _ _ _ h => h) (Or.inr ⟨by rfl, rfl⟩) hH ?_
  simp only [sq3, sq4]
  refine wpAnyH_take (i := 24) (v := undef) rfl (by kernel_rfl) (by kernel_rfl) (by kernel_rfl) (fun _ _ _ h => h) (Or.inr ⟨by rfl, rfl⟩) hH ?_
  simp only [sq3, sq4]
  refine wpAnyH_take (i := 25) (v := ?_) rfl (by kernel_rfl) (by kernel_rfl) (by kernel_rfl) (fun _ _ _ h => h) (Or.inl ⟨by rfl, ?_⟩) hH ?_
  rotate_left
  · ((intro W hW; clear hW; go_simp) <;> with_reducible rfl)
  simp only [sq3, sq4]
  refine wpAnyH_done (by kernel_rfl) ?_ _
  go_wp2_with fail
  go_ret
  exact ⟨rfl, ⟨(some ⟨gE, 0, none⟩), n, c, mb, htb, otb, hM, own, HOK.out⟩, kt, bel⟩
set_option linter.unusedVariables false in
set_option linter.unusedSimpArgs false in
set_option maxRecDepth 100000 in
set_option maxHeartbeats 16000000 in
theorem pend_no2 {lo gt : Nat} {now : Int} {hs : List (Mc6 × Ad4)} {l : List Sd} (m : Mc6) (a : Ad4) {i : Nat} {xm : Mc6} {xa : Ad4} {xu : Int} {xf xr : Bool} {xb : Int}  (w : World) (hT : Pl lo gt w ⟨now, hs, l⟩) (hs_ : sfhas l a.num = true) (hp : sfpos l a.num = i) (hx : l[i]? = some ⟨xm, xa, xu, xf, true, xr, xb⟩) (hm : xm.eqB m = false) : Calls Try.prog 23 #[.pointer (some ⟨gt, 0, none⟩), .agg #[.int .u8 (m.a.toNat : Int), .int .u8 (m.b.toNat : Int), .int .u8 (m.c.toNat : Int), .int .u8 (m.d.toNat : Int), .int .u8 (m.e.toNat : Int), .int .u8 (m.f.toNat : Int)], .agg #[.int .u8 (a.a.toNat : Int), .int .u8 (a.b.toNat : Int), .int .u8 (a.c.toNat : Int), .int .u8 (a.d.toNat : Int)]] w fun e w' => e = .returned (.bool false) ∧ Pl lo gt w' ⟨now, hs, l⟩ ∧ Kt [84, 101] w w' ∧ Below lo w w' := by
  obtain ⟨A, n, c, mb, htb, otb, hM, own, hok⟩ := hT
  dsimp only at htb hM own
  have hlo : lo ≤ w.heap.size := Nat.le_trans otb (Nat.le_of_lt (hlt htb))
  have off_tb := ofs_type own htb (by decide)
  have hl := row_len (by decide) slE_len own
  have HLL := Lib.hid hl
  have HLO := Lib.hid hlo
  have HOK := Lib.hid hok
  have H32 : Hid (n ≤ 1000) := Lib.hid (by have := hok.len; simp only at this; omega)
  have kt := Kt.refl [84, 101] w
  clear hl hok
  have hin_ : i < n := by have h1_ := (List.getElem?_eq_some_iff.1 hx).1; have h2_ := HLL.out; omega
  have i0 : (0 : Int) ≤ i := by omega
  have i1 : (i : Int) < n := by omega
  obtain ⟨gE, rfl, _⟩ := row_at own (by omega)
  have en := (owk_sle (by decide) slE_len own).1
  have av_en_tb := owk_av own off_tb
  have HFS := Lib.hid hs_
  clear hs_
  have q39 : ∀ W, (binOp .neq 32 (.agg #[.int .u8 (xm.a.toNat : Int), .int .u8 (xm.b.toNat : Int), .int .u8 (xm.c.toNat : Int), .int .u8 (xm.d.toNat : Int), .int .u8 (xm.e.toNat : Int), .int .u8 (xm.f.toNat : Int)]) (.agg #[.int .u8 (m.a.toNat : Int), .int .u8 (m.b.toNat : Int), .int .u8 (m.c.toNat : Int), .int .u8 (m.d.toNat : Int), .int .u8 (m.e.toNat : Int), .int .u8 (m.f.toNat : Int)])).run Try.prog W = .ok (.bool true) W := fun W => by have h_ := nem_b xm m W; rw [hm] at h_; exact h_
  have HP := Lib.hid hp
  clear hp
  have HX := Lib.hid hx
  clear hx
  have HM := Lib.hid hm
  clear hm
  have bel := Below.refl lo w
  go_enter Try.func23, Try.ntmps23
  go_wp2_with (first | ((with_reducible show wpList _ _ _ (⟨some 4, _, _, _, _, _⟩ :: _) _ _); refine wpList_box_n rfl 32 (.tmp 1) rfl #[.int .u8 (m.a.toNat : Int), .int .u8 (m.b.toNat : Int), .int .u8 (m.c.toNat : Int), .int .u8 (m.d.toNat : Int), .int .u8 (m.e.toNat : Int), .int .u8 (m.f.toNat : Int)] rfl ?_; intro g4 w1 ge lt hh bb; have d_tb_mB := ne_new (hlt htb) ge; have av_en_mB := en.av_new ge; have omB := Nat.le_trans (Nat.le_trans hlo bel.size) ge; have off_mB := owk_new own ge; have pn_mB := Nat.le_trans bel.size ge; replace htb := blk_u htb bb; replace en := en.below bb; replace own := owk_under own bb; replace kt := kt.trans (kt_below bb); replace hM := hM.below bb; replace bel := bel.trans (bb.mono (Nat.le_trans hlo bel.size)); have hmB := hh; clear hh lt ge bb) | ((with_reducible show wpList _ _ _ (⟨some 5, _, _, _, _, _⟩ :: _) _ _); refine wpList_box_n rfl 28 (.tmp 2) rfl #[.int .u8 (a.a.toNat : Int), .int .u8 (a.b.toNat : Int), .int .u8 (a.c.toNat : Int), .int .u8 (a.d.toNat : Int)] rfl ?_; intro g5 w2 ge lt hh bb; have d_tb_aB := ne_new (hlt htb) ge; have d_mB_aB := ne_new (hlt hmB) ge; have av_en_aB := en.av_new ge; have oaB := Nat.le_trans (Nat.le_trans hlo bel.size) ge; have off_aB := owk_new own ge; have pn_aB := Nat.le_trans bel.size ge; replace htb := blk_u htb bb; replace hmB := blk_u hmB bb; replace en := en.below bb; replace own := owk_under own bb; replace kt := kt.trans (kt_below bb); replace hM := hM.below bb; replace bel := bel.trans (bb.mono (Nat.le_trans hlo bel.size)); have haB := hh; clear hh lt ge bb; have R11 := Lib.hid (range_lit haB 0 4 [.int .u8 (a.a.toNat : Int), .int .u8 (a.b.toNat : Int), .int .u8 (a.c.toNat : Int), .int .u8 (a.d.toNat : Int)] rfl)) | ((with_reducible show wpList _ _ _ (⟨some 11, _, _, _, _, _⟩ :: _) _ _); refine wpList_load_rng 28 (.tmp 5) rfl (by kernel_rfl) _ _ rfl _ R11.out _ Try.underlying28 rfl (by kernel_rfl) ?_))
  try clear R11
  with_reducible refine (pfind_is a _ htb (owk_sle (by decide) slE_len own).1 HOK.out.srt H32.out HP.out HFS.out).mono ?_
  rintro e w3 ⟨rfl, b3⟩
  replace htb := blk_u htb b3
  replace hmB := blk_u hmB b3
  replace haB := blk_u haB b3
  replace en := en.below b3
  replace own := owk_under own b3
  replace kt := kt.trans (kt_below b3)
  replace hM := hM.below b3
  replace bel := bel.trans (b3.mono (Nat.le_trans hlo bel.size))
  clear b3
  go_wp2_with fail
  replace bel := bel.drew
  replace htb : w3.drew.heap[gt]? = _ := htb
  replace hmB : w3.drew.heap[g4]? = _ := hmB
  replace haB : w3.drew.heap[g5]? = _ := haB
  replace en := en.drew
  replace own := World.ownsRow.drew own
  replace kt := kt_drew kt
  replace hM := hm_drew hM
  refine wp_region_held_drew (S := fun W => W.heap[gt]? = some (.cells #[.int .i64 now, .map (some mb), .slice (some ⟨gE, 0, none⟩) n c] 84 (0, 0)) ∧ W.heap[g4]? = some (.cells #[.int .u8 (m.a.toNat : Int), .int .u8 (m.b.toNat : Int), .int .u8 (m.c.toNat : Int), .int .u8 (m.d.toNat : Int), .int .u8 (m.e.toNat : Int), .int .u8 (m.f.toNat : Int)] 32 (0, 0)) ∧ Sle slE 15 W (some ⟨gE, 0, none⟩) (n) (c) (l)) (by kernel_rfl) ⟨htb, hmB, en⟩ (fun hH => ?_)
  generalize w3.drew = w4 at bel htb hmB haB en own kt hM hH ⊢
  refine wpAnyH_take (i := 0) (v := ?_) rfl (by kernel_rfl) (by kernel_rfl) (by kernel_rfl) (fun _ _ _ h => h) (Or.inl ⟨by rfl, ?_⟩) hH ?_
  rotate_left
  · ((intro W hW; clear hW; go_simp) <;> with_reducible rfl)
  simp only [Act.put, List.getElem_toArray, List.getElem_cons_zero, List.setIfInBounds_toArray, List.set_cons_zero, List.set_cons_succ]
  refine wpAnyH_take (i := 1) (v := ?_) rfl (by kernel_rfl) (by kernel_rfl) (by kernel_rfl) (fun _ _ _ h => h) (Or.inl ⟨by rfl, ?_⟩) hH ?_
  rotate_left
  · ((intro W hW; clear hW; go_simp) <;> with_reducible rfl)
  simp only [sq3, sq4]
  refine wpAnyH_take (i := 2) (v := ?_) rfl (by kernel_rfl) (by kernel_rfl) (by kernel_rfl) (fun _ _ _ h => h) (Or.inl ⟨by rfl, ?_⟩) hH ?_
  rotate_left
  · ((intro W hW; clear hW; go_simp) <;> with_reducible rfl)
  simp only [sq3, sq4]
  refine wpAnyH_take (i := 3) (v := ?_) rfl (by kernel_rfl) (by kernel_rfl) (by kernel_rfl) (fun _ _ _ h => h) (Or.inl ⟨by rfl, ?_⟩) hH ?_
  rotate_left
  · ((intro W hW; clear hW; go_simp) <;> with_reducible rfl)
  simp only [sq3, sq4]
  refine wpAnyH_take (i := 4) (v := ?_) rfl (by kernel_rfl) (by kernel_rfl) (by kernel_rfl) (fun _ _ _ h => h) (Or.inl ⟨by rfl, ?_⟩) hH ?_
  rotate_left
  · ((intro W hW; clear hW; go_simp) <;> with_reducible rfl)
  simp only [sq3, sq4]
  refine wpAnyH_take (i := 5) (v := ?_) rfl (by kernel_rfl) (by kernel_rfl) (by kernel_rfl) (fun _ _ _ h => h) (Or.inl ⟨by rfl, ?_⟩) hH ?_
  rotate_left
  · ((intro W hW; clear hW; go_simp) <;> with_reducible rfl)
  simp only [sq3, sq4]
  refine wpAnyH_take (i := 6) (v := ?_) rfl (by kernel_rfl) (by kernel_rfl) (by kernel_rfl) (fun _ _ _ h => h) (Or.inl ⟨by rfl, ?_⟩) hH ?_
  rotate_left
  · ((intro W hW; have hk := cell_lit (hW.1) 2 _ rfl; clear hW; go_simp) <;> with_reducible rfl)
  simp only [sq3, sq4]
  refine wpAnyH_take (i := 7) (v := ?_) rfl (by kernel_rfl) (by kernel_rfl) (by kernel_rfl) (fun _ _ _ h => h) (Or.inl ⟨by rfl, ?_⟩) hH ?_
  rotate_left
  · ((intro W hW; clear hW; go_simp) <;> with_reducible rfl)
  simp only [sq3, sq4]
  refine wpAnyH_take (i := 8) (v := ?_) rfl (by kernel_rfl) (by kernel_rfl) (by kernel_rfl) (fun _ _ _ h => h) (Or.inl ⟨by rfl, ?_⟩) hH ?_
  rotate_left
  · ((intro W hW; clear hW; go_simp) <;> with_reducible rfl)
  simp only [sq3, sq4]
  refine wpAnyH_take (i := 9) (v := ?_) rfl (by kernel_rfl) (by kernel_rfl) (by kernel_rfl) (fun _ _ _ h => h) (Or.inl ⟨by rfl, ?_⟩) hH ?_
  rotate_left
  · ((intro W hW; clear hW; go_simp) <;> with_reducible rfl)
  simp only [sq3, sq4]
  refine wpAnyH_take (i := 10) (v := ?_) rfl (by kernel_rfl) (by kernel_rfl) (by kernel_rfl) (fun _ _ _ h => h) (Or.inl ⟨by rfl, ?_⟩) hH ?_
  rotate_left
  · ((intro W hW; have hk := Sle.zcell (hW.2.2) HX.out 12 _ rfl; clear hW; go_simp) <;> with_reducible rfl)
  simp only [sq3, sq4]
  refine wpAnyH_take (i := 11) (v := ?_) rfl (by kernel_rfl) (by kernel_rfl) (by kernel_rfl) (fun _ _ _ h => h) (Or.inl ⟨by rfl, ?_⟩) hH ?_
  rotate_left
  · ((intro W hW; clear hW; go_simp) <;> with_reducible rfl)
  simp only [sq3, sq4]
  refine wpAnyH_take (i := 12) (v := ?_) rfl (by kernel_rfl) (by kernel_rfl) (by kernel_rfl) (fun _ _ _ h => h) (Or.inl ⟨by rfl, ?_⟩) hH ?_
  rotate_left
  · ((intro W hW; clear hW; go_simp) <;> with_reducible rfl)
  simp only [sq3, sq4]
  refine wpAnyH_take (i := 13) (v := ?_) rfl (by kernel_rfl) (by kernel_rfl) (by kernel_rfl) (fun _ _ _ h => h) (Or.inl ⟨by rfl, ?_⟩) hH ?_
  rotate_left
  · ((intro W hW; clear hW; go_simp) <;> with_reducible rfl)
  simp only [sq3, sq4]
  refine wpAnyH_take (i := 14) (v := ?_) rfl (by kernel_rfl) (by kernel_rfl) (by kernel_rfl) (fun _ _ _ h => h) (Or.inl ⟨by rfl, ?_⟩) hH ?_
  rotate_left
  · ((intro W hW; clear hW; go_simp) <;> with_reducible rfl)
  simp only [sq3, sq4]
  refine wpAnyH_take (i := 15) (v := ?_) rfl (by kernel_rfl) (by kernel_rfl) (by kernel_rfl) (fun _ _ _ h => h) (Or.inl ⟨by rfl, ?_⟩) hH ?_
  rotate_left
  · ((intro W hW; clear hW; go_simp) <;> with_reducible rfl)
  simp only [sq3, sq4]
  refine wpAnyH_take (i := 16) (v := ?_) rfl (by kernel_rfl) (by kernel_rfl) (by kernel_rfl) (fun _ _ _ h => h) (Or.inl ⟨by rfl, ?_⟩) hH ?_
  rotate_left
  · ((intro W hW; clear hW; go_simp) <;> with_reducible rfl)
  simp only [sq3, sq4]
  refine wpAnyH_take (i := 17) (v := ?_) rfl (by kernel_rfl) (by kernel_rfl) (by kernel_rfl) (fun _ _ _ h => h) (Or.inl ⟨by rfl, ?_⟩) hH ?_
  rotate_left
  · ((intro W hW; have hk := cell_lit (hW.1) 2 _ rfl; clear hW; go_simp) <;> with_reducible rfl)
  simp only [sq3, sq4]
  refine wpAnyH_take (i := 18) (v := ?_) rfl (by kernel_rfl) (by kernel_rfl) (by kernel_rfl) (fun _ _ _ h => h) (Or.inl ⟨by rfl, ?_⟩) hH ?_
  rotate_left
  · ((intro W hW; clear hW; go_simp) <;> with_reducible rfl)
  simp only [sq3, sq4]
  refine wpAnyH_take (i := 19) (v := ?_) rfl (by kernel_rfl) (by kernel_rfl) (by kernel_rfl) (fun _ _ _ h => h) (Or.inl ⟨by rfl, ?_⟩) hH ?_
  rotate_left
  · ((intro W hW; clear hW; go_simp) <;> with_reducible rfl)
  simp only [sq3, sq4]
  refine wpAnyH_take (i := 20) (v := ?_) rfl (by kernel_rfl) (by kernel_rfl) (by kernel_rfl) (fun _ _ _ h => h) (Or.inl ⟨by rfl, ?_⟩) hH ?_
  rotate_left
  · ((intro W hW; clear hW; go_simp) <;> with_reducible rfl)
  simp only [sq3, sq4]
  refine wpAnyH_take (i := 21) (v := ?_) rfl (by kernel_rfl) (by kernel_rfl) (by kernel_rfl) (fun _ _ _ h => h) (Or.inl ⟨by rfl, ?_⟩) hH ?_
  rotate_left
  · ((intro W hW; clear hW; go_simp) <;> with_reducible rfl)
  simp only [sq3, sq4]
  refine wpAnyH_take (i := 22) (v := .agg #[.int .u8 (xm.a.toNat : Int), .int .u8 (xm.b.toNat : Int), .int .u8 (xm.c.toNat : Int), .int .u8 (xm.d.toNat : Int), .int .u8 (xm.e.toNat : Int), .int .u8 (xm.f.toNat : Int)]) rfl (by kernel_rfl) (by kernel_rfl) (by kernel_rfl) (fun _ _ _ h => h) (yieldsIf_load_mid (by kernel_rfl) 32 _ rfl gE (i * 15) rfl [.int .u8 (xm.a.toNat : Int), .int .u8 (xm.b.toNat : Int), .int .u8 (xm.c.toNat : Int), .int .u8 (xm.d.toNat : Int), .int .u8 (xm.e.toNat : Int), .int .u8 (xm.f.toNat : Int)] _ (fun W hW => Sle.zrange0 (hW.2.2) HX.out 6 [.int .u8 (xm.a.toNat : Int), .int .u8 (xm.b.toNat : Int), .int .u8 (xm.c.toNat : Int), .int .u8 (xm.d.toNat : Int), .int .u8 (xm.e.toNat : Int), .int .u8 (xm.f.toNat : Int)] rfl) Try.underlying32 rfl (by kernel_rfl)) hH ?_
  simp only [sq3, sq4]
  refine wpAnyH_take (i := 23) (v := .agg #[.int .u8 (m.a.toNat : Int), .int .u8 (m.b.toNat : Int), .int .u8 (m.c.toNat : Int), .int .u8 (m.d.toNat : Int), .int .u8 (m.e.toNat : Int), .int .u8 (m.f.toNat : Int)]) rfl (by kernel_rfl) (by kernel_rfl) (by kernel_rfl) (fun _ _ _ h => h) (yieldsIf_load_part (by kernel_rfl) 32 _ rfl g4 0 6 rfl _ 32 (0, 0) (fun W hW => hW.2.1) _ rfl _ Try.underlying32 rfl (by kernel_rfl)) hH ?_
  simp only [sq3, sq4]
  refine wpAnyH_take (i := 24) (v := ?_) rfl (by kernel_rfl) (by kernel_rfl) (by kernel_rfl) (fun _ _ _ h => h) (Or.inl ⟨by rfl, ?_⟩) hH ?_
  rotate_left
  · ((intro W hW; clear hW; go_simp) <;> with_reducible rfl)
  simp only [sq3, sq4]
  refine wpAnyH_take (i := 25) (v := ?_) rfl (by kernel_rfl) (by kernel_rfl) (by kernel_rfl) (fun _ _ _ h => h) (Or.inl ⟨by rfl, ?_⟩) hH ?_
  rotate_left
  · ((intro W hW; clear hW; go_simp) <;> with_reducible rfl)
  simp only [sq3, sq4]
  refine wpAnyH_done (by kernel_rfl) ?_ _
  go_wp2_with fail
  go_ret
  exact ⟨rfl, ⟨(some ⟨gE, 0, none⟩), n, c, mb, htb, otb, hM, own, HOK.out⟩, kt, bel⟩
set_option linter.unusedVariables false in
set_option linter.unusedSimpArgs false in
set_option maxRecDepth 100000 in
set_option maxHeartbeats 16000000 in
theorem pend_yes {lo gt : Nat} {now : Int} {hs : List (Mc6 × Ad4)} {l : List Sd} (m : Mc6) (a : Ad4) {i : Nat} {xm : Mc6} {xa : Ad4} {xu : Int} {xf xr : Bool} {xb : Int}  (w : World) (hT : Pl lo gt w ⟨now, hs, l⟩) (hs_ : sfhas l a.num = true) (hp : sfpos l a.num = i) (hx : l[i]? = some ⟨xm, xa, xu, xf, true, xr, xb⟩) (hm : xm.eqB m = true) (hok3 : St.ok ⟨now, hs, l.set i ⟨xm, xa, 0, xf, true, xr, xb⟩⟩) : Calls Try.prog 23 #[.pointer (some ⟨gt, 0, none⟩), .agg #[.int .u8 (m.a.toNat : Int), .int .u8 (m.b.toNat : Int), .int .u8 (m.c.toNat : Int), .int .u8 (m.d.toNat : Int), .int .u8 (m.e.toNat : Int), .int .u8 (m.f.toNat : Int)], .agg #[.int .u8 (a.a.toNat : Int), .int .u8 (a.b.toNat : Int), .int .u8 (a.c.toNat : Int), .int .u8 (a.d.toNat : Int)]] w fun e w' => e = .returned (.bool true) ∧ Pl lo gt w' ⟨now, hs, (l.set i ⟨xm, xa, 0, xf, true, xr, xb⟩)⟩ ∧ Kt [84, 101] w w' ∧ Below lo w w' := by
  obtain ⟨A, n, c, mb, htb, otb, hM, own, hok⟩ := hT
  dsimp only at htb hM own
  have hlo : lo ≤ w.heap.size := Nat.le_trans otb (Nat.le_of_lt (hlt htb))
  have off_tb := ofs_type own htb (by decide)
  have hl := row_len (by decide) slE_len own
  have HLL := Lib.hid hl
  have HLO := Lib.hid hlo
  have HOK := Lib.hid hok
  have H32 : Hid (n ≤ 1000) := Lib.hid (by have := hok.len; simp only at this; omega)
  have kt := Kt.refl [84, 101] w
  clear hl hok
  have hin_ : i < n := by have h1_ := (List.getElem?_eq_some_iff.1 hx).1; have h2_ := HLL.out; omega
  have i0 : (0 : Int) ≤ i := by omega
  have i1 : (i : Int) < n := by omega
  obtain ⟨gE, rfl, _⟩ := row_at own (by omega)
  have en := (owk_sle (by decide) slE_len own).1
  have av_en_tb := owk_av own off_tb
  have HFS := Lib.hid hs_
  clear hs_
  have q39 : ∀ W, (binOp .neq 32 (.agg #[.int .u8 (xm.a.toNat : Int), .int .u8 (xm.b.toNat : Int), .int .u8 (xm.c.toNat : Int), .int .u8 (xm.d.toNat : Int), .int .u8 (xm.e.toNat : Int), .int .u8 (xm.f.toNat : Int)]) (.agg #[.int .u8 (m.a.toNat : Int), .int .u8 (m.b.toNat : Int), .int .u8 (m.c.toNat : Int), .int .u8 (m.d.toNat : Int), .int .u8 (m.e.toNat : Int), .int .u8 (m.f.toNat : Int)])).run Try.prog W = .ok (.bool false) W := fun W => by have h_ := nem_b xm m W; rw [hm] at h_; exact h_
  have HP := Lib.hid hp
  clear hp
  have HX := Lib.hid hx
  clear hx
  have HM := Lib.hid hm
  clear hm
  have HOK3 := Lib.hid hok3
  clear hok3
  have bel := Below.refl lo w
  go_enter Try.func23, Try.ntmps23
  go_wp2_with (first | ((with_reducible show wpList _ _ _ (⟨some 4, _, _, _, _, _⟩ :: _) _ _); refine wpList_box_n rfl 32 (.tmp 1) rfl #[.int .u8 (m.a.toNat : Int), .int .u8 (m.b.toNat : Int), .int .u8 (m.c.toNat : Int), .int .u8 (m.d.toNat : Int), .int .u8 (m.e.toNat : Int), .int .u8 (m.f.toNat : Int)] rfl ?_; intro g4 w1 ge lt hh bb; have d_tb_mB := ne_new (hlt htb) ge; have av_en_mB := en.av_new ge; have omB := Nat.le_trans (Nat.le_trans hlo bel.size) ge; have off_mB := owk_new own ge; have pn_mB := Nat.le_trans bel.size ge; replace htb := blk_u htb bb; replace en := en.below bb; replace own := owk_under own bb; replace kt := kt.trans (kt_below bb); replace hM := hM.below bb; replace bel := bel.trans (bb.mono (Nat.le_trans hlo bel.size)); have hmB := hh; clear hh lt ge bb) | ((with_reducible show wpList _ _ _ (⟨some 5, _, _, _, _, _⟩ :: _) _ _); refine wpList_box_n rfl 28 (.tmp 2) rfl #[.int .u8 (a.a.toNat : Int), .int .u8 (a.b.toNat : Int), .int .u8 (a.c.toNat : Int), .int .u8 (a.d.toNat : Int)] rfl ?_; intro g5 w2 ge lt hh bb; have d_tb_aB := ne_new (hlt htb) ge; have d_mB_aB := ne_new (hlt hmB) ge; have av_en_aB := en.av_new ge; have oaB := Nat.le_trans (Nat.le_trans hlo bel.size) ge; have off_aB := owk_new own ge; have pn_aB := Nat.le_trans bel.size ge; replace htb := blk_u htb bb; replace hmB := blk_u hmB bb; replace en := en.below bb; replace own := owk_under own bb; replace kt := kt.trans (kt_below bb); replace hM := hM.below bb; replace bel := bel.trans (bb.mono (Nat.le_trans hlo bel.size)); have haB := hh; clear hh lt ge bb; have R11 := Lib.hid (range_lit haB 0 4 [.int .u8 (a.a.toNat : Int), .int .u8 (a.b.toNat : Int), .int .u8 (a.c.toNat : Int), .int .u8 (a.d.toNat : Int)] rfl)) | ((with_reducible show wpList _ _ _ (⟨some 11, _, _, _, _, _⟩ :: _) _ _); refine wpList_load_rng 28 (.tmp 5) rfl (by kernel_rfl) _ _ rfl _ R11.out _ Try.underlying28 rfl (by kernel_rfl) ?_))
  try clear R11
  with_reducible refine (pfind_is a _ htb (owk_sle (by decide) slE_len own).1 HOK.out.srt H32.out HP.out HFS.out).mono ?_
  rintro e w3 ⟨rfl, b3⟩
  replace htb := blk_u htb b3
  replace hmB := blk_u hmB b3
  replace haB := blk_u haB b3
  replace en := en.below b3
  replace own := owk_under own b3
  replace kt := kt.trans (kt_below b3)
  replace hM := hM.below b3
  replace bel := bel.trans (b3.mono (Nat.le_trans hlo bel.size))
  clear b3
  go_wp2_with fail
  replace bel := bel.drew
  replace htb : w3.drew.heap[gt]? = _ := htb
  replace hmB : w3.drew.heap[g4]? = _ := hmB
  replace haB : w3.drew.heap[g5]? = _ := haB
  replace en := en.drew
  replace own := World.ownsRow.drew own
  replace kt := kt_drew kt
  replace hM := hm_drew hM
  refine wp_region_held_drew (S := fun W => W.heap[gt]? = some (.cells #[.int .i64 now, .map (some mb), .slice (some ⟨gE, 0, none⟩) n c] 84 (0, 0)) ∧ W.heap[g4]? = some (.cells #[.int .u8 (m.a.toNat : Int), .int .u8 (m.b.toNat : Int), .int .u8 (m.c.toNat : Int), .int .u8 (m.d.toNat : Int), .int .u8 (m.e.toNat : Int), .int .u8 (m.f.toNat : Int)] 32 (0, 0)) ∧ Sle slE 15 W (some ⟨gE, 0, none⟩) (n) (c) (l)) (by kernel_rfl) ⟨htb, hmB, en⟩ (fun hH => ?_)
  generalize w3.drew = w4 at bel htb hmB haB en own kt hM hH ⊢
  refine wpAnyH_take (i := 0) (v := ?_) rfl (by kernel_rfl) (by kernel_rfl) (by kernel_rfl) (fun _ _ _ h => h) (Or.inl ⟨by rfl, ?_⟩) hH ?_
  rotate_left
  · ((intro W hW; clear hW; go_simp) <;> with_reducible rfl)
  simp only [Act.put, List.getElem_toArray, List.getElem_cons_zero, List.setIfInBounds_toArray, List.set_cons_zero, List.set_cons_succ]
  refine wpAnyH_take (i := 1) (v := ?_) rfl (by kernel_rfl) (by kernel_rfl) (by kernel_rfl) (fun _ _ _ h => h) (Or.inl ⟨by rfl, ?_⟩) hH ?_
  rotate_left
  · ((intro W hW; clear hW; go_simp) <;> with_reducible rfl)
  simp only [sq3, sq4]
  refine wpAnyH_take (i := 2) (v := ?_) rfl (by kernel_rfl) (by kernel_rfl) (by kernel_rfl) (fun _ _ _ h => h) (Or.inl ⟨by rfl, ?_⟩) hH ?_
  rotate_left
  · ((intro W hW; clear hW; go_simp) <;> with_reducible rfl)
  simp only [sq3, sq4]
  refine wpAnyH_take (i := 3) (v := ?_) rfl (by kernel_rfl) (by kernel_rfl) (by kernel_rfl) (fun _ _ _ h => h) (Or.inl ⟨by rfl, ?_⟩) hH ?_
  rotate_left
  · ((intro W hW; clear hW; go_simp) <;> with_reducible rfl)
  simp only [sq3, sq4]
  refine wpAnyH_take (i := 4) (v := ?_) rfl (by kernel_rfl) (by kernel_rfl) (by kernel_rfl) (fun _ _ _ h => h) (Or.inl ⟨by rfl, ?_⟩) hH ?_
  rotate_left
  · ((intro W hW; clear hW; go_simp) <;> with_reducible rfl)
  simp only [sq3, sq4]
  refine wpAnyH_take (i := 5) (v := ?_) rfl (by kernel_rfl) (by kernel_rfl) (by kernel_rfl) (fun _ _ _ h => h) (Or.inl ⟨by rfl, ?_⟩) hH ?_
  rotate_left
  · ((intro W hW; clear hW; go_simp) <;> with_reducible rfl)
  simp only [sq3, sq4]
  refine wpAnyH_take (i := 6) (v := ?_) rfl (by kernel_rfl) (by kernel_rfl) (by kernel_rfl) (fun _ _ _ h => h) (Or.inl ⟨by rfl, ?_⟩) hH ?_
  rotate_left
  · ((intro W hW; have hk := cell_lit (hW.1) 2 _ rfl; clear hW; go_simp) <;> with_reducible rfl)
  simp only [sq3, sq4]
  refine wpAnyH_take (i := 7) (v := ?_) rfl (by kernel_rfl) (by kernel_rfl) (by kernel_rfl) (fun _ _ _ h => h) (Or.inl ⟨by rfl, ?_⟩) hH ?_
  rotate_left
  · ((intro W hW; clear hW; go_simp) <;> with_reducible rfl)
  simp only [sq3, sq4]
  refine wpAnyH_take (i := 8) (v := ?_) rfl (by kernel_rfl) (by kernel_rfl) (by kernel_rfl) (fun _ _ _ h => h) (Or.inl ⟨by rfl, ?_⟩) hH ?_
  rotate_left
  · ((intro W hW; clear hW; go_simp) <;> with_reducible rfl)
  simp only [sq3, sq4]
  refine wpAnyH_take (i := 9) (v := ?_) rfl (by kernel_rfl) (by kernel_rfl) (by kernel_rfl) (fun _ _ _ h => h) (Or.inl ⟨by rfl, ?_⟩) hH ?_
  rotate_left
  · ((intro W hW; clear hW; go_simp) <;> with_reducible rfl)
  simp only [sq3, sq4]
  refine wpAnyH_take (i := 10) (v := ?_) rfl (by kernel_rfl) (by kernel_rfl) (by kernel_rfl) (fun _ _ _ h => h) (Or.inl ⟨by rfl, ?_⟩) hH ?_
  rotate_left
  · ((intro W hW; have hk := Sle.zcell (hW.2.2) HX.out 12 _ rfl; clear hW; go_simp) <;> with_reducible rfl)
  simp only [sq3, sq4]
  refine wpAnyH_take (i := 11) (v := ?_) rfl (by kernel_rfl) (by kernel_rfl) (by kernel_rfl) (fun _ _ _ h => h) (Or.inl ⟨by rfl, ?_⟩) hH ?_
  rotate_left
  · ((intro W hW; clear hW; go_simp) <;> with_reducible rfl)
  simp only [sq3, sq4]
  refine wpAnyH_take (i := 12) (v := ?_) rfl (by kernel_rfl) (by kernel_rfl) (by kernel_rfl) (fun _ _ _ h => h) (Or.inl ⟨by rfl, ?_⟩) hH ?_
  rotate_left
  · ((intro W hW; clear hW; go_simp) <;> with_reducible rfl)
  simp only [sq3, sq4]
  refine wpAnyH_take (i := 13) (v := ?_) rfl (by kernel_rfl) (by kernel_rfl) (by kernel_rfl) (fun _ _ _ h => h) (Or.inl ⟨by rfl, ?_⟩) hH ?_
  rotate_left
  · ((intro W hW; clear hW; go_simp) <;> with_reducible rfl)
  simp only [sq3, sq4]
  refine wpAnyH_take (i := 14) (v := ?_) rfl (by kernel_rfl) (by kernel_rfl) (by kernel_rfl) (fun _ _ _ h => h) (Or.inl ⟨by rfl, ?_⟩) hH ?_
  rotate_left
  · ((intro W hW; clear hW; go_simp) <;> with_reducible rfl)
  simp only [sq3, sq4]
  refine wpAnyH_take (i := 15) (v := ?_) rfl (by kernel_rfl) (by kernel_rfl) (by kernel_rfl) (fun _ _ _ h => h) (Or.inl ⟨by rfl, ?_⟩) hH ?_
  rotate_left
  · ((intro W hW; clear hW; go_simp) <;> with_reducible rfl)
  simp only [sq3, sq4]
  refine wpAnyH_take (i := 16) (v := ?_) rfl (by kernel_rfl) (by kernel_rfl) (by kernel_rfl) (fun _ _ _ h => h) (Or.inl ⟨by rfl, ?_⟩) hH ?_
  rotate_left
  · ((intro W hW; clear hW; go_simp) <;> with_reducible rfl)
  simp only [sq3, sq4]
  refine wpAnyH_take (i := 17) (v := ?_) rfl (by kernel_rfl) (by kernel_rfl) (by kernel_rfl) (fun _ _ _ h => h) (Or.inl ⟨by rfl, ?_⟩) hH ?_
  rotate_left
  · ((intro W hW; have hk := cell_lit (hW.1) 2 _ rfl; clear hW; go_simp) <;> with_reducible rfl)
  simp only [sq3, sq4]
  refine wpAnyH_take (i := 18) (v := ?_) rfl (by kernel_rfl) (by kernel_rfl) (by kernel_rfl) (fun _ _ _ h => h) (Or.inl ⟨by rfl, ?_⟩) hH ?_
  rotate_left
  · ((intro W hW; clear hW; go_simp) <;> with_reducible rfl)
  simp only [sq3, sq4]
  refine wpAnyH_take (i := 19) (v := ?_) rfl (by kernel_rfl) (by kernel_rfl) (by kernel_rfl) (fun _ _ _ h => h) (Or.inl ⟨by rfl, ?_⟩) hH ?_
  rotate_left
  · ((intro W hW; clear hW; go_simp) <;> with_reducible rfl)
  simp only [sq3, sq4]
  refine wpAnyH_take (i := 20) (v := ?_) rfl (by kernel_rfl) (by kernel_rfl) (by kernel_rfl) (fun _ _ _ h => h) (Or.inl ⟨by rfl, ?_⟩) hH ?_
  rotate_left
  · ((intro W hW; clear hW; go_simp) <;> with_reducible rfl)
  simp only [sq3, sq4]
  refine wpAnyH_take (i := 21) (v := ?_) rfl (by kernel_rfl) (by kernel_rfl) (by kernel_rfl) (fun _ _ _ h => h) (Or.inl ⟨by rfl, ?_⟩) hH ?_
  rotate_left
  · ((intro W hW; clear hW; go_simp) <;> with_reducible rfl)
  simp only [sq3, sq4]
  refine wpAnyH_take (i := 22) (v := .agg #[.int .u8 (xm.a.toNat : Int), .int .u8 (xm.b.toNat : Int), .int .u8 (xm.c.toNat : Int), .int .u8 (xm.d.toNat : Int), .int .u8 (xm.e.toNat : Int), .int .u8 (xm.f.toNat : Int)]) rfl (by kernel_rfl) (by kernel_rfl) (by kernel_rfl) (fun _ _ _ h => h) (yieldsIf_load_mid (by kernel_rfl) 32 _ rfl gE (i * 15) rfl [.int .u8 (xm.a.toNat : Int), .int .u8 (xm.b.toNat : Int), .int .u8 (xm.c.toNat : Int), .int .u8 (xm.d.toNat : Int), .int .u8 (xm.e.toNat : Int), .int .u8 (xm.f.toNat : Int)] _ (fun W hW => Sle.zrange0 (hW.2.2) HX.out 6 [.int .u8 (xm.a.toNat : Int), .int .u8 (xm.b.toNat : Int), .int .u8 (xm.c.toNat : Int), .int .u8 (xm.d.toNat : Int), .int .u8 (xm.e.toNat : Int), .int .u8 (xm.f.toNat : Int)] rfl) Try.underlying32 rfl (by kernel_rfl)) hH ?_
  simp only [sq3, sq4]
  refine wpAnyH_take (i := 23) (v := .agg #[.int .u8 (m.a.toNat : Int), .int .u8 (m.b.toNat : Int), .int .u8 (m.c.toNat : Int), .int .u8 (m.d.toNat : Int), .int .u8 (m.e.toNat : Int), .int .u8 (m.f.toNat : Int)]) rfl (by kernel_rfl) (by kernel_rfl) (by kernel_rfl) (fun _ _ _ h => h) (yieldsIf_load_part (by kernel_rfl) 32 _ rfl g4 0 6 rfl _ 32 (0, 0) (fun W hW => hW.2.1) _ rfl _ Try.underlying32 rfl (by kernel_rfl)) hH ?_
  simp only [sq3, sq4]
  refine wpAnyH_take (i := 24) (v := ?_) rfl (by kernel_rfl) (by kernel_rfl) (by kernel_rfl) (fun _ _ _ h => h) (Or.inl ⟨by rfl, ?_⟩) hH ?_
  rotate_left
  · ((intro W hW; clear hW; go_simp) <;> with_reducible rfl)
  simp only [sq3, sq4]
  refine wpAnyH_take (i := 25) (v := ?_) rfl (by kernel_rfl) (by kernel_rfl) (by kernel_rfl) (fun _ _ _ h => h) (Or.inl ⟨by rfl, ?_⟩) hH ?_
  rotate_left
  · ((intro W hW; clear hW; go_simp) <;> with_reducible rfl)
  simp only [sq3, sq4]
  refine wpAnyH_done (by kernel_rfl) ?_ _
  have R44 := cell_lit htb 2 _ rfl
  go_wp2_with (first | ((with_reducible show wpList _ _ _ (⟨none, Op.store _ (.tmp 48) _, _, _, _, _⟩ :: _) _ _); refine wpList_store_el rfl 2 (.tmp 48) (.const (.int .i64 0)) rfl gE i 10 (⟨xm, xa, xu, xf, true, xr, xb⟩) (⟨xm, xa, 0, xf, true, xr, xb⟩) rfl [.int .i64 0] rfl (by decide) slE_len own HX.out (Nat.le_of_ble_eq_true rfl) rfl (by kernel_rfl) (by rfl) ?_; intro w5 own_ gw; replace bel := bel.trans (row_bel gw own (Nat.le_trans hlo bel.size)); replace htb := blk_own (v := .slice (some ⟨gE, 0, none⟩) n c) htb gw off_tb; replace hmB := blk_own (v := .slice (some ⟨gE, 0, none⟩) n c) hmB gw off_mB; replace haB := blk_own (v := .slice (some ⟨gE, 0, none⟩) n c) haB gw off_aB; replace kt := kt.trans (kt_row gw own (by simp)); replace hM := hM.row gw own; clear own; have own := own_; clear own_ gw; replace en := (owk_sle (by decide) slE_len own).1))
  try clear R44
  go_ret
  exact ⟨rfl, ⟨(some ⟨gE, 0, none⟩), n, c, mb, htb, otb, hM, own, HOK3.out⟩, kt, bel⟩
theorem pend_any {lo gt : Nat} {s : St} (m : Mc6) (a : Ad4) (w : World) (hT : Pl lo gt w s) {b : Bool} (hr : endB s m a = b) : Calls Try.prog 23 #[.pointer (some ⟨gt, 0, none⟩), .agg #[.int .u8 (m.a.toNat : Int), .int .u8 (m.b.toNat : Int), .int .u8 (m.c.toNat : Int), .int .u8 (m.d.toNat : Int), .int .u8 (m.e.toNat : Int), .int .u8 (m.f.toNat : Int)], .agg #[.int .u8 (a.a.toNat : Int), .int .u8 (a.b.toNat : Int), .int .u8 (a.c.toNat : Int), .int .u8 (a.d.toNat : Int)]] w fun e w' => e = .returned (.bool b) ∧ Pl lo gt w' (endS s m a) ∧ Kt [84, 101] w w' ∧ Below lo w w' := by
  have hok := endS_ok hT.ok m a
  obtain ⟨now, hs, l⟩ := s
  unfold endS at hok ⊢
  rw [hr] at hok ⊢
  unfold endB at hr
  cases hs_ : sfhas l a.num with
  | false =>
    simp only [hs_, Bool.false_and] at hr
    subst hr
    exact pend_no0 m a w hT hs_
  | true =>
    obtain ⟨⟨xm, xa, xu, xf, xl, xr, xb⟩, hx, _⟩ := sfhas_at hs_
    simp only [hs_, Bool.true_and, hx] at hr
    cases xl with
    | false =>
      simp only [Bool.false_and] at hr
      subst hr
      exact pend_no1 m a w hT hs_ rfl hx
    | true =>
      simp only [Bool.true_and] at hr
      subst hr
      cases hm : xm.eqB m with
      | false => exact pend_no2 m a w hT hs_ rfl hx hm
      | true =>
        rw [hm, if_pos rfl] at hok
        rw [if_pos rfl]
        have he : (St.l ⟨now, hs, l⟩).modify (sfpos (St.l ⟨now, hs, l⟩) a.num) (fun x => { x with u := 0 }) = l.set (sfpos l a.num) ⟨xm, xa, 0, xf, true, xr, xb⟩ := modify_at hx
        rw [he] at hok ⊢
        exact pend_yes m a w hT hs_ rfl hx hm hok
end Go.Proofs.Ytapdmlfjohiekaa
