/- Texts put together: Pl6. -/
import Derived.Test.YtapdmlfjohiekaaQ1
import Derived.Test.YtapdmlfjohiekaaQ6
namespace Go.Proofs.Ytapdmlfjohiekaa
open Go.RowKit

set_option linter.unusedVariables false in
set_option linter.unusedSimpArgs false in
set_option maxRecDepth 100000 in
set_option maxHeartbeats 16000000 in
theorem pof_none {lo gt : Nat} {now : Int} {hs : List (Mc6 × Ad4)} {l : List Sd} (m : Mc6) (t : Int) (w : World) (hT : Pl lo gt w ⟨now, hs, l⟩) (hf : hldF m (padv now t) l = none) : Calls Try.prog 47 #[.pointer (some ⟨gt, 0, none⟩), .agg #[.int .u8 (m.a.toNat : Int), .int .u8 (m.b.toNat : Int), .int .u8 (m.c.toNat : Int), .int .u8 (m.d.toNat : Int), .int .u8 (m.e.toNat : Int), .int .u8 (m.f.toNat : Int)], .int .i64 t] w fun e w' => e = .returned (.tuple #[.agg #[.int .u8 0, .int .u8 0, .int .u8 0, .int .u8 0], .bool false]) ∧ Pl lo gt w' ⟨(padv now t), hs, l⟩ ∧ Kt [84, 101] w w' ∧ Below lo w w' := by
  obtain ⟨A, n, c, mb, htb, otb, hM, own, hok⟩ := hT
  dsimp only at htb hM own
  have hlo : lo ≤ w.heap.size := Nat.le_trans otb (Nat.le_of_lt (hlt htb))
  have off_tb := ofs_type own htb (by decide)
  have hl := row_len (by decide) slE_len own
  have HLL := Lib.hid hl
  have HLO := Lib.hid hlo
  have HOK := Lib.hid hok
  have H32 : Hid (n ≤ 1000) := Lib.hid (by have := hok.len; simp only at this; omega)
  have kt := Kt.refl [84, 101] w
  clear hl hok
  obtain ⟨nw, hnw⟩ : ∃ x, padv now t = x := ⟨_, rfl⟩
  have HNW := Lib.hid hnw
  have HOK2 : Hid (St.ok ⟨nw, hs, l⟩) := Lib.hid (by rw [← hnw]; exact HOK.out.adv t)
  have n0_ : 0 ≤ nw := HOK2.out.n0
  have n1_ : nw ≤ 1099511627776 := HOK2.out.n1
  have N0_ := Lib.hid n0_
  have N1_ := Lib.hid n1_
  clear hnw n0_ n1_
  have hf_ : _ := hf
  rw [HNW.out] at hf_
  clear hf
  have hf := hf_
  clear hf_
  have HF := Lib.hid hf
  clear hf
  have bel := Below.refl lo w
  go_enter Try.func47, Try.ntmps47
  go_wp2_with (first | ((with_reducible show wpList _ _ _ (⟨some 4, _, _, _, _, _⟩ :: _) _ _); refine wpList_box_n rfl 32 (.tmp 1) rfl #[.int .u8 (m.a.toNat : Int), .int .u8 (m.b.toNat : Int), .int .u8 (m.c.toNat : Int), .int .u8 (m.d.toNat : Int), .int .u8 (m.e.toNat : Int), .int .u8 (m.f.toNat : Int)] rfl ?_; intro g4 w1 ge lt hh bb; have d_tb_mB := ne_new (hlt htb) ge; have omB := Nat.le_trans (Nat.le_trans hlo bel.size) ge; have off_mB := owk_new own ge; have pn_mB := Nat.le_trans bel.size ge; replace htb := blk_u htb bb; replace own := owk_under own bb; replace kt := kt.trans (kt_below bb); replace hM := hM.below bb; replace bel := bel.trans (bb.mono (Nat.le_trans hlo bel.size)); have hmB := hh; clear hh lt ge bb) | ((with_reducible show wpList _ _ _ (⟨some 6, _, _, _, _, _⟩ :: _) _ _); refine wpList_new_a rfl 28 rfl #[.int .u8 0, .int .u8 0, .int .u8 0, .int .u8 0] (by kernel_rfl) ?_; intro g6 w2 ge hh bb; have d_tb_rB := ne_new (hlt htb) ge; have d_mB_rB := ne_new (hlt hmB) ge; have orB := Nat.le_trans (Nat.le_trans hlo bel.size) ge; have off_rB := owk_new own ge; have pn_rB := Nat.le_trans bel.size ge; replace htb := blk_u htb bb; replace hmB := blk_u hmB bb; replace own := owk_under own bb; replace kt := kt.trans (kt_below bb); replace hM := hM.below bb; replace bel := bel.trans (bb.mono (Nat.le_trans hlo bel.size)); have hrB := hh; clear hh ge bb))
  with_reducible refine (padv_any _ _ htb).mono ?_
  rintro e w3 ⟨rfl, htb_, b3⟩
  replace hmB := blk_a hmB b3 (ne_symm d_tb_mB)
  replace hrB := blk_a hrB b3 (ne_symm d_tb_rB)
  replace own := owk_off own off_tb b3
  replace kt := kt.trans (kt_grown b3 htb (by simp))
  replace hM := hM.grown b3 htb
  replace bel := below_grown bel b3 otb (Nat.le_trans hlo bel.size)
  clear b3
  clear htb
  rw [HNW.out] at htb_
  have htb := htb_
  clear htb_
  have R13 := Lib.hid (range_lit hmB 0 6 [.int .u8 (m.a.toNat : Int), .int .u8 (m.b.toNat : Int), .int .u8 (m.c.toNat : Int), .int .u8 (m.d.toNat : Int), .int .u8 (m.e.toNat : Int), .int .u8 (m.f.toNat : Int)] rfl)
  go_wp2_with (first | ((with_reducible show wpList _ _ _ (⟨some 13, _, _, _, _, _⟩ :: _) _ _); refine wpList_load_rng 32 (.tmp 4) rfl (by kernel_rfl) _ _ rfl _ R13.out _ Try.underlying32 rfl (by kernel_rfl) ?_))
  try clear R13
  with_reducible refine (lof_none m _ htb own H32.out HF.out).mono ?_
  rintro e w4 ⟨rfl, b4⟩
  replace htb := blk_u htb b4
  replace hmB := blk_u hmB b4
  replace hrB := blk_u hrB b4
  replace own := owk_under own b4
  replace kt := kt.trans (kt_below b4)
  replace hM := hM.below b4
  replace bel := bel.trans (b4.mono (Nat.le_trans hlo bel.size))
  clear b4
  go_wp2_with (first | ((with_reducible show wpList _ _ _ (⟨none, Op.store _ (.tmp 6) _, _, _, _, _⟩ :: _) _ _); refine wpList_store_blk rfl 28 (.tmp 6) (.tmp 17) rfl g6 rfl _ rfl _ 28 hrB (by rfl) (by kernel_rfl) (by kernel_rfl) ?_; intro w5 hq gr; replace htb := blk_a htb gr d_tb_rB; replace hmB := blk_a hmB gr d_mB_rB; replace own := owk_off own off_rB gr; replace kt := kt.newer gr pn_rB bel.size; replace hM := hM.grown gr hrB; replace bel := below_grown bel gr orB (Nat.le_trans hlo bel.size); clear hrB; have hrB := hq; clear hq gr))
  exact bodyPost_ret (results_cell_tmp_row rfl _ _ _ _ _ _ _ rfl hrB Try.underlying28 rfl (by kernel_rfl) (.bool false) rfl) rfl ⟨rfl, (by rw [HNW.out]; exact ⟨A, n, c, mb, htb, otb, hM, own, HOK2.out⟩), kt, bel⟩
set_option linter.unusedVariables false in
set_option linter.unusedSimpArgs false in
set_option maxRecDepth 100000 in
set_option maxHeartbeats 16000000 in
theorem pof_some {lo gt : Nat} {now : Int} {hs : List (Mc6 × Ad4)} {l : List Sd} (m : Mc6) (t : Int) {i : Nat} {x : Sd} (w : World) (hT : Pl lo gt w ⟨now, hs, l⟩) (hf : hldF m (padv now t) l = some i) (hx : l[i]? = some x) : Calls Try.prog 47 #[.pointer (some ⟨gt, 0, none⟩), .agg #[.int .u8 (m.a.toNat : Int), .int .u8 (m.b.toNat : Int), .int .u8 (m.c.toNat : Int), .int .u8 (m.d.toNat : Int), .int .u8 (m.e.toNat : Int), .int .u8 (m.f.toNat : Int)], .int .i64 t] w fun e w' => e = .returned (.tuple #[.agg #[.int .u8 (x.ad.a.toNat : Int), .int .u8 (x.ad.b.toNat : Int), .int .u8 (x.ad.c.toNat : Int), .int .u8 (x.ad.d.toNat : Int)], .bool true]) ∧ Pl lo gt w' ⟨(padv now t), hs, l⟩ ∧ Kt [84, 101] w w' ∧ Below lo w w' := by
  obtain ⟨A, n, c, mb, htb, otb, hM, own, hok⟩ := hT
  dsimp only at htb hM own
  have hlo : lo ≤ w.heap.size := Nat.le_trans otb (Nat.le_of_lt (hlt htb))
  have off_tb := ofs_type own htb (by decide)
  have hl := row_len (by decide) slE_len own
  have HLL := Lib.hid hl
  have HLO := Lib.hid hlo
  have HOK := Lib.hid hok
  have H32 : Hid (n ≤ 1000) := Lib.hid (by have := hok.len; simp only at this; omega)
  have kt := Kt.refl [84, 101] w
  clear hl hok
  obtain ⟨nw, hnw⟩ : ∃ x, padv now t = x := ⟨_, rfl⟩
  have HNW := Lib.hid hnw
  have HOK2 : Hid (St.ok ⟨nw, hs, l⟩) := Lib.hid (by rw [← hnw]; exact HOK.out.adv t)
  have n0_ : 0 ≤ nw := HOK2.out.n0
  have n1_ : nw ≤ 1099511627776 := HOK2.out.n1
  have N0_ := Lib.hid n0_
  have N1_ := Lib.hid n1_
  clear hnw n0_ n1_
  have hf_ : _ := hf
  rw [HNW.out] at hf_
  clear hf
  have hf := hf_
  clear hf_
  have hin_ : i < n := by have h1_ := (List.getElem?_eq_some_iff.1 hx).1; have h2_ := HLL.out; omega
  have i0 : (0 : Int) ≤ i := by omega
  have i1 : (i : Int) < n := by omega
  obtain ⟨gE, rfl, _⟩ := row_at own (by omega)
  have en := (owk_sle (by decide) slE_len own).1
  have av_en_tb := owk_av own off_tb
  have HF := Lib.hid hf
  clear hf
  have HX := Lib.hid hx
  clear hx
  have bel := Below.refl lo w
  go_enter Try.func47, Try.ntmps47
  go_wp2_with (first | ((with_reducible show wpList _ _ _ (⟨some 4, _, _, _, _, _⟩ :: _) _ _); refine wpList_box_n rfl 32 (.tmp 1) rfl #[.int .u8 (m.a.toNat : Int), .int .u8 (m.b.toNat : Int), .int .u8 (m.c.toNat : Int), .int .u8 (m.d.toNat : Int), .int .u8 (m.e.toNat : Int), .int .u8 (m.f.toNat : Int)] rfl ?_; intro g4 w1 ge lt hh bb; have d_tb_mB := ne_new (hlt htb) ge; have av_en_mB := en.av_new ge; have omB := Nat.le_trans (Nat.le_trans hlo bel.size) ge; have off_mB := owk_new own ge; have pn_mB := Nat.le_trans bel.size ge; replace htb := blk_u htb bb; replace en := en.below bb; replace own := owk_under own bb; replace kt := kt.trans (kt_below bb); replace hM := hM.below bb; replace bel := bel.trans (bb.mono (Nat.le_trans hlo bel.size)); have hmB := hh; clear hh lt ge bb) | ((with_reducible show wpList _ _ _ (⟨some 6, _, _, _, _, _⟩ :: _) _ _); refine wpList_new_a rfl 28 rfl #[.int .u8 0, .int .u8 0, .int .u8 0, .int .u8 0] (by kernel_rfl) ?_; intro g6 w2 ge hh bb; have d_tb_rB := ne_new (hlt htb) ge; have d_mB_rB := ne_new (hlt hmB) ge; have av_en_rB := en.av_new ge; have orB := Nat.le_trans (Nat.le_trans hlo bel.size) ge; have off_rB := owk_new own ge; have pn_rB := Nat.le_trans bel.size ge; replace htb := blk_u htb bb; replace hmB := blk_u hmB bb; replace en := en.below bb; replace own := owk_under own bb; replace kt := kt.trans (kt_below bb); replace hM := hM.below bb; replace bel := bel.trans (bb.mono (Nat.le_trans hlo bel.size)); have hrB := hh; clear hh ge bb))
  with_reducible refine (padv_any _ _ htb).mono ?_
  rintro e w3 ⟨rfl, htb_, b3⟩
  replace en := en.away av_en_tb b3
  replace hmB := blk_a hmB b3 (ne_symm d_tb_mB)
  replace hrB := blk_a hrB b3 (ne_symm d_tb_rB)
  replace own := owk_off own off_tb b3
  replace kt := kt.trans (kt_grown b3 htb (by simp))
  replace hM := hM.grown b3 htb
  replace bel := below_grown bel b3 otb (Nat.le_trans hlo bel.size)
  clear b3
  clear htb
  rw [HNW.out] at htb_
  have htb := htb_
  clear htb_
  have R13 := Lib.hid (range_lit hmB 0 6 [.int .u8 (m.a.toNat : Int), .int .u8 (m.b.toNat : Int), .int .u8 (m.c.toNat : Int), .int .u8 (m.d.toNat : Int), .int .u8 (m.e.toNat : Int), .int .u8 (m.f.toNat : Int)] rfl)
  go_wp2_with (first | ((with_reducible show wpList _ _ _ (⟨some 13, _, _, _, _, _⟩ :: _) _ _); refine wpList_load_rng 32 (.tmp 4) rfl (by kernel_rfl) _ _ rfl _ R13.out _ Try.underlying32 rfl (by kernel_rfl) ?_))
  try clear R13
  with_reducible refine (lof_at m _ htb own H32.out HF.out).mono ?_
  rintro e w4 ⟨rfl, b4⟩
  replace htb := blk_u htb b4
  replace hmB := blk_u hmB b4
  replace hrB := blk_u hrB b4
  replace en := en.below b4
  replace own := owk_under own b4
  replace kt := kt.trans (kt_below b4)
  replace hM := hM.below b4
  replace bel := bel.trans (b4.mono (Nat.le_trans hlo bel.size))
  clear b4
  have R22 := Lib.hid (Sle.zrange en HX.out 6 4 [.int .u8 (x.ad.a.toNat : Int), .int .u8 (x.ad.b.toNat : Int), .int .u8 (x.ad.c.toNat : Int), .int .u8 (x.ad.d.toNat : Int)] rfl)
  go_wp2_with (first | ((with_reducible show wpList _ _ _ (⟨some 22, _, _, _, _, _⟩ :: _) _ _); refine wpList_load_rng 28 (.tmp 21) rfl (by kernel_rfl) _ _ rfl _ R22.out _ Try.underlying28 rfl (by kernel_rfl) ?_) | ((with_reducible show wpList _ _ _ (⟨none, Op.store _ (.tmp 6) _, _, _, _, _⟩ :: _) _ _); refine wpList_store_blk rfl 28 (.tmp 6) (.tmp 22) rfl g6 rfl _ rfl _ 28 hrB (by rfl) (by kernel_rfl) (by kernel_rfl) ?_; intro w5 hq gr; replace en := en.away av_en_rB gr; replace htb := blk_a htb gr d_tb_rB; replace hmB := blk_a hmB gr d_mB_rB; replace own := owk_off own off_rB gr; replace kt := kt.newer gr pn_rB bel.size; replace hM := hM.grown gr hrB; replace bel := below_grown bel gr orB (Nat.le_trans hlo bel.size); clear hrB; have hrB := hq; clear hq gr))
  try clear R22
  exact bodyPost_ret (results_cell_tmp_row rfl _ _ _ _ _ _ _ rfl hrB Try.underlying28 rfl (by kernel_rfl) (.bool true) rfl) rfl ⟨rfl, (by rw [HNW.out]; exact ⟨(some ⟨gE, 0, none⟩), n, c, mb, htb, otb, hM, own, HOK2.out⟩), kt, bel⟩
theorem pof_any {lo gt : Nat} {s : St} (m : Mc6) (t : Int) (w : World) (hT : Pl lo gt w s) {a : Ad4} {b : Bool} (hr : ofS s m t = (a, b)) : Calls Try.prog 47 #[.pointer (some ⟨gt, 0, none⟩), .agg #[.int .u8 (m.a.toNat : Int), .int .u8 (m.b.toNat : Int), .int .u8 (m.c.toNat : Int), .int .u8 (m.d.toNat : Int), .int .u8 (m.e.toNat : Int), .int .u8 (m.f.toNat : Int)], .int .i64 t] w fun e w' => e = .returned (.tuple #[.agg #[.int .u8 (a.a.toNat : Int), .int .u8 (a.b.toNat : Int), .int .u8 (a.c.toNat : Int), .int .u8 (a.d.toNat : Int)], .bool b]) ∧ Pl lo gt w' (s.adv t) ∧ Kt [84, 101] w w' ∧ Below lo w w' := by
  obtain ⟨now, hs, l⟩ := s
  have hn : (St.adv ⟨now, hs, l⟩ t).now = padv now t := rfl
  unfold ofS at hr
  simp only [hn] at hr
  cases hf : hldF m (padv now t) l with
  | none =>
    simp only [hf] at hr
    injection hr with h1 h2
    subst h1; subst h2
    exact pof_none m t w hT hf
  | some i =>
    obtain ⟨x, hx, _⟩ := hldF_at hf
    simp only [hf, hx, Option.map_some, Option.getD_some] at hr
    injection hr with h1 h2
    subst h1; subst h2
    exact pof_some m t w hT hf hx
set_option linter.unusedVariables false in
set_option linter.unusedSimpArgs false in
set_option maxRecDepth 100000 in
set_option maxHeartbeats 16000000 in
theorem poffer_home {lo gt : Nat} {now : Int} {hs : List (Mc6 × Ad4)} {l : List Sd} (m : Mc6) (wa : Ad4) (t : Int) {hm : Ad4} (w : World) (hT : Pl lo gt w ⟨now, hs, l⟩) (hh : homeF hs m = some hm) : Calls Try.prog 43 #[.pointer (some ⟨gt, 0, none⟩), .agg #[.int .u8 (m.a.toNat : Int), .int .u8 (m.b.toNat : Int), .int .u8 (m.c.toNat : Int), .int .u8 (m.d.toNat : Int), .int .u8 (m.e.toNat : Int), .int .u8 (m.f.toNat : Int)], .agg #[.int .u8 (wa.a.toNat : Int), .int .u8 (wa.b.toNat : Int), .int .u8 (wa.c.toNat : Int), .int .u8 (wa.d.toNat : Int)], .int .i64 t] w fun e w' => e = .returned (.tuple #[.agg #[.int .u8 (hm.a.toNat : Int), .int .u8 (hm.b.toNat : Int), .int .u8 (hm.c.toNat : Int), .int .u8 (hm.d.toNat : Int)], .int .i64 0]) ∧ Pl lo gt w' ⟨(padv now t), hs, l⟩ ∧ Kt [84, 101] w w' ∧ Below lo w w' := by
  obtain ⟨A, n, c, mb, htb, otb, hM, own, hok⟩ := hT
  dsimp only at htb hM own
  have hlo : lo ≤ w.heap.size := Nat.le_trans otb (Nat.le_of_lt (hlt htb))
  have off_tb := ofs_type own htb (by decide)
  have hl := row_len (by decide) slE_len own
  have HLL := Lib.hid hl
  have HLO := Lib.hid hlo
  have HOK := Lib.hid hok
  have H32 : Hid (n ≤ 1000) := Lib.hid (by have := hok.len; simp only at this; omega)
  have kt := Kt.refl [84, 101] w
  clear hl hok
  obtain ⟨nw, hnw⟩ : ∃ x, padv now t = x := ⟨_, rfl⟩
  have HNW := Lib.hid hnw
  have HOK2 : Hid (St.ok ⟨nw, hs, l⟩) := Lib.hid (by rw [← hnw]; exact HOK.out.adv t)
  have n0_ : 0 ≤ nw := HOK2.out.n0
  have n1_ : nw ≤ 1099511627776 := HOK2.out.n1
  have N0_ := Lib.hid n0_
  have N1_ := Lib.hid n1_
  clear hnw n0_ n1_
  have HH := Lib.hid hh
  clear hh
  have bel := Below.refl lo w
  go_enter Try.func43, Try.ntmps43
  go_wp2_with (first | ((with_reducible show wpList _ _ _ (⟨some 5, _, _, _, _, _⟩ :: _) _ _); refine wpList_box_n rfl 32 (.tmp 1) rfl #[.int .u8 (m.a.toNat : Int), .int .u8 (m.b.toNat : Int), .int .u8 (m.c.toNat : Int), .int .u8 (m.d.toNat : Int), .int .u8 (m.e.toNat : Int), .int .u8 (m.f.toNat : Int)] rfl ?_; intro g5 w1 ge lt hh bb; have d_tb_mB := ne_new (hlt htb) ge; have omB := Nat.le_trans (Nat.le_trans hlo bel.size) ge; have off_mB := owk_new own ge; have pn_mB := Nat.le_trans bel.size ge; replace htb := blk_u htb bb; replace own := owk_under own bb; replace kt := kt.trans (kt_below bb); replace hM := hM.below bb; replace bel := bel.trans (bb.mono (Nat.le_trans hlo bel.size)); have hmB := hh; clear hh lt ge bb) | ((with_reducible show wpList _ _ _ (⟨some 6, _, _, _, _, _⟩ :: _) _ _); refine wpList_box_n rfl 28 (.tmp 2) rfl #[.int .u8 (wa.a.toNat : Int), .int .u8 (wa.b.toNat : Int), .int .u8 (wa.c.toNat : Int), .int .u8 (wa.d.toNat : Int)] rfl ?_; intro g6 w2 ge lt hh bb; have d_tb_wB := ne_new (hlt htb) ge; have d_mB_wB := ne_new (hlt hmB) ge; have owB := Nat.le_trans (Nat.le_trans hlo bel.size) ge; have off_wB := owk_new own ge; have pn_wB := Nat.le_trans bel.size ge; replace htb := blk_u htb bb; replace hmB := blk_u hmB bb; replace own := owk_under own bb; replace kt := kt.trans (kt_below bb); replace hM := hM.below bb; replace bel := bel.trans (bb.mono (Nat.le_trans hlo bel.size)); have hwB := hh; clear hh lt ge bb) | ((with_reducible show wpList _ _ _ (⟨some 8, _, _, _, _, _⟩ :: _) _ _); refine wpList_new_a rfl 28 rfl #[.int .u8 0, .int .u8 0, .int .u8 0, .int .u8 0] (by kernel_rfl) ?_; intro g8 w3 ge hh bb; have d_tb_rB := ne_new (hlt htb) ge; have d_mB_rB := ne_new (hlt hmB) ge; have d_wB_rB := ne_new (hlt hwB) ge; have orB := Nat.le_trans (Nat.le_trans hlo bel.size) ge; have off_rB := owk_new own ge; have pn_rB := Nat.le_trans bel.size ge; replace htb := blk_u htb bb; replace hmB := blk_u hmB bb; replace hwB := blk_u hwB bb; replace own := owk_under own bb; replace kt := kt.trans (kt_below bb); replace hM := hM.below bb; replace bel := bel.trans (bb.mono (Nat.le_trans hlo bel.size)); have hrB := hh; clear hh ge bb))
  with_reducible refine (padv_any _ _ htb).mono ?_
  rintro e w4 ⟨rfl, htb_, b4⟩
  replace hmB := blk_a hmB b4 (ne_symm d_tb_mB)
  replace hwB := blk_a hwB b4 (ne_symm d_tb_wB)
  replace hrB := blk_a hrB b4 (ne_symm d_tb_rB)
  replace own := owk_off own off_tb b4
  replace kt := kt.trans (kt_grown b4 htb (by simp))
  replace hM := hM.grown b4 htb
  replace bel := below_grown bel b4 otb (Nat.le_trans hlo bel.size)
  clear b4
  clear htb
  rw [HNW.out] at htb_
  have htb := htb_
  clear htb_
  go_wp2_with fail
  replace bel := bel.drew
  replace htb : w4.drew.heap[gt]? = _ := htb
  replace hmB : w4.drew.heap[g5]? = _ := hmB
  replace hwB : w4.drew.heap[g6]? = _ := hwB
  replace hrB : w4.drew.heap[g8]? = _ := hrB
  replace own := World.ownsRow.drew own
  replace kt := kt_drew kt
  replace hM := hm_drew hM
  refine wp_region_held_drew (S := fun W => W.heap[gt]? = some (.cells #[.int .i64 nw, .map (some mb), .slice A n c] 84 (0, 0)) ∧ W.heap[g5]? = some (.cells #[.int .u8 (m.a.toNat : Int), .int .u8 (m.b.toNat : Int), .int .u8 (m.c.toNat : Int), .int .u8 (m.d.toNat : Int), .int .u8 (m.e.toNat : Int), .int .u8 (m.f.toNat : Int)] 32 (0, 0)) ∧ Hm lo mb W hs) (by kernel_rfl) ⟨htb, hmB, hM⟩ (fun hH => ?_)
  generalize w4.drew = w5 at bel htb hmB hwB hrB own kt hM hH ⊢
  refine wpAnyH_take (i := 0) (v := ?_) rfl (by kernel_rfl) (by kernel_rfl) (by kernel_rfl) (fun _ _ _ h => h) (Or.inl ⟨by rfl, ?_⟩) hH ?_
  rotate_left
  · ((intro W hW; clear hW; go_simp) <;> with_reducible rfl)
  simp only [Act.put, List.getElem_toArray, List.getElem_cons_zero, List.setIfInBounds_toArray, List.set_cons_zero, List.set_cons_succ]
  refine wpAnyH_take (i := 1) (v := ?_) rfl (by kernel_rfl) (by kernel_rfl) (by kernel_rfl) (fun _ _ _ h => h) (Or.inl ⟨by rfl, ?_⟩) hH ?_
  rotate_left
  · ((intro W hW; clear hW; go_simp) <;> with_reducible rfl)
  simp only [sq3, sq4]
  refine wpAnyH_take (i := 2) (v := ?_) rfl (by kernel_rfl) (by kernel_rfl) (by kernel_rfl) (fun _ _ _ h => h) (Or.inl ⟨by rfl, ?_⟩) hH ?_
  rotate_left
  · ((intro W hW; clear hW; go_simp) <;> with_reducible rfl)
  simp only [sq3, sq4]
  refine wpAnyH_take (i := 3) (v := ?_) rfl (by kernel_rfl) (by kernel_rfl) (by kernel_rfl) (fun _ _ _ h => h) (Or.inl ⟨by rfl, ?_⟩) hH ?_
  rotate_left
  · ((intro W hW; have hk := cell_lit (hW.1) 1 _ rfl; clear hW; go_simp) <;> with_reducible rfl)
  simp only [sq3, sq4]
  refine wpAnyH_take (i := 4) (v := .agg #[.int .u8 (m.a.toNat : Int), .int .u8 (m.b.toNat : Int), .int .u8 (m.c.toNat : Int), .int .u8 (m.d.toNat : Int), .int .u8 (m.e.toNat : Int), .int .u8 (m.f.toNat : Int)]) rfl (by kernel_rfl) (by kernel_rfl) (by kernel_rfl) (fun _ _ _ h => h) (yieldsIf_load_part (by kernel_rfl) 32 _ rfl g5 0 6 rfl _ 32 (0, 0) (fun W hW => hW.2.1) _ rfl _ Try.underlying32 rfl (by kernel_rfl)) hH ?_
  simp only [sq3, sq4]
  refine wpAnyH_take (i := 5) (v := ?_) rfl (by kernel_rfl) (by kernel_rfl) (by kernel_rfl) (fun _ _ _ h => h) (Or.inl ⟨by rfl, ?_⟩) hH ?_
  rotate_left
  · ((intro W hW; have hk := (by have h_ := ((hW.2.2)).look m; rw [HH.out] at h_; exact h_ : (Instr.lookup 81 (.map (some mb)) (.agg #[.int .u8 (m.a.toNat : Int), .int .u8 (m.b.toNat : Int), .int .u8 (m.c.toNat : Int), .int .u8 (m.d.toNat : Int), .int .u8 (m.e.toNat : Int), .int .u8 (m.f.toNat : Int)]) true).run Try.prog W = .ok (.tuple #[.agg #[.int .u8 (hm.a.toNat : Int), .int .u8 (hm.b.toNat : Int), .int .u8 (hm.c.toNat : Int), .int .u8 (hm.d.toNat : Int)], .bool true]) W); clear hW; go_simp) <;> with_reducible rfl)
  simp only [sq3, sq4]
  refine wpAnyH_take (i := 6) (v := ?_) rfl (by kernel_rfl) (by kernel_rfl) (by kernel_rfl) (fun _ _ _ h => h) (Or.inl ⟨by rfl, ?_⟩) hH ?_
  rotate_left
  · ((intro W hW; clear hW; go_simp) <;> with_reducible rfl)
  simp only [sq3, sq4]
  refine wpAnyH_take (i := 7) (v := ?_) rfl (by kernel_rfl) (by kernel_rfl) (by kernel_rfl) (fun _ _ _ h => h) (Or.inl ⟨by rfl, ?_⟩) hH ?_
  rotate_left
  · ((intro W hW; clear hW; go_simp) <;> with_reducible rfl)
  simp only [sq3, sq4]
  refine wpAnyH_take (i := 8) (v := ?_) rfl (by kernel_rfl) (by kernel_rfl) (by kernel_rfl) (fun _ _ _ h => h) (Or.inl ⟨by rfl, ?_⟩) hH ?_
  rotate_left
  · ((intro W hW; clear hW; go_simp) <;> with_reducible rfl)
  simp only [sq3, sq4]
  refine wpAnyH_ready (rs := [9]) (by kernel_rfl) (by simp) ?_
  refine AllReadyH.cons (o := _) rfl (fun K hK => ?_) AllReadyH.nil
  simp only [sq3]
  rw [if_pos (by rfl)]
  refine wp_new_a 28 rfl #[.int .u8 0, .int .u8 0, .int .u8 0, .int .u8 0] (by kernel_rfl) ?_
  intro g10 w6 ge hh bb
  have d_tb_hB := ne_new (hlt htb) ge
  have d_mB_hB := ne_new (hlt hmB) ge
  have d_wB_hB := ne_new (hlt hwB) ge
  have d_rB_hB := ne_new (hlt hrB) ge
  have ohB := Nat.le_trans (Nat.le_trans hlo bel.size) ge
  have off_hB := owk_new own ge
  have pn_hB := Nat.le_trans bel.size ge
  replace htb := blk_u htb bb
  replace hmB := blk_u hmB bb
  replace hwB := blk_u hwB bb
  replace hrB := blk_u hrB bb
  replace own := owk_under own bb
  replace kt := kt.trans (kt_below bb)
  replace hM := hM.below bb
  replace bel := bel.trans (bb.mono (Nat.le_trans hlo bel.size))
  have hhB := hh
  clear hh ge bb
  refine hK.out _ _ ⟨htb, hmB, hM⟩ (fun hH7 => ?_)
  clear hK K
  simp only [sq4]
  refine wpAnyH_ready (rs := [10]) (by kernel_rfl) (by simp) ?_
  refine AllReadyH.cons (o := _) rfl (fun K hK => ?_) AllReadyH.nil
  simp only [sq3]
  rw [if_pos (by rfl)]
  refine wp_store_blk 28 (.tmp 10) (.tmp 26) rfl g10 rfl _ rfl _ 28 hhB (by rfl) (by kernel_rfl) (by kernel_rfl) ?_
  intro w8 hq gr
  replace htb := blk_a htb gr d_tb_hB
  replace hmB := blk_a hmB gr d_mB_hB
  replace hwB := blk_a hwB gr d_wB_hB
  replace hrB := blk_a hrB gr d_rB_hB
  replace own := owk_off own off_hB gr
  replace kt := kt.newer gr pn_hB bel.size
  replace hM := hM.grown gr hhB
  replace bel := below_grown bel gr ohB (Nat.le_trans hlo bel.size)
  clear hhB
  have hhB := hq
  clear hq gr
  refine hK.out _ _ ⟨htb, hmB, hM⟩ (fun hH9 => ?_)
  clear hK K
  simp only [Act.put]
  refine wpAnyH_take (i := 11) (v := ?_) rfl (by kernel_rfl) (by kernel_rfl) (by kernel_rfl) (fun _ _ _ h => h) (Or.inl ⟨by rfl, ?_⟩) hH9 ?_
  rotate_left
  · ((intro W hW; clear hW; go_simp) <;> with_reducible rfl)
  simp only [sq3, sq4]
  refine wpAnyH_done (by kernel_rfl) ?_ _
  have R29 := Lib.hid (range_lit hhB 0 4 [.int .u8 (hm.a.toNat : Int), .int .u8 (hm.b.toNat : Int), .int .u8 (hm.c.toNat : Int), .int .u8 (hm.d.toNat : Int)] rfl)
  go_wp2_with (first | ((with_reducible show wpList _ _ _ (⟨some 29, _, _, _, _, _⟩ :: _) _ _); refine wpList_load_rng 28 (.tmp 10) rfl (by kernel_rfl) _ _ rfl _ R29.out _ Try.underlying28 rfl (by kernel_rfl) ?_) | ((with_reducible show wpList _ _ _ (⟨none, Op.store _ (.tmp 8) _, _, _, _, _⟩ :: _) _ _); refine wpList_store_blk rfl 28 (.tmp 8) (.tmp 29) rfl g8 rfl _ rfl _ 28 hrB (by rfl) (by kernel_rfl) (by kernel_rfl) ?_; intro w10 hq gr; replace htb := blk_a htb gr d_tb_rB; replace hmB := blk_a hmB gr d_mB_rB; replace hwB := blk_a hwB gr d_wB_rB; replace hhB := blk_a hhB gr (ne_symm d_rB_hB); replace own := owk_off own off_rB gr; replace kt := kt.newer gr pn_rB bel.size; replace hM := hM.grown gr hrB; replace bel := below_grown bel gr orB (Nat.le_trans hlo bel.size); clear hrB; have hrB := hq; clear hq gr))
  try clear R29
  exact bodyPost_ret (results_cell_tmp_row rfl _ _ _ _ _ _ _ rfl hrB Try.underlying28 rfl (by kernel_rfl) (.int .i64 0) rfl) rfl ⟨rfl, (by rw [HNW.out]; exact ⟨A, n, c, mb, htb, otb, hM, own, HOK2.out⟩), kt, bel⟩
set_option linter.unusedVariables false in
set_option linter.unusedSimpArgs false in
set_option maxRecDepth 100000 in
set_option maxHeartbeats 16000000 in
theorem poffer_live {lo gt : Nat} {now : Int} {hs : List (Mc6 × Ad4)} {l : List Sd} (m : Mc6) (wa : Ad4) (t : Int) {i : Nat} {x : Sd} (w : World) (hT : Pl lo gt w ⟨now, hs, l⟩) (hh : homeF hs m = none) (hf : hldF m (padv now t) l = some i) (hx : l[i]? = some x) : Calls Try.prog 43 #[.pointer (some ⟨gt, 0, none⟩), .agg #[.int .u8 (m.a.toNat : Int), .int .u8 (m.b.toNat : Int), .int .u8 (m.c.toNat : Int), .int .u8 (m.d.toNat : Int), .int .u8 (m.e.toNat : Int), .int .u8 (m.f.toNat : Int)], .agg #[.int .u8 (wa.a.toNat : Int), .int .u8 (wa.b.toNat : Int), .int .u8 (wa.c.toNat : Int), .int .u8 (wa.d.toNat : Int)], .int .i64 t] w fun e w' => e = .returned (.tuple #[.agg #[.int .u8 (x.ad.a.toNat : Int), .int .u8 (x.ad.b.toNat : Int), .int .u8 (x.ad.c.toNat : Int), .int .u8 (x.ad.d.toNat : Int)], .int .i64 0]) ∧ Pl lo gt w' ⟨(padv now t), hs, l⟩ ∧ Kt [84, 101] w w' ∧ Below lo w w' := by
  obtain ⟨A, n, c, mb, htb, otb, hM, own, hok⟩ := hT
  dsimp only at htb hM own
  have hlo : lo ≤ w.heap.size := Nat.le_trans otb (Nat.le_of_lt (hlt htb))
  have off_tb := ofs_type own htb (by decide)
  have hl := row_len (by decide) slE_len own
  have HLL := Lib.hid hl
  have HLO := Lib.hid hlo
  have HOK := Lib.hid hok
  have H32 : Hid (n ≤ 1000) := Lib.hid (by have := hok.len; simp only at this; omega)
  have kt := Kt.refl [84, 101] w
  clear hl hok
  obtain ⟨nw, hnw⟩ : ∃ x, padv now t = x := ⟨_, rfl⟩
  have HNW := Lib.hid hnw
  have HOK2 : Hid (St.ok ⟨nw, hs, l⟩) := Lib.hid (by rw [← hnw]; exact HOK.out.adv t)
  have n0_ : 0 ≤ nw := HOK2.out.n0
  have n1_ : nw ≤ 1099511627776 := HOK2.out.n1
  have N0_ := Lib.hid n0_
  have N1_ := Lib.hid n1_
  clear hnw n0_ n1_
  have hf_ : _ := hf
  rw [HNW.out] at hf_
  clear hf
  have hf := hf_
  clear hf_
  have hin_ : i < n := by have h1_ := (List.getElem?_eq_some_iff.1 hx).1; have h2_ := HLL.out; omega
  have i0 : (0 : Int) ≤ i := by omega
  have i1 : (i : Int) < n := by omega
  obtain ⟨gE, rfl, _⟩ := row_at own (by omega)
  have en := (owk_sle (by decide) slE_len own).1
  have av_en_tb := owk_av own off_tb
  have HF := Lib.hid hf
  clear hf
  have HX := Lib.hid hx
  clear hx
  have HH := Lib.hid hh
  clear hh
  have bel := Below.refl lo w
  go_enter Try.func43, Try.ntmps43
  go_wp2_with (first | ((with_reducible show wpList _ _ _ (⟨some 5, _, _, _, _, _⟩ :: _) _ _); refine wpList_box_n rfl 32 (.tmp 1) rfl #[.int .u8 (m.a.toNat : Int), .int .u8 (m.b.toNat : Int), .int .u8 (m.c.toNat : Int), .int .u8 (m.d.toNat : Int), .int .u8 (m.e.toNat : Int), .int .u8 (m.f.toNat : Int)] rfl ?_; intro g5 w1 ge lt hh bb; have d_tb_mB := ne_new (hlt htb) ge; have av_en_mB := en.av_new ge; have omB := Nat.le_trans (Nat.le_trans hlo bel.size) ge; have off_mB := owk_new own ge; have pn_mB := Nat.le_trans bel.size ge; replace htb := blk_u htb bb; replace en := en.below bb; replace own := owk_under own bb; replace kt := kt.trans (kt_below bb); replace hM := hM.below bb; replace bel := bel.trans (bb.mono (Nat.le_trans hlo bel.size)); have hmB := hh; clear hh lt ge bb) | ((with_reducible show wpList _ _ _ (⟨some 6, _, _, _, _, _⟩ :: _) _ _); refine wpList_box_n rfl 28 (.tmp 2) rfl #[.int .u8 (wa.a.toNat : Int), .int .u8 (wa.b.toNat : Int), .int .u8 (wa.c.toNat : Int), .int .u8 (wa.d.toNat : Int)] rfl ?_; intro g6 w2 ge lt hh bb; have d_tb_wB := ne_new (hlt htb) ge; have d_mB_wB := ne_new (hlt hmB) ge; have av_en_wB := en.av_new ge; have owB := Nat.le_trans (Nat.le_trans hlo bel.size) ge; have off_wB := owk_new own ge; have pn_wB := Nat.le_trans bel.size ge; replace htb := blk_u htb bb; replace hmB := blk_u hmB bb; replace en := en.below bb; replace own := owk_under own bb; replace kt := kt.trans (kt_below bb); replace hM := hM.below bb; replace bel := bel.trans (bb.mono (Nat.le_trans hlo bel.size)); have hwB := hh; clear hh lt ge bb) | ((with_reducible show wpList _ _ _ (⟨some 8, _, _, _, _, _⟩ :: _) _ _); refine wpList_new_a rfl 28 rfl #[.int .u8 0, .int .u8 0, .int .u8 0, .int .u8 0] (by kernel_rfl) ?_; intro g8 w3 ge hh bb; have d_tb_rB := ne_new (hlt htb) ge; have d_mB_rB := ne_new (hlt hmB) ge; have d_wB_rB := ne_new (hlt hwB) ge; have av_en_rB := en.av_new ge; have orB := Nat.le_trans (Nat.le_trans hlo bel.size) ge; have off_rB := owk_new own ge; have pn_rB := Nat.le_trans bel.size ge; replace htb := blk_u htb bb; replace hmB := blk_u hmB bb; replace hwB := blk_u hwB bb; replace en := en.below bb; replace own := owk_under own bb; replace kt := kt.trans (kt_below bb); replace hM := hM.below bb; replace bel := bel.trans (bb.mono (Nat.le_trans hlo bel.size)); have hrB := hh; clear hh ge bb))
  with_reducible refine (padv_any _ _ htb).mono ?_
  rintro e w4 ⟨rfl, htb_, b4⟩
  replace en := en.away av_en_tb b4
  replace hmB := blk_a hmB b4 (ne_symm d_tb_mB)
  replace hwB := blk_a hwB b4 (ne_symm d_tb_wB)
  replace hrB := blk_a hrB b4 (ne_symm d_tb_rB)
  replace own := owk_off own off_tb b4
  replace kt := kt.trans (kt_grown b4 htb (by simp))
  replace hM := hM.grown b4 htb
  replace bel := below_grown bel b4 otb (Nat.le_trans hlo bel.size)
  clear b4
  clear htb
  rw [HNW.out] at htb_
  have htb := htb_
  clear htb_
  go_wp2_with fail
  replace bel := bel.drew
  replace htb : w4.drew.heap[gt]? = _ := htb
  replace hmB : w4.drew.heap[g5]? = _ := hmB
  replace hwB : w4.drew.heap[g6]? = _ := hwB
  replace hrB : w4.drew.heap[g8]? = _ := hrB
  replace en := en.drew
  replace own := World.ownsRow.drew own
  replace kt := kt_drew kt
  replace hM := hm_drew hM
  refine wp_region_held_drew (S := fun W => W.heap[gt]? = some (.cells #[.int .i64 nw, .map (some mb), .slice (some ⟨gE, 0, none⟩) n c] 84 (0, 0)) ∧ W.heap[g5]? = some (.cells #[.int .u8 (m.a.toNat : Int), .int .u8 (m.b.toNat : Int), .int .u8 (m.c.toNat : Int), .int .u8 (m.d.toNat : Int), .int .u8 (m.e.toNat : Int), .int .u8 (m.f.toNat : Int)] 32 (0, 0)) ∧ Hm lo mb W hs) (by kernel_rfl) ⟨htb, hmB, hM⟩ (fun hH => ?_)
  generalize w4.drew = w5 at bel htb hmB hwB hrB en own kt hM hH ⊢
  refine wpAnyH_take (i := 0) (v := ?_) rfl (by kernel_rfl) (by kernel_rfl) (by kernel_rfl) (fun _ _ _ h => h) (Or.inl ⟨by rfl, ?_⟩) hH ?_
  rotate_left
  · ((intro W hW; clear hW; go_simp) <;> with_reducible rfl)
  simp only [Act.put, List.getElem_toArray, List.getElem_cons_zero, List.setIfInBounds_toArray, List.set_cons_zero, List.set_cons_succ]
  refine wpAnyH_take (i := 1) (v := ?_) rfl (by kernel_rfl) (by kernel_rfl) (by kernel_rfl) (fun _ _ _ h => h) (Or.inl ⟨by rfl, ?_⟩) hH ?_
  rotate_left
  · ((intro W hW; clear hW; go_simp) <;> with_reducible rfl)
  simp only [sq3, sq4]
  refine wpAnyH_take (i := 2) (v := ?_) rfl (by kernel_rfl) (by kernel_rfl) (by kernel_rfl) (fun _ _ _ h => h) (Or.inl ⟨by rfl, ?_⟩) hH ?_
  rotate_left
  · ((intro W hW; clear hW; go_simp) <;> with_reducible rfl)
  simp only [sq3, sq4]
  refine wpAnyH_take (i := 3) (v := ?_) rfl (by kernel_rfl) (by kernel_rfl) (by kernel_rfl) (fun _ _ _ h => h) (Or.inl ⟨by rfl, ?_⟩) hH ?_
  rotate_left
  · ((intro W hW; have hk := cell_lit (hW.1) 1 _ rfl; clear hW; go_simp) <;> with_reducible rfl)
  simp only [sq3, sq4]
  refine wpAnyH_take (i := 4) (v := .agg #[.int .u8 (m.a.toNat : Int), .int .u8 (m.b.toNat : Int), .int .u8 (m.c.toNat : Int), .int .u8 (m.d.toNat : Int), .int .u8 (m.e.toNat : Int), .int .u8 (m.f.toNat : Int)]) rfl (by kernel_rfl) (by kernel_rfl) (by kernel_rfl) (fun _ _ _ h => h) (yieldsIf_load_part (by kernel_rfl) 32 _ rfl g5 0 6 rfl _ 32 (0, 0) (fun W hW => hW.2.1) _ rfl _ Try.underlying32 rfl (by kernel_rfl)) hH ?_
  simp only [sq3, sq4]
  refine wpAnyH_take (i := 5) (v := ?_) rfl (by kernel_rfl) (by kernel_rfl) (by kernel_rfl) (fun _ _ _ h => h) (Or.inl ⟨by rfl, ?_⟩) hH ?_
  rotate_left
  · ((intro W hW; have hk := (by have h_ := ((hW.2.2)).look m; rw [HH.out] at h_; exact h_ : (Instr.lookup 81 (.map (some mb)) (.agg #[.int .u8 (m.a.toNat : Int), .int .u8 (m.b.toNat : Int), .int .u8 (m.c.toNat : Int), .int .u8 (m.d.toNat : Int), .int .u8 (m.e.toNat : Int), .int .u8 (m.f.toNat : Int)]) true).run Try.prog W = .ok (.tuple #[.agg #[.int .u8 0, .int .u8 0, .int .u8 0, .int .u8 0], .bool false]) W); clear hW; go_simp) <;> with_reducible rfl)
  simp only [sq3, sq4]
  refine wpAnyH_take (i := 6) (v := ?_) rfl (by kernel_rfl) (by kernel_rfl) (by kernel_rfl) (fun _ _ _ h => h) (Or.inl ⟨by rfl, ?_⟩) hH ?_
  rotate_left
  · ((intro W hW; clear hW; go_simp) <;> with_reducible rfl)
  simp only [sq3, sq4]
  refine wpAnyH_take (i := 7) (v := ?_) rfl (by kernel_rfl) (by kernel_rfl) (by kernel_rfl) (fun _ _ _ h => h) (Or.inl ⟨by rfl, ?_⟩) hH ?_
  rotate_left
  · ((intro W hW; clear hW; go_simp) <;> with_reducible rfl)
  simp only [sq3, sq4]
  refine wpAnyH_take (i := 8) (v := ?_) rfl (by kernel_rfl) (by kernel_rfl) (by kernel_rfl) (fun _ _ _ h => h) (Or.inl ⟨by rfl, ?_⟩) hH ?_
  rotate_left
  · ((intro W hW; clear hW; go_simp) <;> with_reducible rfl)
  simp only [sq3, sq4]
  refine wpAnyH_ready (rs := [9]) (by kernel_rfl) (by simp) ?_
  refine AllReadyH.cons (o := _) rfl (fun K hK => ?_) AllReadyH.nil
  simp only [sq3]
  rw [if_pos (by rfl)]
  refine wp_new_a 28 rfl #[.int .u8 0, .int .u8 0, .int .u8 0, .int .u8 0] (by kernel_rfl) ?_
  intro g10 w6 ge hh bb
  have d_tb_hB := ne_new (hlt htb) ge
  have d_mB_hB := ne_new (hlt hmB) ge
  have d_wB_hB := ne_new (hlt hwB) ge
  have d_rB_hB := ne_new (hlt hrB) ge
  have av_en_hB := en.av_new ge
  have ohB := Nat.le_trans (Nat.le_trans hlo bel.size) ge
  have off_hB := owk_new own ge
  have pn_hB := Nat.le_trans bel.size ge
  replace htb := blk_u htb bb
  replace hmB := blk_u hmB bb
  replace hwB := blk_u hwB bb
  replace hrB := blk_u hrB bb
  replace en := en.below bb
  replace own := owk_under own bb
  replace kt := kt.trans (kt_below bb)
  replace hM := hM.below bb
  replace bel := bel.trans (bb.mono (Nat.le_trans hlo bel.size))
  have hhB := hh
  clear hh ge bb
  refine hK.out _ _ ⟨htb, hmB, hM⟩ (fun hH7 => ?_)
  clear hK K
  simp only [sq4]
  refine wpAnyH_ready (rs := [10]) (by kernel_rfl) (by simp) ?_
  refine AllReadyH.cons (o := _) rfl (fun K hK => ?_) AllReadyH.nil
  simp only [sq3]
  rw [if_pos (by rfl)]
  refine wp_store_blk 28 (.tmp 10) (.tmp 26) rfl g10 rfl _ rfl _ 28 hhB (by rfl) (by kernel_rfl) (by kernel_rfl) ?_
  intro w8 hq gr
  replace en := en.away av_en_hB gr
  replace htb := blk_a htb gr d_tb_hB
  replace hmB := blk_a hmB gr d_mB_hB
  replace hwB := blk_a hwB gr d_wB_hB
  replace hrB := blk_a hrB gr d_rB_hB
  replace own := owk_off own off_hB gr
  replace kt := kt.newer gr pn_hB bel.size
  replace hM := hM.grown gr hhB
  replace bel := below_grown bel gr ohB (Nat.le_trans hlo bel.size)
  clear hhB
  have hhB := hq
  clear hq gr
  refine hK.out _ _ ⟨htb, hmB, hM⟩ (fun hH9 => ?_)
  clear hK K
  simp only [Act.put]
  refine wpAnyH_take (i := 11) (v := ?_) rfl (by kernel_rfl) (by kernel_rfl) (by kernel_rfl) (fun _ _ _ h => h) (Or.inl ⟨by rfl, ?_⟩) hH9 ?_
  rotate_left
  · ((intro W hW; clear hW; go_simp) <;> with_reducible rfl)
  simp only [sq3, sq4]
  refine wpAnyH_done (by kernel_rfl) ?_ _
  have R31 := Lib.hid (range_lit hmB 0 6 [.int .u8 (m.a.toNat : Int), .int .u8 (m.b.toNat : Int), .int .u8 (m.c.toNat : Int), .int .u8 (m.d.toNat : Int), .int .u8 (m.e.toNat : Int), .int .u8 (m.f.toNat : Int)] rfl)
  go_wp2_with (first | ((with_reducible show wpList _ _ _ (⟨some 31, _, _, _, _, _⟩ :: _) _ _); refine wpList_load_rng 32 (.tmp 5) rfl (by kernel_rfl) _ _ rfl _ R31.out _ Try.underlying32 rfl (by kernel_rfl) ?_))
  try clear R31
  with_reducible refine (lof_at m _ htb own H32.out HF.out).mono ?_
  rintro e w10 ⟨rfl, b10⟩
  replace htb := blk_u htb b10
  replace hmB := blk_u hmB b10
  replace hwB := blk_u hwB b10
  replace hrB := blk_u hrB b10
  replace hhB := blk_u hhB b10
  replace en := en.below b10
  replace own := owk_under own b10
  replace kt := kt.trans (kt_below b10)
  replace hM := hM.below b10
  replace bel := bel.trans (b10.mono (Nat.le_trans hlo bel.size))
  clear b10
  have R39 := Lib.hid (Sle.zrange en HX.out 6 4 [.int .u8 (x.ad.a.toNat : Int), .int .u8 (x.ad.b.toNat : Int), .int .u8 (x.ad.c.toNat : Int), .int .u8 (x.ad.d.toNat : Int)] rfl)
  go_wp2_with (first | ((with_reducible show wpList _ _ _ (⟨some 39, _, _, _, _, _⟩ :: _) _ _); refine wpList_load_rng 28 (.tmp 38) rfl (by kernel_rfl) _ _ rfl _ R39.out _ Try.underlying28 rfl (by kernel_rfl) ?_) | ((with_reducible show wpList _ _ _ (⟨none, Op.store _ (.tmp 8) _, _, _, _, _⟩ :: _) _ _); refine wpList_store_blk rfl 28 (.tmp 8) (.tmp 39) rfl g8 rfl _ rfl _ 28 hrB (by rfl) (by kernel_rfl) (by kernel_rfl) ?_; intro w11 hq gr; replace en := en.away av_en_rB gr; replace htb := blk_a htb gr d_tb_rB; replace hmB := blk_a hmB gr d_mB_rB; replace hwB := blk_a hwB gr d_wB_rB; replace hhB := blk_a hhB gr (ne_symm d_rB_hB); replace own := owk_off own off_rB gr; replace kt := kt.newer gr pn_rB bel.size; replace hM := hM.grown gr hrB; replace bel := below_grown bel gr orB (Nat.le_trans hlo bel.size); clear hrB; have hrB := hq; clear hq gr))
  try clear R39
  exact bodyPost_ret (results_cell_tmp_row rfl _ _ _ _ _ _ _ rfl hrB Try.underlying28 rfl (by kernel_rfl) (.int .i64 0) rfl) rfl ⟨rfl, (by rw [HNW.out]; exact ⟨(some ⟨gE, 0, none⟩), n, c, mb, htb, otb, hM, own, HOK2.out⟩), kt, bel⟩
set_option linter.unusedVariables false in
set_option linter.unusedSimpArgs false in
set_option maxRecDepth 100000 in
set_option maxHeartbeats 16000000 in
theorem poffer_want {lo gt : Nat} {now : Int} {hs : List (Mc6 × Ad4)} {l : List Sd} (m : Mc6) (wa : Ad4) (t : Int) {i : Nat} {x : Sd} (w : World) (hT : Pl lo gt w ⟨now, hs, l⟩) (hh : homeF hs m = none) (hf : hldF m (padv now t) l = none) (hx : l[i]? = some x) (hp : sfpos l wa.num = i) (hs_ : sfhas l wa.num = true) (hfr : x.freeB (padv now t) = true) : Calls Try.prog 43 #[.pointer (some ⟨gt, 0, none⟩), .agg #[.int .u8 (m.a.toNat : Int), .int .u8 (m.b.toNat : Int), .int .u8 (m.c.toNat : Int), .int .u8 (m.d.toNat : Int), .int .u8 (m.e.toNat : Int), .int .u8 (m.f.toNat : Int)], .agg #[.int .u8 (wa.a.toNat : Int), .int .u8 (wa.b.toNat : Int), .int .u8 (wa.c.toNat : Int), .int .u8 (wa.d.toNat : Int)], .int .i64 t] w fun e w' => e = .returned (.tuple #[.agg #[.int .u8 (wa.a.toNat : Int), .int .u8 (wa.b.toNat : Int), .int .u8 (wa.c.toNat : Int), .int .u8 (wa.d.toNat : Int)], .int .i64 0]) ∧ Pl lo gt w' ⟨(padv now t), hs, l⟩ ∧ Kt [84, 101] w w' ∧ Below lo w w' := by
  obtain ⟨A, n, c, mb, htb, otb, hM, own, hok⟩ := hT
  dsimp only at htb hM own
  have hlo : lo ≤ w.heap.size := Nat.le_trans otb (Nat.le_of_lt (hlt htb))
  have off_tb := ofs_type own htb (by decide)
  have hl := row_len (by decide) slE_len own
  have HLL := Lib.hid hl
  have HLO := Lib.hid hlo
  have HOK := Lib.hid hok
  have H32 : Hid (n ≤ 1000) := Lib.hid (by have := hok.len; simp only at this; omega)
  have kt := Kt.refl [84, 101] w
  clear hl hok
  obtain ⟨nw, hnw⟩ : ∃ x, padv now t = x := ⟨_, rfl⟩
  have HNW := Lib.hid hnw
  have HOK2 : Hid (St.ok ⟨nw, hs, l⟩) := Lib.hid (by rw [← hnw]; exact HOK.out.adv t)
  have n0_ : 0 ≤ nw := HOK2.out.n0
  have n1_ : nw ≤ 1099511627776 := HOK2.out.n1
  have N0_ := Lib.hid n0_
  have N1_ := Lib.hid n1_
  clear hnw n0_ n1_
  have hf_ : _ := hf
  rw [HNW.out] at hf_
  clear hf
  have hf := hf_
  clear hf_
  have hin_ : i < n := by have h1_ := (List.getElem?_eq_some_iff.1 hx).1; have h2_ := HLL.out; omega
  have i0 : (0 : Int) ≤ i := by omega
  have i1 : (i : Int) < n := by omega
  obtain ⟨gE, rfl, _⟩ := row_at own (by omega)
  have en := (owk_sle (by decide) slE_len own).1
  have av_en_tb := owk_av own off_tb
  have hb1 : x.freeB nw = true := by rw [← HNW.out]; exact hfr
  have HB1 := Lib.hid hb1
  have HS := Lib.hid hs_
  clear hb1 hfr hs_
  have HF := Lib.hid hf
  clear hf
  have HX := Lib.hid hx
  clear hx
  have HH := Lib.hid hh
  clear hh
  have HP := Lib.hid hp
  clear hp
  have bel := Below.refl lo w
  go_enter Try.func43, Try.ntmps43
  go_wp2_with (first | ((with_reducible show wpList _ _ _ (⟨some 5, _, _, _, _, _⟩ :: _) _ _); refine wpList_box_n rfl 32 (.tmp 1) rfl #[.int .u8 (m.a.toNat : Int), .int .u8 (m.b.toNat : Int), .int .u8 (m.c.toNat : Int), .int .u8 (m.d.toNat : Int), .int .u8 (m.e.toNat : Int), .int .u8 (m.f.toNat : Int)] rfl ?_; intro g5 w1 ge lt hh bb; have d_tb_mB := ne_new (hlt htb) ge; have av_en_mB := en.av_new ge; have omB := Nat.le_trans (Nat.le_trans hlo bel.size) ge; have off_mB := owk_new own ge; have pn_mB := Nat.le_trans bel.size ge; replace htb := blk_u htb bb; replace en := en.below bb; replace own := owk_under own bb; replace kt := kt.trans (kt_below bb); replace hM := hM.below bb; replace bel := bel.trans (bb.mono (Nat.le_trans hlo bel.size)); have hmB := hh; clear hh lt ge bb) | ((with_reducible show wpList _ _ _ (⟨some 6, _, _, _, _, _⟩ :: _) _ _); refine wpList_box_n rfl 28 (.tmp 2) rfl #[.int .u8 (wa.a.toNat : Int), .int .u8 (wa.b.toNat : Int), .int .u8 (wa.c.toNat : Int), .int .u8 (wa.d.toNat : Int)] rfl ?_; intro g6 w2 ge lt hh bb; have d_tb_wB := ne_new (hlt htb) ge; have d_mB_wB := ne_new (hlt hmB) ge; have av_en_wB := en.av_new ge; have owB := Nat.le_trans (Nat.le_trans hlo bel.size) ge; have off_wB := owk_new own ge; have pn_wB := Nat.le_trans bel.size ge; replace htb := blk_u htb bb; replace hmB := blk_u hmB bb; replace en := en.below bb; replace own := owk_under own bb; replace kt := kt.trans (kt_below bb); replace hM := hM.below bb; replace bel := bel.trans (bb.mono (Nat.le_trans hlo bel.size)); have hwB := hh; clear hh lt ge bb) | ((with_reducible show wpList _ _ _ (⟨some 8, _, _, _, _, _⟩ :: _) _ _); refine wpList_new_a rfl 28 rfl #[.int .u8 0, .int .u8 0, .int .u8 0, .int .u8 0] (by kernel_rfl) ?_; intro g8 w3 ge hh bb; have d_tb_rB := ne_new (hlt htb) ge; have d_mB_rB := ne_new (hlt hmB) ge; have d_wB_rB := ne_new (hlt hwB) ge; have av_en_rB := en.av_new ge; have orB := Nat.le_trans (Nat.le_trans hlo bel.size) ge; have off_rB := owk_new own ge; have pn_rB := Nat.le_trans bel.size ge; replace htb := blk_u htb bb; replace hmB := blk_u hmB bb; replace hwB := blk_u hwB bb; replace en := en.below bb; replace own := owk_under own bb; replace kt := kt.trans (kt_below bb); replace hM := hM.below bb; replace bel := bel.trans (bb.mono (Nat.le_trans hlo bel.size)); have hrB := hh; clear hh ge bb))
  with_reducible refine (padv_any _ _ htb).mono ?_
  rintro e w4 ⟨rfl, htb_, b4⟩
  replace en := en.away av_en_tb b4
  replace hmB := blk_a hmB b4 (ne_symm d_tb_mB)
  replace hwB := blk_a hwB b4 (ne_symm d_tb_wB)
  replace hrB := blk_a hrB b4 (ne_symm d_tb_rB)
  replace own := owk_off own off_tb b4
  replace kt := kt.trans (kt_grown b4 htb (by simp))
  replace hM := hM.grown b4 htb
  replace bel := below_grown bel b4 otb (Nat.le_trans hlo bel.size)
  clear b4
  clear htb
  rw [HNW.out] at htb_
  have htb := htb_
  clear htb_
  go_wp2_with fail
  replace bel := bel.drew
  replace htb : w4.drew.heap[gt]? = _ := htb
  replace hmB : w4.drew.heap[g5]? = _ := hmB
  replace hwB : w4.drew.heap[g6]? = _ := hwB
  replace hrB : w4.drew.heap[g8]? = _ := hrB
  replace en := en.drew
  replace own := World.ownsRow.drew own
  replace kt := kt_drew kt
  replace hM := hm_drew hM
  refine wp_region_held_drew (S := fun W => W.heap[gt]? = some (.cells #[.int .i64 nw, .map (some mb), .slice (some ⟨gE, 0, none⟩) n c] 84 (0, 0)) ∧ W.heap[g5]? = some (.cells #[.int .u8 (m.a.toNat : Int), .int .u8 (m.b.toNat : Int), .int .u8 (m.c.toNat : Int), .int .u8 (m.d.toNat : Int), .int .u8 (m.e.toNat : Int), .int .u8 (m.f.toNat : Int)] 32 (0, 0)) ∧ Hm lo mb W hs) (by kernel_rfl) ⟨htb, hmB, hM⟩ (fun hH => ?_)
  generalize w4.drew = w5 at bel htb hmB hwB hrB en own kt hM hH ⊢
  refine wpAnyH_take (i := 0) (v := ?_) rfl (by kernel_rfl) (by kernel_rfl) (by kernel_rfl) (fun _ _ _ h => h) (Or.inl ⟨by rfl, ?_⟩) hH ?_
  rotate_left
  · ((intro W hW; clear hW; go_simp) <;> with_reducible rfl)
  simp only [Act.put, List.getElem_toArray, List.getElem_cons_zero, List.setIfInBounds_toArray, List.set_cons_zero, List.set_cons_succ]
  refine wpAnyH_take (i := 1) (v := ?_) rfl (by kernel_rfl) (by kernel_rfl) (by kernel_rfl) (fun _ _ _ h => h) (Or.inl ⟨by rfl, ?_⟩) hH ?_
  rotate_left
  · ((intro W hW; clear hW; go_simp) <;> with_reducible rfl)
  simp only [sq3, sq4]
  refine wpAnyH_take (i := 2) (v := ?_) rfl (by kernel_rfl) (by kernel_rfl) (by kernel_rfl) (fun _ _ _ h => h) (Or.inl ⟨by rfl, ?_⟩) hH ?_
  rotate_left
  · ((intro W hW; clear hW; go_simp) <;> with_reducible rfl)
  simp only [sq3, sq4]
  refine wpAnyH_take (i := 3) (v := ?_) rfl (by kernel_rfl) (by kernel_rfl) (by kernel_rfl) (fun _ _ _ h => h) (Or.inl ⟨by rfl, ?_⟩) hH ?_
  rotate_left
  · ((intro W hW; have hk := cell_lit (hW.1) 1 _ rfl; clear hW; go_simp) <;> with_reducible rfl)
  simp only [sq3, sq4]
  refine wpAnyH_take (i := 4) (v := .agg #[.int .u8 (m.a.toNat : Int), .int .u8 (m.b.toNat : Int), .int .u8 (m.c.toNat : Int), .int .u8 (m.d.toNat : Int), .int .u8 (m.e.toNat : Int), .int .u8 (m.f.toNat : Int)]) rfl (by kernel_rfl) (by kernel_rfl) (by kernel_rfl) (fun _ _ _ h => h) (yieldsIf_load_part (by kernel_rfl) 32 _ rfl g5 0 6 rfl _ 32 (0, 0) (fun W hW => hW.2.1) _ rfl _ Try.underlying32 rfl (by kernel_rfl)) hH ?_
  simp only [sq3, sq4]
  refine wpAnyH_take (i := 5) (v := ?_) rfl (by kernel_rfl) (by kernel_rfl) (by kernel_rfl) (fun _ _ _ h => h) (Or.inl ⟨by rfl, ?_⟩) hH ?_
  rotate_left
  · ((intro W hW; have hk := (by have h_ := ((hW.2.2)).look m; rw [HH.out] at h_; exact h_ : (Instr.lookup 81 (.map (some mb)) (.agg #[.int .u8 (m.a.toNat : Int), .int .u8 (m.b.toNat : Int), .int .u8 (m.c.toNat : Int), .int .u8 (m.d.toNat : Int), .int .u8 (m.e.toNat : Int), .int .u8 (m.f.toNat : Int)]) true).run Try.prog W = .ok (.tuple #[.agg #[.int .u8 0, .int .u8 0, .int .u8 0, .int .u8 0], .bool false]) W); clear hW; go_simp) <;> with_reducible rfl)
  simp only [sq3, sq4]
  refine wpAnyH_take (i := 6) (v := ?_) rfl (by kernel_rfl) (by kernel_rfl) (by kernel_rfl) (fun _ _ _ h => h) (Or.inl ⟨by rfl, ?_⟩) hH ?_
  rotate_left
  · ((intro W hW; clear hW; go_simp) <;> with_reducible rfl)
  simp only [sq3, sq4]
  refine wpAnyH_take (i := 7) (v := ?_) rfl (by kernel_rfl) (by kernel_rfl) (by kernel_rfl) (fun _ _ _ h => h) (Or.inl ⟨by rfl, ?_⟩) hH ?_
  rotate_left
  · ((intro W hW; clear hW; go_simp) <;> with_reducible rfl)
  simp only [sq3, sq4]
  refine wpAnyH_take (i := 8) (v := ?_) rfl (by kernel_rfl) (by kernel_rfl) (by kernel_rfl) (fun _ _ _ h => h) (Or.inl ⟨by rfl, ?_⟩) hH ?_
  rotate_left
  · ((intro W hW; clear hW; go_simp) <;> with_reducible rfl)
  simp only [sq3, sq4]
  refine wpAnyH_ready (rs := [9]) (by kernel_rfl) (by simp) ?_
  refine AllReadyH.cons (o := _) rfl (fun K hK => ?_) AllReadyH.nil
  simp only [sq3]
  rw [if_pos (by rfl)]
  refine wp_new_a 28 rfl #[.int .u8 0, .int .u8 0, .int .u8 0, .int .u8 0] (by kernel_rfl) ?_
  intro g10 w6 ge hh bb
  have d_tb_hB := ne_new (hlt htb) ge
  have d_mB_hB := ne_new (hlt hmB) ge
  have d_wB_hB := ne_new (hlt hwB) ge
  have d_rB_hB := ne_new (hlt hrB) ge
  have av_en_hB := en.av_new ge
  have ohB := Nat.le_trans (Nat.le_trans hlo bel.size) ge
  have off_hB := owk_new own ge
  have pn_hB := Nat.le_trans bel.size ge
  replace htb := blk_u htb bb
  replace hmB := blk_u hmB bb
  replace hwB := blk_u hwB bb
  replace hrB := blk_u hrB bb
  replace en := en.below bb
  replace own := owk_under own bb
  replace kt := kt.trans (kt_below bb)
  replace hM := hM.below bb
  replace bel := bel.trans (bb.mono (Nat.le_trans hlo bel.size))
  have hhB := hh
  clear hh ge bb
  refine hK.out _ _ ⟨htb, hmB, hM⟩ (fun hH7 => ?_)
  clear hK K
  simp only [sq4]
  refine wpAnyH_ready (rs := [10]) (by kernel_rfl) (by simp) ?_
  refine AllReadyH.cons (o := _) rfl (fun K hK => ?_) AllReadyH.nil
  simp only [sq3]
  rw [if_pos (by rfl)]
  refine wp_store_blk 28 (.tmp 10) (.tmp 26) rfl g10 rfl _ rfl _ 28 hhB (by rfl) (by kernel_rfl) (by kernel_rfl) ?_
  intro w8 hq gr
  replace en := en.away av_en_hB gr
  replace htb := blk_a htb gr d_tb_hB
  replace hmB := blk_a hmB gr d_mB_hB
  replace hwB := blk_a hwB gr d_wB_hB
  replace hrB := blk_a hrB gr d_rB_hB
  replace own := owk_off own off_hB gr
  replace kt := kt.newer gr pn_hB bel.size
  replace hM := hM.grown gr hhB
  replace bel := below_grown bel gr ohB (Nat.le_trans hlo bel.size)
  clear hhB
  have hhB := hq
  clear hq gr
  refine hK.out _ _ ⟨htb, hmB, hM⟩ (fun hH9 => ?_)
  clear hK K
  simp only [Act.put]
  refine wpAnyH_take (i := 11) (v := ?_) rfl (by kernel_rfl) (by kernel_rfl) (by kernel_rfl) (fun _ _ _ h => h) (Or.inl ⟨by rfl, ?_⟩) hH9 ?_
  rotate_left
  · ((intro W hW; clear hW; go_simp) <;> with_reducible rfl)
  simp only [sq3, sq4]
  refine wpAnyH_done (by kernel_rfl) ?_ _
  have R31 := Lib.hid (range_lit hmB 0 6 [.int .u8 (m.a.toNat : Int), .int .u8 (m.b.toNat : Int), .int .u8 (m.c.toNat : Int), .int .u8 (m.d.toNat : Int), .int .u8 (m.e.toNat : Int), .int .u8 (m.f.toNat : Int)] rfl)
  go_wp2_with (first | ((with_reducible show wpList _ _ _ (⟨some 31, _, _, _, _, _⟩ :: _) _ _); refine wpList_load_rng 32 (.tmp 5) rfl (by kernel_rfl) _ _ rfl _ R31.out _ Try.underlying32 rfl (by kernel_rfl) ?_))
  try clear R31
  with_reducible refine (lof_none m _ htb own H32.out HF.out).mono ?_
  rintro e w10 ⟨rfl, b10⟩
  replace htb := blk_u htb b10
  replace hmB := blk_u hmB b10
  replace hwB := blk_u hwB b10
  replace hrB := blk_u hrB b10
  replace hhB := blk_u hhB b10
  replace en := en.below b10
  replace own := owk_under own b10
  replace kt := kt.trans (kt_below b10)
  replace hM := hM.below b10
  replace bel := bel.trans (b10.mono (Nat.le_trans hlo bel.size))
  clear b10
  have R42 := Lib.hid (range_lit hwB 0 4 [.int .u8 (wa.a.toNat : Int), .int .u8 (wa.b.toNat : Int), .int .u8 (wa.c.toNat : Int), .int .u8 (wa.d.toNat : Int)] rfl)
  go_wp2_with (first | ((with_reducible show wpList _ _ _ (⟨some 42, _, _, _, _, _⟩ :: _) _ _); refine wpList_load_rng 28 (.tmp 6) rfl (by kernel_rfl) _ _ rfl _ R42.out _ Try.underlying28 rfl (by kernel_rfl) ?_))
  try clear R42
  with_reducible refine (pfind_is wa _ htb (owk_sle (by decide) slE_len own).1 HOK2.out.srt H32.out HP.out HS.out).mono ?_
  rintro e w11 ⟨rfl, b11⟩
  replace htb := blk_u htb b11
  replace hmB := blk_u hmB b11
  replace hwB := blk_u hwB b11
  replace hrB := blk_u hrB b11
  replace hhB := blk_u hhB b11
  replace en := en.below b11
  replace own := owk_under own b11
  replace kt := kt.trans (kt_below b11)
  replace hM := hM.below b11
  replace bel := bel.trans (b11.mono (Nat.le_trans hlo bel.size))
  clear b11
  go_wp2_with fail
  replace bel := bel.drew
  replace htb : w11.drew.heap[gt]? = _ := htb
  replace hmB : w11.drew.heap[g5]? = _ := hmB
  replace hwB : w11.drew.heap[g6]? = _ := hwB
  replace hrB : w11.drew.heap[g8]? = _ := hrB
  replace hhB : w11.drew.heap[g10]? = _ := hhB
  replace en := en.drew
  replace own := World.ownsRow.drew own
  replace kt := kt_drew kt
  replace hM := hm_drew hM
  refine wp_region_held_drew (S := fun W => W.heap[gt]? = some (.cells #[.int .i64 nw, .map (some mb), .slice (some ⟨gE, 0, none⟩) n c] 84 (0, 0))) (by kernel_rfl) htb (fun hH => ?_)
  generalize w11.drew = w12 at bel htb hmB hwB hrB hhB en own kt hM hH ⊢
  refine wpAnyH_take (i := 0) (v := ?_) rfl (by kernel_rfl) (by kernel_rfl) (by kernel_rfl) (fun _ _ _ h => h) (Or.inl ⟨by rfl, ?_⟩) hH ?_
  rotate_left
  · ((intro W hW; clear hW; go_simp) <;> with_reducible rfl)
  simp only [Act.put, List.getElem_toArray, List.getElem_cons_zero, List.setIfInBounds_toArray, List.set_cons_zero, List.set_cons_succ]
  refine wpAnyH_take (i := 1) (v := ?_) rfl (by kernel_rfl) (by kernel_rfl) (by kernel_rfl) (fun _ _ _ h => h) (Or.inl ⟨by rfl, ?_⟩) hH ?_
  rotate_left
  · ((intro W hW; clear hW; go_simp) <;> with_reducible rfl)
  simp only [sq3, sq4]
  refine wpAnyH_take (i := 2) (v := ?_) rfl (by kernel_rfl) (by kernel_rfl) (by kernel_rfl) (fun _ _ _ h => h) (Or.inl ⟨by rfl, ?_⟩) hH ?_
  rotate_left
  · ((intro W hW; clear hW; go_simp) <;> with_reducible rfl)
  simp only [sq3, sq4]
  refine wpAnyH_take (i := 3) (v := ?_) rfl (by kernel_rfl) (by kernel_rfl) (by kernel_rfl) (fun _ _ _ h => h) (Or.inl ⟨by rfl, ?_⟩) hH ?_
  rotate_left
  · ((intro W hW; clear hW; go_simp) <;> with_reducible rfl)
  simp only [sq3, sq4]
  refine wpAnyH_take (i := 4) (v := ?_) rfl (by kernel_rfl) (by kernel_rfl) (by kernel_rfl) (fun _ _ _ h => h) (Or.inl ⟨by rfl, ?_⟩) hH ?_
  rotate_left
  · ((intro W hW; clear hW; go_simp) <;> with_reducible rfl)
  simp only [sq3, sq4]
  refine wpAnyH_take (i := 5) (v := ?_) rfl (by kernel_rfl) (by kernel_rfl) (by kernel_rfl) (fun _ _ _ h => h) (Or.inl ⟨by rfl, ?_⟩) hH ?_
  rotate_left
  · ((intro W hW; have hk := cell_lit (hW) 2 _ rfl; clear hW; go_simp) <;> with_reducible rfl)
  simp only [sq3, sq4]
  refine wpAnyH_take (i := 6) (v := ?_) rfl (by kernel_rfl) (by kernel_rfl) (by kernel_rfl) (fun _ _ _ h => h) (Or.inl ⟨by rfl, ?_⟩) hH ?_
  rotate_left
  · ((intro W hW; clear hW; go_simp) <;> with_reducible rfl)
  simp only [sq3, sq4]
  refine wpAnyH_take (i := 7) (v := ?_) rfl (by kernel_rfl) (by kernel_rfl) (by kernel_rfl) (fun _ _ _ h => h) (Or.inl ⟨by rfl, ?_⟩) hH ?_
  rotate_left
  · ((intro W hW; clear hW; go_simp) <;> with_reducible rfl)
  simp only [sq3, sq4]
  refine wpAnyH_take (i := 8) (v := ?_) rfl (by kernel_rfl) (by kernel_rfl) (by kernel_rfl) (fun _ _ _ h => h) (Or.inl ⟨by rfl, ?_⟩) hH ?_
  rotate_left
  · ((intro W hW; clear hW; go_simp) <;> with_reducible rfl)
  simp only [sq3, sq4]
  refine wpAnyH_take (i := 9) (v := ?_) rfl (by kernel_rfl) (by kernel_rfl) (by kernel_rfl) (fun _ _ _ h => h) (Or.inl ⟨by rfl, ?_⟩) hH ?_
  rotate_left
  · ((intro W hW; clear hW; go_simp) <;> with_reducible rfl)
  simp only [sq3, sq4]
  refine wpAnyH_take (i := 10) (v := ?_) rfl (by kernel_rfl) (by kernel_rfl) (by kernel_rfl) (fun _ _ _ h => h) (Or.inl ⟨by rfl, ?_⟩) hH ?_
  rotate_left
  · ((intro W hW; clear hW; go_simp) <;> with_reducible rfl)
  simp only [sq3, sq4]
  refine wpAnyH_take (i := 11) (v := ?_) rfl (by kernel_rfl) (by kernel_rfl) (by kernel_rfl) (fun _ _ _ h => h) (Or.inl ⟨by rfl, ?_⟩) hH ?_
  rotate_left
  · ((intro W hW; have hk := cell_lit (hW) 0 _ rfl; clear hW; go_simp) <;> with_reducible rfl)
  simp only [sq3, sq4]
  refine wpAnyH_ready (rs := [12]) (by kernel_rfl) (by simp) ?_
  refine AllReadyH.cons (o := _) rfl (fun K hK => ?_) AllReadyH.nil
  simp only [sq3]
  go_simp
  with_reducible refine (free_el _ en HX.out HB1.out).mono ?_
  rintro e _ ⟨rfl, rfl⟩
  dsimp only
  refine hK.out _ _ htb (fun hH13 => ?_)
  clear hK K
  refine wpAnyH_take (i := 13) (v := ?_) rfl (by kernel_rfl) (by kernel_rfl) (by kernel_rfl) (fun _ _ _ h => h) (Or.inl ⟨by rfl, ?_⟩) hH13 ?_
  rotate_left
  · ((intro W hW; clear hW; go_simp) <;> with_reducible rfl)
  simp only [sq3, sq4]
  refine wpAnyH_done (by kernel_rfl) ?_ _
  have R60 := Lib.hid (range_lit hwB 0 4 [.int .u8 (wa.a.toNat : Int), .int .u8 (wa.b.toNat : Int), .int .u8 (wa.c.toNat : Int), .int .u8 (wa.d.toNat : Int)] rfl)
  go_wp2_with (first | ((with_reducible show wpList _ _ _ (⟨some 60, _, _, _, _, _⟩ :: _) _ _); refine wpList_load_rng 28 (.tmp 6) rfl (by kernel_rfl) _ _ rfl _ R60.out _ Try.underlying28 rfl (by kernel_rfl) ?_) | ((with_reducible show wpList _ _ _ (⟨none, Op.store _ (.tmp 8) _, _, _, _, _⟩ :: _) _ _); refine wpList_store_blk rfl 28 (.tmp 8) (.tmp 60) rfl g8 rfl _ rfl _ 28 hrB (by rfl) (by kernel_rfl) (by kernel_rfl) ?_; intro w14 hq gr; replace en := en.away av_en_rB gr; replace htb := blk_a htb gr d_tb_rB; replace hmB := blk_a hmB gr d_mB_rB; replace hwB := blk_a hwB gr d_wB_rB; replace hhB := blk_a hhB gr (ne_symm d_rB_hB); replace own := owk_off own off_rB gr; replace kt := kt.newer gr pn_rB bel.size; replace hM := hM.grown gr hrB; replace bel := below_grown bel gr orB (Nat.le_trans hlo bel.size); clear hrB; have hrB := hq; clear hq gr))
  try clear R60
  exact bodyPost_ret (results_cell_tmp_row rfl _ _ _ _ _ _ _ rfl hrB Try.underlying28 rfl (by kernel_rfl) (.int .i64 0) rfl) rfl ⟨rfl, (by rw [HNW.out]; exact ⟨(some ⟨gE, 0, none⟩), n, c, mb, htb, otb, hM, own, HOK2.out⟩), kt, bel⟩
set_option linter.unusedVariables false in
set_option linter.unusedSimpArgs false in
set_option maxRecDepth 100000 in
set_option maxHeartbeats 16000000 in
theorem poffer_full0 {lo gt : Nat} {now : Int} {hs : List (Mc6 × Ad4)} {l : List Sd} (m : Mc6) (wa : Ad4) (t : Int)  (w : World) (hT : Pl lo gt w ⟨now, hs, l⟩) (hh : homeF hs m = none) (hf : hldF m (padv now t) l = none) (hs_ : sfhas l wa.num = false) (hbf : bestF m (padv now t) l l.length = none) : Calls Try.prog 43 #[.pointer (some ⟨gt, 0, none⟩), .agg #[.int .u8 (m.a.toNat : Int), .int .u8 (m.b.toNat : Int), .int .u8 (m.c.toNat : Int), .int .u8 (m.d.toNat : Int), .int .u8 (m.e.toNat : Int), .int .u8 (m.f.toNat : Int)], .agg #[.int .u8 (wa.a.toNat : Int), .int .u8 (wa.b.toNat : Int), .int .u8 (wa.c.toNat : Int), .int .u8 (wa.d.toNat : Int)], .int .i64 t] w fun e w' => e = .returned (.tuple #[.agg #[.int .u8 0, .int .u8 0, .int .u8 0, .int .u8 0], .int .i64 7]) ∧ Pl lo gt w' ⟨(padv now t), hs, l⟩ ∧ Kt [84, 101] w w' ∧ Below lo w w' := by
  obtain ⟨A, n, c, mb, htb, otb, hM, own, hok⟩ := hT
  dsimp only at htb hM own
  have hlo : lo ≤ w.heap.size := Nat.le_trans otb (Nat.le_of_lt (hlt htb))
  have off_tb := ofs_type own htb (by decide)
  have hl := row_len (by decide) slE_len own
  have HLL := Lib.hid hl
  have HLO := Lib.hid hlo
  have HOK := Lib.hid hok
  have H32 : Hid (n ≤ 1000) := Lib.hid (by have := hok.len; simp only at this; omega)
  have kt := Kt.refl [84, 101] w
  clear hl hok
  obtain ⟨nw, hnw⟩ : ∃ x, padv now t = x := ⟨_, rfl⟩
  have HNW := Lib.hid hnw
  have HOK2 : Hid (St.ok ⟨nw, hs, l⟩) := Lib.hid (by rw [← hnw]; exact HOK.out.adv t)
  have n0_ : 0 ≤ nw := HOK2.out.n0
  have n1_ : nw ≤ 1099511627776 := HOK2.out.n1
  have N0_ := Lib.hid n0_
  have N1_ := Lib.hid n1_
  clear hnw n0_ n1_
  have hf_ : _ := hf
  rw [HNW.out] at hf_
  clear hf
  have hf := hf_
  clear hf_
  have hbf_ : _ := hbf
  rw [HNW.out, HLL.out] at hbf_
  have HBF := Lib.hid hbf_
  clear hbf hbf_
  have HS := Lib.hid hs_
  clear hs_
  obtain ⟨p, hp⟩ : ∃ p, sfpos l wa.num = p := ⟨_, rfl⟩
  have HF := Lib.hid hf
  clear hf
  have HH := Lib.hid hh
  clear hh
  have HP := Lib.hid hp
  clear hp
  have bel := Below.refl lo w
  go_enter Try.func43, Try.ntmps43
  go_wp2_with (first | ((with_reducible show wpList _ _ _ (⟨some 5, _, _, _, _, _⟩ :: _) _ _); refine wpList_box_n rfl 32 (.tmp 1) rfl #[.int .u8 (m.a.toNat : Int), .int .u8 (m.b.toNat : Int), .int .u8 (m.c.toNat : Int), .int .u8 (m.d.toNat : Int), .int .u8 (m.e.toNat : Int), .int .u8 (m.f.toNat : Int)] rfl ?_; intro g5 w1 ge lt hh bb; have d_tb_mB := ne_new (hlt htb) ge; have omB := Nat.le_trans (Nat.le_trans hlo bel.size) ge; have off_mB := owk_new own ge; have pn_mB := Nat.le_trans bel.size ge; replace htb := blk_u htb bb; replace own := owk_under own bb; replace kt := kt.trans (kt_below bb); replace hM := hM.below bb; replace bel := bel.trans (bb.mono (Nat.le_trans hlo bel.size)); have hmB := hh; clear hh lt ge bb) | ((with_reducible show wpList _ _ _ (⟨some 6, _, _, _, _, _⟩ :: _) _ _); refine wpList_box_n rfl 28 (.tmp 2) rfl #[.int .u8 (wa.a.toNat : Int), .int .u8 (wa.b.toNat : Int), .int .u8 (wa.c.toNat : Int), .int .u8 (wa.d.toNat : Int)] rfl ?_; intro g6 w2 ge lt hh bb; have d_tb_wB := ne_new (hlt htb) ge; have d_mB_wB := ne_new (hlt hmB) ge; have owB := Nat.le_trans (Nat.le_trans hlo bel.size) ge; have off_wB := owk_new own ge; have pn_wB := Nat.le_trans bel.size ge; replace htb := blk_u htb bb; replace hmB := blk_u hmB bb; replace own := owk_under own bb; replace kt := kt.trans (kt_below bb); replace hM := hM.below bb; replace bel := bel.trans (bb.mono (Nat.le_trans hlo bel.size)); have hwB := hh; clear hh lt ge bb) | ((with_reducible show wpList _ _ _ (⟨some 8, _, _, _, _, _⟩ :: _) _ _); refine wpList_new_a rfl 28 rfl #[.int .u8 0, .int .u8 0, .int .u8 0, .int .u8 0] (by kernel_rfl) ?_; intro g8 w3 ge hh bb; have d_tb_rB := ne_new (hlt htb) ge; have d_mB_rB := ne_new (hlt hmB) ge; have d_wB_rB := ne_new (hlt hwB) ge; have orB := Nat.le_trans (Nat.le_trans hlo bel.size) ge; have off_rB := owk_new own ge; have pn_rB := Nat.le_trans bel.size ge; replace htb := blk_u htb bb; replace hmB := blk_u hmB bb; replace hwB := blk_u hwB bb; replace own := owk_under own bb; replace kt := kt.trans (kt_below bb); replace hM := hM.below bb; replace bel := bel.trans (bb.mono (Nat.le_trans hlo bel.size)); have hrB := hh; clear hh ge bb))
  with_reducible refine (padv_any _ _ htb).mono ?_
  rintro e w4 ⟨rfl, htb_, b4⟩
  replace hmB := blk_a hmB b4 (ne_symm d_tb_mB)
  replace hwB := blk_a hwB b4 (ne_symm d_tb_wB)
  replace hrB := blk_a hrB b4 (ne_symm d_tb_rB)
  replace own := owk_off own off_tb b4
  replace kt := kt.trans (kt_grown b4 htb (by simp))
  replace hM := hM.grown b4 htb
  replace bel := below_grown bel b4 otb (Nat.le_trans hlo bel.size)
  clear b4
  clear htb
  rw [HNW.out] at htb_
  have htb := htb_
  clear htb_
  go_wp2_with fail
  replace bel := bel.drew
  replace htb : w4.drew.heap[gt]? = _ := htb
  replace hmB : w4.drew.heap[g5]? = _ := hmB
  replace hwB : w4.drew.heap[g6]? = _ := hwB
  replace hrB : w4.drew.heap[g8]? = _ := hrB
  replace own := World.ownsRow.drew own
  replace kt := kt_drew kt
  replace hM := hm_drew hM
  refine wp_region_held_drew (S := fun W => W.heap[gt]? = some (.cells #[.int .i64 nw, .map (some mb), .slice A n c] 84 (0, 0)) ∧ W.heap[g5]? = some (.cells #[.int .u8 (m.a.toNat : Int), .int .u8 (m.b.toNat : Int), .int .u8 (m.c.toNat : Int), .int .u8 (m.d.toNat : Int), .int .u8 (m.e.toNat : Int), .int .u8 (m.f.toNat : Int)] 32 (0, 0)) ∧ Hm lo mb W hs) (by kernel_rfl) ⟨htb, hmB, hM⟩ (fun hH => ?_)
  generalize w4.drew = w5 at bel htb hmB hwB hrB own kt hM hH ⊢
  refine wpAnyH_take (i := 0) (v := ?_) rfl (by kernel_rfl) (by kernel_rfl) (by kernel_rfl) (fun _ _ _ h => h) (Or.inl ⟨by rfl, ?_⟩) hH ?_
  rotate_left
  · ((intro W hW; clear hW; go_simp) <;> with_reducible rfl)
  simp only [Act.put, List.getElem_toArray, List.getElem_cons_zero, List.setIfInBounds_toArray, List.set_cons_zero, List.set_cons_succ]
  refine wpAnyH_take (i := 1) (v := ?_) rfl (by kernel_rfl) (by kernel_rfl) (by kernel_rfl) (fun _ _ _ h => h) (Or.inl ⟨by rfl, ?_⟩) hH ?_
  rotate_left
  · ((intro W hW; clear hW; go_simp) <;> with_reducible rfl)
  simp only [sq3, sq4]
  refine wpAnyH_take (i := 2) (v := ?_) rfl (by kernel_rfl) (by kernel_rfl) (by kernel_rfl) (fun _ _ _ h => h) (Or.inl ⟨by rfl, ?_⟩) hH ?_
  rotate_left
  · ((intro W hW; clear hW; go_simp) <;> with_reducible rfl)
  simp only [sq3, sq4]
  refine wpAnyH_take (i := 3) (v := ?_) rfl (by kernel_rfl) (by kernel_rfl) (by kernel_rfl) (fun _ _ _ h => h) (Or.inl ⟨by rfl, ?_⟩) hH ?_
  rotate_left
  · ((intro W hW; have hk := cell_lit (hW.1) 1 _ rfl; clear hW; go_simp) <;> with_reducible rfl)
  simp only [sq3, sq4]
  refine wpAnyH_take (i := 4) (v := .agg #[.int .u8 (m.a.toNat : Int), .int .u8 (m.b.toNat : Int), .int .u8 (m.c.toNat : Int), .int .u8 (m.d.toNat : Int), .int .u8 (m.e.toNat : Int), .int .u8 (m.f.toNat : Int)]) rfl (by kernel_rfl) (by kernel_rfl) (by kernel_rfl) (fun _ _ _ h => h) (yieldsIf_load_part (by kernel_rfl) 32 _ rfl g5 0 6 rfl _ 32 (0, 0) (fun W hW => hW.2.1) _ rfl _ Try.underlying32 rfl (by kernel_rfl)) hH ?_
  simp only [sq3, sq4]
  refine wpAnyH_take (i := 5) (v := ?_) rfl (by kernel_rfl) (by kernel_rfl) (by kernel_rfl) (fun _ _ _ h => h) (Or.inl ⟨by rfl, ?_⟩) hH ?_
  rotate_left
  · ((intro W hW; have hk := (by have h_ := ((hW.2.2)).look m; rw [HH.out] at h_; exact h_ : (Instr.lookup 81 (.map (some mb)) (.agg #[.int .u8 (m.a.toNat : Int), .int .u8 (m.b.toNat : Int), .int .u8 (m.c.toNat : Int), .int .u8 (m.d.toNat : Int), .int .u8 (m.e.toNat : Int), .int .u8 (m.f.toNat : Int)]) true).run Try.prog W = .ok (.tuple #[.agg #[.int .u8 0, .int .u8 0, .int .u8 0, .int .u8 0], .bool false]) W); clear hW; go_simp) <;> with_reducible rfl)
  simp only [sq3, sq4]
  refine wpAnyH_take (i := 6) (v := ?_) rfl (by kernel_rfl) (by kernel_rfl) (by kernel_rfl) (fun _ _ _ h => h) (Or.inl ⟨by rfl, ?_⟩) hH ?_
  rotate_left
  · ((intro W hW; clear hW; go_simp) <;> with_reducible rfl)
  simp only [sq3, sq4]
  refine wpAnyH_take (i := 7) (v := ?_) rfl (by kernel_rfl) (by kernel_rfl) (by kernel_rfl) (fun _ _ _ h => h) (Or.inl ⟨by rfl, ?_⟩) hH ?_
  rotate_left
  · ((intro W hW; clear hW; go_simp) <;> with_reducible rfl)
  simp only [sq3, sq4]
  refine wpAnyH_take (i := 8) (v := ?_) rfl (by kernel_rfl) (by kernel_rfl) (by kernel_rfl) (fun _ _ _ h => h) (Or.inl ⟨by rfl, ?_⟩) hH ?_
  rotate_left
  · ((intro W hW; clear hW; go_simp) <;> with_reducible rfl)
  simp only [sq3, sq4]
  refine wpAnyH_ready (rs := [9]) (by kernel_rfl) (by simp) ?_
  refine AllReadyH.cons (o := _) rfl (fun K hK => ?_) AllReadyH.nil
  simp only [sq3]
  rw [if_pos (by rfl)]
  refine wp_new_a 28 rfl #[.int .u8 0, .int .u8 0, .int .u8 0, .int .u8 0] (by kernel_rfl) ?_
  intro g10 w6 ge hh bb
  have d_tb_hB := ne_new (hlt htb) ge
  have d_mB_hB := ne_new (hlt hmB) ge
  have d_wB_hB := ne_new (hlt hwB) ge
  have d_rB_hB := ne_new (hlt hrB) ge
  have ohB := Nat.le_trans (Nat.le_trans hlo bel.size) ge
  have off_hB := owk_new own ge
  have pn_hB := Nat.le_trans bel.size ge
  replace htb := blk_u htb bb
  replace hmB := blk_u hmB bb
  replace hwB := blk_u hwB bb
  replace hrB := blk_u hrB bb
  replace own := owk_under own bb
  replace kt := kt.trans (kt_below bb)
  replace hM := hM.below bb
  replace bel := bel.trans (bb.mono (Nat.le_trans hlo bel.size))
  have hhB := hh
  clear hh ge bb
  refine hK.out _ _ ⟨htb, hmB, hM⟩ (fun hH7 => ?_)
  clear hK K
  simp only [sq4]
  refine wpAnyH_ready (rs := [10]) (by kernel_rfl) (by simp) ?_
  refine AllReadyH.cons (o := _) rfl (fun K hK => ?_) AllReadyH.nil
  simp only [sq3]
  rw [if_pos (by rfl)]
  refine wp_store_blk 28 (.tmp 10) (.tmp 26) rfl g10 rfl _ rfl _ 28 hhB (by rfl) (by kernel_rfl) (by kernel_rfl) ?_
  intro w8 hq gr
  replace htb := blk_a htb gr d_tb_hB
  replace hmB := blk_a hmB gr d_mB_hB
  replace hwB := blk_a hwB gr d_wB_hB
  replace hrB := blk_a hrB gr d_rB_hB
  replace own := owk_off own off_hB gr
  replace kt := kt.newer gr pn_hB bel.size
  replace hM := hM.grown gr hhB
  replace bel := below_grown bel gr ohB (Nat.le_trans hlo bel.size)
  clear hhB
  have hhB := hq
  clear hq gr
  refine hK.out _ _ ⟨htb, hmB, hM⟩ (fun hH9 => ?_)
  clear hK K
  simp only [Act.put]
  refine wpAnyH_take (i := 11) (v := ?_) rfl (by kernel_rfl) (by kernel_rfl) (by kernel_rfl) (fun _ _ _ h => h) (Or.inl ⟨by rfl, ?_⟩) hH9 ?_
  rotate_left
  · ((intro W hW; clear hW; go_simp) <;> with_reducible rfl)
  simp only [sq3, sq4]
  refine wpAnyH_done (by kernel_rfl) ?_ _
  have R31 := Lib.hid (range_lit hmB 0 6 [.int .u8 (m.a.toNat : Int), .int .u8 (m.b.toNat : Int), .int .u8 (m.c.toNat : Int), .int .u8 (m.d.toNat : Int), .int .u8 (m.e.toNat : Int), .int .u8 (m.f.toNat : Int)] rfl)
  go_wp2_with (first | ((with_reducible show wpList _ _ _ (⟨some 31, _, _, _, _, _⟩ :: _) _ _); refine wpList_load_rng 32 (.tmp 5) rfl (by kernel_rfl) _ _ rfl _ R31.out _ Try.underlying32 rfl (by kernel_rfl) ?_))
  try clear R31
  with_reducible refine (lof_none m _ htb own H32.out HF.out).mono ?_
  rintro e w10 ⟨rfl, b10⟩
  replace htb := blk_u htb b10
  replace hmB := blk_u hmB b10
  replace hwB := blk_u hwB b10
  replace hrB := blk_u hrB b10
  replace hhB := blk_u hhB b10
  replace own := owk_under own b10
  replace kt := kt.trans (kt_below b10)
  replace hM := hM.below b10
  replace bel := bel.trans (b10.mono (Nat.le_trans hlo bel.size))
  clear b10
  have R42 := Lib.hid (range_lit hwB 0 4 [.int .u8 (wa.a.toNat : Int), .int .u8 (wa.b.toNat : Int), .int .u8 (wa.c.toNat : Int), .int .u8 (wa.d.toNat : Int)] rfl)
  go_wp2_with (first | ((with_reducible show wpList _ _ _ (⟨some 42, _, _, _, _, _⟩ :: _) _ _); refine wpList_load_rng 28 (.tmp 6) rfl (by kernel_rfl) _ _ rfl _ R42.out _ Try.underlying28 rfl (by kernel_rfl) ?_))
  try clear R42
  with_reducible refine (pfind_is wa _ htb (owk_sle (by decide) slE_len own).1 HOK2.out.srt H32.out HP.out HS.out).mono ?_
  rintro e w11 ⟨rfl, b11⟩
  replace htb := blk_u htb b11
  replace hmB := blk_u hmB b11
  replace hwB := blk_u hwB b11
  replace hrB := blk_u hrB b11
  replace hhB := blk_u hhB b11
  replace own := owk_under own b11
  replace kt := kt.trans (kt_below b11)
  replace hM := hM.below b11
  replace bel := bel.trans (b11.mono (Nat.le_trans hlo bel.size))
  clear b11
  go_wp2_with fail
  replace bel := bel.drew
  replace htb : w11.drew.heap[gt]? = _ := htb
  replace hmB : w11.drew.heap[g5]? = _ := hmB
  replace hwB : w11.drew.heap[g6]? = _ := hwB
  replace hrB : w11.drew.heap[g8]? = _ := hrB
  replace hhB : w11.drew.heap[g10]? = _ := hhB
  replace own := World.ownsRow.drew own
  replace kt := kt_drew kt
  replace hM := hm_drew hM
  refine wp_region_held_drew (S := fun W => W.heap[gt]? = some (.cells #[.int .i64 nw, .map (some mb), .slice A n c] 84 (0, 0))) (by kernel_rfl) htb (fun hH => ?_)
  generalize w11.drew = w12 at bel htb hmB hwB hrB hhB own kt hM hH ⊢
  refine wpAnyH_take (i := 0) (v := ?_) rfl (by kernel_rfl) (by kernel_rfl) (by kernel_rfl) (fun _ _ _ h => h) (Or.inl ⟨by rfl, ?_⟩) hH ?_
  rotate_left
  · ((intro W hW; clear hW; go_simp) <;> with_reducible rfl)
  simp only [Act.put, List.getElem_toArray, List.getElem_cons_zero, List.setIfInBounds_toArray, List.set_cons_zero, List.set_cons_succ]
  refine wpAnyH_take (i := 1) (v := ?_) rfl (by kernel_rfl) (by kernel_rfl) (by kernel_rfl) (fun _ _ _ h => h) (Or.inl ⟨by rfl, ?_⟩) hH ?_
  rotate_left
  · ((intro W hW; clear hW; go_simp) <;> with_reducible rfl)
  simp only [sq3, sq4]
  refine wpAnyH_take (i := 2) (v := undef) rfl (by kernel_rfl) (by kernel_rfl) (by kernel_rfl) (fun _ _ _ h => h) (Or.inr ⟨by rfl, rfl⟩) hH ?_
  simp only [sq3, sq4]
  refine wpAnyH_take (i := 3) (v := undef) rfl (by kernel_rfl) (by kernel_rfl) (by kernel_rfl) (fun _ _ _ h => h) (Or.inr ⟨by rfl, rfl⟩) hH ?_
  simp only [sq3, sq4]
  refine wpAnyH_take (i := 4) (v := undef) rfl (by kernel_rfl) (by kernel_rfl) (by kernel_rfl) (fun _ _ _ h => h) (Or.inr ⟨by rfl, rfl⟩) hH ?_
  simp only [sq3, sq4]
  refine wpAnyH_take (i := 5) (v := undef) rfl (by kernel_rfl) (by kernel_rfl) (by kernel_rfl) (fun _ _ _ h => h) (Or.inr ⟨by rfl, rfl⟩) hH ?_
  simp only [sq3, sq4]
  refine wpAnyH_take (i := 6) (v := undef) rfl (by kernel_rfl) (by kernel_rfl) (by kernel_rfl) (fun _ _ _ h => h) (Or.inr ⟨by rfl, rfl⟩) hH ?_
  simp only [sq3, sq4]
  refine wpAnyH_take (i := 7) (v := undef) rfl (by kernel_rfl) (by kernel_rfl) (by kernel_rfl) (fun _ _ _ h => h) (Or.inr ⟨by rfl, rfl⟩) hH ?_
  simp only [sq3, sq4]
  refine wpAnyH_take (i := 8) (v := undef) rfl (by kernel_rfl) (by kernel_rfl) (by kernel_rfl) (fun _ _ _ h => h) (Or.inr ⟨by rfl, rfl⟩) hH ?_
  simp only [sq3, sq4]
  refine wpAnyH_take (i := 9) (v := undef) rfl (by kernel_rfl) (by kernel_rfl) (by kernel_rfl) (fun _ _ _ h => h) (Or.inr ⟨by rfl, rfl⟩) hH ?_
  simp only [sq3, sq4]
  refine wpAnyH_take (i := 10) (v := undef) rfl (by kernel_rfl) (by kernel_rfl) (by kernel_rfl) (fun _ _ _ h => h) (Or.inr ⟨by rfl, rfl⟩) hH ?_
  simp only [sq3, sq4]
  refine wpAnyH_take (i := 11) (v := undef) rfl (by kernel_rfl) (by kernel_rfl) (by kernel_rfl) (fun _ _ _ h => h) (Or.inr ⟨by rfl, rfl⟩) hH ?_
  simp only [sq3, sq4]
  refine wpAnyH_take (i := 12) (v := undef) rfl (by kernel_rfl) (by kernel_rfl) (by kernel_rfl) (fun _ _ _ h => h) (Or.inr ⟨by rfl, rfl⟩) hH ?_
  simp only [sq3, sq4]
  refine wpAnyH_take (i := 13) (v := ?_) rfl (by kernel_rfl) (by kernel_rfl) (by kernel_rfl) (fun _ _ _ h => h) (Or.inl ⟨by rfl, ?_⟩) hH ?_
  rotate_left
  · ((intro W hW; clear hW; go_simp) <;> with_reducible rfl)
  simp only [sq3, sq4]
  refine wpAnyH_done (by kernel_rfl) ?_ _
  have R62 := Lib.hid (range_lit hmB 0 6 [.int .u8 (m.a.toNat : Int), .int .u8 (m.b.toNat : Int), .int .u8 (m.c.toNat : Int), .int .u8 (m.d.toNat : Int), .int .u8 (m.e.toNat : Int), .int .u8 (m.f.toNat : Int)] rfl)
  go_wp2_with (first | ((with_reducible show wpList _ _ _ (⟨some 62, _, _, _, _, _⟩ :: _) _ _); refine wpList_load_rng 32 (.tmp 5) rfl (by kernel_rfl) _ _ rfl _ R62.out _ Try.underlying32 rfl (by kernel_rfl) ?_))
  try clear R62
  with_reducible refine (bf_none m _ htb own H32.out HBF.out).mono ?_
  rintro e w13 ⟨rfl, b13⟩
  replace htb := blk_u htb b13
  replace hmB := blk_u hmB b13
  replace hwB := blk_u hwB b13
  replace hrB := blk_u hrB b13
  replace hhB := blk_u hhB b13
  replace own := owk_under own b13
  replace kt := kt.trans (kt_below b13)
  replace hM := hM.below b13
  replace bel := bel.trans (b13.mono (Nat.le_trans hlo bel.size))
  clear b13
  go_wp2_with (first | ((with_reducible show wpList _ _ _ (⟨none, Op.store _ (.tmp 8) _, _, _, _, _⟩ :: _) _ _); refine wpList_store_blk rfl 28 (.tmp 8) (.tmp 66) rfl g8 rfl _ rfl _ 28 hrB (by rfl) (by kernel_rfl) (by kernel_rfl) ?_; intro w14 hq gr; replace htb := blk_a htb gr d_tb_rB; replace hmB := blk_a hmB gr d_mB_rB; replace hwB := blk_a hwB gr d_wB_rB; replace hhB := blk_a hhB gr (ne_symm d_rB_hB); replace own := owk_off own off_rB gr; replace kt := kt.newer gr pn_rB bel.size; replace hM := hM.grown gr hrB; replace bel := below_grown bel gr orB (Nat.le_trans hlo bel.size); clear hrB; have hrB := hq; clear hq gr))
  exact bodyPost_ret (results_cell_tmp_row rfl _ _ _ _ _ _ _ rfl hrB Try.underlying28 rfl (by kernel_rfl) (.int .i64 7) rfl) rfl ⟨rfl, (by rw [HNW.out]; exact ⟨A, n, c, mb, htb, otb, hM, own, HOK2.out⟩), kt, bel⟩
set_option linter.unusedVariables false in
set_option linter.unusedSimpArgs false in
set_option maxRecDepth 100000 in
set_option maxHeartbeats 16000000 in
theorem poffer_full1 {lo gt : Nat} {now : Int} {hs : List (Mc6 × Ad4)} {l : List Sd} (m : Mc6) (wa : Ad4) (t : Int) {i : Nat} {x : Sd} (w : World) (hT : Pl lo gt w ⟨now, hs, l⟩) (hh : homeF hs m = none) (hf : hldF m (padv now t) l = none) (hx : l[i]? = some x) (hp : sfpos l wa.num = i) (hs_ : sfhas l wa.num = true) (hfr : x.freeB (padv now t) = false) (hbf : bestF m (padv now t) l l.length = none) : Calls Try.prog 43 #[.pointer (some ⟨gt, 0, none⟩), .agg #[.int .u8 (m.a.toNat : Int), .int .u8 (m.b.toNat : Int), .int .u8 (m.c.toNat : Int), .int .u8 (m.d.toNat : Int), .int .u8 (m.e.toNat : Int), .int .u8 (m.f.toNat : Int)], .agg #[.int .u8 (wa.a.toNat : Int), .int .u8 (wa.b.toNat : Int), .int .u8 (wa.c.toNat : Int), .int .u8 (wa.d.toNat : Int)], .int .i64 t] w fun e w' => e = .returned (.tuple #[.agg #[.int .u8 0, .int .u8 0, .int .u8 0, .int .u8 0], .int .i64 7]) ∧ Pl lo gt w' ⟨(padv now t), hs, l⟩ ∧ Kt [84, 101] w w' ∧ Below lo w w' := by
  obtain ⟨A, n, c, mb, htb, otb, hM, own, hok⟩ := hT
  dsimp only at htb hM own
  have hlo : lo ≤ w.heap.size := Nat.le_trans otb (Nat.le_of_lt (hlt htb))
  have off_tb := ofs_type own htb (by decide)
  have hl := row_len (by decide) slE_len own
  have HLL := Lib.hid hl
  have HLO := Lib.hid hlo
  have HOK := Lib.hid hok
  have H32 : Hid (n ≤ 1000) := Lib.hid (by have := hok.len; simp only at this; omega)
  have kt := Kt.refl [84, 101] w
  clear hl hok
  obtain ⟨nw, hnw⟩ : ∃ x, padv now t = x := ⟨_, rfl⟩
  have HNW := Lib.hid hnw
  have HOK2 : Hid (St.ok ⟨nw, hs, l⟩) := Lib.hid (by rw [← hnw]; exact HOK.out.adv t)
  have n0_ : 0 ≤ nw := HOK2.out.n0
  have n1_ : nw ≤ 1099511627776 := HOK2.out.n1
  have N0_ := Lib.hid n0_
  have N1_ := Lib.hid n1_
  clear hnw n0_ n1_
  have hbf_ : _ := hbf
  rw [HNW.out, HLL.out] at hbf_
  have HBF := Lib.hid hbf_
  clear hbf hbf_
  have hf_ : _ := hf
  rw [HNW.out] at hf_
  clear hf
  have hf := hf_
  clear hf_
  have hin_ : i < n := by have h1_ := (List.getElem?_eq_some_iff.1 hx).1; have h2_ := HLL.out; omega
  have i0 : (0 : Int) ≤ i := by omega
  have i1 : (i : Int) < n := by omega
  obtain ⟨gE, rfl, _⟩ := row_at own (by omega)
  have en := (owk_sle (by decide) slE_len own).1
  have av_en_tb := owk_av own off_tb
  have hb1 : x.freeB nw = false := by rw [← HNW.out]; exact hfr
  have HB1 := Lib.hid hb1
  have HS := Lib.hid hs_
  clear hb1 hfr hs_
  have HF := Lib.hid hf
  clear hf
  have HX := Lib.hid hx
  clear hx
  have HH := Lib.hid hh
  clear hh
  have HP := Lib.hid hp
  clear hp
  have bel := Below.refl lo w
  go_enter Try.func43, Try.ntmps43
  go_wp2_with (first | ((with_reducible show wpList _ _ _ (⟨some 5, _, _, _, _, _⟩ :: _) _ _); refine wpList_box_n rfl 32 (.tmp 1) rfl #[.int .u8 (m.a.toNat : Int), .int .u8 (m.b.toNat : Int), .int .u8 (m.c.toNat : Int), .int .u8 (m.d.toNat : Int), .int .u8 (m.e.toNat : Int), .int .u8 (m.f.toNat : Int)] rfl ?_; intro g5 w1 ge lt hh bb; have d_tb_mB := ne_new (hlt htb) ge; have av_en_mB := en.av_new ge; have omB := Nat.le_trans (Nat.le_trans hlo bel.size) ge; have off_mB := owk_new own ge; have pn_mB := Nat.le_trans bel.size ge; replace htb := blk_u htb bb; replace en := en.below bb; replace own := owk_under own bb; replace kt := kt.trans (kt_below bb); replace hM := hM.below bb; replace bel := bel.trans (bb.mono (Nat.le_trans hlo bel.size)); have hmB := hh; clear hh lt ge bb) | ((with_reducible show wpList _ _ _ (⟨some 6, _, _, _, _, _⟩ :: _) _ _); refine wpList_box_n rfl 28 (.tmp 2) rfl #[.int .u8 (wa.a.toNat : Int), .int .u8 (wa.b.toNat : Int), .int .u8 (wa.c.toNat : Int), .int .u8 (wa.d.toNat : Int)] rfl ?_; intro g6 w2 ge lt hh bb; have d_tb_wB := ne_new (hlt htb) ge; have d_mB_wB := ne_new (hlt hmB) ge; have av_en_wB := en.av_new ge; have owB := Nat.le_trans (Nat.le_trans hlo bel.size) ge; have off_wB := owk_new own ge; have pn_wB := Nat.le_trans bel.size ge; replace htb := blk_u htb bb; replace hmB := blk_u hmB bb; replace en := en.below bb; replace own := owk_under own bb; replace kt := kt.trans (kt_below bb); replace hM := hM.below bb; replace bel := bel.trans (bb.mono (Nat.le_trans hlo bel.size)); have hwB := hh; clear hh lt ge bb) | ((with_reducible show wpList _ _ _ (⟨some 8, _, _, _, _, _⟩ :: _) _ _); refine wpList_new_a rfl 28 rfl #[.int .u8 0, .int .u8 0, .int .u8 0, .int .u8 0] (by kernel_rfl) ?_; intro g8 w3 ge hh bb; have d_tb_rB := ne_new (hlt htb) ge; have d_mB_rB := ne_new (hlt hmB) ge; have d_wB_rB := ne_new (hlt hwB) ge; have av_en_rB := en.av_new ge; have orB := Nat.le_trans (Nat.le_trans hlo bel.size) ge; have off_rB := owk_new own ge; have pn_rB := Nat.le_trans bel.size ge; replace htb := blk_u htb bb; replace hmB := blk_u hmB bb; replace hwB := blk_u hwB bb; replace en := en.below bb; replace own := owk_under own bb; replace kt := kt.trans (kt_below bb); replace hM := hM.below bb; replace bel := bel.trans (bb.mono (Nat.le_trans hlo bel.size)); have hrB := hh; clear hh ge bb))
  with_reducible refine (padv_any _ _ htb).mono ?_
  rintro e w4 ⟨rfl, htb_, b4⟩
  replace en := en.away av_en_tb b4
  replace hmB := blk_a hmB b4 (ne_symm d_tb_mB)
  replace hwB := blk_a hwB b4 (ne_symm d_tb_wB)
  replace hrB := blk_a hrB b4 (ne_symm d_tb_rB)
  replace own := owk_off own off_tb b4
  replace kt := kt.trans (kt_grown b4 htb (by simp))
  replace hM := hM.grown b4 htb
  replace bel := below_grown bel b4 otb (Nat.le_trans hlo bel.size)
  clear b4
  clear htb
  rw [HNW.out] at htb_
  have htb := htb_
  clear htb_
  go_wp2_with fail
  replace bel := bel.drew
  replace htb : w4.drew.heap[gt]? = _ := htb
  replace hmB : w4.drew.heap[g5]? = _ := hmB
  replace hwB : w4.drew.heap[g6]? = _ := hwB
  replace hrB : w4.drew.heap[g8]? = _ := hrB
  replace en := en.drew
  replace own := World.ownsRow.drew own
  replace kt := kt_drew kt
  replace hM := hm_drew hM
  refine wp_region_held_drew (S := fun W => W.heap[gt]? = some (.cells #[.int .i64 nw, .map (some mb), .slice (some ⟨gE, 0, none⟩) n c] 84 (0, 0)) ∧ W.heap[g5]? = some (.cells #[.int .u8 (m.a.toNat : Int), .int .u8 (m.b.toNat : Int), .int .u8 (m.c.toNat : Int), .int .u8 (m.d.toNat : Int), .int .u8 (m.e.toNat : Int), .int .u8 (m.f.toNat : Int)] 32 (0, 0)) ∧ Hm lo mb W hs) (by kernel_rfl) ⟨htb, hmB, hM⟩ (fun hH => ?_)
  generalize w4.drew = w5 at bel htb hmB hwB hrB en own kt hM hH ⊢
  refine wpAnyH_take (i := 0) (v := ?_) rfl (by kernel_rfl) (by kernel_rfl) (by kernel_rfl) (fun _ _ _ h => h) (Or.inl ⟨by rfl, ?_⟩) hH ?_
  rotate_left
  · ((intro W hW; clear hW; go_simp) <;> with_reducible rfl)
  simp only [Act.put, List.getElem_toArray, List.getElem_cons_zero, List.setIfInBounds_toArray, List.set_cons_zero, List.set_cons_succ]
  refine wpAnyH_take (i := 1) (v := ?_) rfl (by kernel_rfl) (by kernel_rfl) (by kernel_rfl) (fun _ _ _ h => h) (Or.inl ⟨by rfl, ?_⟩) hH ?_
  rotate_left
  · ((intro W hW; clear hW; go_simp) <;> with_reducible rfl)
  simp only [sq3, sq4]
  refine wpAnyH_take (i := 2) (v := ?_) rfl (by kernel_rfl) (by kernel_rfl) (by kernel_rfl) (fun _ _ _ h => h) (Or.inl ⟨by rfl, ?_⟩) hH ?_
  rotate_left
  · ((intro W hW; clear hW; go_simp) <;> with_reducible rfl)
  simp only [sq3, sq4]
  refine wpAnyH_take (i := 3) (v := ?_) rfl (by kernel_rfl) (by kernel_rfl) (by kernel_rfl) (fun _ _ _ h => h) (Or.inl ⟨by rfl, ?_⟩) hH ?_
  rotate_left
  · ((intro W hW; have hk := cell_lit (hW.1) 1 _ rfl; clear hW; go_simp) <;> with_reducible rfl)
  simp only [sq3, sq4]
  refine wpAnyH_take (i := 4) (v := .agg #[.int .u8 (m.a.toNat : Int), .int .u8 (m.b.toNat : Int), .int .u8 (m.c.toNat : Int), .int .u8 (m.d.toNat : Int), .int .u8 (m.e.toNat : Int), .int .u8 (m.f.toNat : Int)]) rfl (by kernel_rfl) (by kernel_rfl) (by kernel_rfl) (fun _ _ _ h => h) (yieldsIf_load_part (by kernel_rfl) 32 _ rfl g5 0 6 rfl _ 32 (0, 0) (fun W hW => hW.2.1) _ rfl _ Try.underlying32 rfl (by kernel_rfl)) hH ?_
  simp only [sq3, sq4]
  refine wpAnyH_take (i := 5) (v := ?_) rfl (by kernel_rfl) (by kernel_rfl) (by kernel_rfl) (fun _ _ _ h => h) (Or.inl ⟨by rfl, ?_⟩) hH ?_
  rotate_left
  · ((intro W hW; have hk := (by have h_ := ((hW.2.2)).look m; rw [HH.out] at h_; exact h_ : (Instr.lookup 81 (.map (some mb)) (.agg #[.int .u8 (m.a.toNat : Int), .int .u8 (m.b.toNat : Int), .int .u8 (m.c.toNat : Int), .int .u8 (m.d.toNat : Int), .int .u8 (m.e.toNat : Int), .int .u8 (m.f.toNat : Int)]) true).run Try.prog W = .ok (.tuple #[.agg #[.int .u8 0, .int .u8 0, .int .u8 0, .int .u8 0], .bool false]) W); clear hW; go_simp) <;> with_reducible rfl)
  simp only [sq3, sq4]
  refine wpAnyH_take (i := 6) (v := ?_) rfl (by kernel_rfl) (by kernel_rfl) (by kernel_rfl) (fun _ _ _ h => h) (Or.inl ⟨by rfl, ?_⟩) hH ?_
  rotate_left
  · ((intro W hW; clear hW; go_simp) <;> with_reducible rfl)
  simp only [sq3, sq4]
  refine wpAnyH_take (i := 7) (v := ?_) rfl (by kernel_rfl) (by kernel_rfl) (by kernel_rfl) (fun _ _ _ h => h) (Or.inl ⟨by rfl, ?_⟩) hH ?_
  rotate_left
  · ((intro W hW; clear hW; go_simp) <;> with_reducible rfl)
  simp only [sq3, sq4]
  refine wpAnyH_take (i := 8) (v := ?_) rfl (by kernel_rfl) (by kernel_rfl) (by kernel_rfl) (fun _ _ _ h => h) (Or.inl ⟨by rfl, ?_⟩) hH ?_
  rotate_left
  · ((intro W hW; clear hW; go_simp) <;> with_reducible rfl)
  simp only [sq3, sq4]
  refine wpAnyH_ready (rs := [9]) (by kernel_rfl) (by simp) ?_
  refine AllReadyH.cons (o := _) rfl (fun K hK => ?_) AllReadyH.nil
  simp only [sq3]
  rw [if_pos (by rfl)]
  refine wp_new_a 28 rfl #[.int .u8 0, .int .u8 0, .int .u8 0, .int .u8 0] (by kernel_rfl) ?_
  intro g10 w6 ge hh bb
  have d_tb_hB := ne_new (hlt htb) ge
  have d_mB_hB := ne_new (hlt hmB) ge
  have d_wB_hB := ne_new (hlt hwB) ge
  have d_rB_hB := ne_new (hlt hrB) ge
  have av_en_hB := en.av_new ge
  have ohB := Nat.le_trans (Nat.le_trans hlo bel.size) ge
  have off_hB := owk_new own ge
  have pn_hB := Nat.le_trans bel.size ge
  replace htb := blk_u htb bb
  replace hmB := blk_u hmB bb
  replace hwB := blk_u hwB bb
  replace hrB := blk_u hrB bb
  replace en := en.below bb
  replace own := owk_under own bb
  replace kt := kt.trans (kt_below bb)
  replace hM := hM.below bb
  replace bel := bel.trans (bb.mono (Nat.le_trans hlo bel.size))
  have hhB := hh
  clear hh ge bb
  refine hK.out _ _ ⟨htb, hmB, hM⟩ (fun hH7 => ?_)
  clear hK K
  simp only [sq4]
  refine wpAnyH_ready (rs := [10]) (by kernel_rfl) (by simp) ?_
  refine AllReadyH.cons (o := _) rfl (fun K hK => ?_) AllReadyH.nil
  simp only [sq3]
  rw [if_pos (by rfl)]
  refine wp_store_blk 28 (.tmp 10) (.tmp 26) rfl g10 rfl _ rfl _ 28 hhB (by rfl) (by kernel_rfl) (by kernel_rfl) ?_
  intro w8 hq gr
  replace en := en.away av_en_hB gr
  replace htb := blk_a htb gr d_tb_hB
  replace hmB := blk_a hmB gr d_mB_hB
  replace hwB := blk_a hwB gr d_wB_hB
  replace hrB := blk_a hrB gr d_rB_hB
  replace own := owk_off own off_hB gr
  replace kt := kt.newer gr pn_hB bel.size
  replace hM := hM.grown gr hhB
  replace bel := below_grown bel gr ohB (Nat.le_trans hlo bel.size)
  clear hhB
  have hhB := hq
  clear hq gr
  refine hK.out _ _ ⟨htb, hmB, hM⟩ (fun hH9 => ?_)
  clear hK K
  simp only [Act.put]
  refine wpAnyH_take (i := 11) (v := ?_) rfl (by kernel_rfl) (by kernel_rfl) (by kernel_rfl) (fun _ _ _ h => h) (Or.inl ⟨by rfl, ?_⟩) hH9 ?_
  rotate_left
  · ((intro W hW; clear hW; go_simp) <;> with_reducible rfl)
  simp only [sq3, sq4]
  refine wpAnyH_done (by kernel_rfl) ?_ _
  have R31 := Lib.hid (range_lit hmB 0 6 [.int .u8 (m.a.toNat : Int), .int .u8 (m.b.toNat : Int), .int .u8 (m.c.toNat : Int), .int .u8 (m.d.toNat : Int), .int .u8 (m.e.toNat : Int), .int .u8 (m.f.toNat : Int)] rfl)
  go_wp2_with (first | ((with_reducible show wpList _ _ _ (⟨some 31, _, _, _, _, _⟩ :: _) _ _); refine wpList_load_rng 32 (.tmp 5) rfl (by kernel_rfl) _ _ rfl _ R31.out _ Try.underlying32 rfl (by kernel_rfl) ?_))
  try clear R31
  with_reducible refine (lof_none m _ htb own H32.out HF.out).mono ?_
  rintro e w10 ⟨rfl, b10⟩
  replace htb := blk_u htb b10
  replace hmB := blk_u hmB b10
  replace hwB := blk_u hwB b10
  replace hrB := blk_u hrB b10
  replace hhB := blk_u hhB b10
  replace en := en.below b10
  replace own := owk_under own b10
  replace kt := kt.trans (kt_below b10)
  replace hM := hM.below b10
  replace bel := bel.trans (b10.mono (Nat.le_trans hlo bel.size))
  clear b10
  have R42 := Lib.hid (range_lit hwB 0 4 [.int .u8 (wa.a.toNat : Int), .int .u8 (wa.b.toNat : Int), .int .u8 (wa.c.toNat : Int), .int .u8 (wa.d.toNat : Int)] rfl)
  go_wp2_with (first | ((with_reducible show wpList _ _ _ (⟨some 42, _, _, _, _, _⟩ :: _) _ _); refine wpList_load_rng 28 (.tmp 6) rfl (by kernel_rfl) _ _ rfl _ R42.out _ Try.underlying28 rfl (by kernel_rfl) ?_))
  try clear R42
  with_reducible refine (pfind_is wa _ htb (owk_sle (by decide) slE_len own).1 HOK2.out.srt H32.out HP.out HS.out).mono ?_
  rintro e w11 ⟨rfl, b11⟩
  replace htb := blk_u htb b11
  replace hmB := blk_u hmB b11
  replace hwB := blk_u hwB b11
  replace hrB := blk_u hrB b11
  replace hhB := blk_u hhB b11
  replace en := en.below b11
  replace own := owk_under own b11
  replace kt := kt.trans (kt_below b11)
  replace hM := hM.below b11
  replace bel := bel.trans (b11.mono (Nat.le_trans hlo bel.size))
  clear b11
  go_wp2_with fail
  replace bel := bel.drew
  replace htb : w11.drew.heap[gt]? = _ := htb
  replace hmB : w11.drew.heap[g5]? = _ := hmB
  replace hwB : w11.drew.heap[g6]? = _ := hwB
  replace hrB : w11.drew.heap[g8]? = _ := hrB
  replace hhB : w11.drew.heap[g10]? = _ := hhB
  replace en := en.drew
  replace own := World.ownsRow.drew own
  replace kt := kt_drew kt
  replace hM := hm_drew hM
  refine wp_region_held_drew (S := fun W => W.heap[gt]? = some (.cells #[.int .i64 nw, .map (some mb), .slice (some ⟨gE, 0, none⟩) n c] 84 (0, 0))) (by kernel_rfl) htb (fun hH => ?_)
  generalize w11.drew = w12 at bel htb hmB hwB hrB hhB en own kt hM hH ⊢
  refine wpAnyH_take (i := 0) (v := ?_) rfl (by kernel_rfl) (by kernel_rfl) (by kernel_rfl) (fun _ _ _ h => h) (Or.inl ⟨by rfl, ?_⟩) hH ?_
  rotate_left
  · ((intro W hW; clear hW; go_simp) <;> with_reducible rfl)
  simp only [Act.put, List.getElem_toArray, List.getElem_cons_zero, List.setIfInBounds_toArray, List.set_cons_zero, List.set_cons_succ]
  refine wpAnyH_take (i := 1) (v := ?_) rfl (by kernel_rfl) (by kernel_rfl) (by kernel_rfl) (fun _ _ _ h => h) (Or.inl ⟨by rfl, ?_⟩) hH ?_
  rotate_left
  · ((intro W hW; clear hW; go_simp) <;> with_reducible rfl)
  simp only [sq3, sq4]
  refine wpAnyH_take (i := 2) (v := ?_) rfl (by kernel_rfl) (by kernel_rfl) (by kernel_rfl) (fun _ _ _ h => h) (Or.inl ⟨by rfl, ?_⟩) hH ?_
  rotate_left
  · ((intro W hW; clear hW; go_simp) <;> with_reducible rfl)
  simp only [sq3, sq4]
  refine wpAnyH_take (i := 3) (v := ?_) rfl (by kernel_rfl) (by kernel_rfl) (by kernel_rfl) (fun _ _ _ h => h) (Or.inl ⟨by rfl, ?_⟩) hH ?_
  rotate_left
  · ((intro W hW; clear hW; go_simp) <;> with_reducible rfl)
  simp only [sq3, sq4]
  refine wpAnyH_take (i := 4) (v := ?_) rfl (by kernel_rfl) (by kernel_rfl) (by kernel_rfl) (fun _ _ _ h => h) (Or.inl ⟨by rfl, ?_⟩) hH ?_
  rotate_left
  · ((intro W hW; clear hW; go_simp) <;> with_reducible rfl)
  simp only [sq3, sq4]
  refine wpAnyH_take (i := 5) (v := ?_) rfl (by kernel_rfl) (by kernel_rfl) (by kernel_rfl) (fun _ _ _ h => h) (Or.inl ⟨by rfl, ?_⟩) hH ?_
  rotate_left
  · ((intro W hW; have hk := cell_lit (hW) 2 _ rfl; clear hW; go_simp) <;> with_reducible rfl)
  simp only [sq3, sq4]
  refine wpAnyH_take (i := 6) (v := ?_) rfl (by kernel_rfl) (by kernel_rfl) (by kernel_rfl) (fun _ _ _ h => h) (Or.inl ⟨by rfl, ?_⟩) hH ?_
  rotate_left
  · ((intro W hW; clear hW; go_simp) <;> with_reducible rfl)
  simp only [sq3, sq4]
  refine wpAnyH_take (i := 7) (v := ?_) rfl (by kernel_rfl) (by kernel_rfl) (by kernel_rfl) (fun _ _ _ h => h) (Or.inl ⟨by rfl, ?_⟩) hH ?_
  rotate_left
  · ((intro W hW; clear hW; go_simp) <;> with_reducible rfl)
  simp only [sq3, sq4]
  refine wpAnyH_take (i := 8) (v := ?_) rfl (by kernel_rfl) (by kernel_rfl) (by kernel_rfl) (fun _ _ _ h => h) (Or.inl ⟨by rfl, ?_⟩) hH ?_
  rotate_left
  · ((intro W hW; clear hW; go_simp) <;> with_reducible rfl)
  simp only [sq3, sq4]
  refine wpAnyH_take (i := 9) (v := ?_) rfl (by kernel_rfl) (by kernel_rfl) (by kernel_rfl) (fun _ _ _ h => h) (Or.inl ⟨by rfl, ?_⟩) hH ?_
  rotate_left
  · ((intro W hW; clear hW; go_simp) <;> with_reducible rfl)
  simp only [sq3, sq4]
  refine wpAnyH_take (i := 10) (v := ?_) rfl (by kernel_rfl) (by kernel_rfl) (by kernel_rfl) (fun _ _ _ h => h) (Or.inl ⟨by rfl, ?_⟩) hH ?_
  rotate_left
  · ((intro W hW; clear hW; go_simp) <;> with_reducible rfl)
  simp only [sq3, sq4]
  refine wpAnyH_take (i := 11) (v := ?_) rfl (by kernel_rfl) (by kernel_rfl) (by kernel_rfl) (fun _ _ _ h => h) (Or.inl ⟨by rfl, ?_⟩) hH ?_
  rotate_left
  · ((intro W hW; have hk := cell_lit (hW) 0 _ rfl; clear hW; go_simp) <;> with_reducible rfl)
  simp only [sq3, sq4]
  refine wpAnyH_ready (rs := [12]) (by kernel_rfl) (by simp) ?_
  refine AllReadyH.cons (o := _) rfl (fun K hK => ?_) AllReadyH.nil
  simp only [sq3]
  go_simp
  with_reducible refine (free_el _ en HX.out HB1.out).mono ?_
  rintro e _ ⟨rfl, rfl⟩
  dsimp only
  refine hK.out _ _ htb (fun hH13 => ?_)
  clear hK K
  refine wpAnyH_take (i := 13) (v := ?_) rfl (by kernel_rfl) (by kernel_rfl) (by kernel_rfl) (fun _ _ _ h => h) (Or.inl ⟨by rfl, ?_⟩) hH13 ?_
  rotate_left
  · ((intro W hW; clear hW; go_simp) <;> with_reducible rfl)
  simp only [sq3, sq4]
  refine wpAnyH_done (by kernel_rfl) ?_ _
  have R62 := Lib.hid (range_lit hmB 0 6 [.int .u8 (m.a.toNat : Int), .int .u8 (m.b.toNat : Int), .int .u8 (m.c.toNat : Int), .int .u8 (m.d.toNat : Int), .int .u8 (m.e.toNat : Int), .int .u8 (m.f.toNat : Int)] rfl)
  go_wp2_with (first | ((with_reducible show wpList _ _ _ (⟨some 62, _, _, _, _, _⟩ :: _) _ _); refine wpList_load_rng 32 (.tmp 5) rfl (by kernel_rfl) _ _ rfl _ R62.out _ Try.underlying32 rfl (by kernel_rfl) ?_))
  try clear R62
  with_reducible refine (bf_none m _ htb own H32.out HBF.out).mono ?_
  rintro e w14 ⟨rfl, b14⟩
  replace htb := blk_u htb b14
  replace hmB := blk_u hmB b14
  replace hwB := blk_u hwB b14
  replace hrB := blk_u hrB b14
  replace hhB := blk_u hhB b14
  replace en := en.below b14
  replace own := owk_under own b14
  replace kt := kt.trans (kt_below b14)
  replace hM := hM.below b14
  replace bel := bel.trans (b14.mono (Nat.le_trans hlo bel.size))
  clear b14
  go_wp2_with (first | ((with_reducible show wpList _ _ _ (⟨none, Op.store _ (.tmp 8) _, _, _, _, _⟩ :: _) _ _); refine wpList_store_blk rfl 28 (.tmp 8) (.tmp 66) rfl g8 rfl _ rfl _ 28 hrB (by rfl) (by kernel_rfl) (by kernel_rfl) ?_; intro w15 hq gr; replace en := en.away av_en_rB gr; replace htb := blk_a htb gr d_tb_rB; replace hmB := blk_a hmB gr d_mB_rB; replace hwB := blk_a hwB gr d_wB_rB; replace hhB := blk_a hhB gr (ne_symm d_rB_hB); replace own := owk_off own off_rB gr; replace kt := kt.newer gr pn_rB bel.size; replace hM := hM.grown gr hrB; replace bel := below_grown bel gr orB (Nat.le_trans hlo bel.size); clear hrB; have hrB := hq; clear hq gr))
  exact bodyPost_ret (results_cell_tmp_row rfl _ _ _ _ _ _ _ rfl hrB Try.underlying28 rfl (by kernel_rfl) (.int .i64 7) rfl) rfl ⟨rfl, (by rw [HNW.out]; exact ⟨(some ⟨gE, 0, none⟩), n, c, mb, htb, otb, hM, own, HOK2.out⟩), kt, bel⟩
set_option linter.unusedVariables false in
set_option linter.unusedSimpArgs false in
set_option maxRecDepth 100000 in
set_option maxHeartbeats 16000000 in
theorem poffer_best0 {lo gt : Nat} {now : Int} {hs : List (Mc6 × Ad4)} {l : List Sd} (m : Mc6) (wa : Ad4) (t : Int) {k : Nat} {y : Sd} (w : World) (hT : Pl lo gt w ⟨now, hs, l⟩) (hh : homeF hs m = none) (hf : hldF m (padv now t) l = none) (hs_ : sfhas l wa.num = false) (hbf : bestF m (padv now t) l l.length = some k) (hy : l[k]? = some y) : Calls Try.prog 43 #[.pointer (some ⟨gt, 0, none⟩), .agg #[.int .u8 (m.a.toNat : Int), .int .u8 (m.b.toNat : Int), .int .u8 (m.c.toNat : Int), .int .u8 (m.d.toNat : Int), .int .u8 (m.e.toNat : Int), .int .u8 (m.f.toNat : Int)], .agg #[.int .u8 (wa.a.toNat : Int), .int .u8 (wa.b.toNat : Int), .int .u8 (wa.c.toNat : Int), .int .u8 (wa.d.toNat : Int)], .int .i64 t] w fun e w' => e = .returned (.tuple #[.agg #[.int .u8 (y.ad.a.toNat : Int), .int .u8 (y.ad.b.toNat : Int), .int .u8 (y.ad.c.toNat : Int), .int .u8 (y.ad.d.toNat : Int)], .int .i64 0]) ∧ Pl lo gt w' ⟨(padv now t), hs, l⟩ ∧ Kt [84, 101] w w' ∧ Below lo w w' := by
  obtain ⟨A, n, c, mb, htb, otb, hM, own, hok⟩ := hT
  dsimp only at htb hM own
  have hlo : lo ≤ w.heap.size := Nat.le_trans otb (Nat.le_of_lt (hlt htb))
  have off_tb := ofs_type own htb (by decide)
  have hl := row_len (by decide) slE_len own
  have HLL := Lib.hid hl
  have HLO := Lib.hid hlo
  have HOK := Lib.hid hok
  have H32 : Hid (n ≤ 1000) := Lib.hid (by have := hok.len; simp only at this; omega)
  have kt := Kt.refl [84, 101] w
  clear hl hok
  obtain ⟨nw, hnw⟩ : ∃ x, padv now t = x := ⟨_, rfl⟩
  have HNW := Lib.hid hnw
  have HOK2 : Hid (St.ok ⟨nw, hs, l⟩) := Lib.hid (by rw [← hnw]; exact HOK.out.adv t)
  have n0_ : 0 ≤ nw := HOK2.out.n0
  have n1_ : nw ≤ 1099511627776 := HOK2.out.n1
  have N0_ := Lib.hid n0_
  have N1_ := Lib.hid n1_
  clear hnw n0_ n1_
  have hf_ : _ := hf
  rw [HNW.out] at hf_
  clear hf
  have hf := hf_
  clear hf_
  have hbf_ : _ := hbf
  rw [HNW.out, HLL.out] at hbf_
  have HBF := Lib.hid hbf_
  clear hbf hbf_
  have hin_ : k < n := by have h1_ := (List.getElem?_eq_some_iff.1 hy).1; have h2_ := HLL.out; omega
  have i0 : (0 : Int) ≤ k := by omega
  have i1 : (k : Int) < n := by omega
  obtain ⟨gE, rfl, _⟩ := row_at own (by omega)
  have en := (owk_sle (by decide) slE_len own).1
  have av_en_tb := owk_av own off_tb
  have HS := Lib.hid hs_
  clear hs_
  obtain ⟨p, hp⟩ : ∃ p, sfpos l wa.num = p := ⟨_, rfl⟩
  have HF := Lib.hid hf
  clear hf
  have HH := Lib.hid hh
  clear hh
  have HP := Lib.hid hp
  clear hp
  have HY := Lib.hid hy
  clear hy
  have bel := Below.refl lo w
  go_enter Try.func43, Try.ntmps43
  go_wp2_with (first | ((with_reducible show wpList _ _ _ (⟨some 5, _, _, _, _, _⟩ :: _) _ _); refine wpList_box_n rfl 32 (.tmp 1) rfl #[.int .u8 (m.a.toNat : Int), .int .u8 (m.b.toNat : Int), .int .u8 (m.c.toNat : Int), .int .u8 (m.d.toNat : Int), .int .u8 (m.e.toNat : Int), .int .u8 (m.f.toNat : Int)] rfl ?_; intro g5 w1 ge lt hh bb; have d_tb_mB := ne_new (hlt htb) ge; have av_en_mB := en.av_new ge; have omB := Nat.le_trans (Nat.le_trans hlo bel.size) ge; have off_mB := owk_new own ge; have pn_mB := Nat.le_trans bel.size ge; replace htb := blk_u htb bb; replace en := en.below bb; replace own := owk_under own bb; replace kt := kt.trans (kt_below bb); replace hM := hM.below bb; replace bel := bel.trans (bb.mono (Nat.le_trans hlo bel.size)); have hmB := hh; clear hh lt ge bb) | ((with_reducible show wpList _ _ _ (⟨some 6, _, _, _, _, _⟩ :: _) _ _); refine wpList_box_n rfl 28 (.tmp 2) rfl #[.int .u8 (wa.a.toNat : Int), .int .u8 (wa.b.toNat : Int), .int .u8 (wa.c.toNat : Int), .int .u8 (wa.d.toNat : Int)] rfl ?_; intro g6 w2 ge lt hh bb; have d_tb_wB := ne_new (hlt htb) ge; have d_mB_wB := ne_new (hlt hmB) ge; have av_en_wB := en.av_new ge; have owB := Nat.le_trans (Nat.le_trans hlo bel.size) ge; have off_wB := owk_new own ge; have pn_wB := Nat.le_trans bel.size ge; replace htb := blk_u htb bb; replace hmB := blk_u hmB bb; replace en := en.below bb; replace own := owk_under own bb; replace kt := kt.trans (kt_below bb); replace hM := hM.below bb; replace bel := bel.trans (bb.mono (Nat.le_trans hlo bel.size)); have hwB := hh; clear hh lt ge bb) | ((with_reducible show wpList _ _ _ (⟨some 8, _, _, _, _, _⟩ :: _) _ _); refine wpList_new_a rfl 28 rfl #[.int .u8 0, .int .u8 0, .int .u8 0, .int .u8 0] (by kernel_rfl) ?_; intro g8 w3 ge hh bb; have d_tb_rB := ne_new (hlt htb) ge; have d_mB_rB := ne_new (hlt hmB) ge; have d_wB_rB := ne_new (hlt hwB) ge; have av_en_rB := en.av_new ge; have orB := Nat.le_trans (Nat.le_trans hlo bel.size) ge; have off_rB := owk_new own ge; have pn_rB := Nat.le_trans bel.size ge; replace htb := blk_u htb bb; replace hmB := blk_u hmB bb; replace hwB := blk_u hwB bb; replace en := en.below bb; replace own := owk_under own bb; replace kt := kt.trans (kt_below bb); replace hM := hM.below bb; replace bel := bel.trans (bb.mono (Nat.le_trans hlo bel.size)); have hrB := hh; clear hh ge bb))
  with_reducible refine (padv_any _ _ htb).mono ?_
  rintro e w4 ⟨rfl, htb_, b4⟩
  replace en := en.away av_en_tb b4
  replace hmB := blk_a hmB b4 (ne_symm d_tb_mB)
  replace hwB := blk_a hwB b4 (ne_symm d_tb_wB)
  replace hrB := blk_a hrB b4 (ne_symm d_tb_rB)
  replace own := owk_off own off_tb b4
  replace kt := kt.trans (kt_grown b4 htb (by simp))
  replace hM := hM.grown b4 htb
  replace bel := below_grown bel b4 otb (Nat.le_trans hlo bel.size)
  clear b4
  clear htb
  rw [HNW.out] at htb_
  have htb := htb_
  clear htb_
  go_wp2_with fail
  replace bel := bel.drew
  replace htb : w4.drew.heap[gt]? = _ := htb
  replace hmB : w4.drew.heap[g5]? = _ := hmB
  replace hwB : w4.drew.heap[g6]? = _ := hwB
  replace hrB : w4.drew.heap[g8]? = _ := hrB
  replace en := en.drew
  replace own := World.ownsRow.drew own
  replace kt := kt_drew kt
  replace hM := hm_drew hM
  refine wp_region_held_drew (S := fun W => W.heap[gt]? = some (.cells #[.int .i64 nw, .map (some mb), .slice (some ⟨gE, 0, none⟩) n c] 84 (0, 0)) ∧ W.heap[g5]? = some (.cells #[.int .u8 (m.a.toNat : Int), .int .u8 (m.b.toNat : Int), .int .u8 (m.c.toNat : Int), .int .u8 (m.d.toNat : Int), .int .u8 (m.e.toNat : Int), .int .u8 (m.f.toNat : Int)] 32 (0, 0)) ∧ Hm lo mb W hs) (by kernel_rfl) ⟨htb, hmB, hM⟩ (fun hH => ?_)
  generalize w4.drew = w5 at bel htb hmB hwB hrB en own kt hM hH ⊢
  refine wpAnyH_take (i := 0) (v := ?_) rfl (by kernel_rfl) (by kernel_rfl) (by kernel_rfl) (fun _ _ _ h => h) (Or.inl ⟨by rfl, ?_⟩) hH ?_
  rotate_left
  · ((intro W hW; clear hW; go_simp) <;> with_reducible rfl)
  simp only [Act.put, List.getElem_toArray, List.getElem_cons_zero, List.setIfInBounds_toArray, List.set_cons_zero, List.set_cons_succ]
  refine wpAnyH_take (i := 1) (v := ?_) rfl (by kernel_rfl) (by kernel_rfl) (by kernel_rfl) (fun _ _ _ h => h) (Or.inl ⟨by rfl, ?_⟩) hH ?_
  rotate_left
  · ((intro W hW; clear hW; go_simp) <;> with_reducible rfl)
  simp only [sq3, sq4]
  refine wpAnyH_take (i := 2) (v := ?_) rfl (by kernel_rfl) (by kernel_rfl) (by kernel_rfl) (fun _ _ _ h => h) (Or.inl ⟨by rfl, ?_⟩) hH ?_
  rotate_left
  · ((intro W hW; clear hW; go_simp) <;> with_reducible rfl)
  simp only [sq3, sq4]
  refine wpAnyH_take (i := 3) (v := ?_) rfl (by kernel_rfl) (by kernel_rfl) (by kernel_rfl) (fun _ _ _ h => h) (Or.inl ⟨by rfl, ?_⟩) hH ?_
  rotate_left
  · ((intro W hW; have hk := cell_lit (hW.1) 1 _ rfl; clear hW; go_simp) <;> with_reducible rfl)
  simp only [sq3, sq4]
  refine wpAnyH_take (i := 4) (v := .agg #[.int .u8 (m.a.toNat : Int), .int .u8 (m.b.toNat : Int), .int .u8 (m.c.toNat : Int), .int .u8 (m.d.toNat : Int), .int .u8 (m.e.toNat : Int), .int .u8 (m.f.toNat : Int)]) rfl (by kernel_rfl) (by kernel_rfl) (by kernel_rfl) (fun _ _ _ h => h) (yieldsIf_load_part (by kernel_rfl) 32 _ rfl g5 0 6 rfl _ 32 (0, 0) (fun W hW => hW.2.1) _ rfl _ Try.underlying32 rfl (by kernel_rfl)) hH ?_
  simp only [sq3, sq4]
  refine wpAnyH_take (i := 5) (v := ?_) rfl (by kernel_rfl) (by kernel_rfl) (by kernel_rfl) (fun _ _ _ h => h) (Or.inl ⟨by rfl, ?_⟩) hH ?_
  rotate_left
  · ((intro W hW; have hk := (by have h_ := ((hW.2.2)).look m; rw [HH.out] at h_; exact h_ : (Instr.lookup 81 (.map (some mb)) (.agg #[.int .u8 (m.a.toNat : Int), .int .u8 (m.b.toNat : Int), .int .u8 (m.c.toNat : Int), .int .u8 (m.d.toNat : Int), .int .u8 (m.e.toNat : Int), .int .u8 (m.f.toNat : Int)]) true).run Try.prog W = .ok (.tuple #[.agg #[.int .u8 0, .int .u8 0, .int .u8 0, .int .u8 0], .bool false]) W); clear hW; go_simp) <;> with_reducible rfl)
  simp only [sq3, sq4]
  refine wpAnyH_take (i := 6) (v := ?_) rfl (by kernel_rfl) (by kernel_rfl) (by kernel_rfl) (fun _ _ _ h => h) (Or.inl ⟨by rfl, ?_⟩) hH ?_
  rotate_left
  · ((intro W hW; clear hW; go_simp) <;> with_reducible rfl)
  simp only [sq3, sq4]
  refine wpAnyH_take (i := 7) (v := ?_) rfl (by kernel_rfl) (by kernel_rfl) (by kernel_rfl) (fun _ _ _ h => h) (Or.inl ⟨by rfl, ?_⟩) hH ?_
  rotate_left
  · ((intro W hW; clear hW; go_simp) <;> with_reducible rfl)
  simp only [sq3, sq4]
  refine wpAnyH_take (i := 8) (v := ?_) rfl (by kernel_rfl) (by kernel_rfl) (by kernel_rfl) (fun _ _ _ h => h) (Or.inl ⟨by rfl, ?_⟩) hH ?_
  rotate_left
  · ((intro W hW; clear hW; go_simp) <;> with_reducible rfl)
  simp only [sq3, sq4]
  refine wpAnyH_ready (rs := [9]) (by kernel_rfl) (by simp) ?_
  refine AllReadyH.cons (o := _) rfl (fun K hK => ?_) AllReadyH.nil
  simp only [sq3]
  rw [if_pos (by rfl)]
  refine wp_new_a 28 rfl #[.int .u8 0, .int .u8 0, .int .u8 0, .int .u8 0] (by kernel_rfl) ?_
  intro g10 w6 ge hh bb
  have d_tb_hB := ne_new (hlt htb) ge
  have d_mB_hB := ne_new (hlt hmB) ge
  have d_wB_hB := ne_new (hlt hwB) ge
  have d_rB_hB := ne_new (hlt hrB) ge
  have av_en_hB := en.av_new ge
  have ohB := Nat.le_trans (Nat.le_trans hlo bel.size) ge
  have off_hB := owk_new own ge
  have pn_hB := Nat.le_trans bel.size ge
  replace htb := blk_u htb bb
  replace hmB := blk_u hmB bb
  replace hwB := blk_u hwB bb
  replace hrB := blk_u hrB bb
  replace en := en.below bb
  replace own := owk_under own bb
  replace kt := kt.trans (kt_below bb)
  replace hM := hM.below bb
  replace bel := bel.trans (bb.mono (Nat.le_trans hlo bel.size))
  have hhB := hh
  clear hh ge bb
  refine hK.out _ _ ⟨htb, hmB, hM⟩ (fun hH7 => ?_)
  clear hK K
  simp only [sq4]
  refine wpAnyH_ready (rs := [10]) (by kernel_rfl) (by simp) ?_
  refine AllReadyH.cons (o := _) rfl (fun K hK => ?_) AllReadyH.nil
  simp only [sq3]
  rw [if_pos (by rfl)]
  refine wp_store_blk 28 (.tmp 10) (.tmp 26) rfl g10 rfl _ rfl _ 28 hhB (by rfl) (by kernel_rfl) (by kernel_rfl) ?_
  intro w8 hq gr
  replace en := en.away av_en_hB gr
  replace htb := blk_a htb gr d_tb_hB
  replace hmB := blk_a hmB gr d_mB_hB
  replace hwB := blk_a hwB gr d_wB_hB
  replace hrB := blk_a hrB gr d_rB_hB
  replace own := owk_off own off_hB gr
  replace kt := kt.newer gr pn_hB bel.size
  replace hM := hM.grown gr hhB
  replace bel := below_grown bel gr ohB (Nat.le_trans hlo bel.size)
  clear hhB
  have hhB := hq
  clear hq gr
  refine hK.out _ _ ⟨htb, hmB, hM⟩ (fun hH9 => ?_)
  clear hK K
  simp only [Act.put]
  refine wpAnyH_take (i := 11) (v := ?_) rfl (by kernel_rfl) (by kernel_rfl) (by kernel_rfl) (fun _ _ _ h => h) (Or.inl ⟨by rfl, ?_⟩) hH9 ?_
  rotate_left
  · ((intro W hW; clear hW; go_simp) <;> with_reducible rfl)
  simp only [sq3, sq4]
  refine wpAnyH_done (by kernel_rfl) ?_ _
  have R31 := Lib.hid (range_lit hmB 0 6 [.int .u8 (m.a.toNat : Int), .int .u8 (m.b.toNat : Int), .int .u8 (m.c.toNat : Int), .int .u8 (m.d.toNat : Int), .int .u8 (m.e.toNat : Int), .int .u8 (m.f.toNat : Int)] rfl)
  go_wp2_with (first | ((with_reducible show wpList _ _ _ (⟨some 31, _, _, _, _, _⟩ :: _) _ _); refine wpList_load_rng 32 (.tmp 5) rfl (by kernel_rfl) _ _ rfl _ R31.out _ Try.underlying32 rfl (by kernel_rfl) ?_))
  try clear R31
  with_reducible refine (lof_none m _ htb own H32.out HF.out).mono ?_
  rintro e w10 ⟨rfl, b10⟩
  replace htb := blk_u htb b10
  replace hmB := blk_u hmB b10
  replace hwB := blk_u hwB b10
  replace hrB := blk_u hrB b10
  replace hhB := blk_u hhB b10
  replace en := en.below b10
  replace own := owk_under own b10
  replace kt := kt.trans (kt_below b10)
  replace hM := hM.below b10
  replace bel := bel.trans (b10.mono (Nat.le_trans hlo bel.size))
  clear b10
  have R42 := Lib.hid (range_lit hwB 0 4 [.int .u8 (wa.a.toNat : Int), .int .u8 (wa.b.toNat : Int), .int .u8 (wa.c.toNat : Int), .int .u8 (wa.d.toNat : Int)] rfl)
  go_wp2_with (first | ((with_reducible show wpList _ _ _ (⟨some 42, _, _, _, _, _⟩ :: _) _ _); refine wpList_load_rng 28 (.tmp 6) rfl (by kernel_rfl) _ _ rfl _ R42.out _ Try.underlying28 rfl (by kernel_rfl) ?_))
  try clear R42
  with_reducible refine (pfind_is wa _ htb (owk_sle (by decide) slE_len own).1 HOK2.out.srt H32.out HP.out HS.out).mono ?_
  rintro e w11 ⟨rfl, b11⟩
  replace htb := blk_u htb b11
  replace hmB := blk_u hmB b11
  replace hwB := blk_u hwB b11
  replace hrB := blk_u hrB b11
  replace hhB := blk_u hhB b11
  replace en := en.below b11
  replace own := owk_under own b11
  replace kt := kt.trans (kt_below b11)
  replace hM := hM.below b11
  replace bel := bel.trans (b11.mono (Nat.le_trans hlo bel.size))
  clear b11
  go_wp2_with fail
  replace bel := bel.drew
  replace htb : w11.drew.heap[gt]? = _ := htb
  replace hmB : w11.drew.heap[g5]? = _ := hmB
  replace hwB : w11.drew.heap[g6]? = _ := hwB
  replace hrB : w11.drew.heap[g8]? = _ := hrB
  replace hhB : w11.drew.heap[g10]? = _ := hhB
  replace en := en.drew
  replace own := World.ownsRow.drew own
  replace kt := kt_drew kt
  replace hM := hm_drew hM
  refine wp_region_held_drew (S := fun W => W.heap[gt]? = some (.cells #[.int .i64 nw, .map (some mb), .slice (some ⟨gE, 0, none⟩) n c] 84 (0, 0))) (by kernel_rfl) htb (fun hH => ?_)
  generalize w11.drew = w12 at bel htb hmB hwB hrB hhB en own kt hM hH ⊢
  refine wpAnyH_take (i := 0) (v := ?_) rfl (by kernel_rfl) (by kernel_rfl) (by kernel_rfl) (fun _ _ _ h => h) (Or.inl ⟨by rfl, ?_⟩) hH ?_
  rotate_left
  · ((intro W hW; clear hW; go_simp) <;> with_reducible rfl)
  simp only [Act.put, List.getElem_toArray, List.getElem_cons_zero, List.setIfInBounds_toArray, List.set_cons_zero, List.set_cons_succ]
  refine wpAnyH_take (i := 1) (v := ?_) rfl (by kernel_rfl) (by kernel_rfl) (by kernel_rfl) (fun _ _ _ h => h) (Or.inl ⟨by rfl, ?_⟩) hH ?_
  rotate_left
  · ((intro W hW; clear hW; go_simp) <;> with_reducible rfl)
  simp only [sq3, sq4]
  refine wpAnyH_take (i := 2) (v := undef) rfl (by kernel_rfl) (by kernel_rfl) (by kernel_rfl) (fun _ _ _ h => h) (Or.inr ⟨by rfl, rfl⟩) hH ?_
  simp only [sq3, sq4]
  refine wpAnyH_take (i := 3) (v := undef) rfl (by kernel_rfl) (by kernel_rfl) (by kernel_rfl) (fun _ _ _ h => h) (Or.inr ⟨by rfl, rfl⟩) hH ?_
  simp only [sq3, sq4]
  refine wpAnyH_take (i := 4) (v := undef) rfl (by kernel_rfl) (by kernel_rfl) (by kernel_rfl) (fun _ _ _ h => h) (Or.inr ⟨by rfl, rfl⟩) hH ?_
  simp only [sq3, sq4]
  refine wpAnyH_take (i := 5) (v := undef) rfl (by kernel_rfl) (by kernel_rfl) (by kernel_rfl) (fun _ _ _ h => h) (Or.inr ⟨by rfl, rfl⟩) hH ?_
  simp only [sq3, sq4]
  refine wpAnyH_take (i := 6) (v := undef) rfl (by kernel_rfl) (by kernel_rfl) (by kernel_rfl) (fun _ _ _ h => h) (Or.inr ⟨by rfl, rfl⟩) hH ?_
  simp only [sq3, sq4]
  refine wpAnyH_take (i := 7) (v := undef) rfl (by kernel_rfl) (by kernel_rfl) (by kernel_rfl) (fun _ _ _ h => h) (Or.inr ⟨by rfl, rfl⟩) hH ?_
  simp only [sq3, sq4]
  refine wpAnyH_take (i := 8) (v := undef) rfl (by kernel_rfl) (by kernel_rfl) (by kernel_rfl) (fun _ _ _ h => h) (Or.inr ⟨by rfl, rfl⟩) hH ?_
  simp only [sq3, sq4]
  refine wpAnyH_take (i := 9) (v := undef) rfl (by kernel_rfl) (by kernel_rfl) (by kernel_rfl) (fun _ _ _ h => h) (Or.inr ⟨by rfl, rfl⟩) hH ?_
  simp only [sq3, sq4]
  refine wpAnyH_take (i := 10) (v := undef) rfl (by kernel_rfl) (by kernel_rfl) (by kernel_rfl) (fun _ _ _ h => h) (Or.inr ⟨by rfl, rfl⟩) hH ?_
  simp only [sq3, sq4]
  refine wpAnyH_take (i := 11) (v := undef) rfl (by kernel_rfl) (by kernel_rfl) (by kernel_rfl) (fun _ _ _ h => h) (Or.inr ⟨by rfl, rfl⟩) hH ?_
  simp only [sq3, sq4]
  refine wpAnyH_take (i := 12) (v := undef) rfl (by kernel_rfl) (by kernel_rfl) (by kernel_rfl) (fun _ _ _ h => h) (Or.inr ⟨by rfl, rfl⟩) hH ?_
  simp only [sq3, sq4]
  refine wpAnyH_take (i := 13) (v := ?_) rfl (by kernel_rfl) (by kernel_rfl) (by kernel_rfl) (fun _ _ _ h => h) (Or.inl ⟨by rfl, ?_⟩) hH ?_
  rotate_left
  · ((intro W hW; clear hW; go_simp) <;> with_reducible rfl)
  simp only [sq3, sq4]
  refine wpAnyH_done (by kernel_rfl) ?_ _
  have R62 := Lib.hid (range_lit hmB 0 6 [.int .u8 (m.a.toNat : Int), .int .u8 (m.b.toNat : Int), .int .u8 (m.c.toNat : Int), .int .u8 (m.d.toNat : Int), .int .u8 (m.e.toNat : Int), .int .u8 (m.f.toNat : Int)] rfl)
  go_wp2_with (first | ((with_reducible show wpList _ _ _ (⟨some 62, _, _, _, _, _⟩ :: _) _ _); refine wpList_load_rng 32 (.tmp 5) rfl (by kernel_rfl) _ _ rfl _ R62.out _ Try.underlying32 rfl (by kernel_rfl) ?_))
  try clear R62
  with_reducible refine (bf_at m _ htb own H32.out HBF.out).mono ?_
  rintro e w13 ⟨rfl, b13⟩
  replace htb := blk_u htb b13
  replace hmB := blk_u hmB b13
  replace hwB := blk_u hwB b13
  replace hrB := blk_u hrB b13
  replace hhB := blk_u hhB b13
  replace en := en.below b13
  replace own := owk_under own b13
  replace kt := kt.trans (kt_below b13)
  replace hM := hM.below b13
  replace bel := bel.trans (b13.mono (Nat.le_trans hlo bel.size))
  clear b13
  have R71 := Lib.hid (Sle.zrange en HY.out 6 4 [.int .u8 (y.ad.a.toNat : Int), .int .u8 (y.ad.b.toNat : Int), .int .u8 (y.ad.c.toNat : Int), .int .u8 (y.ad.d.toNat : Int)] rfl)
  go_wp2_with (first | ((with_reducible show wpList _ _ _ (⟨some 71, _, _, _, _, _⟩ :: _) _ _); refine wpList_load_rng 28 (.tmp 70) rfl (by kernel_rfl) _ _ rfl _ R71.out _ Try.underlying28 rfl (by kernel_rfl) ?_) | ((with_reducible show wpList _ _ _ (⟨none, Op.store _ (.tmp 8) _, _, _, _, _⟩ :: _) _ _); refine wpList_store_blk rfl 28 (.tmp 8) (.tmp 71) rfl g8 rfl _ rfl _ 28 hrB (by rfl) (by kernel_rfl) (by kernel_rfl) ?_; intro w14 hq gr; replace en := en.away av_en_rB gr; replace htb := blk_a htb gr d_tb_rB; replace hmB := blk_a hmB gr d_mB_rB; replace hwB := blk_a hwB gr d_wB_rB; replace hhB := blk_a hhB gr (ne_symm d_rB_hB); replace own := owk_off own off_rB gr; replace kt := kt.newer gr pn_rB bel.size; replace hM := hM.grown gr hrB; replace bel := below_grown bel gr orB (Nat.le_trans hlo bel.size); clear hrB; have hrB := hq; clear hq gr))
  try clear R71
  exact bodyPost_ret (results_cell_tmp_row rfl _ _ _ _ _ _ _ rfl hrB Try.underlying28 rfl (by kernel_rfl) (.int .i64 0) rfl) rfl ⟨rfl, (by rw [HNW.out]; exact ⟨(some ⟨gE, 0, none⟩), n, c, mb, htb, otb, hM, own, HOK2.out⟩), kt, bel⟩
set_option linter.unusedVariables false in
set_option linter.unusedSimpArgs false in
set_option maxRecDepth 100000 in
set_option maxHeartbeats 16000000 in
theorem poffer_best1 {lo gt : Nat} {now : Int} {hs : List (Mc6 × Ad4)} {l : List Sd} (m : Mc6) (wa : Ad4) (t : Int) {i k : Nat} {x y : Sd} (w : World) (hT : Pl lo gt w ⟨now, hs, l⟩) (hh : homeF hs m = none) (hf : hldF m (padv now t) l = none) (hx : l[i]? = some x) (hp : sfpos l wa.num = i) (hs_ : sfhas l wa.num = true) (hfr : x.freeB (padv now t) = false) (hbf : bestF m (padv now t) l l.length = some k) (hy : l[k]? = some y) : Calls Try.prog 43 #[.pointer (some ⟨gt, 0, none⟩), .agg #[.int .u8 (m.a.toNat : Int), .int .u8 (m.b.toNat : Int), .int .u8 (m.c.toNat : Int), .int .u8 (m.d.toNat : Int), .int .u8 (m.e.toNat : Int), .int .u8 (m.f.toNat : Int)], .agg #[.int .u8 (wa.a.toNat : Int), .int .u8 (wa.b.toNat : Int), .int .u8 (wa.c.toNat : Int), .int .u8 (wa.d.toNat : Int)], .int .i64 t] w fun e w' => e = .returned (.tuple #[.agg #[.int .u8 (y.ad.a.toNat : Int), .int .u8 (y.ad.b.toNat : Int), .int .u8 (y.ad.c.toNat : Int), .int .u8 (y.ad.d.toNat : Int)], .int .i64 0]) ∧ Pl lo gt w' ⟨(padv now t), hs, l⟩ ∧ Kt [84, 101] w w' ∧ Below lo w w' := by
  obtain ⟨A, n, c, mb, htb, otb, hM, own, hok⟩ := hT
  dsimp only at htb hM own
  have hlo : lo ≤ w.heap.size := Nat.le_trans otb (Nat.le_of_lt (hlt htb))
  have off_tb := ofs_type own htb (by decide)
  have hl := row_len (by decide) slE_len own
  have HLL := Lib.hid hl
  have HLO := Lib.hid hlo
  have HOK := Lib.hid hok
  have H32 : Hid (n ≤ 1000) := Lib.hid (by have := hok.len; simp only at this; omega)
  have kt := Kt.refl [84, 101] w
  clear hl hok
  obtain ⟨nw, hnw⟩ : ∃ x, padv now t = x := ⟨_, rfl⟩
  have HNW := Lib.hid hnw
  have HOK2 : Hid (St.ok ⟨nw, hs, l⟩) := Lib.hid (by rw [← hnw]; exact HOK.out.adv t)
  have n0_ : 0 ≤ nw := HOK2.out.n0
  have n1_ : nw ≤ 1099511627776 := HOK2.out.n1
  have N0_ := Lib.hid n0_
  have N1_ := Lib.hid n1_
  clear hnw n0_ n1_
  have hbf_ : _ := hbf
  rw [HNW.out, HLL.out] at hbf_
  have HBF := Lib.hid hbf_
  clear hbf hbf_
  have hf_ : _ := hf
  rw [HNW.out] at hf_
  clear hf
  have hf := hf_
  clear hf_
  have hin_ : i < n := by have h1_ := (List.getElem?_eq_some_iff.1 hx).1; have h2_ := HLL.out; omega
  have i0 : (0 : Int) ≤ i := by omega
  have i1 : (i : Int) < n := by omega
  obtain ⟨gE, rfl, _⟩ := row_at own (by omega)
  have en := (owk_sle (by decide) slE_len own).1
  have av_en_tb := owk_av own off_tb
  have hb1 : x.freeB nw = false := by rw [← HNW.out]; exact hfr
  have HB1 := Lib.hid hb1
  have HS := Lib.hid hs_
  clear hb1 hfr hs_
  have HF := Lib.hid hf
  clear hf
  have HX := Lib.hid hx
  clear hx
  have HH := Lib.hid hh
  clear hh
  have HP := Lib.hid hp
  clear hp
  have hkn_ : k < n := by have h1_ := (List.getElem?_eq_some_iff.1 hy).1; have h2_ := HLL.out; omega
  have k0 : (0 : Int) ≤ k := by omega
  have k1 : (k : Int) < n := by omega
  have HY := Lib.hid hy
  clear hy
  have bel := Below.refl lo w
  go_enter Try.func43, Try.ntmps43
  go_wp2_with (first | ((with_reducible show wpList _ _ _ (⟨some 5, _, _, _, _, _⟩ :: _) _ _); refine wpList_box_n rfl 32 (.tmp 1) rfl #[.int .u8 (m.a.toNat : Int), .int .u8 (m.b.toNat : Int), .int .u8 (m.c.toNat : Int), .int .u8 (m.d.toNat : Int), .int .u8 (m.e.toNat : Int), .int .u8 (m.f.toNat : Int)] rfl ?_; intro g5 w1 ge lt hh bb; have d_tb_mB := ne_new (hlt htb) ge; have av_en_mB := en.av_new ge; have omB := Nat.le_trans (Nat.le_trans hlo bel.size) ge; have off_mB := owk_new own ge; have pn_mB := Nat.le_trans bel.size ge; replace htb := blk_u htb bb; replace en := en.below bb; replace own := owk_under own bb; replace kt := kt.trans (kt_below bb); replace hM := hM.below bb; replace bel := bel.trans (bb.mono (Nat.le_trans hlo bel.size)); have hmB := hh; clear hh lt ge bb) | ((with_reducible show wpList _ _ _ (⟨some 6, _, _, _, _, _⟩ :: _) _ _); refine wpList_box_n rfl 28 (.tmp 2) rfl #[.int .u8 (wa.a.toNat : Int), .int .u8 (wa.b.toNat : Int), .int .u8 (wa.c.toNat : Int), .int .u8 (wa.d.toNat : Int)] rfl ?_; intro g6 w2 ge lt hh bb; have d_tb_wB := ne_new (hlt htb) ge; have d_mB_wB := ne_new (hlt hmB) ge; have av_en_wB := en.av_new ge; have owB := Nat.le_trans (Nat.le_trans hlo bel.size) ge; have off_wB := owk_new own ge; have pn_wB := Nat.le_trans bel.size ge; replace htb := blk_u htb bb; replace hmB := blk_u hmB bb; replace en := en.below bb; replace own := owk_under own bb; replace kt := kt.trans (kt_below bb); replace hM := hM.below bb; replace bel := bel.trans (bb.mono (Nat.le_trans hlo bel.size)); have hwB := hh; clear hh lt ge bb) | ((with_reducible show wpList _ _ _ (⟨some 8, _, _, _, _, _⟩ :: _) _ _); refine wpList_new_a rfl 28 rfl #[.int .u8 0, .int .u8 0, .int .u8 0, .int .u8 0] (by kernel_rfl) ?_; intro g8 w3 ge hh bb; have d_tb_rB := ne_new (hlt htb) ge; have d_mB_rB := ne_new (hlt hmB) ge; have d_wB_rB := ne_new (hlt hwB) ge; have av_en_rB := en.av_new ge; have orB := Nat.le_trans (Nat.le_trans hlo bel.size) ge; have off_rB := owk_new own ge; have pn_rB := Nat.le_trans bel.size ge; replace htb := blk_u htb bb; replace hmB := blk_u hmB bb; replace hwB := blk_u hwB bb; replace en := en.below bb; replace own := owk_under own bb; replace kt := kt.trans (kt_below bb); replace hM := hM.below bb; replace bel := bel.trans (bb.mono (Nat.le_trans hlo bel.size)); have hrB := hh; clear hh ge bb))
  with_reducible refine (padv_any _ _ htb).mono ?_
  rintro e w4 ⟨rfl, htb_, b4⟩
  replace en := en.away av_en_tb b4
  replace hmB := blk_a hmB b4 (ne_symm d_tb_mB)
  replace hwB := blk_a hwB b4 (ne_symm d_tb_wB)
  replace hrB := blk_a hrB b4 (ne_symm d_tb_rB)
  replace own := owk_off own off_tb b4
  replace kt := kt.trans (kt_grown b4 htb (by simp))
  replace hM := hM.grown b4 htb
  replace bel := below_grown bel b4 otb (Nat.le_trans hlo bel.size)
  clear b4
  clear htb
  rw [HNW.out] at htb_
  have htb := htb_
  clear htb_
  go_wp2_with fail
  replace bel := bel.drew
  replace htb : w4.drew.heap[gt]? = _ := htb
  replace hmB : w4.drew.heap[g5]? = _ := hmB
  replace hwB : w4.drew.heap[g6]? = _ := hwB
  replace hrB : w4.drew.heap[g8]? = _ := hrB
  replace en := en.drew
  replace own := World.ownsRow.drew own
  replace kt := kt_drew kt
  replace hM := hm_drew hM
  refine wp_region_held_drew (S := fun W => W.heap[gt]? = some (.cells #[.int .i64 nw, .map (some mb), .slice (some ⟨gE, 0, none⟩) n c] 84 (0, 0)) ∧ W.heap[g5]? = some (.cells #[.int .u8 (m.a.toNat : Int), .int .u8 (m.b.toNat : Int), .int .u8 (m.c.toNat : Int), .int .u8 (m.d.toNat : Int), .int .u8 (m.e.toNat : Int), .int .u8 (m.f.toNat : Int)] 32 (0, 0)) ∧ Hm lo mb W hs) (by kernel_rfl) ⟨htb, hmB, hM⟩ (fun hH => ?_)
  generalize w4.drew = w5 at bel htb hmB hwB hrB en own kt hM hH ⊢
  refine wpAnyH_take (i := 0) (v := ?_) rfl (by kernel_rfl) (by kernel_rfl) (by kernel_rfl) (fun _ _ _ h => h) (Or.inl ⟨by rfl, ?_⟩) hH ?_
  rotate_left
  · ((intro W hW; clear hW; go_simp) <;> with_reducible rfl)
  simp only [Act.put, List.getElem_toArray, List.getElem_cons_zero, List.setIfInBounds_toArray, List.set_cons_zero, List.set_cons_succ]
  refine wpAnyH_take (i := 1) (v := ?_) rfl (by kernel_rfl) (by kernel_rfl) (by kernel_rfl) (fun _ _ _ h => h) (Or.inl ⟨by rfl, ?_⟩) hH ?_
  rotate_left
  · ((intro W hW; clear hW; go_simp) <;> with_reducible rfl)
  simp only [sq3, sq4]
  refine wpAnyH_take (i := 2) (v := ?_) rfl (by kernel_rfl) (by kernel_rfl) (by kernel_rfl) (fun _ _ _ h => h) (Or.inl ⟨by rfl, ?_⟩) hH ?_
  rotate_left
  · ((intro W hW; clear hW; go_simp) <;> with_reducible rfl)
  simp only [sq3, sq4]
  refine wpAnyH_take (i := 3) (v := ?_) rfl (by kernel_rfl) (by kernel_rfl) (by kernel_rfl) (fun _ _ _ h => h) (Or.inl ⟨by rfl, ?_⟩) hH ?_
  rotate_left
  · ((intro W hW; have hk := cell_lit (hW.1) 1 _ rfl; clear hW; go_simp) <;> with_reducible rfl)
  simp only [sq3, sq4]
  refine wpAnyH_take (i := 4) (v := .agg #[.int .u8 (m.a.toNat : Int), .int .u8 (m.b.toNat : Int), .int .u8 (m.c.toNat : Int), .int .u8 (m.d.toNat : Int), .int .u8 (m.e.toNat : Int), .int .u8 (m.f.toNat : Int)]) rfl (by kernel_rfl) (by kernel_rfl) (by kernel_rfl) (fun _ _ _ h => h) (yieldsIf_load_part (by kernel_rfl) 32 _ rfl g5 0 6 rfl _ 32 (0, 0) (fun W hW => hW.2.1) _ rfl _ Try.underlying32 rfl (by kernel_rfl)) hH ?_
  simp only [sq3, sq4]
  refine wpAnyH_take (i := 5) (v := ?_) rfl (by kernel_rfl) (by kernel_rfl) (by kernel_rfl) (fun _ _ _ h => h) (Or.inl ⟨by rfl, ?_⟩) hH ?_
  rotate_left
  · ((intro W hW; have hk := (by have h_ := ((hW.2.2)).look m; rw [HH.out] at h_; exact h_ : (Instr.lookup 81 (.map (some mb)) (.agg #[.int .u8 (m.a.toNat : Int), .int .u8 (m.b.toNat : Int), .int .u8 (m.c.toNat : Int), .int .u8 (m.d.toNat : Int), .int .u8 (m.e.toNat : Int), .int .u8 (m.f.toNat : Int)]) true).run Try.prog W = .ok (.tuple #[.agg #[.int .u8 0, .int .u8 0, .int .u8 0, .int .u8 0], .bool false]) W); clear hW; go_simp) <;> with_reducible rfl)
  simp only [sq3, sq4]
  refine wpAnyH_take (i := 6) (v := ?_) rfl (by kernel_rfl) (by kernel_rfl) (by kernel_rfl) (fun _ _ _ h => h) (Or.inl ⟨by rfl, ?_⟩) hH ?_
  rotate_left
  · ((intro W hW; clear hW; go_simp) <;> with_reducible rfl)
  simp only [sq3, sq4]
  refine wpAnyH_take (i := 7) (v := ?_) rfl (by kernel_rfl) (by kernel_rfl) (by kernel_rfl) (fun _ _ _ h => h) (Or.inl ⟨by rfl, ?_⟩) hH ?_
  rotate_left
  · ((intro W hW; clear hW; go_simp) <;> with_reducible rfl)
  simp only [sq3, sq4]
  refine wpAnyH_take (i := 8) (v := ?_) rfl (by kernel_rfl) (by kernel_rfl) (by kernel_rfl) (fun _ _ _ h => h) (Or.inl ⟨by rfl, ?_⟩) hH ?_
  rotate_left
  · ((intro W hW; clear hW; go_simp) <;> with_reducible rfl)
  simp only [sq3, sq4]
  refine wpAnyH_ready (rs := [9]) (by kernel_rfl) (by simp) ?_
  refine AllReadyH.cons (o := _) rfl (fun K hK => ?_) AllReadyH.nil
  simp only [sq3]
  rw [if_pos (by rfl)]
  refine wp_new_a 28 rfl #[.int .u8 0, .int .u8 0, .int .u8 0, .int .u8 0] (by kernel_rfl) ?_
  intro g10 w6 ge hh bb
  have d_tb_hB := ne_new (hlt htb) ge
  have d_mB_hB := ne_new (hlt hmB) ge
  have d_wB_hB := ne_new (hlt hwB) ge
  have d_rB_hB := ne_new (hlt hrB) ge
  have av_en_hB := en.av_new ge
  have ohB := Nat.le_trans (Nat.le_trans hlo bel.size) ge
  have off_hB := owk_new own ge
  have pn_hB := Nat.le_trans bel.size ge
  replace htb := blk_u htb bb
  replace hmB := blk_u hmB bb
  replace hwB := blk_u hwB bb
  replace hrB := blk_u hrB bb
  replace en := en.below bb
  replace own := owk_under own bb
  replace kt := kt.trans (kt_below bb)
  replace hM := hM.below bb
  replace bel := bel.trans (bb.mono (Nat.le_trans hlo bel.size))
  have hhB := hh
  clear hh ge bb
  refine hK.out _ _ ⟨htb, hmB, hM⟩ (fun hH7 => ?_)
  clear hK K
  simp only [sq4]
  refine wpAnyH_ready (rs := [10]) (by kernel_rfl) (by simp) ?_
  refine AllReadyH.cons (o := _) rfl (fun K hK => ?_) AllReadyH.nil
  simp only [sq3]
  rw [if_pos (by rfl)]
  refine wp_store_blk 28 (.tmp 10) (.tmp 26) rfl g10 rfl _ rfl _ 28 hhB (by rfl) (by kernel_rfl) (by kernel_rfl) ?_
  intro w8 hq gr
  replace en := en.away av_en_hB gr
  replace htb := blk_a htb gr d_tb_hB
  replace hmB := blk_a hmB gr d_mB_hB
  replace hwB := blk_a hwB gr d_wB_hB
  replace hrB := blk_a hrB gr d_rB_hB
  replace own := owk_off own off_hB gr
  replace kt := kt.newer gr pn_hB bel.size
  replace hM := hM.grown gr hhB
  replace bel := below_grown bel gr ohB (Nat.le_trans hlo bel.size)
  clear hhB
  have hhB := hq
  clear hq gr
  refine hK.out _ _ ⟨htb, hmB, hM⟩ (fun hH9 => ?_)
  clear hK K
  simp only [Act.put]
  refine wpAnyH_take (i := 11) (v := ?_) rfl (by kernel_rfl) (by kernel_rfl) (by kernel_rfl) (fun _ _ _ h => h) (Or.inl ⟨by rfl, ?_⟩) hH9 ?_
  rotate_left
  · ((intro W hW; clear hW; go_simp) <;> with_reducible rfl)
  simp only [sq3, sq4]
  refine wpAnyH_done (by kernel_rfl) ?_ _
  have R31 := Lib.hid (range_lit hmB 0 6 [.int .u8 (m.a.toNat : Int), .int .u8 (m.b.toNat : Int), .int .u8 (m.c.toNat : Int), .int .u8 (m.d.toNat : Int), .int .u8 (m.e.toNat : Int), .int .u8 (m.f.toNat : Int)] rfl)
  go_wp2_with (first | ((with_reducible show wpList _ _ _ (⟨some 31, _, _, _, _, _⟩ :: _) _ _); refine wpList_load_rng 32 (.tmp 5) rfl (by kernel_rfl) _ _ rfl _ R31.out _ Try.underlying32 rfl (by kernel_rfl) ?_))
  try clear R31
  with_reducible refine (lof_none m _ htb own H32.out HF.out).mono ?_
  rintro e w10 ⟨rfl, b10⟩
  replace htb := blk_u htb b10
  replace hmB := blk_u hmB b10
  replace hwB := blk_u hwB b10
  replace hrB := blk_u hrB b10
  replace hhB := blk_u hhB b10
  replace en := en.below b10
  replace own := owk_under own b10
  replace kt := kt.trans (kt_below b10)
  replace hM := hM.below b10
  replace bel := bel.trans (b10.mono (Nat.le_trans hlo bel.size))
  clear b10
  have R42 := Lib.hid (range_lit hwB 0 4 [.int .u8 (wa.a.toNat : Int), .int .u8 (wa.b.toNat : Int), .int .u8 (wa.c.toNat : Int), .int .u8 (wa.d.toNat : Int)] rfl)
  go_wp2_with (first | ((with_reducible show wpList _ _ _ (⟨some 42, _, _, _, _, _⟩ :: _) _ _); refine wpList_load_rng 28 (.tmp 6) rfl (by kernel_rfl) _ _ rfl _ R42.out _ Try.underlying28 rfl (by kernel_rfl) ?_))
  try clear R42
  with_reducible refine (pfind_is wa _ htb (owk_sle (by decide) slE_len own).1 HOK2.out.srt H32.out HP.out HS.out).mono ?_
  rintro e w11 ⟨rfl, b11⟩
  replace htb := blk_u htb b11
  replace hmB := blk_u hmB b11
  replace hwB := blk_u hwB b11
  replace hrB := blk_u hrB b11
  replace hhB := blk_u hhB b11
  replace en := en.below b11
  replace own := owk_under own b11
  replace kt := kt.trans (kt_below b11)
  replace hM := hM.below b11
  replace bel := bel.trans (b11.mono (Nat.le_trans hlo bel.size))
  clear b11
  go_wp2_with fail
  replace bel := bel.drew
  replace htb : w11.drew.heap[gt]? = _ := htb
  replace hmB : w11.drew.heap[g5]? = _ := hmB
  replace hwB : w11.drew.heap[g6]? = _ := hwB
  replace hrB : w11.drew.heap[g8]? = _ := hrB
  replace hhB : w11.drew.heap[g10]? = _ := hhB
  replace en := en.drew
  replace own := World.ownsRow.drew own
  replace kt := kt_drew kt
  replace hM := hm_drew hM
  refine wp_region_held_drew (S := fun W => W.heap[gt]? = some (.cells #[.int .i64 nw, .map (some mb), .slice (some ⟨gE, 0, none⟩) n c] 84 (0, 0))) (by kernel_rfl) htb (fun hH => ?_)
  generalize w11.drew = w12 at bel htb hmB hwB hrB hhB en own kt hM hH ⊢
  refine wpAnyH_take (i := 0) (v := ?_) rfl (by kernel_rfl) (by kernel_rfl) (by kernel_rfl) (fun _ _ _ h => h) (Or.inl ⟨by rfl, ?_⟩) hH ?_
  rotate_left
  · ((intro W hW; clear hW; go_simp) <;> with_reducible rfl)
  simp only [Act.put, List.getElem_toArray, List.getElem_cons_zero, List.setIfInBounds_toArray, List.set_cons_zero, List.set_cons_succ]
  refine wpAnyH_take (i := 1) (v := ?_) rfl (by kernel_rfl) (by kernel_rfl) (by kernel_rfl) (fun _ _ _ h => h) (Or.inl ⟨by rfl, ?_⟩) hH ?_
  rotate_left
  · ((intro W hW; clear hW; go_simp) <;> with_reducible rfl)
  simp only [sq3, sq4]
  refine wpAnyH_take (i := 2) (v := ?_) rfl (by kernel_rfl) (by kernel_rfl) (by kernel_rfl) (fun _ _ _ h => h) (Or.inl ⟨by rfl, ?_⟩) hH ?_
  rotate_left
  · ((intro W hW; clear hW; go_simp) <;> with_reducible rfl)
  simp only [sq3, sq4]
  refine wpAnyH_take (i := 3) (v := ?_) rfl (by kernel_rfl) (by kernel_rfl) (by kernel_rfl) (fun _ _ _ h => h) (Or.inl ⟨by rfl, ?_⟩) hH ?_
  rotate_left
  · ((intro W hW; clear hW; go_simp) <;> with_reducible rfl)
  simp only [sq3, sq4]
  refine wpAnyH_take (i := 4) (v := ?_) rfl (by kernel_rfl) (by kernel_rfl) (by kernel_rfl) (fun _ _ _ h => h) (Or.inl ⟨by rfl, ?_⟩) hH ?_
  rotate_left
  · ((intro W hW; clear hW; go_simp) <;> with_reducible rfl)
  simp only [sq3, sq4]
  refine wpAnyH_take (i := 5) (v := ?_) rfl (by kernel_rfl) (by kernel_rfl) (by kernel_rfl) (fun _ _ _ h => h) (Or.inl ⟨by rfl, ?_⟩) hH ?_
  rotate_left
  · ((intro W hW; have hk := cell_lit (hW) 2 _ rfl; clear hW; go_simp) <;> with_reducible rfl)
  simp only [sq3, sq4]
  refine wpAnyH_take (i := 6) (v := ?_) rfl (by kernel_rfl) (by kernel_rfl) (by kernel_rfl) (fun _ _ _ h => h) (Or.inl ⟨by rfl, ?_⟩) hH ?_
  rotate_left
  · ((intro W hW; clear hW; go_simp) <;> with_reducible rfl)
  simp only [sq3, sq4]
  refine wpAnyH_take (i := 7) (v := ?_) rfl (by kernel_rfl) (by kernel_rfl) (by kernel_rfl) (fun _ _ _ h => h) (Or.inl ⟨by rfl, ?_⟩) hH ?_
  rotate_left
  · ((intro W hW; clear hW; go_simp) <;> with_reducible rfl)
  simp only [sq3, sq4]
  refine wpAnyH_take (i := 8) (v := ?_) rfl (by kernel_rfl) (by kernel_rfl) (by kernel_rfl) (fun _ _ _ h => h) (Or.inl ⟨by rfl, ?_⟩) hH ?_
  rotate_left
  · ((intro W hW; clear hW; go_simp) <;> with_reducible rfl)
  simp only [sq3, sq4]
  refine wpAnyH_take (i := 9) (v := ?_) rfl (by kernel_rfl) (by kernel_rfl) (by kernel_rfl) (fun _ _ _ h => h) (Or.inl ⟨by rfl, ?_⟩) hH ?_
  rotate_left
  · ((intro W hW; clear hW; go_simp) <;> with_reducible rfl)
  simp only [sq3, sq4]
  refine wpAnyH_take (i := 10) (v := ?_) rfl (by kernel_rfl) (by kernel_rfl) (by kernel_rfl) (fun _ _ _ h => h) (Or.inl ⟨by rfl, ?_⟩) hH ?_
  rotate_left
  · ((intro W hW; clear hW; go_simp) <;> with_reducible rfl)
  simp only [sq3, sq4]
  refine wpAnyH_take (i := 11) (v := ?_) rfl (by kernel_rfl) (by kernel_rfl) (by kernel_rfl) (fun _ _ _ h => h) (Or.inl ⟨by rfl, ?_⟩) hH ?_
  rotate_left
  · ((intro W hW; have hk := cell_lit (hW) 0 _ rfl; clear hW; go_simp) <;> with_reducible rfl)
  simp only [sq3, sq4]
  refine wpAnyH_ready (rs := [12]) (by kernel_rfl) (by simp) ?_
  refine AllReadyH.cons (o := _) rfl (fun K hK => ?_) AllReadyH.nil
  simp only [sq3]
  go_simp
  with_reducible refine (free_el _ en HX.out HB1.out).mono ?_
  rintro e _ ⟨rfl, rfl⟩
  dsimp only
  refine hK.out _ _ htb (fun hH13 => ?_)
  clear hK K
  refine wpAnyH_take (i := 13) (v := ?_) rfl (by kernel_rfl) (by kernel_rfl) (by kernel_rfl) (fun _ _ _ h => h) (Or.inl ⟨by rfl, ?_⟩) hH13 ?_
  rotate_left
  · ((intro W hW; clear hW; go_simp) <;> with_reducible rfl)
  simp only [sq3, sq4]
  refine wpAnyH_done (by kernel_rfl) ?_ _
  have R62 := Lib.hid (range_lit hmB 0 6 [.int .u8 (m.a.toNat : Int), .int .u8 (m.b.toNat : Int), .int .u8 (m.c.toNat : Int), .int .u8 (m.d.toNat : Int), .int .u8 (m.e.toNat : Int), .int .u8 (m.f.toNat : Int)] rfl)
  go_wp2_with (first | ((with_reducible show wpList _ _ _ (⟨some 62, _, _, _, _, _⟩ :: _) _ _); refine wpList_load_rng 32 (.tmp 5) rfl (by kernel_rfl) _ _ rfl _ R62.out _ Try.underlying32 rfl (by kernel_rfl) ?_))
  try clear R62
  with_reducible refine (bf_at m _ htb own H32.out HBF.out).mono ?_
  rintro e w14 ⟨rfl, b14⟩
  replace htb := blk_u htb b14
  replace hmB := blk_u hmB b14
  replace hwB := blk_u hwB b14
  replace hrB := blk_u hrB b14
  replace hhB := blk_u hhB b14
  replace en := en.below b14
  replace own := owk_under own b14
  replace kt := kt.trans (kt_below b14)
  replace hM := hM.below b14
  replace bel := bel.trans (b14.mono (Nat.le_trans hlo bel.size))
  clear b14
  have R71 := Lib.hid (Sle.zrange en HY.out 6 4 [.int .u8 (y.ad.a.toNat : Int), .int .u8 (y.ad.b.toNat : Int), .int .u8 (y.ad.c.toNat : Int), .int .u8 (y.ad.d.toNat : Int)] rfl)
  go_wp2_with (first | ((with_reducible show wpList _ _ _ (⟨some 71, _, _, _, _, _⟩ :: _) _ _); refine wpList_load_rng 28 (.tmp 70) rfl (by kernel_rfl) _ _ rfl _ R71.out _ Try.underlying28 rfl (by kernel_rfl) ?_) | ((with_reducible show wpList _ _ _ (⟨none, Op.store _ (.tmp 8) _, _, _, _, _⟩ :: _) _ _); refine wpList_store_blk rfl 28 (.tmp 8) (.tmp 71) rfl g8 rfl _ rfl _ 28 hrB (by rfl) (by kernel_rfl) (by kernel_rfl) ?_; intro w15 hq gr; replace en := en.away av_en_rB gr; replace htb := blk_a htb gr d_tb_rB; replace hmB := blk_a hmB gr d_mB_rB; replace hwB := blk_a hwB gr d_wB_rB; replace hhB := blk_a hhB gr (ne_symm d_rB_hB); replace own := owk_off own off_rB gr; replace kt := kt.newer gr pn_rB bel.size; replace hM := hM.grown gr hrB; replace bel := below_grown bel gr orB (Nat.le_trans hlo bel.size); clear hrB; have hrB := hq; clear hq gr))
  try clear R71
  exact bodyPost_ret (results_cell_tmp_row rfl _ _ _ _ _ _ _ rfl hrB Try.underlying28 rfl (by kernel_rfl) (.int .i64 0) rfl) rfl ⟨rfl, (by rw [HNW.out]; exact ⟨(some ⟨gE, 0, none⟩), n, c, mb, htb, otb, hM, own, HOK2.out⟩), kt, bel⟩
theorem poffer_any {lo gt : Nat} {s : St} (m : Mc6) (wa : Ad4) (t : Int) (w : World) (hT : Pl lo gt w s) {a : Ad4} {r : Int} (hr : offerS s m wa t = (a, r)) : Calls Try.prog 43 #[.pointer (some ⟨gt, 0, none⟩), .agg #[.int .u8 (m.a.toNat : Int), .int .u8 (m.b.toNat : Int), .int .u8 (m.c.toNat : Int), .int .u8 (m.d.toNat : Int), .int .u8 (m.e.toNat : Int), .int .u8 (m.f.toNat : Int)], .agg #[.int .u8 (wa.a.toNat : Int), .int .u8 (wa.b.toNat : Int), .int .u8 (wa.c.toNat : Int), .int .u8 (wa.d.toNat : Int)], .int .i64 t] w fun e w' => e = .returned (.tuple #[.agg #[.int .u8 (a.a.toNat : Int), .int .u8 (a.b.toNat : Int), .int .u8 (a.c.toNat : Int), .int .u8 (a.d.toNat : Int)], .int .i64 r]) ∧ Pl lo gt w' (s.adv t) ∧ Kt [84, 101] w w' ∧ Below lo w w' := by
  obtain ⟨now, hs, l⟩ := s
  have hn : (St.adv ⟨now, hs, l⟩ t).now = padv now t := rfl
  unfold offerS at hr
  simp only [hn] at hr
  cases hh : homeF hs m with
  | some h =>
    simp only [hh] at hr
    injection hr with h1 h2
    subst h1; subst h2
    exact poffer_home m wa t w hT hh
  | none =>
    simp only [hh] at hr
    cases hf : hldF m (padv now t) l with
    | some i =>
      obtain ⟨x, hx, _⟩ := hldF_at hf
      simp only [hf, hx, Option.map_some, Option.getD_some] at hr
      injection hr with h1 h2
      subst h1; subst h2
      exact poffer_live m wa t w hT hh hf hx
    | none =>
      simp only [hf] at hr
      have best : ∀ k, bestF m (padv now t) l l.length = some k → ∃ y, l[k]? = some y := fun k hk => by
        obtain ⟨y, hy, _⟩ := bestF_free m (padv now t) l _ _ (Nat.le_refl _) hk
        exact ⟨y, hy⟩
      cases hs_ : sfhas l wa.num with
      | false =>
        simp only [hs_, Bool.false_and, Bool.false_eq_true, if_false] at hr
        cases hbf : bestF m (padv now t) l l.length with
        | none =>
          simp only [hbf] at hr
          injection hr with h1 h2
          subst h1; subst h2
          exact poffer_full0 m wa t w hT hh hf hs_ hbf
        | some k =>
          obtain ⟨y, hy⟩ := best k hbf
          simp only [hbf, hy, Option.map_some, Option.getD_some] at hr
          injection hr with h1 h2
          subst h1; subst h2
          exact poffer_best0 m wa t w hT hh hf hs_ hbf hy
      | true =>
        obtain ⟨x, hx, _⟩ := sfhas_at hs_
        simp only [hs_, hx, Bool.true_and] at hr
        cases hfr : x.freeB (padv now t) with
        | true =>
          simp only [hfr, if_true] at hr
          injection hr with h1 h2
          subst h1; subst h2
          exact poffer_want m wa t w hT hh hf hx rfl hs_ hfr
        | false =>
          simp only [hfr, Bool.false_eq_true, if_false] at hr
          cases hbf : bestF m (padv now t) l l.length with
          | none =>
            simp only [hbf] at hr
            injection hr with h1 h2
            subst h1; subst h2
            exact poffer_full1 m wa t w hT hh hf hx rfl hs_ hfr hbf
          | some k =>
            obtain ⟨y, hy⟩ := best k hbf
            simp only [hbf, hy, Option.map_some, Option.getD_some] at hr
            injection hr with h1 h2
            subst h1; subst h2
            exact poffer_best1 m wa t w hT hh hf hx rfl hs_ hfr hbf hy
end Go.Proofs.Ytapdmlfjohiekaa
