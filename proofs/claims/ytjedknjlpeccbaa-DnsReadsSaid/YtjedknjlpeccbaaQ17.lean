/- Texts put together: Dw2, Dw3, Mak. -/
import Derived.Test.YtjedknjlpeccbaaQ1
import Derived.Test.YtjedknjlpeccbaaQ16
import Derived.OwnWalk
namespace Go.Proofs.Ytjedknjlpeccbaa
open Go.RowKit

theorem Mr.lens {w : World} {Q A O M : Option Addr} {qn qc an ac on oc mn mc : Nat} {m : Mn} (h : Mr w Q qn qc A an ac O on oc M mn mc m) : m.q.length = qn ∧ m.a.length = an ∧ m.o.length = on ∧ m.m.length = mn := by
  obtain ⟨hs, ha, ho, hm, q1, q2, a1, a2, o1, o2, m1, m2⟩ := h
  have e1 := q1.1.symm.trans q2.1
  have e2 := a1.1.symm.trans a2.1
  have e3 := o1.1.symm.trans o2.1
  have e4 := m1.1.symm.trans m2.1
  omega
theorem dget_is {A0 : Option Addr} {n c : Nat} {b : List UInt8} {m : Mn} {id fl : Int} {qn an on mn : Nat} (w : World) (sb : Sl w A0 n c b) (hg : getM b = .ok m) (hi : m.id = id) (hf : m.fl = fl) (h1 : m.q.length = qn) (h2 : m.a.length = an) (h3 : m.o.length = on) (h4 : m.m.length = mn) : Calls Try.prog 9 #[.slice A0 n c] w fun e w' => ∃ (Q : Option Addr) (qc : Nat) (A : Option Addr) (ac : Nat) (O : Option Addr) (oc : Nat) (M : Option Addr) (mc : Nat), e = .returned (.tuple #[.agg #[.int .i64 id, .int .i64 fl, .slice Q qn qc, .slice A an ac, .slice O on oc, .slice M mn mc], .int .i64 0]) ∧ Mr w' Q qn qc A an ac O on oc M mn mc m ∧ Below w.heap.size w w' := by
  refine (dget_ok w sb hg).mono ?_
  rintro e w' ⟨Q, qn', qc, A, an', ac, O, on', oc, M, mn', mc, rfl, hM, hb⟩
  obtain ⟨e1, e2, e3, e4⟩ := hM.lens
  obtain rfl := e1.symm.trans h1
  obtain rfl := e2.symm.trans h2
  obtain rfl := e3.symm.trans h3
  obtain rfl := e4.symm.trans h4
  subst hi; subst hf
  exact ⟨Q, qc, A, ac, O, oc, M, mc, rfl, hM, hb⟩
theorem rget_is {A0 : Option Addr} {n c : Nat} {b : List UInt8} {m : Mn} {id fl : Int} {qn an on mn : Nat} (w : World) (sb : Sl w A0 n c b) (hg : getM b = .ok m) (hi : m.id = id) (hf : m.fl = fl) (h1 : m.q.length = qn) (h2 : m.a.length = an) (h3 : m.o.length = on) (h4 : m.m.length = mn) : Calls Try.prog 11 #[.slice A0 n c] w fun e w' => ∃ (Q : Option Addr) (qc : Nat) (A : Option Addr) (ac : Nat) (O : Option Addr) (oc : Nat) (M : Option Addr) (mc : Nat), e = .returned (.tuple #[.agg #[.int .i64 id, .int .i64 fl, .slice Q qn qc, .slice A an ac, .slice O on oc, .slice M mn mc], .int .i64 0]) ∧ Mr w' Q qn qc A an ac O on oc M mn mc m ∧ Below w.heap.size w w' := by
  refine (rgetm_ok w sb hg).mono ?_
  rintro e w' ⟨Q, qn', qc, A, an', ac, O, on', oc, M, mn', mc, rfl, hM, hb⟩
  obtain ⟨e1, e2, e3, e4⟩ := hM.lens
  obtain rfl := e1.symm.trans h1
  obtain rfl := e2.symm.trans h2
  obtain rfl := e3.symm.trans h3
  obtain rfl := e4.symm.trans h4
  subst hi; subst hf
  exact ⟨Q, qc, A, ac, O, oc, M, mc, rfl, hM, hb⟩
theorem dput_sl {id fl : Int} {Q : Option Addr} {qn qc : Nat} {A : Option Addr} {an ac : Nat} {O : Option Addr} {on oc : Nat} {M : Option Addr} {mn mc : Nat} {m : Mn} {l : List UInt8} {y : Int} {k : Nat} (w : World) (hM : Mr w Q qn qc A an ac O on oc M mn mc m) (hi : m.id = id) (hf : m.fl = fl) (hb : Bm m) (hp : putM m = (l, y)) (hk : l.length = k) : Calls Try.prog 10 #[.agg #[.int .i64 id, .int .i64 fl, .slice Q qn qc, .slice A an ac, .slice O on oc, .slice M mn mc]] w fun e w' => ∃ B c, e = .returned (.tuple #[.slice B k c, .int .i64 y]) ∧ Sl w' B k c l ∧ Below w.heap.size w w' := by
  refine (dput_is w hM hi hf hb hp hk).mono ?_
  rintro e w' ⟨v, rfl, hv, hB⟩
  obtain ⟨B, c, rfl⟩ := own_val hv
  exact ⟨B, c, rfl, (own_sl hv).1, hB⟩
theorem rput_sl {id fl : Int} {Q : Option Addr} {qn qc : Nat} {A : Option Addr} {an ac : Nat} {O : Option Addr} {on oc : Nat} {M : Option Addr} {mn mc : Nat} {m : Mn} {l : List UInt8} {y : Int} {k : Nat} (w : World) (hM : Mr w Q qn qc A an ac O on oc M mn mc m) (hi : m.id = id) (hf : m.fl = fl) (hb : Bm m) (hp : putM m = (l, y)) (hk : l.length = k) : Calls Try.prog 15 #[.agg #[.int .i64 id, .int .i64 fl, .slice Q qn qc, .slice A an ac, .slice O on oc, .slice M mn mc]] w fun e w' => ∃ B c, e = .returned (.tuple #[.slice B k c, .int .i64 y]) ∧ Sl w' B k c l ∧ Below w.heap.size w w' := by
  refine (rput_is w hM hi hf hb hp).mono ?_
  rintro e w' ⟨B, n, c, rfl, hB, hb⟩
  obtain rfl : n = k := by have := hB.1; omega
  exact ⟨B, c, rfl, hB, hb⟩
def zM : Mn := ⟨0, 0, [], [], [], []⟩
theorem zero_mr (w : World) : Mr w none 0 0 none 0 0 none 0 0 none 0 0 zM := ⟨[], [], [], [], Sle.nil (by decide) qE_len _, All2.nil, Sle.nil (by decide) rE_len _, All2.nil, Sle.nil (by decide) rE_len _, All2.nil, Sle.nil (by decide) rE_len _, All2.nil⟩
theorem zero_b : Bm zM := ⟨⟨by decide, by decide⟩, fun q hq => by simp [zM] at hq, fun r hr => by simp [zM, allR] at hr⟩
theorem bm_parts {m : Mn} (h : Bm m) : partsM m ≤ 1000 := by have := h.1.1; omega
set_option linter.unusedVariables false in
set_option linter.unusedSimpArgs false in
set_option maxRecDepth 100000 in
set_option maxHeartbeats 16000000 in
theorem awake21_any (w : World) : Calls Try.prog 8 #[] w fun e w' => e = .returned (.bool true) ∧ Below w.heap.size w w' := by
  have bel := Below.refl w.heap.size w
  go_enter Try.func8, Try.ntmps8
  go_wp2_with fail
  with_reducible refine (lasks_any _).mono ?_
  rintro e w1 ⟨Qa, qca, rfl, hm_, b1⟩
  replace bel := bel.trans (b1.mono bel.size)
  clear b1
  have ka := Below.refl w1.heap.size w1
  have HMa := Lib.hid hm_
  clear hm_
  go_wp2_with fail
  with_reducible refine (dput_sl (id := 7) (fl := 256) (k := 21) _ (HMa.out.below ka) rfl rfl ask_b ask_put rfl).mono ?_
  rintro e w2 ⟨Apb, cpb, rfl, pb, b2⟩
  replace ka := ka.trans (b2.mono ka.size)
  replace bel := bel.trans (b2.mono bel.size)
  clear b2
  replace pb : Sl w2 (Apb) (21) (cpb) (ask21) := pb
  go_wp2_with fail
  with_reducible refine (dget_is (id := 7) (fl := 256) (qn := 1) (an := 0) (on := 0) (mn := 0) _ pb ask_get rfl rfl rfl rfl rfl rfl).mono ?_
  rintro e w3 ⟨Qm, qcm, Am, acm, Om, ocm, Mm, mcm, rfl, hm_, b3⟩
  replace pb := pb.below b3
  replace ka := ka.trans (b3.mono ka.size)
  replace bel := bel.trans (b3.mono bel.size)
  clear b3
  have km := Below.refl w3.heap.size w3
  have HMm := Lib.hid hm_
  clear hm_
  go_wp2_with (first | ((with_reducible show wpList _ _ _ (⟨some 3, _, _, _, _, _⟩ :: _) _ _); refine wpList_new_a rfl 26 rfl #[.int .i64 0, .int .i64 0, .slice none 0 0, .slice none 0 0, .slice none 0 0, .slice none 0 0] (by kernel_rfl) ?_; intro g3 w4 ge hh bb; have av_pb_mB := pb.av_new ge; have omB := Nat.le_trans bel.size ge; have pa_mB := Nat.le_trans ka.size ge; have pm_mB := Nat.le_trans km.size ge; replace pb := pb.below bb; replace ka := ka.trans (bb.mono ka.size); replace km := km.trans (bb.mono km.size); replace bel := bel.trans (bb.mono bel.size); have hmB := hh; clear hh ge bb) | ((with_reducible show wpList _ _ _ (⟨none, Op.store _ (.tmp 3) _, _, _, _, _⟩ :: _) _ _); refine wpList_store_blk rfl 26 (.tmp 3) (.tmp 14) rfl g3 rfl _ rfl _ 26 hmB (by rfl) (by kernel_rfl) (by kernel_rfl) ?_; intro w5 hq gr; replace pb := pb.away av_pb_mB gr; replace ka := below_grown ka gr pa_mB ka.size; replace km := below_grown km gr pm_mB km.size; replace bel := below_grown bel gr omB bel.size; clear hmB; have hmB := hq; clear hq gr; have R16 := Lib.hid (range_lit hmB 0 6 [.int .i64 7, .int .i64 256, .slice Qm 1 qcm, .slice Am 0 acm, .slice Om 0 ocm, .slice Mm 0 mcm] rfl)) | ((with_reducible show wpList _ _ _ (⟨some 16, _, _, _, _, _⟩ :: _) _ _); refine wpList_load_rng 26 (.tmp 3) rfl (by kernel_rfl) _ _ rfl _ R16.out _ Try.underlying26 rfl (by kernel_rfl) ?_))
  try clear R16
  with_reducible refine (drefuse_is _ (HMm.out.below km) ask_b).mono ?_
  rintro e w6 ⟨Qr, qcr, rfl, hm_, b6⟩
  replace hmB := blk_u hmB b6
  replace pb := pb.below b6
  replace ka := ka.trans (b6.mono ka.size)
  replace km := km.trans (b6.mono km.size)
  replace bel := bel.trans (b6.mono bel.size)
  clear b6
  rw [ask_fl]
  have kr := Below.refl w6.heap.size w6
  have HMr := Lib.hid hm_
  clear hm_
  go_wp2_with (first | ((with_reducible show wpList _ _ _ (⟨some 5, _, _, _, _, _⟩ :: _) _ _); refine wpList_new_a rfl 26 rfl #[.int .i64 0, .int .i64 0, .slice none 0 0, .slice none 0 0, .slice none 0 0, .slice none 0 0] (by kernel_rfl) ?_; intro g5 w7 ge hh bb; have d_mB_rB := ne_new (hlt hmB) ge; have av_pb_rB := pb.av_new ge; have orB := Nat.le_trans bel.size ge; have pa_rB := Nat.le_trans ka.size ge; have pm_rB := Nat.le_trans km.size ge; have pr_rB := Nat.le_trans kr.size ge; replace hmB := blk_u hmB bb; replace pb := pb.below bb; replace ka := ka.trans (bb.mono ka.size); replace km := km.trans (bb.mono km.size); replace kr := kr.trans (bb.mono kr.size); replace bel := bel.trans (bb.mono bel.size); have hrB := hh; clear hh ge bb) | ((with_reducible show wpList _ _ _ (⟨none, Op.store _ (.tmp 5) _, _, _, _, _⟩ :: _) _ _); refine wpList_store_blk rfl 26 (.tmp 5) (.tmp 17) rfl g5 rfl _ rfl _ 26 hrB (by rfl) (by kernel_rfl) (by kernel_rfl) ?_; intro w8 hq gr; replace pb := pb.away av_pb_rB gr; replace hmB := blk_a hmB gr d_mB_rB; replace ka := below_grown ka gr pa_rB ka.size; replace km := below_grown km gr pm_rB km.size; replace kr := below_grown kr gr pr_rB kr.size; replace bel := below_grown bel gr orB bel.size; clear hrB; have hrB := hq; clear hq gr; have R30 := Lib.hid (range_lit hmB 0 6 [.int .i64 7, .int .i64 256, .slice Qm 1 qcm, .slice Am 0 acm, .slice Om 0 ocm, .slice Mm 0 mcm] rfl)) | ((with_reducible show wpList _ _ _ (⟨some 30, _, _, _, _, _⟩ :: _) _ _); refine wpList_load_rng 26 (.tmp 3) rfl (by kernel_rfl) _ _ rfl _ R30.out _ Try.underlying26 rfl (by kernel_rfl) ?_))
  try clear R30
  with_reducible refine (lown_any _ (HMm.out.below km) (bm_parts ask_b)).mono ?_
  rintro e w9 ⟨Qp, qcp, Ap, acp, Op, ocp, Mp, mcp, rfl, hm_, b9⟩
  replace hmB := blk_u hmB b9
  replace hrB := blk_u hrB b9
  replace pb := pb.below b9
  replace ka := ka.trans (b9.mono ka.size)
  replace km := km.trans (b9.mono km.size)
  replace kr := kr.trans (b9.mono kr.size)
  replace bel := bel.trans (b9.mono bel.size)
  clear b9
  have kp := Below.refl w9.heap.size w9
  have HMp := Lib.hid hm_
  clear hm_
  go_wp2_with fail
  with_reducible refine (lasks_any _).mono ?_
  rintro e w10 ⟨Qd, qcd, rfl, hm_, b10⟩
  replace hmB := blk_u hmB b10
  replace hrB := blk_u hrB b10
  replace pb := pb.below b10
  replace ka := ka.trans (b10.mono ka.size)
  replace km := km.trans (b10.mono km.size)
  replace kr := kr.trans (b10.mono kr.size)
  replace kp := kp.trans (b10.mono kp.size)
  replace bel := bel.trans (b10.mono bel.size)
  clear b10
  have kd := Below.refl w10.heap.size w10
  have HMd := Lib.hid hm_
  clear hm_
  go_wp2_with fail
  with_reducible refine (lown_any _ (HMd.out.below kd) (bm_parts ask_b)).mono ?_
  rintro e w11 ⟨Qs, qcs, As, acs, Os, ocs, Ms, mcs, rfl, hm_, b11⟩
  replace hmB := blk_u hmB b11
  replace hrB := blk_u hrB b11
  replace pb := pb.below b11
  replace ka := ka.trans (b11.mono ka.size)
  replace km := km.trans (b11.mono km.size)
  replace kr := kr.trans (b11.mono kr.size)
  replace kp := kp.trans (b11.mono kp.size)
  replace kd := kd.trans (b11.mono kd.size)
  replace bel := bel.trans (b11.mono bel.size)
  clear b11
  have ks := Below.refl w11.heap.size w11
  have HMs := Lib.hid hm_
  clear hm_
  go_wp2_with fail
  with_reducible refine (rsame_is _ (HMp.out.below kp) (HMs.out.below ks) rfl rfl ask_b).mono ?_
  rintro e w12 ⟨rfl, b12⟩
  replace hmB := blk_u hmB b12
  replace hrB := blk_u hrB b12
  replace pb := pb.below b12
  replace ka := ka.trans (b12.mono ka.size)
  replace km := km.trans (b12.mono km.size)
  replace kr := kr.trans (b12.mono kr.size)
  replace kp := kp.trans (b12.mono kp.size)
  replace kd := kd.trans (b12.mono kd.size)
  replace ks := ks.trans (b12.mono ks.size)
  replace bel := bel.trans (b12.mono bel.size)
  clear b12
  have R38 := cell_lit hrB 0 _ rfl
  have R43 := cell_lit hrB 1 _ rfl
  have R48 := cell_lit hrB 2 _ rfl
  go_wp2_with fail
  clear R38 R43 R48
  go_ret
  exact ⟨rfl, bel⟩
set_option linter.unusedVariables false in
set_option linter.unusedSimpArgs false in
set_option maxRecDepth 100000 in
set_option maxHeartbeats 16000000 in
theorem dnsBack_walk (A : Option Addr) (n c : Nat) (b : List UInt8) (w : World) (sb : Sl w A n c b) : Calls Try.prog 6 #[.slice A n c] w fun e w' => e = .returned (.bool true) ∧ Below w.heap.size w w' := by
  obtain ⟨ii, hii, hz0, hz1, hz2⟩ := info_parts Try.info5
  have bel := Below.refl w.heap.size w
  go_enter Try.func6, Try.ntmps6
  go_wp2_with fail
  with_reducible refine (awake21_any _).mono ?_
  rintro e w1 ⟨rfl, b1⟩
  replace sb := sb.below b1
  replace bel := bel.trans (b1.mono bel.size)
  clear b1
  by_cases h : n ≤ 1600
  rotate_left
  · have h1 : (1600 : Int) < n := by omega
    clear h
    go_wp2_with fail
    go_ret
    exact ⟨rfl, bel⟩
  have h1 : decide ((1600 : Int) < n) = false := decide_eq_false (by omega)
  rcases hg_ : getM b with er | m
  · have HGE := Lib.hid hg_
    clear hg_
    obtain ⟨y, hy_⟩ : ∃ u_, (er : Int) = u_ := ⟨_, rfl⟩
    have HY := Lib.hid hy_
    clear hy_
    have y0 : y ≠ 0 := by have h_ := getM_err HGE.out; have h1_ := HY.out; omega
    have y1 : (y != 0) = true := by simpa using y0
    clear y0
    go_wp2_with (first | ((with_reducible show wpList _ _ _ (⟨some 15, _, _, _, _, _⟩ :: _) _ _); refine wpList_lit_n rfl 30 5 0 _ rfl #[] (.int .u8 0) Try.underlying30 (by kernel_rfl) 1 (by kernel_rfl) (by decide) (by kernel_rfl) ?_; intro g15 w2 ge lt hh bb; have hl : w2.heap[g15]? = some (.cells (([] : List UInt8).map u8v).toArray 5 (0, 0)) := (by simpa [u8v, byteOf_val] using hh); have e0w := own_lit (B := w1.heap.size) ([]) hl ge 0 rfl (by simp [maxLen]); have e0 := (own_sl e0w).1; have e0lo := bel.size; clear hl; have e0ge := ge; have lz_e0 := bb.size; have bl_sb_e0 := sb.bl_new; replace sb := sb.below bb; replace bel := bel.trans (bb.mono bel.size); clear hh lt ge bb) | ((with_reducible show wpList _ _ _ (⟨some 17, _, _, _, _, _⟩ :: _) _ _); refine wpList_append_bb _ rfl (.tmp 15) (.tmp 16) 30 rfl (w1.heap.size) 5 ii (.int .u8 0) Try.underlying30 hii hz0 hz1 hz2 rfl _ (0) ([]) rfl e0w (A) (n) (c) (b) rfl sb (by omega) lz_e0 ?_; intro v17 w3 own_ bb; replace sb := sb.under bl_sb_e0 bb; replace bel := bel.trans (bb.mono e0lo); have lz_cp := Nat.le_trans lz_e0 bb.size; clear bb; clear e0 e0w lz_e0; replace own_ : w3.ownsRow (w1.heap.size) 5 1 v17 (n) ((b : List UInt8).map u8v) := (by simpa using own_); obtain ⟨A17, c17, rfl⟩ := own_val own_; have cpw := own_; have cp := (own_sl own_).1; have fr_cp := (own_sl own_).2; clear own_))
    with_reducible refine (dget_no _ cp (by omega) HGE.out y HY.out).mono ?_
    rintro e w4 ⟨rfl, b4⟩
    replace sb := sb.below b4
    replace cp := cp.below b4
    replace cpw := own_under cpw b4
    replace lz_cp := Nat.le_trans lz_cp b4.size
    replace bel := bel.trans (b4.mono bel.size)
    clear b4
    go_wp2_with (first | ((with_reducible show wpList _ _ _ (⟨some 3, _, _, _, _, _⟩ :: _) _ _); refine wpList_new_a rfl 26 rfl #[.int .i64 0, .int .i64 0, .slice none 0 0, .slice none 0 0, .slice none 0 0, .slice none 0 0] (by kernel_rfl) ?_; intro g3 w5 ge hh bb; have av_sb_mB := sb.av_new ge; have av_cp_mB := cp.av_new ge; have of_cp_mB := own_new cpw ge; have omB := Nat.le_trans bel.size ge; replace sb := sb.below bb; replace cp := cp.below bb; replace cpw := own_under cpw bb; replace lz_cp := Nat.le_trans lz_cp bb.size; replace bel := bel.trans (bb.mono bel.size); have hmB := hh; clear hh ge bb) | ((with_reducible show wpList _ _ _ (⟨none, Op.store _ (.tmp 3) _, _, _, _, _⟩ :: _) _ _); refine wpList_store_blk rfl 26 (.tmp 3) (.tmp 19) rfl g3 rfl _ rfl _ 26 hmB (by rfl) (by kernel_rfl) (by kernel_rfl) ?_; intro w6 hq gr; replace sb := sb.away av_sb_mB gr; replace cp := cp.away av_cp_mB gr; replace cpw := own_off cpw of_cp_mB gr; replace lz_cp := Nat.le_trans lz_cp gr.size; replace bel := below_grown bel gr omB bel.size; clear hmB; have hmB := hq; clear hq gr))
    go_ret
    exact ⟨rfl, bel⟩
  have HGM := Lib.hid hg_
  clear hg_
  have HB := Lib.hid (getM_b HGM.out)
  obtain ⟨id, hid_⟩ : ∃ u_, m.id = u_ := ⟨_, rfl⟩
  have HUid := Lib.hid hid_
  clear hid_
  obtain ⟨fl, hfl_⟩ : ∃ u_, m.fl = u_ := ⟨_, rfl⟩
  have HUfl := Lib.hid hfl_
  clear hfl_
  obtain ⟨qn, hqn_⟩ : ∃ u_, m.q.length = u_ := ⟨_, rfl⟩
  have HUqn := Lib.hid hqn_
  clear hqn_
  obtain ⟨an, han_⟩ : ∃ u_, m.a.length = u_ := ⟨_, rfl⟩
  have HUan := Lib.hid han_
  clear han_
  obtain ⟨on, hon_⟩ : ∃ u_, m.o.length = u_ := ⟨_, rfl⟩
  have HUon := Lib.hid hon_
  clear hon_
  obtain ⟨mn, hmn_⟩ : ∃ u_, m.m.length = u_ := ⟨_, rfl⟩
  have HUmn := Lib.hid hmn_
  clear hmn_
  obtain ⟨L2, hL_⟩ : ∃ u_, encM m = u_ := ⟨_, rfl⟩
  have HL2 := Lib.hid hL_
  clear hL_
  obtain ⟨k2, hk_⟩ : ∃ u_, L2.length = u_ := ⟨_, rfl⟩
  have HK2 := Lib.hid hk_
  clear hk_
  go_wp2_with (first | ((with_reducible show wpList _ _ _ (⟨some 15, _, _, _, _, _⟩ :: _) _ _); refine wpList_lit_n rfl 30 5 0 _ rfl #[] (.int .u8 0) Try.underlying30 (by kernel_rfl) 1 (by kernel_rfl) (by decide) (by kernel_rfl) ?_; intro g15 w2 ge lt hh bb; have hl : w2.heap[g15]? = some (.cells (([] : List UInt8).map u8v).toArray 5 (0, 0)) := (by simpa [u8v, byteOf_val] using hh); have e0w := own_lit (B := w1.heap.size) ([]) hl ge 0 rfl (by simp [maxLen]); have e0 := (own_sl e0w).1; have e0lo := bel.size; clear hl; have e0ge := ge; have lz_e0 := bb.size; have bl_sb_e0 := sb.bl_new; replace sb := sb.below bb; replace bel := bel.trans (bb.mono bel.size); clear hh lt ge bb) | ((with_reducible show wpList _ _ _ (⟨some 17, _, _, _, _, _⟩ :: _) _ _); refine wpList_append_bb _ rfl (.tmp 15) (.tmp 16) 30 rfl (w1.heap.size) 5 ii (.int .u8 0) Try.underlying30 hii hz0 hz1 hz2 rfl _ (0) ([]) rfl e0w (A) (n) (c) (b) rfl sb (by omega) lz_e0 ?_; intro v17 w3 own_ bb; replace sb := sb.under bl_sb_e0 bb; replace bel := bel.trans (bb.mono e0lo); have lz_cp := Nat.le_trans lz_e0 bb.size; clear bb; clear e0 e0w lz_e0; replace own_ : w3.ownsRow (w1.heap.size) 5 1 v17 (n) ((b : List UInt8).map u8v) := (by simpa using own_); obtain ⟨A17, c17, rfl⟩ := own_val own_; have cpw := own_; have cp := (own_sl own_).1; have fr_cp := (own_sl own_).2; clear own_))
  with_reducible refine (dget_is (id := id) (fl := fl) (qn := qn) (an := an) (on := on) (mn := mn) _ cp HGM.out HUid.out HUfl.out HUqn.out HUan.out HUon.out HUmn.out).mono ?_
  rintro e w4 ⟨Qm, qcm, Am, acm, Om, ocm, Mm, mcm, rfl, hm_, b4⟩
  replace sb := sb.below b4
  replace cp := cp.below b4
  replace cpw := own_under cpw b4
  replace lz_cp := Nat.le_trans lz_cp b4.size
  replace bel := bel.trans (b4.mono bel.size)
  clear b4
  have km := Below.refl w4.heap.size w4
  have HMm := Lib.hid hm_
  clear hm_
  by_cases hl_ : (encM m).length ≤ 1472
  rotate_left
  · have HP : Hid (putM m = ([], 2)) := Lib.hid (by rw [put_of_get HGM.out, if_neg hl_])
    clear hl_
    go_wp2_with (first | ((with_reducible show wpList _ _ _ (⟨some 3, _, _, _, _, _⟩ :: _) _ _); refine wpList_new_a rfl 26 rfl #[.int .i64 0, .int .i64 0, .slice none 0 0, .slice none 0 0, .slice none 0 0, .slice none 0 0] (by kernel_rfl) ?_; intro g3 w5 ge hh bb; have av_sb_mB := sb.av_new ge; have av_cp_mB := cp.av_new ge; have of_cp_mB := own_new cpw ge; have omB := Nat.le_trans bel.size ge; have pm_mB := Nat.le_trans km.size ge; replace sb := sb.below bb; replace cp := cp.below bb; replace cpw := own_under cpw bb; replace lz_cp := Nat.le_trans lz_cp bb.size; replace km := km.trans (bb.mono km.size); replace bel := bel.trans (bb.mono bel.size); have hmB := hh; clear hh ge bb) | ((with_reducible show wpList _ _ _ (⟨none, Op.store _ (.tmp 3) _, _, _, _, _⟩ :: _) _ _); refine wpList_store_blk rfl 26 (.tmp 3) (.tmp 19) rfl g3 rfl _ rfl _ 26 hmB (by rfl) (by kernel_rfl) (by kernel_rfl) ?_; intro w6 hq gr; replace sb := sb.away av_sb_mB gr; replace cp := cp.away av_cp_mB gr; replace cpw := own_off cpw of_cp_mB gr; replace lz_cp := Nat.le_trans lz_cp gr.size; replace km := below_grown km gr pm_mB km.size; replace bel := below_grown bel gr omB bel.size; clear hmB; have hmB := hq; clear hq gr; have R24 := Lib.hid (range_lit hmB 0 6 [.int .i64 id, .int .i64 fl, .slice Qm qn qcm, .slice Am an acm, .slice Om on ocm, .slice Mm mn mcm] rfl)) | ((with_reducible show wpList _ _ _ (⟨some 24, _, _, _, _, _⟩ :: _) _ _); refine wpList_load_rng 26 (.tmp 3) rfl (by kernel_rfl) _ _ rfl _ R24.out _ Try.underlying26 rfl (by kernel_rfl) ?_))
    try clear R24
    with_reducible refine (dput_sl (id := id) (fl := fl) (k := 0) _ (HMm.out.below km) HUid.out HUfl.out HB.out HP.out rfl).mono ?_
    rintro e w7 ⟨Apb, cpb, rfl, pb, b7⟩
    replace hmB := blk_u hmB b7
    replace sb := sb.below b7
    replace cp := cp.below b7
    replace cpw := own_under cpw b7
    replace lz_cp := Nat.le_trans lz_cp b7.size
    replace km := km.trans (b7.mono km.size)
    replace bel := bel.trans (b7.mono bel.size)
    clear b7
    replace pb : Sl w7 (Apb) (0) (cpb) ([]) := pb
    go_wp2_with fail
    go_ret
    exact ⟨rfl, bel⟩
  have HP : Hid (putM m = (L2, 0)) := Lib.hid (by rw [put_of_get HGM.out, if_pos hl_, HL2.out])
  have HG2 : Hid (getM L2 = .ok m) := Lib.hid (by rw [← HL2.out]; exact get_put HGM.out hl_)
  clear hl_
  go_wp2_with (first | ((with_reducible show wpList _ _ _ (⟨some 3, _, _, _, _, _⟩ :: _) _ _); refine wpList_new_a rfl 26 rfl #[.int .i64 0, .int .i64 0, .slice none 0 0, .slice none 0 0, .slice none 0 0, .slice none 0 0] (by kernel_rfl) ?_; intro g3 w5 ge hh bb; have av_sb_mB := sb.av_new ge; have av_cp_mB := cp.av_new ge; have of_cp_mB := own_new cpw ge; have omB := Nat.le_trans bel.size ge; have pm_mB := Nat.le_trans km.size ge; replace sb := sb.below bb; replace cp := cp.below bb; replace cpw := own_under cpw bb; replace lz_cp := Nat.le_trans lz_cp bb.size; replace km := km.trans (bb.mono km.size); replace bel := bel.trans (bb.mono bel.size); have hmB := hh; clear hh ge bb) | ((with_reducible show wpList _ _ _ (⟨none, Op.store _ (.tmp 3) _, _, _, _, _⟩ :: _) _ _); refine wpList_store_blk rfl 26 (.tmp 3) (.tmp 19) rfl g3 rfl _ rfl _ 26 hmB (by rfl) (by kernel_rfl) (by kernel_rfl) ?_; intro w6 hq gr; replace sb := sb.away av_sb_mB gr; replace cp := cp.away av_cp_mB gr; replace cpw := own_off cpw of_cp_mB gr; replace lz_cp := Nat.le_trans lz_cp gr.size; replace km := below_grown km gr pm_mB km.size; replace bel := below_grown bel gr omB bel.size; clear hmB; have hmB := hq; clear hq gr; have R24 := Lib.hid (range_lit hmB 0 6 [.int .i64 id, .int .i64 fl, .slice Qm qn qcm, .slice Am an acm, .slice Om on ocm, .slice Mm mn mcm] rfl)) | ((with_reducible show wpList _ _ _ (⟨some 24, _, _, _, _, _⟩ :: _) _ _); refine wpList_load_rng 26 (.tmp 3) rfl (by kernel_rfl) _ _ rfl _ R24.out _ Try.underlying26 rfl (by kernel_rfl) ?_))
  try clear R24
  with_reducible refine (dput_sl (id := id) (fl := fl) (k := k2) _ (HMm.out.below km) HUid.out HUfl.out HB.out HP.out HK2.out).mono ?_
  rintro e w7 ⟨Apb, cpb, rfl, pb, b7⟩
  replace hmB := blk_u hmB b7
  replace sb := sb.below b7
  replace cp := cp.below b7
  replace cpw := own_under cpw b7
  replace lz_cp := Nat.le_trans lz_cp b7.size
  replace km := km.trans (b7.mono km.size)
  replace bel := bel.trans (b7.mono bel.size)
  clear b7
  replace pb : Sl w7 (Apb) (k2) (cpb) (L2) := pb
  go_wp2_with fail
  with_reducible refine (dget_is (id := id) (fl := fl) (qn := qn) (an := an) (on := on) (mn := mn) _ pb HG2.out HUid.out HUfl.out HUqn.out HUan.out HUon.out HUmn.out).mono ?_
  rintro e w8 ⟨Qn, qcn, An, acn, On, ocn, Mn, mcn, rfl, hm_, b8⟩
  replace hmB := blk_u hmB b8
  replace sb := sb.below b8
  replace cp := cp.below b8
  replace cpw := own_under cpw b8
  replace pb := pb.below b8
  replace lz_cp := Nat.le_trans lz_cp b8.size
  replace km := km.trans (b8.mono km.size)
  replace bel := bel.trans (b8.mono bel.size)
  clear b8
  have kn := Below.refl w8.heap.size w8
  have HMn := Lib.hid hm_
  clear hm_
  go_wp2_with (first | ((with_reducible show wpList _ _ _ (⟨some 7, _, _, _, _, _⟩ :: _) _ _); refine wpList_new_a rfl 26 rfl #[.int .i64 0, .int .i64 0, .slice none 0 0, .slice none 0 0, .slice none 0 0, .slice none 0 0] (by kernel_rfl) ?_; intro g7 w9 ge hh bb; have d_mB_nB := ne_new (hlt hmB) ge; have av_sb_nB := sb.av_new ge; have av_cp_nB := cp.av_new ge; have of_cp_nB := own_new cpw ge; have av_pb_nB := pb.av_new ge; have onB := Nat.le_trans bel.size ge; have pm_nB := Nat.le_trans km.size ge; have pn_nB := Nat.le_trans kn.size ge; replace hmB := blk_u hmB bb; replace sb := sb.below bb; replace cp := cp.below bb; replace cpw := own_under cpw bb; replace pb := pb.below bb; replace lz_cp := Nat.le_trans lz_cp bb.size; replace km := km.trans (bb.mono km.size); replace kn := kn.trans (bb.mono kn.size); replace bel := bel.trans (bb.mono bel.size); have hnB := hh; clear hh ge bb) | ((with_reducible show wpList _ _ _ (⟨none, Op.store _ (.tmp 7) _, _, _, _, _⟩ :: _) _ _); refine wpList_store_blk rfl 26 (.tmp 7) (.tmp 35) rfl g7 rfl _ rfl _ 26 hnB (by rfl) (by kernel_rfl) (by kernel_rfl) ?_; intro w10 hq gr; replace sb := sb.away av_sb_nB gr; replace cp := cp.away av_cp_nB gr; replace cpw := own_off cpw of_cp_nB gr; replace pb := pb.away av_pb_nB gr; replace lz_cp := Nat.le_trans lz_cp gr.size; replace hmB := blk_a hmB gr d_mB_nB; replace km := below_grown km gr pm_nB km.size; replace kn := below_grown kn gr pn_nB kn.size; replace bel := below_grown bel gr onB bel.size; clear hnB; have hnB := hq; clear hq gr))
  replace bel := bel.drew
  replace hmB : w10.drew.heap[g3]? = _ := hmB
  replace hnB : w10.drew.heap[g7]? = _ := hnB
  replace sb := sb.drew
  replace cp := cp.drew
  replace cpw : w10.drew.ownsRow _ _ _ _ _ _ := cpw
  replace lz_cp : _ ≤ w10.drew.heap.size := lz_cp
  replace pb := pb.drew
  replace km := km.drew
  replace kn := kn.drew
  refine wp_region_held_drew (S := fun W => W.heap[g7]? = some (.cells #[.int .i64 id, .int .i64 fl, .slice Qn qn qcn, .slice An an acn, .slice On on ocn, .slice Mn mn mcn] 26 (0, 0)) ∧ W.heap[g3]? = some (.cells #[.int .i64 id, .int .i64 fl, .slice Qm qn qcm, .slice Am an acm, .slice Om on ocm, .slice Mm mn mcm] 26 (0, 0))) (by kernel_rfl) ⟨hnB, hmB⟩ (fun hH => ?_)
  generalize w10.drew = w11 at bel hmB hnB sb cp pb cpw km kn lz_cp hH ⊢
  refine wpAnyH_take (i := 0) (v := ?_) rfl (by kernel_rfl) (by kernel_rfl) (by kernel_rfl) (fun _ _ _ h => h) (Or.inl ⟨by rfl, ?_⟩) hH ?_
  rotate_left
  · ((intro W hW; clear hW; go_simp) <;> with_reducible rfl)
  simp only [Act.put, List.getElem_toArray, List.getElem_cons_zero, List.setIfInBounds_toArray, List.set_cons_zero, List.set_cons_succ]
  refine wpAnyH_take (i := 1) (v := ?_) rfl (by kernel_rfl) (by kernel_rfl) (by kernel_rfl) (fun _ _ _ h => h) (Or.inl ⟨by rfl, ?_⟩) hH ?_
  rotate_left
  · ((intro W hW; clear hW; go_simp) <;> with_reducible rfl)
  simp only [sq3, sq4]
  refine wpAnyH_take (i := 2) (v := ?_) rfl (by kernel_rfl) (by kernel_rfl) (by kernel_rfl) (fun _ _ _ h => h) (Or.inl ⟨by rfl, ?_⟩) hH ?_
  rotate_left
  · ((intro W hW; clear hW; go_simp) <;> with_reducible rfl)
  simp only [sq3, sq4]
  refine wpAnyH_take (i := 3) (v := .agg #[.int .i64 id, .int .i64 fl, .slice Qn qn qcn, .slice An an acn, .slice On on ocn, .slice Mn mn mcn]) rfl (by kernel_rfl) (by kernel_rfl) (by kernel_rfl) (fun _ _ _ h => h) (yieldsIf_load_part (by kernel_rfl) 26 _ rfl g7 0 6 rfl _ 26 (0, 0) (fun W hW => hW.1) _ rfl _ Try.underlying26 rfl (by kernel_rfl)) hH ?_
  simp only [sq3, sq4]
  refine wpAnyH_take (i := 5) (v := .agg #[.int .i64 id, .int .i64 fl, .slice Qm qn qcm, .slice Am an acm, .slice Om on ocm, .slice Mm mn mcm]) rfl (by kernel_rfl) (by kernel_rfl) (by kernel_rfl) (fun _ _ _ h => h) (yieldsIf_load_part (by kernel_rfl) 26 _ rfl g3 0 6 rfl _ 26 (0, 0) (fun W hW => hW.2) _ rfl _ Try.underlying26 rfl (by kernel_rfl)) hH ?_
  simp only [sq3, sq4]
  refine wpAnyH_ready (rs := [4]) (by kernel_rfl) (by simp) ?_
  refine AllReadyH.cons (o := _) rfl (fun K hK => ?_) AllReadyH.nil
  simp only [sq3]
  go_simp
  with_reducible refine (lown_any _ (HMn.out.below kn) (bm_parts HB.out)).mono ?_
  rintro e w12 ⟨Qp, qcp, Ap, acp, Op, ocp, Mp, mcp, rfl, hm_, b12⟩
  dsimp only
  replace hmB := blk_u hmB b12
  replace hnB := blk_u hnB b12
  replace sb := sb.below b12
  replace cp := cp.below b12
  replace cpw := own_under cpw b12
  replace pb := pb.below b12
  replace lz_cp := Nat.le_trans lz_cp b12.size
  replace km := km.trans (b12.mono km.size)
  replace kn := kn.trans (b12.mono kn.size)
  replace bel := bel.trans (b12.mono bel.size)
  clear b12
  have kp := Below.refl w12.heap.size w12
  have HMp := Lib.hid hm_
  clear hm_
  refine hK.out _ _ ⟨hnB, hmB⟩ (fun hH13 => ?_)
  clear hK K
  refine wpAnyH_ready (rs := [6]) (by kernel_rfl) (by simp) ?_
  refine AllReadyH.cons (o := _) rfl (fun K hK => ?_) AllReadyH.nil
  simp only [sq3]
  go_simp
  with_reducible refine (lown_any _ (HMm.out.below km) (bm_parts HB.out)).mono ?_
  rintro e w14 ⟨Qs, qcs, As, acs, Os, ocs, Ms, mcs, rfl, hm_, b14⟩
  dsimp only
  replace hmB := blk_u hmB b14
  replace hnB := blk_u hnB b14
  replace sb := sb.below b14
  replace cp := cp.below b14
  replace cpw := own_under cpw b14
  replace pb := pb.below b14
  replace lz_cp := Nat.le_trans lz_cp b14.size
  replace km := km.trans (b14.mono km.size)
  replace kn := kn.trans (b14.mono kn.size)
  replace kp := kp.trans (b14.mono kp.size)
  replace bel := bel.trans (b14.mono bel.size)
  clear b14
  have ks := Below.refl w14.heap.size w14
  have HMs := Lib.hid hm_
  clear hm_
  refine hK.out _ _ ⟨hnB, hmB⟩ (fun hH15 => ?_)
  clear hK K
  refine wpAnyH_ready (rs := [7]) (by kernel_rfl) (by simp) ?_
  refine AllReadyH.cons (o := _) rfl (fun K hK => ?_) AllReadyH.nil
  simp only [sq3]
  go_simp
  with_reducible refine (rsame_is _ (HMp.out.below kp) (HMs.out.below ks) rfl rfl HB.out).mono ?_
  rintro e w16 ⟨rfl, b16⟩
  dsimp only
  replace hmB := blk_u hmB b16
  replace hnB := blk_u hnB b16
  replace sb := sb.below b16
  replace cp := cp.below b16
  replace cpw := own_under cpw b16
  replace pb := pb.below b16
  replace lz_cp := Nat.le_trans lz_cp b16.size
  replace km := km.trans (b16.mono km.size)
  replace kn := kn.trans (b16.mono kn.size)
  replace kp := kp.trans (b16.mono kp.size)
  replace ks := ks.trans (b16.mono ks.size)
  replace bel := bel.trans (b16.mono bel.size)
  clear b16
  refine hK.out _ _ ⟨hnB, hmB⟩ (fun hH17 => ?_)
  clear hK K
  refine wpAnyH_take (i := 8) (v := ?_) rfl (by kernel_rfl) (by kernel_rfl) (by kernel_rfl) (fun _ _ _ h => h) (Or.inl ⟨by rfl, ?_⟩) hH17 ?_
  rotate_left
  · ((intro W hW; clear hW; go_simp) <;> with_reducible rfl)
  simp only [sq3, sq4]
  refine wpAnyH_take (i := 9) (v := ?_) rfl (by kernel_rfl) (by kernel_rfl) (by kernel_rfl) (fun _ _ _ h => h) (Or.inl ⟨by rfl, ?_⟩) hH17 ?_
  rotate_left
  · ((intro W hW; clear hW; go_simp) <;> with_reducible rfl)
  simp only [sq3, sq4]
  refine wpAnyH_done (by kernel_rfl) ?_ _
  go_wp2_with fail
  go_ret
  exact ⟨rfl, bel⟩
set_option linter.unusedVariables false in
set_option linter.unusedSimpArgs false in
set_option maxRecDepth 100000 in
set_option maxHeartbeats 16000000 in
theorem dnsReads_walk (A : Option Addr) (n c : Nat) (b : List UInt8) (w : World) (sb : Sl w A n c b) : Calls Try.prog 4 #[.slice A n c] w fun e w' => e = .returned (.bool true) ∧ Below w.heap.size w w' := by
  obtain ⟨ii, hii, hz0, hz1, hz2⟩ := info_parts Try.info5
  have bel := Below.refl w.heap.size w
  go_enter Try.func4, Try.ntmps4
  go_wp2_with fail
  with_reducible refine (awake21_any _).mono ?_
  rintro e w1 ⟨rfl, b1⟩
  replace sb := sb.below b1
  replace bel := bel.trans (b1.mono bel.size)
  clear b1
  by_cases h : n ≤ 1600
  rotate_left
  · have h1 : (1600 : Int) < n := by omega
    clear h
    go_wp2_with fail
    go_ret
    exact ⟨rfl, bel⟩
  have h1 : decide ((1600 : Int) < n) = false := decide_eq_false (by omega)
  rcases hg_ : getM b with er | m
  · have HGE := Lib.hid hg_
    clear hg_
    obtain ⟨y, hy_⟩ : ∃ u_, (er : Int) = u_ := ⟨_, rfl⟩
    have HY := Lib.hid hy_
    clear hy_
    have y0 : y ≠ 0 := by have h_ := getM_err HGE.out; have h1_ := HY.out; omega
    have y1 : (y != 0) = true := by simpa using y0
    clear y0
    go_wp2_with (first | ((with_reducible show wpList _ _ _ (⟨some 13, _, _, _, _, _⟩ :: _) _ _); refine wpList_lit_n rfl 30 5 0 _ rfl #[] (.int .u8 0) Try.underlying30 (by kernel_rfl) 1 (by kernel_rfl) (by decide) (by kernel_rfl) ?_; intro g13 w2 ge lt hh bb; have hl : w2.heap[g13]? = some (.cells (([] : List UInt8).map u8v).toArray 5 (0, 0)) := (by simpa [u8v, byteOf_val] using hh); have e0w := own_lit (B := w1.heap.size) ([]) hl ge 0 rfl (by simp [maxLen]); have e0 := (own_sl e0w).1; have e0lo := bel.size; clear hl; have e0ge := ge; have lz_e0 := bb.size; have bl_sb_e0 := sb.bl_new; replace sb := sb.below bb; replace bel := bel.trans (bb.mono bel.size); clear hh lt ge bb) | ((with_reducible show wpList _ _ _ (⟨some 15, _, _, _, _, _⟩ :: _) _ _); refine wpList_append_bb _ rfl (.tmp 13) (.tmp 14) 30 rfl (w1.heap.size) 5 ii (.int .u8 0) Try.underlying30 hii hz0 hz1 hz2 rfl _ (0) ([]) rfl e0w (A) (n) (c) (b) rfl sb (by omega) lz_e0 ?_; intro v15 w3 own_ bb; replace sb := sb.under bl_sb_e0 bb; replace bel := bel.trans (bb.mono e0lo); have lz_cp := Nat.le_trans lz_e0 bb.size; clear bb; clear e0 e0w lz_e0; replace own_ : w3.ownsRow (w1.heap.size) 5 1 v15 (n) ((b : List UInt8).map u8v) := (by simpa using own_); obtain ⟨A15, c15, rfl⟩ := own_val own_; have cpw := own_; have cp := (own_sl own_).1; have fr_cp := (own_sl own_).2; clear own_))
    with_reducible refine (dget_no _ cp (by omega) HGE.out y HY.out).mono ?_
    rintro e w4 ⟨rfl, b4⟩
    replace sb := sb.below b4
    replace cp := cp.below b4
    replace cpw := own_under cpw b4
    replace lz_cp := Nat.le_trans lz_cp b4.size
    replace bel := bel.trans (b4.mono bel.size)
    clear b4
    go_wp2_with (first | ((with_reducible show wpList _ _ _ (⟨some 3, _, _, _, _, _⟩ :: _) _ _); refine wpList_new_a rfl 26 rfl #[.int .i64 0, .int .i64 0, .slice none 0 0, .slice none 0 0, .slice none 0 0, .slice none 0 0] (by kernel_rfl) ?_; intro g3 w5 ge hh bb; have av_sb_mB := sb.av_new ge; have av_cp_mB := cp.av_new ge; have of_cp_mB := own_new cpw ge; have omB := Nat.le_trans bel.size ge; replace sb := sb.below bb; replace cp := cp.below bb; replace cpw := own_under cpw bb; replace lz_cp := Nat.le_trans lz_cp bb.size; replace bel := bel.trans (bb.mono bel.size); have hmB := hh; clear hh ge bb) | ((with_reducible show wpList _ _ _ (⟨none, Op.store _ (.tmp 3) _, _, _, _, _⟩ :: _) _ _); refine wpList_store_blk rfl 26 (.tmp 3) (.tmp 17) rfl g3 rfl _ rfl _ 26 hmB (by rfl) (by kernel_rfl) (by kernel_rfl) ?_; intro w6 hq gr; replace sb := sb.away av_sb_mB gr; replace cp := cp.away av_cp_mB gr; replace cpw := own_off cpw of_cp_mB gr; replace lz_cp := Nat.le_trans lz_cp gr.size; replace bel := below_grown bel gr omB bel.size; clear hmB; have hmB := hq; clear hq gr))
    with_reducible refine (rgetm_no _ sb (by omega) HGE.out y HY.out).mono ?_
    rintro e w7 ⟨rfl, b7⟩
    replace hmB := blk_u hmB b7
    replace sb := sb.below b7
    replace cp := cp.below b7
    replace cpw := own_under cpw b7
    replace lz_cp := Nat.le_trans lz_cp b7.size
    replace bel := bel.trans (b7.mono bel.size)
    clear b7
    go_wp2_with (first | ((with_reducible show wpList _ _ _ (⟨some 5, _, _, _, _, _⟩ :: _) _ _); refine wpList_new_a rfl 40 rfl #[.int .i64 0, .int .i64 0, .slice none 0 0, .slice none 0 0, .slice none 0 0, .slice none 0 0] (by kernel_rfl) ?_; intro g5 w8 ge hh bb; have d_mB_sB := ne_new (hlt hmB) ge; have av_sb_sB := sb.av_new ge; have av_cp_sB := cp.av_new ge; have of_cp_sB := own_new cpw ge; have osB := Nat.le_trans bel.size ge; replace hmB := blk_u hmB bb; replace sb := sb.below bb; replace cp := cp.below bb; replace cpw := own_under cpw bb; replace lz_cp := Nat.le_trans lz_cp bb.size; replace bel := bel.trans (bb.mono bel.size); have hsB := hh; clear hh ge bb) | ((with_reducible show wpList _ _ _ (⟨none, Op.store _ (.tmp 5) _, _, _, _, _⟩ :: _) _ _); refine wpList_store_blk rfl 40 (.tmp 5) (.tmp 22) rfl g5 rfl _ rfl _ 40 hsB (by rfl) (by kernel_rfl) (by kernel_rfl) ?_; intro w9 hq gr; replace sb := sb.away av_sb_sB gr; replace cp := cp.away av_cp_sB gr; replace cpw := own_off cpw of_cp_sB gr; replace lz_cp := Nat.le_trans lz_cp gr.size; replace hmB := blk_a hmB gr d_mB_sB; replace bel := below_grown bel gr osB bel.size; clear hsB; have hsB := hq; clear hq gr))
    replace bel := bel.drew
    replace hmB : w9.drew.heap[g3]? = _ := hmB
    replace hsB : w9.drew.heap[g5]? = _ := hsB
    replace sb := sb.drew
    replace cp := cp.drew
    replace cpw : w9.drew.ownsRow _ _ _ _ _ _ := cpw
    replace lz_cp : _ ≤ w9.drew.heap.size := lz_cp
    refine wp_region_held_drew (S := fun W => W.heap[g3]? = some (.cells #[.int .i64 0, .int .i64 0, .slice none 0 0, .slice none 0 0, .slice none 0 0, .slice none 0 0] 26 (0, 0)) ∧ W.heap[g5]? = some (.cells #[.int .i64 0, .int .i64 0, .slice none 0 0, .slice none 0 0, .slice none 0 0, .slice none 0 0] 40 (0, 0))) (by kernel_rfl) ⟨hmB, hsB⟩ (fun hH => ?_)
    generalize w9.drew = w10 at bel hmB hsB sb cp cpw lz_cp hH ⊢
    refine wpAnyH_take (i := 0) (v := ?_) rfl (by kernel_rfl) (by kernel_rfl) (by kernel_rfl) (fun _ _ _ h => h) (Or.inl ⟨by rfl, ?_⟩) hH ?_
    rotate_left
    · ((intro W hW; clear hW; go_simp) <;> with_reducible rfl)
    simp only [Act.put, List.getElem_toArray, List.getElem_cons_zero, List.setIfInBounds_toArray, List.set_cons_zero, List.set_cons_succ]
    refine wpAnyH_take (i := 1) (v := ?_) rfl (by kernel_rfl) (by kernel_rfl) (by kernel_rfl) (fun _ _ _ h => h) (Or.inl ⟨by rfl, ?_⟩) hH ?_
    rotate_left
    · ((intro W hW; clear hW; go_simp) <;> with_reducible rfl)
    simp only [sq3, sq4]
    refine wpAnyH_take (i := 2) (v := ?_) rfl (by kernel_rfl) (by kernel_rfl) (by kernel_rfl) (fun _ _ _ h => h) (Or.inl ⟨by rfl, ?_⟩) hH ?_
    rotate_left
    · ((intro W hW; clear hW; go_simp) <;> with_reducible rfl)
    simp only [sq3, sq4]
    refine wpAnyH_take (i := 3) (v := ?_) rfl (by kernel_rfl) (by kernel_rfl) (by kernel_rfl) (fun _ _ _ h => h) (Or.inl ⟨by rfl, ?_⟩) hH ?_
    rotate_left
    · ((intro W hW; clear hW; go_simp) <;> with_reducible rfl)
    simp only [sq3, sq4]
    refine wpAnyH_take (i := 4) (v := .agg #[.int .i64 0, .int .i64 0, .slice none 0 0, .slice none 0 0, .slice none 0 0, .slice none 0 0]) rfl (by kernel_rfl) (by kernel_rfl) (by kernel_rfl) (fun _ _ _ h => h) (yieldsIf_load_part (by kernel_rfl) 26 _ rfl g3 0 6 rfl _ 26 (0, 0) (fun W hW => hW.1) _ rfl _ Try.underlying26 rfl (by kernel_rfl)) hH ?_
    simp only [sq3, sq4]
    refine wpAnyH_take (i := 6) (v := .agg #[.int .i64 0, .int .i64 0, .slice none 0 0, .slice none 0 0, .slice none 0 0, .slice none 0 0]) rfl (by kernel_rfl) (by kernel_rfl) (by kernel_rfl) (fun _ _ _ h => h) (yieldsIf_load_part (by kernel_rfl) 40 _ rfl g5 0 6 rfl _ 40 (0, 0) (fun W hW => hW.2) _ rfl _ Try.underlying40 rfl (by kernel_rfl)) hH ?_
    simp only [sq3, sq4]
    refine wpAnyH_ready (rs := [5]) (by kernel_rfl) (by simp) ?_
    refine AllReadyH.cons (o := _) rfl (fun K hK => ?_) AllReadyH.nil
    simp only [sq3]
    go_simp
    with_reducible refine (lown_any _ (zero_mr _) (by decide)).mono ?_
    rintro e w11 ⟨Qp, qcp, Ap, acp, Op, ocp, Mp, mcp, rfl, hm_, b11⟩
    dsimp only
    replace hmB := blk_u hmB b11
    replace hsB := blk_u hsB b11
    replace sb := sb.below b11
    replace cp := cp.below b11
    replace cpw := own_under cpw b11
    replace lz_cp := Nat.le_trans lz_cp b11.size
    replace bel := bel.trans (b11.mono bel.size)
    clear b11
    have kp := Below.refl w11.heap.size w11
    have HMp := Lib.hid hm_
    clear hm_
    refine hK.out _ _ ⟨hmB, hsB⟩ (fun hH12 => ?_)
    clear hK K
    refine wpAnyH_ready (rs := [7]) (by kernel_rfl) (by simp) ?_
    refine AllReadyH.cons (o := _) rfl (fun K hK => ?_) AllReadyH.nil
    simp only [sq3]
    go_simp
    with_reducible refine (rsame_is _ (HMp.out.below kp) (zero_mr _) rfl rfl zero_b).mono ?_
    rintro e w13 ⟨rfl, b13⟩
    dsimp only
    replace hmB := blk_u hmB b13
    replace hsB := blk_u hsB b13
    replace sb := sb.below b13
    replace cp := cp.below b13
    replace cpw := own_under cpw b13
    replace lz_cp := Nat.le_trans lz_cp b13.size
    replace kp := kp.trans (b13.mono kp.size)
    replace bel := bel.trans (b13.mono bel.size)
    clear b13
    refine hK.out _ _ ⟨hmB, hsB⟩ (fun hH14 => ?_)
    clear hK K
    refine wpAnyH_take (i := 8) (v := ?_) rfl (by kernel_rfl) (by kernel_rfl) (by kernel_rfl) (fun _ _ _ h => h) (Or.inl ⟨by rfl, ?_⟩) hH14 ?_
    rotate_left
    · ((intro W hW; clear hW; go_simp) <;> with_reducible rfl)
    simp only [sq3, sq4]
    refine wpAnyH_take (i := 9) (v := ?_) rfl (by kernel_rfl) (by kernel_rfl) (by kernel_rfl) (fun _ _ _ h => h) (Or.inl ⟨by rfl, ?_⟩) hH14 ?_
    rotate_left
    · ((intro W hW; clear hW; go_simp) <;> with_reducible rfl)
    simp only [sq3, sq4]
    refine wpAnyH_done (by kernel_rfl) ?_ _
    go_wp2_with fail
    go_ret
    exact ⟨rfl, bel⟩
  have HGM := Lib.hid hg_
  clear hg_
  have HB := Lib.hid (getM_b HGM.out)
  obtain ⟨id, hid_⟩ : ∃ u_, m.id = u_ := ⟨_, rfl⟩
  have HUid := Lib.hid hid_
  clear hid_
  obtain ⟨fl, hfl_⟩ : ∃ u_, m.fl = u_ := ⟨_, rfl⟩
  have HUfl := Lib.hid hfl_
  clear hfl_
  obtain ⟨qn, hqn_⟩ : ∃ u_, m.q.length = u_ := ⟨_, rfl⟩
  have HUqn := Lib.hid hqn_
  clear hqn_
  obtain ⟨an, han_⟩ : ∃ u_, m.a.length = u_ := ⟨_, rfl⟩
  have HUan := Lib.hid han_
  clear han_
  obtain ⟨on, hon_⟩ : ∃ u_, m.o.length = u_ := ⟨_, rfl⟩
  have HUon := Lib.hid hon_
  clear hon_
  obtain ⟨mn, hmn_⟩ : ∃ u_, m.m.length = u_ := ⟨_, rfl⟩
  have HUmn := Lib.hid hmn_
  clear hmn_
  go_wp2_with (first | ((with_reducible show wpList _ _ _ (⟨some 13, _, _, _, _, _⟩ :: _) _ _); refine wpList_lit_n rfl 30 5 0 _ rfl #[] (.int .u8 0) Try.underlying30 (by kernel_rfl) 1 (by kernel_rfl) (by decide) (by kernel_rfl) ?_; intro g13 w2 ge lt hh bb; have hl : w2.heap[g13]? = some (.cells (([] : List UInt8).map u8v).toArray 5 (0, 0)) := (by simpa [u8v, byteOf_val] using hh); have e0w := own_lit (B := w1.heap.size) ([]) hl ge 0 rfl (by simp [maxLen]); have e0 := (own_sl e0w).1; have e0lo := bel.size; clear hl; have e0ge := ge; have lz_e0 := bb.size; have bl_sb_e0 := sb.bl_new; replace sb := sb.below bb; replace bel := bel.trans (bb.mono bel.size); clear hh lt ge bb) | ((with_reducible show wpList _ _ _ (⟨some 15, _, _, _, _, _⟩ :: _) _ _); refine wpList_append_bb _ rfl (.tmp 13) (.tmp 14) 30 rfl (w1.heap.size) 5 ii (.int .u8 0) Try.underlying30 hii hz0 hz1 hz2 rfl _ (0) ([]) rfl e0w (A) (n) (c) (b) rfl sb (by omega) lz_e0 ?_; intro v15 w3 own_ bb; replace sb := sb.under bl_sb_e0 bb; replace bel := bel.trans (bb.mono e0lo); have lz_cp := Nat.le_trans lz_e0 bb.size; clear bb; clear e0 e0w lz_e0; replace own_ : w3.ownsRow (w1.heap.size) 5 1 v15 (n) ((b : List UInt8).map u8v) := (by simpa using own_); obtain ⟨A15, c15, rfl⟩ := own_val own_; have cpw := own_; have cp := (own_sl own_).1; have fr_cp := (own_sl own_).2; clear own_))
  with_reducible refine (dget_is (id := id) (fl := fl) (qn := qn) (an := an) (on := on) (mn := mn) _ cp HGM.out HUid.out HUfl.out HUqn.out HUan.out HUon.out HUmn.out).mono ?_
  rintro e w4 ⟨Qm, qcm, Am, acm, Om, ocm, Mm, mcm, rfl, hm_, b4⟩
  replace sb := sb.below b4
  replace cp := cp.below b4
  replace cpw := own_under cpw b4
  replace lz_cp := Nat.le_trans lz_cp b4.size
  replace bel := bel.trans (b4.mono bel.size)
  clear b4
  have km := Below.refl w4.heap.size w4
  have HMm := Lib.hid hm_
  clear hm_
  go_wp2_with (first | ((with_reducible show wpList _ _ _ (⟨some 3, _, _, _, _, _⟩ :: _) _ _); refine wpList_new_a rfl 26 rfl #[.int .i64 0, .int .i64 0, .slice none 0 0, .slice none 0 0, .slice none 0 0, .slice none 0 0] (by kernel_rfl) ?_; intro g3 w5 ge hh bb; have av_sb_mB := sb.av_new ge; have av_cp_mB := cp.av_new ge; have of_cp_mB := own_new cpw ge; have omB := Nat.le_trans bel.size ge; have pm_mB := Nat.le_trans km.size ge; replace sb := sb.below bb; replace cp := cp.below bb; replace cpw := own_under cpw bb; replace lz_cp := Nat.le_trans lz_cp bb.size; replace km := km.trans (bb.mono km.size); replace bel := bel.trans (bb.mono bel.size); have hmB := hh; clear hh ge bb) | ((with_reducible show wpList _ _ _ (⟨none, Op.store _ (.tmp 3) _, _, _, _, _⟩ :: _) _ _); refine wpList_store_blk rfl 26 (.tmp 3) (.tmp 17) rfl g3 rfl _ rfl _ 26 hmB (by rfl) (by kernel_rfl) (by kernel_rfl) ?_; intro w6 hq gr; replace sb := sb.away av_sb_mB gr; replace cp := cp.away av_cp_mB gr; replace cpw := own_off cpw of_cp_mB gr; replace lz_cp := Nat.le_trans lz_cp gr.size; replace km := below_grown km gr pm_mB km.size; replace bel := below_grown bel gr omB bel.size; clear hmB; have hmB := hq; clear hq gr))
  with_reducible refine (rget_is (id := id) (fl := fl) (qn := qn) (an := an) (on := on) (mn := mn) _ sb HGM.out HUid.out HUfl.out HUqn.out HUan.out HUon.out HUmn.out).mono ?_
  rintro e w7 ⟨Qs, qcs, As, acs, Os, ocs, Ms, mcs, rfl, hm_, b7⟩
  replace hmB := blk_u hmB b7
  replace sb := sb.below b7
  replace cp := cp.below b7
  replace cpw := own_under cpw b7
  replace lz_cp := Nat.le_trans lz_cp b7.size
  replace km := km.trans (b7.mono km.size)
  replace bel := bel.trans (b7.mono bel.size)
  clear b7
  have ks := Below.refl w7.heap.size w7
  have HMs := Lib.hid hm_
  clear hm_
  go_wp2_with (first | ((with_reducible show wpList _ _ _ (⟨some 5, _, _, _, _, _⟩ :: _) _ _); refine wpList_new_a rfl 40 rfl #[.int .i64 0, .int .i64 0, .slice none 0 0, .slice none 0 0, .slice none 0 0, .slice none 0 0] (by kernel_rfl) ?_; intro g5 w8 ge hh bb; have d_mB_sB := ne_new (hlt hmB) ge; have av_sb_sB := sb.av_new ge; have av_cp_sB := cp.av_new ge; have of_cp_sB := own_new cpw ge; have osB := Nat.le_trans bel.size ge; have pm_sB := Nat.le_trans km.size ge; have ps_sB := Nat.le_trans ks.size ge; replace hmB := blk_u hmB bb; replace sb := sb.below bb; replace cp := cp.below bb; replace cpw := own_under cpw bb; replace lz_cp := Nat.le_trans lz_cp bb.size; replace km := km.trans (bb.mono km.size); replace ks := ks.trans (bb.mono ks.size); replace bel := bel.trans (bb.mono bel.size); have hsB := hh; clear hh ge bb) | ((with_reducible show wpList _ _ _ (⟨none, Op.store _ (.tmp 5) _, _, _, _, _⟩ :: _) _ _); refine wpList_store_blk rfl 40 (.tmp 5) (.tmp 22) rfl g5 rfl _ rfl _ 40 hsB (by rfl) (by kernel_rfl) (by kernel_rfl) ?_; intro w9 hq gr; replace sb := sb.away av_sb_sB gr; replace cp := cp.away av_cp_sB gr; replace cpw := own_off cpw of_cp_sB gr; replace lz_cp := Nat.le_trans lz_cp gr.size; replace hmB := blk_a hmB gr d_mB_sB; replace km := below_grown km gr pm_sB km.size; replace ks := below_grown ks gr ps_sB ks.size; replace bel := below_grown bel gr osB bel.size; clear hsB; have hsB := hq; clear hq gr))
  replace bel := bel.drew
  replace hmB : w9.drew.heap[g3]? = _ := hmB
  replace hsB : w9.drew.heap[g5]? = _ := hsB
  replace sb := sb.drew
  replace cp := cp.drew
  replace cpw : w9.drew.ownsRow _ _ _ _ _ _ := cpw
  replace lz_cp : _ ≤ w9.drew.heap.size := lz_cp
  replace km := km.drew
  replace ks := ks.drew
  refine wp_region_held_drew (S := fun W => W.heap[g3]? = some (.cells #[.int .i64 id, .int .i64 fl, .slice Qm qn qcm, .slice Am an acm, .slice Om on ocm, .slice Mm mn mcm] 26 (0, 0)) ∧ W.heap[g5]? = some (.cells #[.int .i64 id, .int .i64 fl, .slice Qs qn qcs, .slice As an acs, .slice Os on ocs, .slice Ms mn mcs] 40 (0, 0))) (by kernel_rfl) ⟨hmB, hsB⟩ (fun hH => ?_)
  generalize w9.drew = w10 at bel hmB hsB sb cp cpw km ks lz_cp hH ⊢
  refine wpAnyH_take (i := 0) (v := ?_) rfl (by kernel_rfl) (by kernel_rfl) (by kernel_rfl) (fun _ _ _ h => h) (Or.inl ⟨by rfl, ?_⟩) hH ?_
  rotate_left
  · ((intro W hW; clear hW; go_simp) <;> with_reducible rfl)
  simp only [Act.put, List.getElem_toArray, List.getElem_cons_zero, List.setIfInBounds_toArray, List.set_cons_zero, List.set_cons_succ]
  refine wpAnyH_take (i := 1) (v := ?_) rfl (by kernel_rfl) (by kernel_rfl) (by kernel_rfl) (fun _ _ _ h => h) (Or.inl ⟨by rfl, ?_⟩) hH ?_
  rotate_left
  · ((intro W hW; clear hW; go_simp) <;> with_reducible rfl)
  simp only [sq3, sq4]
  refine wpAnyH_take (i := 2) (v := ?_) rfl (by kernel_rfl) (by kernel_rfl) (by kernel_rfl) (fun _ _ _ h => h) (Or.inl ⟨by rfl, ?_⟩) hH ?_
  rotate_left
  · ((intro W hW; clear hW; go_simp) <;> with_reducible rfl)
  simp only [sq3, sq4]
  refine wpAnyH_take (i := 3) (v := ?_) rfl (by kernel_rfl) (by kernel_rfl) (by kernel_rfl) (fun _ _ _ h => h) (Or.inl ⟨by rfl, ?_⟩) hH ?_
  rotate_left
  · ((intro W hW; clear hW; go_simp) <;> with_reducible rfl)
  simp only [sq3, sq4]
  refine wpAnyH_take (i := 4) (v := .agg #[.int .i64 id, .int .i64 fl, .slice Qm qn qcm, .slice Am an acm, .slice Om on ocm, .slice Mm mn mcm]) rfl (by kernel_rfl) (by kernel_rfl) (by kernel_rfl) (fun _ _ _ h => h) (yieldsIf_load_part (by kernel_rfl) 26 _ rfl g3 0 6 rfl _ 26 (0, 0) (fun W hW => hW.1) _ rfl _ Try.underlying26 rfl (by kernel_rfl)) hH ?_
  simp only [sq3, sq4]
  refine wpAnyH_take (i := 6) (v := .agg #[.int .i64 id, .int .i64 fl, .slice Qs qn qcs, .slice As an acs, .slice Os on ocs, .slice Ms mn mcs]) rfl (by kernel_rfl) (by kernel_rfl) (by kernel_rfl) (fun _ _ _ h => h) (yieldsIf_load_part (by kernel_rfl) 40 _ rfl g5 0 6 rfl _ 40 (0, 0) (fun W hW => hW.2) _ rfl _ Try.underlying40 rfl (by kernel_rfl)) hH ?_
  simp only [sq3, sq4]
  refine wpAnyH_ready (rs := [5]) (by kernel_rfl) (by simp) ?_
  refine AllReadyH.cons (o := _) rfl (fun K hK => ?_) AllReadyH.nil
  simp only [sq3]
  go_simp
  with_reducible refine (lown_any _ (HMm.out.below km) (bm_parts HB.out)).mono ?_
  rintro e w11 ⟨Qp, qcp, Ap, acp, Op, ocp, Mp, mcp, rfl, hm_, b11⟩
  dsimp only
  replace hmB := blk_u hmB b11
  replace hsB := blk_u hsB b11
  replace sb := sb.below b11
  replace cp := cp.below b11
  replace cpw := own_under cpw b11
  replace lz_cp := Nat.le_trans lz_cp b11.size
  replace km := km.trans (b11.mono km.size)
  replace ks := ks.trans (b11.mono ks.size)
  replace bel := bel.trans (b11.mono bel.size)
  clear b11
  have kp := Below.refl w11.heap.size w11
  have HMp := Lib.hid hm_
  clear hm_
  refine hK.out _ _ ⟨hmB, hsB⟩ (fun hH12 => ?_)
  clear hK K
  refine wpAnyH_ready (rs := [7]) (by kernel_rfl) (by simp) ?_
  refine AllReadyH.cons (o := _) rfl (fun K hK => ?_) AllReadyH.nil
  simp only [sq3]
  go_simp
  with_reducible refine (rsame_is _ (HMp.out.below kp) (HMs.out.below ks) rfl rfl HB.out).mono ?_
  rintro e w13 ⟨rfl, b13⟩
  dsimp only
  replace hmB := blk_u hmB b13
  replace hsB := blk_u hsB b13
  replace sb := sb.below b13
  replace cp := cp.below b13
  replace cpw := own_under cpw b13
  replace lz_cp := Nat.le_trans lz_cp b13.size
  replace km := km.trans (b13.mono km.size)
  replace ks := ks.trans (b13.mono ks.size)
  replace kp := kp.trans (b13.mono kp.size)
  replace bel := bel.trans (b13.mono bel.size)
  clear b13
  refine hK.out _ _ ⟨hmB, hsB⟩ (fun hH14 => ?_)
  clear hK K
  refine wpAnyH_take (i := 8) (v := ?_) rfl (by kernel_rfl) (by kernel_rfl) (by kernel_rfl) (fun _ _ _ h => h) (Or.inl ⟨by rfl, ?_⟩) hH14 ?_
  rotate_left
  · ((intro W hW; clear hW; go_simp) <;> with_reducible rfl)
  simp only [sq3, sq4]
  refine wpAnyH_take (i := 9) (v := ?_) rfl (by kernel_rfl) (by kernel_rfl) (by kernel_rfl) (fun _ _ _ h => h) (Or.inl ⟨by rfl, ?_⟩) hH14 ?_
  rotate_left
  · ((intro W hW; clear hW; go_simp) <;> with_reducible rfl)
  simp only [sq3, sq4]
  refine wpAnyH_done (by kernel_rfl) ?_ _
  go_wp2_with fail
  go_ret
  exact ⟨rfl, bel⟩
open Go.RowKit

theorem dref_is {id fl code f : Int} {Q : Option Addr} {qn qc : Nat} {A : Option Addr} {an ac : Nat} {O : Option Addr} {on oc : Nat} {M : Option Addr} {mn mc : Nat} {m : Mn} (w : World) (hM : Mr w Q qn qc A an ac O on oc M mn mc m) (hb : Bm m) (hf : flR fl code = f) : Calls Try.prog 16 #[.agg #[.int .i64 id, .int .i64 fl, .slice Q qn qc, .slice A an ac, .slice O on oc, .slice M mn mc], .int .i64 code] w fun e w' => ∃ Q' cq, e = .returned (.agg #[.int .i64 id, .int .i64 f, .slice Q' qn cq, .slice none 0 0, .slice none 0 0, .slice none 0 0]) ∧ Mr w' Q' qn cq none 0 0 none 0 0 none 0 0 (refM m code) ∧ Below w.heap.size w w' := by
  subst hf
  exact drefuse_is w hM hb
theorem rref_is {id fl code f : Int} {Q : Option Addr} {qn qc : Nat} {A : Option Addr} {an ac : Nat} {O : Option Addr} {on oc : Nat} {M : Option Addr} {mn mc : Nat} (w : World) (hf : flR fl code = f) : Calls Try.prog 17 #[.agg #[.int .i64 id, .int .i64 fl, .slice Q qn qc, .slice A an ac, .slice O on oc, .slice M mn mc], .int .i64 code] w fun e w' => e = .returned (.agg #[.int .i64 id, .int .i64 f, .slice Q qn qc, .slice none 0 0, .slice none 0 0, .slice none 0 0]) ∧ Below w.heap.size w w' := by
  subst hf
  have h := rrefuse_any id fl Q qn qc A an ac O on oc M mn mc code w
  rw [flR_ref] at h
  exact h
theorem beq_same (x : Int) : (x == x) = true := by simp
theorem bne_same (x : Int) : (x != x) = false := by simp
set_option linter.unusedVariables false in
set_option linter.unusedSimpArgs false in
set_option maxRecDepth 100000 in
set_option maxHeartbeats 16000000 in
theorem dnsRefuses_walk (id fl : Int) (Q : Option Addr) (qn qc : Nat) (A : Option Addr) (an ac : Nat) (O : Option Addr) (on oc : Nat) (M : Option Addr) (mn mc : Nat) (m : Mn) (code : Int) (w : World) (hM : Mr w Q qn qc A an ac O on oc M mn mc m) (hi : m.id = id) (hf : m.fl = fl) (ht : ∀ r ∈ allR m, 0 ≤ r.ttl ∧ r.ttl < 4294967296) : Calls Try.prog 7 #[.agg #[.int .i64 id, .int .i64 fl, .slice Q qn qc, .slice A an ac, .slice O on oc, .slice M mn mc], .int .i64 code] w fun e w' => e = .returned (.bool true) ∧ Below w.heap.size w w' := by
  have HM0 := Lib.hid hM
  have HI := Lib.hid hi
  have HFF := Lib.hid hf
  have HT := Lib.hid ht
  have HQL := Lib.hid hM.lens
  clear hM hi hf ht
  have bel := Below.refl w.heap.size w
  go_enter Try.func7, Try.ntmps7
  go_wp2_with (first | ((with_reducible show wpList _ _ _ (⟨some 2, _, _, _, _, _⟩ :: _) _ _); refine wpList_box_n rfl 26 (.tmp 0) rfl #[.int .i64 id, .int .i64 fl, .slice Q qn qc, .slice A an ac, .slice O on oc, .slice M mn mc] rfl ?_; intro g2 w1 ge lt hh bb; have omP := Nat.le_trans bel.size ge; replace bel := bel.trans (bb.mono bel.size); have hmP := hh; clear hh lt ge bb))
  with_reducible refine (awake21_any _).mono ?_
  rintro e w2 ⟨rfl, b2⟩
  replace hmP := blk_u hmP b2
  replace bel := bel.trans (b2.mono bel.size)
  clear b2
  rcases hg_ : greatM m with _ | _
  rotate_left
  · have HG := Lib.hid hg_
    clear hg_
    have R14 := Lib.hid (range_lit hmP 0 6 [.int .i64 id, .int .i64 fl, .slice Q qn qc, .slice A an ac, .slice O on oc, .slice M mn mc] rfl)
    go_wp2_with (first | ((with_reducible show wpList _ _ _ (⟨some 14, _, _, _, _, _⟩ :: _) _ _); refine wpList_load_rng 26 (.tmp 2) rfl (by kernel_rfl) _ _ rfl _ R14.out _ Try.underlying26 rfl (by kernel_rfl) ?_))
    try clear R14
    with_reducible refine (lgreat_is _ (HM0.out.below bel) HG.out).mono ?_
    rintro e w3 ⟨rfl, b3⟩
    replace hmP := blk_u hmP b3
    replace bel := bel.trans (b3.mono bel.size)
    clear b3
    go_wp2_with fail
    go_ret
    exact ⟨rfl, bel⟩
  have HG := Lib.hid hg_
  clear hg_
  have HB := Lib.hid (great_b HG.out HT.out)
  obtain ⟨L, y, hp_⟩ : ∃ l y, putM m = (l, y) := ⟨_, _, rfl⟩
  have HP := Lib.hid hp_
  clear hp_
  obtain ⟨k, hk_⟩ : ∃ u_, L.length = u_ := ⟨_, rfl⟩
  have HK := Lib.hid hk_
  clear hk_
  obtain ⟨f, hf_⟩ : ∃ u_, flR fl code = u_ := ⟨_, rfl⟩
  have HFL := Lib.hid hf_
  clear hf_
  have t1 : (bits .and .i64 f 32768 == 0) = false := by rw [← HFL.out, flR_top]; rfl
  have t2 : (bits .and .i64 f 15 != bits .and .i64 code 15) = false := by rw [← HFL.out, flR_low]; exact bne_same _
  have t3 : decide ((65535 : Int) < f) = false := decide_eq_false (by have h_ := (flR_val fl code).2.1; rw [HFL.out] at h_; omega)
  have t4 := bne_same id
  have t5 := bne_same (qn : Int)
  have R14 := Lib.hid (range_lit hmP 0 6 [.int .i64 id, .int .i64 fl, .slice Q qn qc, .slice A an ac, .slice O on oc, .slice M mn mc] rfl)
  go_wp2_with (first | ((with_reducible show wpList _ _ _ (⟨some 14, _, _, _, _, _⟩ :: _) _ _); refine wpList_load_rng 26 (.tmp 2) rfl (by kernel_rfl) _ _ rfl _ R14.out _ Try.underlying26 rfl (by kernel_rfl) ?_))
  try clear R14
  with_reducible refine (lgreat_is _ (HM0.out.below bel) HG.out).mono ?_
  rintro e w3 ⟨rfl, b3⟩
  replace hmP := blk_u hmP b3
  replace bel := bel.trans (b3.mono bel.size)
  clear b3
  have R17 := Lib.hid (range_lit hmP 0 6 [.int .i64 id, .int .i64 fl, .slice Q qn qc, .slice A an ac, .slice O on oc, .slice M mn mc] rfl)
  go_wp2_with (first | ((with_reducible show wpList _ _ _ (⟨some 17, _, _, _, _, _⟩ :: _) _ _); refine wpList_load_rng 26 (.tmp 2) rfl (by kernel_rfl) _ _ rfl _ R17.out _ Try.underlying26 rfl (by kernel_rfl) ?_))
  try clear R17
  with_reducible refine (dput_sl (id := id) (fl := fl) (k := k) _ (HM0.out.below bel) HI.out HFF.out HB.out HP.out HK.out).mono ?_
  rintro e w4 ⟨Apb, cpb, rfl, pb, b4⟩
  replace hmP := blk_u hmP b4
  replace bel := bel.trans (b4.mono bel.size)
  clear b4
  replace pb : Sl w4 (Apb) (k) (cpb) (L) := pb
  have R21 := Lib.hid (range_lit hmP 0 6 [.int .i64 id, .int .i64 fl, .slice Q qn qc, .slice A an ac, .slice O on oc, .slice M mn mc] rfl)
  go_wp2_with (first | ((with_reducible show wpList _ _ _ (⟨some 21, _, _, _, _, _⟩ :: _) _ _); refine wpList_load_rng 26 (.tmp 2) rfl (by kernel_rfl) _ _ rfl _ R21.out _ Try.underlying26 rfl (by kernel_rfl) ?_))
  try clear R21
  with_reducible refine (dref_is _ (HM0.out.below bel) HB.out HFL.out).mono ?_
  rintro e w5 ⟨Qr, qcr, rfl, hm_, b5⟩
  replace hmP := blk_u hmP b5
  replace pb := pb.below b5
  replace bel := bel.trans (b5.mono bel.size)
  clear b5
  have kr := Below.refl w5.heap.size w5
  have HMr := Lib.hid hm_
  clear hm_
  by_cases hy_ : y = 0
  rotate_left
  · have y1 : (y != 0) = true := by simpa using hy_
    clear hy_
    go_wp2_with (first | ((with_reducible show wpList _ _ _ (⟨some 7, _, _, _, _, _⟩ :: _) _ _); refine wpList_new_a rfl 26 rfl #[.int .i64 0, .int .i64 0, .slice none 0 0, .slice none 0 0, .slice none 0 0, .slice none 0 0] (by kernel_rfl) ?_; intro g7 w6 ge hh bb; have d_mP_rB := ne_new (hlt hmP) ge; have av_pb_rB := pb.av_new ge; have orB := Nat.le_trans bel.size ge; have pr_rB := Nat.le_trans kr.size ge; replace hmP := blk_u hmP bb; replace pb := pb.below bb; replace kr := kr.trans (bb.mono kr.size); replace bel := bel.trans (bb.mono bel.size); have hrB := hh; clear hh ge bb) | ((with_reducible show wpList _ _ _ (⟨none, Op.store _ (.tmp 7) _, _, _, _, _⟩ :: _) _ _); refine wpList_store_blk rfl 26 (.tmp 7) (.tmp 23) rfl g7 rfl _ rfl _ 26 hrB (by rfl) (by kernel_rfl) (by kernel_rfl) ?_; intro w7 hq gr; replace pb := pb.away av_pb_rB gr; replace hmP := blk_a hmP gr d_mP_rB; replace kr := below_grown kr gr pr_rB kr.size; replace bel := below_grown bel gr orB bel.size; clear hrB; have hrB := hq; clear hq gr; have R25 := cell_lit hrB 0 _ rfl; have R27 := cell_lit hmP 0 _ rfl; have R31 := cell_lit hrB 3 _ rfl; have R37 := cell_lit hrB 4 _ rfl; have R43 := cell_lit hrB 5 _ rfl; have R49 := cell_lit hrB 1 _ rfl; have R55 := cell_lit hrB 1 _ rfl; have R63 := cell_lit hrB 1 _ rfl; have R68 := cell_lit hrB 2 _ rfl; have R71 := cell_lit hmP 2 _ rfl))
    try clear R25
    try clear R27
    try clear R31
    try clear R37
    try clear R43
    try clear R49
    try clear R55
    try clear R63
    try clear R68
    try clear R71
    go_ret
    exact ⟨rfl, bel⟩
  subst hy_
  have HRQ : Hid ((refM m code).q.length = qn) := Lib.hid HQL.out.1
  have HRI : Hid ((refM m code).id = id) := Lib.hid HI.out
  have HRF : Hid ((refM m code).fl = f) := Lib.hid (by show flR m.fl code = f; rw [HFF.out, HFL.out])
  obtain ⟨Lr, hl_⟩ : ∃ u_, encM (refM m code) = u_ := ⟨_, rfl⟩
  have HPR : Hid (putM (refM m code) = (Lr, 0)) := Lib.hid (by rw [← hl_]; exact (refM_ok code HP.out).1)
  have HGR : Hid (getM Lr = .ok (refM m code)) := Lib.hid (by rw [← hl_]; exact (refM_ok code HP.out).2)
  clear hl_
  obtain ⟨jr, hk_⟩ : ∃ u_, Lr.length = u_ := ⟨_, rfl⟩
  have HKR := Lib.hid hk_
  clear hk_
  go_wp2_with (first | ((with_reducible show wpList _ _ _ (⟨some 7, _, _, _, _, _⟩ :: _) _ _); refine wpList_new_a rfl 26 rfl #[.int .i64 0, .int .i64 0, .slice none 0 0, .slice none 0 0, .slice none 0 0, .slice none 0 0] (by kernel_rfl) ?_; intro g7 w6 ge hh bb; have d_mP_rB := ne_new (hlt hmP) ge; have av_pb_rB := pb.av_new ge; have orB := Nat.le_trans bel.size ge; have pr_rB := Nat.le_trans kr.size ge; replace hmP := blk_u hmP bb; replace pb := pb.below bb; replace kr := kr.trans (bb.mono kr.size); replace bel := bel.trans (bb.mono bel.size); have hrB := hh; clear hh ge bb) | ((with_reducible show wpList _ _ _ (⟨none, Op.store _ (.tmp 7) _, _, _, _, _⟩ :: _) _ _); refine wpList_store_blk rfl 26 (.tmp 7) (.tmp 23) rfl g7 rfl _ rfl _ 26 hrB (by rfl) (by kernel_rfl) (by kernel_rfl) ?_; intro w7 hq gr; replace pb := pb.away av_pb_rB gr; replace hmP := blk_a hmP gr d_mP_rB; replace kr := below_grown kr gr pr_rB kr.size; replace bel := below_grown bel gr orB bel.size; clear hrB; have hrB := hq; clear hq gr; have R25 := cell_lit hrB 0 _ rfl; have R27 := cell_lit hmP 0 _ rfl; have R31 := cell_lit hrB 3 _ rfl; have R37 := cell_lit hrB 4 _ rfl; have R43 := cell_lit hrB 5 _ rfl; have R49 := cell_lit hrB 1 _ rfl; have R55 := cell_lit hrB 1 _ rfl; have R63 := cell_lit hrB 1 _ rfl; have R68 := cell_lit hrB 2 _ rfl; have R71 := cell_lit hmP 2 _ rfl; have R78 := Lib.hid (range_lit hrB 0 6 [.int .i64 id, .int .i64 f, .slice Qr qn qcr, .slice none 0 0, .slice none 0 0, .slice none 0 0] rfl)) | ((with_reducible show wpList _ _ _ (⟨some 78, _, _, _, _, _⟩ :: _) _ _); refine wpList_load_rng 26 (.tmp 7) rfl (by kernel_rfl) _ _ rfl _ R78.out _ Try.underlying26 rfl (by kernel_rfl) ?_))
  try clear R25
  try clear R27
  try clear R31
  try clear R37
  try clear R43
  try clear R49
  try clear R55
  try clear R63
  try clear R68
  try clear R71
  try clear R78
  with_reducible refine (dput_sl (id := id) (fl := f) (k := jr) _ (HMr.out.below kr) HRI.out HRF.out (refM_b HB.out) HPR.out HKR.out).mono ?_
  rintro e w8 ⟨Apr, cpr, rfl, pr, b8⟩
  replace hmP := blk_u hmP b8
  replace hrB := blk_u hrB b8
  replace pb := pb.below b8
  replace kr := kr.trans (b8.mono kr.size)
  replace bel := bel.trans (b8.mono bel.size)
  clear b8
  replace pr : Sl w8 (Apr) (jr) (cpr) (Lr) := pr
  go_wp2_with fail
  with_reducible refine (dget_is (id := id) (fl := f) (qn := qn) (an := 0) (on := 0) (mn := 0) _ pr HGR.out HRI.out HRF.out HRQ.out rfl rfl rfl).mono ?_
  rintro e w9 ⟨Qn, qcn, An, acn, On, ocn, Mn, mcn, rfl, hm_, b9⟩
  replace hmP := blk_u hmP b9
  replace hrB := blk_u hrB b9
  replace pb := pb.below b9
  replace pr := pr.below b9
  replace kr := kr.trans (b9.mono kr.size)
  replace bel := bel.trans (b9.mono bel.size)
  clear b9
  have kn := Below.refl w9.heap.size w9
  have HMn := Lib.hid hm_
  clear hm_
  go_wp2_with (first | ((with_reducible show wpList _ _ _ (⟨some 10, _, _, _, _, _⟩ :: _) _ _); refine wpList_new_a rfl 26 rfl #[.int .i64 0, .int .i64 0, .slice none 0 0, .slice none 0 0, .slice none 0 0, .slice none 0 0] (by kernel_rfl) ?_; intro g10 w10 ge hh bb; have d_mP_nB := ne_new (hlt hmP) ge; have d_rB_nB := ne_new (hlt hrB) ge; have av_pb_nB := pb.av_new ge; have av_pr_nB := pr.av_new ge; have onB := Nat.le_trans bel.size ge; have pr_nB := Nat.le_trans kr.size ge; have pn_nB := Nat.le_trans kn.size ge; replace hmP := blk_u hmP bb; replace hrB := blk_u hrB bb; replace pb := pb.below bb; replace pr := pr.below bb; replace kr := kr.trans (bb.mono kr.size); replace kn := kn.trans (bb.mono kn.size); replace bel := bel.trans (bb.mono bel.size); have hnB := hh; clear hh ge bb) | ((with_reducible show wpList _ _ _ (⟨none, Op.store _ (.tmp 10) _, _, _, _, _⟩ :: _) _ _); refine wpList_store_blk rfl 26 (.tmp 10) (.tmp 85) rfl g10 rfl _ rfl _ 26 hnB (by rfl) (by kernel_rfl) (by kernel_rfl) ?_; intro w11 hq gr; replace pb := pb.away av_pb_nB gr; replace pr := pr.away av_pr_nB gr; replace hmP := blk_a hmP gr d_mP_nB; replace hrB := blk_a hrB gr d_rB_nB; replace kr := below_grown kr gr pr_nB kr.size; replace kn := below_grown kn gr pn_nB kn.size; replace bel := below_grown bel gr onB bel.size; clear hnB; have hnB := hq; clear hq gr))
  replace bel := bel.drew
  replace hmP : w11.drew.heap[g2]? = _ := hmP
  replace hrB : w11.drew.heap[g7]? = _ := hrB
  replace hnB : w11.drew.heap[g10]? = _ := hnB
  replace pb := pb.drew
  replace pr := pr.drew
  replace kr := kr.drew
  replace kn := kn.drew
  refine wp_region_held_drew (S := fun W => W.heap[g10]? = some (.cells #[.int .i64 id, .int .i64 f, .slice Qn qn qcn, .slice An 0 acn, .slice On 0 ocn, .slice Mn 0 mcn] 26 (0, 0)) ∧ W.heap[g7]? = some (.cells #[.int .i64 id, .int .i64 f, .slice Qr qn qcr, .slice none 0 0, .slice none 0 0, .slice none 0 0] 26 (0, 0))) (by kernel_rfl) ⟨hnB, hrB⟩ (fun hH => ?_)
  generalize w11.drew = w12 at bel hmP hrB hnB pb pr kr kn hH ⊢
  refine wpAnyH_take (i := 0) (v := ?_) rfl (by kernel_rfl) (by kernel_rfl) (by kernel_rfl) (fun _ _ _ h => h) (Or.inl ⟨by rfl, ?_⟩) hH ?_
  rotate_left
  · ((intro W hW; clear hW; go_simp) <;> with_reducible rfl)
  simp only [Act.put, List.getElem_toArray, List.getElem_cons_zero, List.setIfInBounds_toArray, List.set_cons_zero, List.set_cons_succ]
  refine wpAnyH_take (i := 1) (v := ?_) rfl (by kernel_rfl) (by kernel_rfl) (by kernel_rfl) (fun _ _ _ h => h) (Or.inl ⟨by rfl, ?_⟩) hH ?_
  rotate_left
  · ((intro W hW; clear hW; go_simp) <;> with_reducible rfl)
  simp only [sq3, sq4]
  refine wpAnyH_take (i := 2) (v := ?_) rfl (by kernel_rfl) (by kernel_rfl) (by kernel_rfl) (fun _ _ _ h => h) (Or.inl ⟨by rfl, ?_⟩) hH ?_
  rotate_left
  · ((intro W hW; clear hW; go_simp) <;> with_reducible rfl)
  simp only [sq3, sq4]
  refine wpAnyH_take (i := 3) (v := ?_) rfl (by kernel_rfl) (by kernel_rfl) (by kernel_rfl) (fun _ _ _ h => h) (Or.inl ⟨by rfl, ?_⟩) hH ?_
  rotate_left
  · ((intro W hW; clear hW; go_simp) <;> with_reducible rfl)
  simp only [sq3, sq4]
  refine wpAnyH_take (i := 4) (v := ?_) rfl (by kernel_rfl) (by kernel_rfl) (by kernel_rfl) (fun _ _ _ h => h) (Or.inl ⟨by rfl, ?_⟩) hH ?_
  rotate_left
  · ((intro W hW; clear hW; go_simp) <;> with_reducible rfl)
  simp only [sq3, sq4]
  refine wpAnyH_take (i := 5) (v := ?_) rfl (by kernel_rfl) (by kernel_rfl) (by kernel_rfl) (fun _ _ _ h => h) (Or.inl ⟨by rfl, ?_⟩) hH ?_
  rotate_left
  · ((intro W hW; clear hW; go_simp) <;> with_reducible rfl)
  simp only [sq3, sq4]
  refine wpAnyH_take (i := 6) (v := ?_) rfl (by kernel_rfl) (by kernel_rfl) (by kernel_rfl) (fun _ _ _ h => h) (Or.inl ⟨by rfl, ?_⟩) hH ?_
  rotate_left
  · ((intro W hW; clear hW; go_simp) <;> with_reducible rfl)
  simp only [sq3, sq4]
  refine wpAnyH_take (i := 7) (v := .agg #[.int .i64 id, .int .i64 f, .slice Qn qn qcn, .slice An 0 acn, .slice On 0 ocn, .slice Mn 0 mcn]) rfl (by kernel_rfl) (by kernel_rfl) (by kernel_rfl) (fun _ _ _ h => h) (yieldsIf_load_part (by kernel_rfl) 26 _ rfl g10 0 6 rfl _ 26 (0, 0) (fun W hW => hW.1) _ rfl _ Try.underlying26 rfl (by kernel_rfl)) hH ?_
  simp only [sq3, sq4]
  refine wpAnyH_take (i := 9) (v := .agg #[.int .i64 id, .int .i64 f, .slice Qr qn qcr, .slice none 0 0, .slice none 0 0, .slice none 0 0]) rfl (by kernel_rfl) (by kernel_rfl) (by kernel_rfl) (fun _ _ _ h => h) (yieldsIf_load_part (by kernel_rfl) 26 _ rfl g7 0 6 rfl _ 26 (0, 0) (fun W hW => hW.2) _ rfl _ Try.underlying26 rfl (by kernel_rfl)) hH ?_
  simp only [sq3, sq4]
  refine wpAnyH_ready (rs := [8]) (by kernel_rfl) (by simp) ?_
  refine AllReadyH.cons (o := _) rfl (fun K hK => ?_) AllReadyH.nil
  simp only [sq3]
  go_simp
  with_reducible refine (lown_any _ (HMn.out.below kn) (bm_parts (refM_b HB.out))).mono ?_
  rintro e w13 ⟨Qp, qcp, Ap, acp, Op, ocp, Mp, mcp, rfl, hm_, b13⟩
  dsimp only
  replace hmP := blk_u hmP b13
  replace hrB := blk_u hrB b13
  replace hnB := blk_u hnB b13
  replace pb := pb.below b13
  replace pr := pr.below b13
  replace kr := kr.trans (b13.mono kr.size)
  replace kn := kn.trans (b13.mono kn.size)
  replace bel := bel.trans (b13.mono bel.size)
  clear b13
  have kp := Below.refl w13.heap.size w13
  have HMp := Lib.hid hm_
  clear hm_
  refine hK.out _ _ ⟨hnB, hrB⟩ (fun hH14 => ?_)
  clear hK K
  refine wpAnyH_ready (rs := [10]) (by kernel_rfl) (by simp) ?_
  refine AllReadyH.cons (o := _) rfl (fun K hK => ?_) AllReadyH.nil
  simp only [sq3]
  go_simp
  with_reducible refine (lown_any _ (HMr.out.below kr) (bm_parts (refM_b HB.out))).mono ?_
  rintro e w15 ⟨Qs, qcs, As, acs, Os, ocs, Ms, mcs, rfl, hm_, b15⟩
  dsimp only
  replace hmP := blk_u hmP b15
  replace hrB := blk_u hrB b15
  replace hnB := blk_u hnB b15
  replace pb := pb.below b15
  replace pr := pr.below b15
  replace kr := kr.trans (b15.mono kr.size)
  replace kn := kn.trans (b15.mono kn.size)
  replace kp := kp.trans (b15.mono kp.size)
  replace bel := bel.trans (b15.mono bel.size)
  clear b15
  have ks := Below.refl w15.heap.size w15
  have HMs := Lib.hid hm_
  clear hm_
  refine hK.out _ _ ⟨hnB, hrB⟩ (fun hH16 => ?_)
  clear hK K
  refine wpAnyH_ready (rs := [11]) (by kernel_rfl) (by simp) ?_
  refine AllReadyH.cons (o := _) rfl (fun K hK => ?_) AllReadyH.nil
  simp only [sq3]
  go_simp
  with_reducible refine (rsame_is _ (HMp.out.below kp) (HMs.out.below ks) rfl rfl (refM_b HB.out)).mono ?_
  rintro e w17 ⟨rfl, b17⟩
  dsimp only
  replace hmP := blk_u hmP b17
  replace hrB := blk_u hrB b17
  replace hnB := blk_u hnB b17
  replace pb := pb.below b17
  replace pr := pr.below b17
  replace kr := kr.trans (b17.mono kr.size)
  replace kn := kn.trans (b17.mono kn.size)
  replace kp := kp.trans (b17.mono kp.size)
  replace ks := ks.trans (b17.mono ks.size)
  replace bel := bel.trans (b17.mono bel.size)
  clear b17
  refine hK.out _ _ ⟨hnB, hrB⟩ (fun hH18 => ?_)
  clear hK K
  refine wpAnyH_take (i := 12) (v := ?_) rfl (by kernel_rfl) (by kernel_rfl) (by kernel_rfl) (fun _ _ _ h => h) (Or.inl ⟨by rfl, ?_⟩) hH18 ?_
  rotate_left
  · ((intro W hW; clear hW; go_simp) <;> with_reducible rfl)
  simp only [sq3, sq4]
  refine wpAnyH_take (i := 13) (v := ?_) rfl (by kernel_rfl) (by kernel_rfl) (by kernel_rfl) (fun _ _ _ h => h) (Or.inl ⟨by rfl, ?_⟩) hH18 ?_
  rotate_left
  · ((intro W hW; clear hW; go_simp) <;> with_reducible rfl)
  simp only [sq3, sq4]
  refine wpAnyH_done (by kernel_rfl) ?_ _
  go_wp2_with fail
  go_ret
  exact ⟨rfl, bel⟩
set_option linter.unusedVariables false in
set_option linter.unusedSimpArgs false in
set_option maxRecDepth 100000 in
set_option maxHeartbeats 16000000 in
theorem dnsWrites_walk (id fl : Int) (Q : Option Addr) (qn qc : Nat) (A : Option Addr) (an ac : Nat) (O : Option Addr) (on oc : Nat) (M : Option Addr) (mn mc : Nat) (m : Mn) (code : Int) (w : World) (hM : Mr w Q qn qc A an ac O on oc M mn mc m) (hi : m.id = id) (hf : m.fl = fl) (ht : ∀ r ∈ allR m, 0 ≤ r.ttl ∧ r.ttl < 4294967296) : Calls Try.prog 5 #[.agg #[.int .i64 id, .int .i64 fl, .slice Q qn qc, .slice A an ac, .slice O on oc, .slice M mn mc], .int .i64 code] w fun e w' => e = .returned (.bool true) ∧ Below w.heap.size w w' := by
  have HM0 := Lib.hid hM
  have HI := Lib.hid hi
  have HFF := Lib.hid hf
  have HT := Lib.hid ht
  have HQL := Lib.hid hM.lens
  clear hM hi hf ht
  have bel := Below.refl w.heap.size w
  go_enter Try.func5, Try.ntmps5
  go_wp2_with (first | ((with_reducible show wpList _ _ _ (⟨some 2, _, _, _, _, _⟩ :: _) _ _); refine wpList_box_n rfl 26 (.tmp 0) rfl #[.int .i64 id, .int .i64 fl, .slice Q qn qc, .slice A an ac, .slice O on oc, .slice M mn mc] rfl ?_; intro g2 w1 ge lt hh bb; have omP := Nat.le_trans bel.size ge; replace bel := bel.trans (bb.mono bel.size); have hmP := hh; clear hh lt ge bb))
  with_reducible refine (awake21_any _).mono ?_
  rintro e w2 ⟨rfl, b2⟩
  replace hmP := blk_u hmP b2
  replace bel := bel.trans (b2.mono bel.size)
  clear b2
  rcases hg_ : greatM m with _ | _
  rotate_left
  · have HG := Lib.hid hg_
    clear hg_
    have R11 := Lib.hid (range_lit hmP 0 6 [.int .i64 id, .int .i64 fl, .slice Q qn qc, .slice A an ac, .slice O on oc, .slice M mn mc] rfl)
    go_wp2_with (first | ((with_reducible show wpList _ _ _ (⟨some 11, _, _, _, _, _⟩ :: _) _ _); refine wpList_load_rng 26 (.tmp 2) rfl (by kernel_rfl) _ _ rfl _ R11.out _ Try.underlying26 rfl (by kernel_rfl) ?_))
    try clear R11
    with_reducible refine (lgreat_is _ (HM0.out.below bel) HG.out).mono ?_
    rintro e w3 ⟨rfl, b3⟩
    replace hmP := blk_u hmP b3
    replace bel := bel.trans (b3.mono bel.size)
    clear b3
    go_wp2_with fail
    go_ret
    exact ⟨rfl, bel⟩
  have HG := Lib.hid hg_
  clear hg_
  have HB := Lib.hid (great_b HG.out HT.out)
  obtain ⟨L, y, hp_⟩ : ∃ l y, putM m = (l, y) := ⟨_, _, rfl⟩
  have HP := Lib.hid hp_
  clear hp_
  obtain ⟨k, hk_⟩ : ∃ u_, L.length = u_ := ⟨_, rfl⟩
  have HK := Lib.hid hk_
  clear hk_
  obtain ⟨f, hf_⟩ : ∃ u_, flR fl code = u_ := ⟨_, rfl⟩
  have HFL := Lib.hid hf_
  clear hf_
  have t1 := beq_same y
  have R11 := Lib.hid (range_lit hmP 0 6 [.int .i64 id, .int .i64 fl, .slice Q qn qc, .slice A an ac, .slice O on oc, .slice M mn mc] rfl)
  go_wp2_with (first | ((with_reducible show wpList _ _ _ (⟨some 11, _, _, _, _, _⟩ :: _) _ _); refine wpList_load_rng 26 (.tmp 2) rfl (by kernel_rfl) _ _ rfl _ R11.out _ Try.underlying26 rfl (by kernel_rfl) ?_))
  try clear R11
  with_reducible refine (lgreat_is _ (HM0.out.below bel) HG.out).mono ?_
  rintro e w3 ⟨rfl, b3⟩
  replace hmP := blk_u hmP b3
  replace bel := bel.trans (b3.mono bel.size)
  clear b3
  have R14 := Lib.hid (range_lit hmP 0 6 [.int .i64 id, .int .i64 fl, .slice Q qn qc, .slice A an ac, .slice O on oc, .slice M mn mc] rfl)
  go_wp2_with (first | ((with_reducible show wpList _ _ _ (⟨some 14, _, _, _, _, _⟩ :: _) _ _); refine wpList_load_rng 26 (.tmp 2) rfl (by kernel_rfl) _ _ rfl _ R14.out _ Try.underlying26 rfl (by kernel_rfl) ?_))
  try clear R14
  with_reducible refine (dput_sl (id := id) (fl := fl) (k := k) _ (HM0.out.below bel) HI.out HFF.out HB.out HP.out HK.out).mono ?_
  rintro e w4 ⟨Apb, cpb, rfl, pb, b4⟩
  replace hmP := blk_u hmP b4
  replace bel := bel.trans (b4.mono bel.size)
  clear b4
  replace pb : Sl w4 (Apb) (k) (cpb) (L) := pb
  have R19 := Lib.hid (range_lit hmP 0 6 [.int .i64 id, .int .i64 fl, .slice Q qn qc, .slice A an ac, .slice O on oc, .slice M mn mc] rfl)
  go_wp2_with (first | ((with_reducible show wpList _ _ _ (⟨some 19, _, _, _, _, _⟩ :: _) _ _); refine wpList_load_rng 26 (.tmp 2) rfl (by kernel_rfl) _ _ rfl _ R19.out _ Try.underlying26 rfl (by kernel_rfl) ?_))
  try clear R19
  with_reducible refine (lown_any _ (HM0.out.below bel) (bm_parts HB.out)).mono ?_
  rintro e w5 ⟨Qo, qco, Ao, aco, Oo, oco, Mo, mco, rfl, hm_, b5⟩
  replace hmP := blk_u hmP b5
  replace pb := pb.below b5
  replace bel := bel.trans (b5.mono bel.size)
  clear b5
  have ko := Below.refl w5.heap.size w5
  have HMo := Lib.hid hm_
  clear hm_
  go_wp2_with fail
  with_reducible refine (rput_sl (id := id) (fl := fl) (k := k) _ (HMo.out.below ko) HI.out HFF.out HB.out HP.out HK.out).mono ?_
  rintro e w6 ⟨Apc, cpc, rfl, pc, b6⟩
  replace hmP := blk_u hmP b6
  replace pb := pb.below b6
  replace ko := ko.trans (b6.mono ko.size)
  replace bel := bel.trans (b6.mono bel.size)
  clear b6
  replace pc : Sl w6 (Apc) (k) (cpc) (L) := pc
  go_wp2_with fail
  replace bel := bel.drew
  replace hmP : w6.drew.heap[g2]? = _ := hmP
  replace pb := pb.drew
  replace pc := pc.drew
  replace ko := ko.drew
  refine wp_region_held_drew (S := fun W => W.heap[g2]? = some (.cells #[.int .i64 id, .int .i64 fl, .slice Q qn qc, .slice A an ac, .slice O on oc, .slice M mn mc] 26 (0, 0)) ∧ Sl W (Apb) (k) (cpb) (L) ∧ Sl W (Apc) (k) (cpc) (L)) (by kernel_rfl) ⟨hmP, pb, pc⟩ (fun hH => ?_)
  generalize w6.drew = w7 at bel hmP pb pc ko hH ⊢
  refine wpAnyH_take (i := 0) (v := ?_) rfl (by kernel_rfl) (by kernel_rfl) (by kernel_rfl) (fun _ _ _ h => h) (Or.inl ⟨by rfl, ?_⟩) hH ?_
  rotate_left
  · ((intro W hW; clear hW; go_simp) <;> with_reducible rfl)
  simp only [Act.put, List.getElem_toArray, List.getElem_cons_zero, List.setIfInBounds_toArray, List.set_cons_zero, List.set_cons_succ]
  refine wpAnyH_take (i := 1) (v := ?_) rfl (by kernel_rfl) (by kernel_rfl) (by kernel_rfl) (fun _ _ _ h => h) (Or.inl ⟨by rfl, ?_⟩) hH ?_
  rotate_left
  · ((intro W hW; clear hW; go_simp) <;> with_reducible rfl)
  simp only [sq3, sq4]
  refine wpAnyH_take (i := 2) (v := ?_) rfl (by kernel_rfl) (by kernel_rfl) (by kernel_rfl) (fun _ _ _ h => h) (Or.inl ⟨by rfl, ?_⟩) hH ?_
  rotate_left
  · ((intro W hW; clear hW; go_simp) <;> with_reducible rfl)
  simp only [sq3, sq4]
  refine wpAnyH_take (i := 3) (v := ?_) rfl (by kernel_rfl) (by kernel_rfl) (by kernel_rfl) (fun _ _ _ h => h) (Or.inl ⟨by rfl, ?_⟩) hH ?_
  rotate_left
  · ((intro W hW; clear hW; go_simp) <;> with_reducible rfl)
  simp only [sq3, sq4]
  refine wpAnyH_take (i := 4) (v := ?_) rfl (by kernel_rfl) (by kernel_rfl) (by kernel_rfl) (fun _ _ _ h => h) (Or.inl ⟨by rfl, ?_⟩) hH ?_
  rotate_left
  · ((intro W hW; clear hW; go_simp) <;> with_reducible rfl)
  simp only [sq3, sq4]
  refine wpAnyH_take (i := 5) (v := ?_) rfl (by kernel_rfl) (by kernel_rfl) (by kernel_rfl) (fun _ _ _ h => h) (Or.inl ⟨by rfl, ?_⟩) hH ?_
  rotate_left
  · ((intro W hW; have st0 := (hW.2.1).str (P := Try.prog) 30 5 9 Try.underlying30 Try.underlying5 Try.underlying9; clear hW; go_simp) <;> with_reducible rfl)
  simp only [sq3, sq4]
  refine wpAnyH_take (i := 6) (v := ?_) rfl (by kernel_rfl) (by kernel_rfl) (by kernel_rfl) (fun _ _ _ h => h) (Or.inl ⟨by rfl, ?_⟩) hH ?_
  rotate_left
  · ((intro W hW; clear hW; go_simp) <;> with_reducible rfl)
  simp only [sq3, sq4]
  refine wpAnyH_take (i := 7) (v := ?_) rfl (by kernel_rfl) (by kernel_rfl) (by kernel_rfl) (fun _ _ _ h => h) (Or.inl ⟨by rfl, ?_⟩) hH ?_
  rotate_left
  · ((intro W hW; have st0 := (hW.2.2).str (P := Try.prog) 30 5 9 Try.underlying30 Try.underlying5 Try.underlying9; clear hW; go_simp) <;> with_reducible rfl)
  simp only [sq3, sq4]
  refine wpAnyH_take (i := 8) (v := ?_) rfl (by kernel_rfl) (by kernel_rfl) (by kernel_rfl) (fun _ _ _ h => h) (Or.inl ⟨by rfl, ?_⟩) hH ?_
  rotate_left
  · ((intro W hW; clear hW; go_simp) <;> with_reducible rfl)
  simp only [sq3, sq4]
  refine wpAnyH_take (i := 9) (v := ?_) rfl (by kernel_rfl) (by kernel_rfl) (by kernel_rfl) (fun _ _ _ h => h) (Or.inl ⟨by rfl, ?_⟩) hH ?_
  rotate_left
  · ((intro W hW; clear hW; go_simp) <;> with_reducible rfl)
  simp only [sq3, sq4]
  refine wpAnyH_take (i := 10) (v := ?_) rfl (by kernel_rfl) (by kernel_rfl) (by kernel_rfl) (fun _ _ _ h => h) (Or.inl ⟨by rfl, ?_⟩) hH ?_
  rotate_left
  · ((intro W hW; clear hW; go_simp) <;> with_reducible rfl)
  simp only [sq3, sq4]
  refine wpAnyH_take (i := 11) (v := .agg #[.int .i64 id, .int .i64 fl, .slice Q qn qc, .slice A an ac, .slice O on oc, .slice M mn mc]) rfl (by kernel_rfl) (by kernel_rfl) (by kernel_rfl) (fun _ _ _ h => h) (yieldsIf_load_part (by kernel_rfl) 26 _ rfl g2 0 6 rfl _ 26 (0, 0) (fun W hW => hW.1) _ rfl _ Try.underlying26 rfl (by kernel_rfl)) hH ?_
  simp only [sq3, sq4]
  refine wpAnyH_take (i := 12) (v := ?_) rfl (by kernel_rfl) (by kernel_rfl) (by kernel_rfl) (fun _ _ _ h => h) (Or.inl ⟨by rfl, ?_⟩) hH ?_
  rotate_left
  · ((intro W hW; clear hW; go_simp) <;> with_reducible rfl)
  simp only [sq3, sq4]
  refine wpAnyH_take (i := 15) (v := .agg #[.int .i64 id, .int .i64 fl, .slice Q qn qc, .slice A an ac, .slice O on oc, .slice M mn mc]) rfl (by kernel_rfl) (by kernel_rfl) (by kernel_rfl) (fun _ _ _ h => h) (yieldsIf_load_part (by kernel_rfl) 26 _ rfl g2 0 6 rfl _ 26 (0, 0) (fun W hW => hW.1) _ rfl _ Try.underlying26 rfl (by kernel_rfl)) hH ?_
  simp only [sq3, sq4]
  refine wpAnyH_take (i := 17) (v := ?_) rfl (by kernel_rfl) (by kernel_rfl) (by kernel_rfl) (fun _ _ _ h => h) (Or.inl ⟨by rfl, ?_⟩) hH ?_
  rotate_left
  · ((intro W hW; clear hW; go_simp) <;> with_reducible rfl)
  simp only [sq3, sq4]
  refine wpAnyH_ready (rs := [13]) (by kernel_rfl) (by simp) ?_
  refine AllReadyH.cons (o := _) rfl (fun K hK => ?_) AllReadyH.nil
  simp only [sq3]
  go_simp
  with_reducible refine (dref_is _ (HM0.out.below bel) HB.out HFL.out).mono ?_
  rintro e w8 ⟨Qr, qcr, rfl, hm_, b8⟩
  dsimp only
  replace hmP := blk_u hmP b8
  replace pb := pb.below b8
  replace pc := pc.below b8
  replace ko := ko.trans (b8.mono ko.size)
  replace bel := bel.trans (b8.mono bel.size)
  clear b8
  have kr := Below.refl w8.heap.size w8
  have HMr := Lib.hid hm_
  clear hm_
  refine hK.out _ _ ⟨hmP, pb, pc⟩ (fun hH9 => ?_)
  clear hK K
  refine wpAnyH_ready (rs := [14]) (by kernel_rfl) (by simp) ?_
  refine AllReadyH.cons (o := _) rfl (fun K hK => ?_) AllReadyH.nil
  simp only [sq3]
  go_simp
  with_reducible refine (lown_any _ (HMr.out.below kr) (bm_parts (refM_b HB.out))).mono ?_
  rintro e w10 ⟨Qp, qcp, Ap, acp, Op, ocp, Mp, mcp, rfl, hm_, b10⟩
  dsimp only
  replace hmP := blk_u hmP b10
  replace pb := pb.below b10
  replace pc := pc.below b10
  replace ko := ko.trans (b10.mono ko.size)
  replace kr := kr.trans (b10.mono kr.size)
  replace bel := bel.trans (b10.mono bel.size)
  clear b10
  have kp := Below.refl w10.heap.size w10
  have HMp := Lib.hid hm_
  clear hm_
  refine hK.out _ _ ⟨hmP, pb, pc⟩ (fun hH11 => ?_)
  clear hK K
  refine wpAnyH_ready (rs := [16]) (by kernel_rfl) (by simp) ?_
  refine AllReadyH.cons (o := _) rfl (fun K hK => ?_) AllReadyH.nil
  simp only [sq3]
  go_simp
  with_reducible refine (lown_any _ (HM0.out.below bel) (bm_parts HB.out)).mono ?_
  rintro e w12 ⟨Qq, qcq, Aq, acq, Oq, ocq, Mq, mcq, rfl, hm_, b12⟩
  dsimp only
  replace hmP := blk_u hmP b12
  replace pb := pb.below b12
  replace pc := pc.below b12
  replace ko := ko.trans (b12.mono ko.size)
  replace kr := kr.trans (b12.mono kr.size)
  replace kp := kp.trans (b12.mono kp.size)
  replace bel := bel.trans (b12.mono bel.size)
  clear b12
  have kq := Below.refl w12.heap.size w12
  have HMq := Lib.hid hm_
  clear hm_
  refine hK.out _ _ ⟨hmP, pb, pc⟩ (fun hH13 => ?_)
  clear hK K
  refine wpAnyH_ready (rs := [18]) (by kernel_rfl) (by simp) ?_
  refine AllReadyH.cons (o := _) rfl (fun K hK => ?_) AllReadyH.nil
  simp only [sq3]
  go_simp
  with_reducible refine (rref_is _ HFL.out).mono ?_
  rintro e w14 ⟨rfl, b14⟩
  dsimp only
  replace hmP := blk_u hmP b14
  replace pb := pb.below b14
  replace pc := pc.below b14
  replace ko := ko.trans (b14.mono ko.size)
  replace kr := kr.trans (b14.mono kr.size)
  replace kp := kp.trans (b14.mono kp.size)
  replace kq := kq.trans (b14.mono kq.size)
  replace bel := bel.trans (b14.mono bel.size)
  clear b14
  refine hK.out _ _ ⟨hmP, pb, pc⟩ (fun hH15 => ?_)
  clear hK K
  refine wpAnyH_ready (rs := [19]) (by kernel_rfl) (by simp) ?_
  refine AllReadyH.cons (o := _) rfl (fun K hK => ?_) AllReadyH.nil
  simp only [sq3]
  go_simp
  with_reducible refine (rsame_is _ (HMp.out.below kp) ((HMq.out.below kq).ref code) rfl rfl (refM_b HB.out)).mono ?_
  rintro e w16 ⟨rfl, b16⟩
  dsimp only
  replace hmP := blk_u hmP b16
  replace pb := pb.below b16
  replace pc := pc.below b16
  replace ko := ko.trans (b16.mono ko.size)
  replace kr := kr.trans (b16.mono kr.size)
  replace kp := kp.trans (b16.mono kp.size)
  replace kq := kq.trans (b16.mono kq.size)
  replace bel := bel.trans (b16.mono bel.size)
  clear b16
  refine hK.out _ _ ⟨hmP, pb, pc⟩ (fun hH17 => ?_)
  clear hK K
  refine wpAnyH_take (i := 20) (v := ?_) rfl (by kernel_rfl) (by kernel_rfl) (by kernel_rfl) (fun _ _ _ h => h) (Or.inl ⟨by rfl, ?_⟩) hH17 ?_
  rotate_left
  · ((intro W hW; clear hW; go_simp) <;> with_reducible rfl)
  simp only [sq3, sq4]
  refine wpAnyH_take (i := 21) (v := ?_) rfl (by kernel_rfl) (by kernel_rfl) (by kernel_rfl) (fun _ _ _ h => h) (Or.inl ⟨by rfl, ?_⟩) hH17 ?_
  rotate_left
  · ((intro W hW; clear hW; go_simp) <;> with_reducible rfl)
  simp only [sq3, sq4]
  refine wpAnyH_done (by kernel_rfl) ?_ _
  go_wp2_with fail
  go_ret
  exact ⟨rfl, bel⟩
open Go.RowKit

theorem made_zeros (k : Nat) : (madeCells #[Value.int .u8 0] k).toList = (List.replicate k (0 : UInt8)).map u8v := by
  apply List.ext_getElem
  · simp [madeCells]
  · intro i h1 h2
    simp [madeCells, u8v, Nat.mod_one]
theorem wp_make_bytes {P : Program} {o : Oper} {a : Act} {w : World} {K : Act → World → Prop} {Q : Exit → Act → World → Prop} (l c : Operand) (t : TypeId) (ho : o.op = .makeSlice t l c)
    (e : TypeId) (i : TypeInfo) (h1 : P.underlying t = some (.slice e)) (h2 : P.info? e = some i) (h3 : i.zero = some (.int .u8 0)) (h4 : i.size = 1) (h5 : i.bytes = 1)
    (kl kc : IntKind) (L C : Int) (n : Nat) (hl : a.eval l = .int kl L) (hc : a.eval c = .int kc C) (hL : L = (n : Int)) (hC : C = (n : Int)) (hn : n ≤ 281474976710656)
    (hK : ∀ w', Sl w' (some ⟨w.heap.size, 0, none⟩) n n (List.replicate n 0) → Below w.heap.size w w' → K (a.put o.dst (.slice (some ⟨w.heap.size, 0, none⟩) n n)) w') : Oper.wp P o a w K Q := by
  obtain ⟨w', hrun, r1, r2⟩ := run_make_full (P := P) w w.heap.size t e i (.int .u8 0) 1 h1 h2 h3 h4 kl kc n (by rw [h5]; omega) (by unfold maxLen; omega) (Nat.le_refl _)
  subst hL
  subst hC
  unfold Oper.wp
  simp [execOp, ho, hl, hc, hrun, Result.andThen]
  have r1' : w'.ownsRow w.heap.size e 1 (.slice (some ⟨w.heap.size, 0, none⟩) n n) n ((List.replicate n (0 : UInt8)).map u8v) := by
    rw [← made_zeros]; rw [Nat.mul_one] at r1; exact r1
  obtain ⟨A, c, e0, hs⟩ := Sl.of_own r1'
  cases e0
  exact hK _ hs ((Below.refl _ _).grown r2 (Nat.le_refl _) (fun k h => by cases h))
theorem wpList_make_bytes {P : Program} {ops : Array Oper} {rest : List Oper} {o : Oper} {a : Act} {w : World} {Q : Exit → Act → World → Prop} (hg : o.guard = none) (l c : Operand) (t : TypeId) (ho : o.op = .makeSlice t l c)
    (e : TypeId) (i : TypeInfo) (h1 : P.underlying t = some (.slice e)) (h2 : P.info? e = some i) (h3 : i.zero = some (.int .u8 0)) (h4 : i.size = 1) (h5 : i.bytes = 1)
    (kl kc : IntKind) (L C : Int) (n : Nat) (hl : a.eval l = .int kl L) (hc : a.eval c = .int kc C) (hL : L = (n : Int)) (hC : C = (n : Int)) (hn : n ≤ 281474976710656)
    (hK : ∀ w', Sl w' (some ⟨w.heap.size, 0, none⟩) n n (List.replicate n 0) → Below w.heap.size w w' → wpList P ops Q rest (a.put o.dst (.slice (some ⟨w.heap.size, 0, none⟩) n n)) w') : wpList P ops Q (o :: rest) a w :=
  wpList_plain hg fun _ hK' => wp_make_bytes l c t ho e i h1 h2 h3 h4 h5 kl kc L C n hl hc hL hC hn (fun w' x y => hK' _ _ (hK w' x y))
theorem wpList_make_g {P : Program} {ops : Array Oper} {rest : List Oper} {o : Oper} {a : Act} {w : World} {Q : Exit → Act → World → Prop} (hg : o.guard = none) (l c : Operand) (t : TypeId) (ho : o.op = .makeSlice t l c)
    (e : TypeId) (i : TypeInfo) (h1 : P.underlying t = some (.slice e)) (h2 : P.info? e = some i) (h3 : i.zero = some (.int .u8 0)) (h4 : i.size = 1) (h5 : i.bytes = 1)
    (kl kc : IntKind) (L C : Int) (n : Nat) (hl : a.eval l = .int kl L) (hc : a.eval c = .int kc C) (hL : L = (n : Int)) (hC : C = (n : Int)) (hn : n ≤ 281474976710656)
    (hK : ∀ g w', w.heap.size ≤ g → Sl w' (some ⟨g, 0, none⟩) n n (List.replicate n 0) → Below w.heap.size w w' → wpList P ops Q rest (a.put o.dst (.slice (some ⟨g, 0, none⟩) n n)) w') : wpList P ops Q (o :: rest) a w :=
  wpList_make_bytes hg l c t ho e i h1 h2 h3 h4 h5 kl kc L C n hl hc hL hC hn fun w' h b => hK _ w' (Nat.le_refl _) h b
end Go.Proofs.Ytjedknjlpeccbaa
