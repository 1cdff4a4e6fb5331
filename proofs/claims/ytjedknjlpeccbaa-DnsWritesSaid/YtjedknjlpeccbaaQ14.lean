/- Texts put together: Dr3. -/
import Derived.Test.YtjedknjlpeccbaaQ1
import Derived.Test.YtjedknjlpeccbaaQ12
import Derived.Test.YtjedknjlpeccbaaQ13
namespace Go.Proofs.Ytjedknjlpeccbaa
open Go.RowKit

theorem ru16_00 {gx n c : Nat} {A : Option Addr} {b : List UInt8} (w : World) (hwk : w.heap[gx]? = some (.cells #[.slice A n c, .int .i64 0, .int .i64 0] 66 (0, 0))) (sb : Sl w A n c b) (av_sb_wk : Av A n gx) (hn : n ≤ 100000) {v a2 y2 : Nat} (hs : u16S b (0, 0) = (v, a2, y2)) : Calls Try.prog 27 #[.pointer (some ⟨gx, 0, none⟩)] w fun e w' => e = .returned (.int .i64 (v : Int)) ∧ w'.heap[gx]? = some (.cells #[.slice A n c, .int .i64 (a2 : Int), .int .i64 (y2 : Int)] 66 (0, 0)) ∧ w.grownBy w' (some gx) := ru16_any (a := 0) (y := 0) w hwk sb av_sb_wk hn (Nat.zero_le _) hs
theorem getM_far {b : List UInt8} (h : 1472 < b.length) : getM b = .error 2 := by unfold getM; rw [if_pos h]
theorem getM_cut {b : List UInt8} (h1 : ¬ 1472 < b.length) (h : b.length < 12) : getM b = .error 3 := by unfold getM; rw [if_neg h1, if_pos h]
theorem getM_many {b : List UInt8} (h1 : ¬ 1472 < b.length) (h2 : ¬ b.length < 12) {nq na no nm : Nat} (k1 : nAt b 4 2 = nq) (k2 : nAt b 6 2 = na) (k3 : nAt b 8 2 = no) (k4 : nAt b 10 2 = nm) (h : 64 < nq + na + no + nm) : getM b = .error 2 := by unfold getM; rw [if_neg h1, if_neg h2, k1, k2, k3, k4, if_pos h]
theorem getM_fin {b : List UInt8} (h1 : ¬ 1472 < b.length) (h2 : ¬ b.length < 12) {nq na no nm i0 f0 : Nat} (k0 : nAt b 0 2 = i0) (k00 : nAt b 2 2 = f0) (k1 : nAt b 4 2 = nq) (k2 : nAt b 6 2 = na) (k3 : nAt b 8 2 = no) (k4 : nAt b 10 2 = nm) (h3 : ¬ 64 < nq + na + no + nm)
    {q : List Qn} {a o m : List Rn} {p1 z1 p2 z2 p3 z3 p4 z4 : Nat} (g1 : manyS (qS b) nq (12, 0) [] = (q, p1, z1)) (g2 : manyS (recS b) na (p1, z1) [] = (a, p2, z2)) (g3 : manyS (recS b) no (p2, z2) [] = (o, p3, z3)) (g4 : manyS (recS b) nm (p3, z3) [] = (m, p4, z4)) :
    getM b = if z4 ≠ 0 then .error z4 else if p4 = b.length then .ok ⟨i0, f0, q, a, o, m⟩ else .error 4 := by
  rw [getM_S h1 h2 (by rw [k1, k2, k3, k4]; exact h3)]
  unfold bodyS
  simp only [k0, k00, k1, k2, k3, k4, g1, g2, g3, g4]
set_option linter.unusedVariables false in
set_option linter.unusedSimpArgs false in
set_option maxRecDepth 100000 in
set_option maxHeartbeats 16000000 in
theorem rgetm_ok {A : Option Addr} {n c : Nat} {b : List UInt8} (w : World) (sb : Sl w A n c b) {m : Mn} (hg : getM b = .ok m) : Calls Try.prog 11 #[.slice A n c] w fun e w' => ∃ (Q : Option Addr) (qn qc : Nat) (A1 : Option Addr) (an ac : Nat) (O : Option Addr) (on oc : Nat) (M : Option Addr) (mn mc : Nat), e = .returned (.tuple #[.agg #[.int .i64 m.id, .int .i64 m.fl, .slice Q qn qc, .slice A1 an ac, .slice O on oc, .slice M mn mc], .int .i64 0]) ∧ Mr w' Q qn qc A1 an ac O on oc M mn mc m ∧ Below w.heap.size w w' := by
  have hnb : n ≤ 100000 := by have h_ := (getM_yes hg).1; have h1_ := sb.1; omega
  have HBL := Lib.hid sb.1
  have n0 : (0 : Int) ≤ n := by omega
  have n1 : (n : Int) ≤ 100000 := by omega
  have BLB := sb.bl_new
  have hsz := Nat.le_refl w.heap.size
  obtain ⟨h1_, h2_, _⟩ := getM_yes hg
  have HOK := Lib.hid hg
  have NL : n ≤ 100000 := by have h_ := HBL.out; omega
  have hn1_ : n ≤ 1472 := by have h_ := HBL.out; omega
  have hn2_ : 12 ≤ n := by have h_ := HBL.out; omega
  have HL1 : Hid (¬ 1472 < b.length) := Lib.hid (by have h_ := HBL.out; omega)
  have HL2 : Hid (¬ b.length < 12) := Lib.hid (by have h_ := HBL.out; omega)
  have t14 : decide ((1472 : Int) < (n : Int)) = false := decide_eq_false (by omega)
  have t18 : decide ((n : Int) < 12) = false := decide_eq_false (by omega)
  obtain ⟨i0, e0, f0, h_⟩ : ∃ u1_ u2_ u3_, u16S b (0, 0) = (u1_, u2_, u3_) := ⟨_, _, _, rfl⟩
  have HH0 := Lib.hid h_
  have HK0 : Hid (nAt b 0 2 = i0 ∧ 2 = e0 ∧ 0 = f0) := Lib.hid (by have h1_ := h_; rw [u16S_ok (by have h2_ := HL2.out; omega)] at h1_; injection h1_ with h1_ h2_; injection h2_ with h2_ h3_; exact ⟨h1_, h2_, h3_⟩)
  clear h_
  have EN0 : e0 ≤ n := by have h_ := HK0.out.2.1; have h1_ := HL2.out; have h2_ := HBL.out; omega
  have i00_ : (0 : Int) ≤ i0 := by omega
  obtain ⟨f0, e1, f1, h_⟩ : ∃ u1_ u2_ u3_, u16S b (e0, f0) = (u1_, u2_, u3_) := ⟨_, _, _, rfl⟩
  have HH1 := Lib.hid h_
  have HK1 : Hid (nAt b 2 2 = f0 ∧ 4 = e1 ∧ 0 = f1) := Lib.hid (by have h1_ := h_; rw [← HK0.out.2.1, ← HK0.out.2.2] at h1_; rw [u16S_ok (by have h2_ := HL2.out; omega)] at h1_; injection h1_ with h1_ h2_; injection h2_ with h2_ h3_; exact ⟨h1_, h2_, h3_⟩)
  clear h_
  have EN1 : e1 ≤ n := by have h_ := HK1.out.2.1; have h1_ := HL2.out; have h2_ := HBL.out; omega
  have f00_ : (0 : Int) ≤ f0 := by omega
  obtain ⟨nq, e2, f2, h_⟩ : ∃ u1_ u2_ u3_, u16S b (e1, f1) = (u1_, u2_, u3_) := ⟨_, _, _, rfl⟩
  have HH2 := Lib.hid h_
  have HK2 : Hid (nAt b 4 2 = nq ∧ 6 = e2 ∧ 0 = f2) := Lib.hid (by have h1_ := h_; rw [← HK1.out.2.1, ← HK1.out.2.2] at h1_; rw [u16S_ok (by have h2_ := HL2.out; omega)] at h1_; injection h1_ with h1_ h2_; injection h2_ with h2_ h3_; exact ⟨h1_, h2_, h3_⟩)
  clear h_
  have EN2 : e2 ≤ n := by have h_ := HK2.out.2.1; have h1_ := HL2.out; have h2_ := HBL.out; omega
  have nq0_ : (0 : Int) ≤ nq := by omega
  obtain ⟨na, e3, f3, h_⟩ : ∃ u1_ u2_ u3_, u16S b (e2, f2) = (u1_, u2_, u3_) := ⟨_, _, _, rfl⟩
  have HH3 := Lib.hid h_
  have HK3 : Hid (nAt b 6 2 = na ∧ 8 = e3 ∧ 0 = f3) := Lib.hid (by have h1_ := h_; rw [← HK2.out.2.1, ← HK2.out.2.2] at h1_; rw [u16S_ok (by have h2_ := HL2.out; omega)] at h1_; injection h1_ with h1_ h2_; injection h2_ with h2_ h3_; exact ⟨h1_, h2_, h3_⟩)
  clear h_
  have EN3 : e3 ≤ n := by have h_ := HK3.out.2.1; have h1_ := HL2.out; have h2_ := HBL.out; omega
  have na0_ : (0 : Int) ≤ na := by omega
  obtain ⟨no, e4, f4, h_⟩ : ∃ u1_ u2_ u3_, u16S b (e3, f3) = (u1_, u2_, u3_) := ⟨_, _, _, rfl⟩
  have HH4 := Lib.hid h_
  have HK4 : Hid (nAt b 8 2 = no ∧ 10 = e4 ∧ 0 = f4) := Lib.hid (by have h1_ := h_; rw [← HK3.out.2.1, ← HK3.out.2.2] at h1_; rw [u16S_ok (by have h2_ := HL2.out; omega)] at h1_; injection h1_ with h1_ h2_; injection h2_ with h2_ h3_; exact ⟨h1_, h2_, h3_⟩)
  clear h_
  have EN4 : e4 ≤ n := by have h_ := HK4.out.2.1; have h1_ := HL2.out; have h2_ := HBL.out; omega
  have no0_ : (0 : Int) ≤ no := by omega
  obtain ⟨nm, e5, f5, h_⟩ : ∃ u1_ u2_ u3_, u16S b (e4, f4) = (u1_, u2_, u3_) := ⟨_, _, _, rfl⟩
  have HH5 := Lib.hid h_
  have HK5 : Hid (nAt b 10 2 = nm ∧ 12 = e5 ∧ 0 = f5) := Lib.hid (by have h1_ := h_; rw [← HK4.out.2.1, ← HK4.out.2.2] at h1_; rw [u16S_ok (by have h2_ := HL2.out; omega)] at h1_; injection h1_ with h1_ h2_; injection h2_ with h2_ h3_; exact ⟨h1_, h2_, h3_⟩)
  clear h_
  have EN5 : e5 ≤ n := by have h_ := HK5.out.2.1; have h1_ := HL2.out; have h2_ := HBL.out; omega
  have nm0_ : (0 : Int) ≤ nm := by omega
  have i016 : (i0 : Int) ≤ 65535 := by have h_ := nAt_lt2 b 0 (by have h2_ := HL2.out; omega); rw [HK0.out.1] at h_; omega
  have f016 : (f0 : Int) ≤ 65535 := by have h_ := nAt_lt2 b 2 (by have h2_ := HL2.out; omega); rw [HK1.out.1] at h_; omega
  have nq16 : (nq : Int) ≤ 65535 := by have h_ := nAt_lt2 b 4 (by have h2_ := HL2.out; omega); rw [HK2.out.1] at h_; omega
  have na16 : (na : Int) ≤ 65535 := by have h_ := nAt_lt2 b 6 (by have h2_ := HL2.out; omega); rw [HK3.out.1] at h_; omega
  have no16 : (no : Int) ≤ 65535 := by have h_ := nAt_lt2 b 8 (by have h2_ := HL2.out; omega); rw [HK4.out.1] at h_; omega
  have nm16 : (nm : Int) ≤ 65535 := by have h_ := nAt_lt2 b 10 (by have h2_ := HL2.out; omega); rw [HK5.out.1] at h_; omega
  clear h1_ h2_ hg hn1_ hn2_
  have hsm : ¬ 64 < nq + na + no + nm := fun h_ => by have h1_ := (getM_many HL1.out HL2.out HK2.out.1 HK3.out.1 HK4.out.1 HK5.out.1 h_).symm.trans HOK.out; cases h1_
  have hs1 : decide ((64 : Int) < (nq : Int) + na + no + nm) = false := decide_eq_false (by omega)
  have HSM : Hid (¬ 64 < nq + na + no + nm) := Lib.hid hsm
  have bq : (nq : Int) ≤ 64 := by omega
  have ba : (na : Int) ≤ 64 := by omega
  have bo : (no : Int) ≤ 64 := by omega
  have bm : (nm : Int) ≤ 64 := by omega
  clear hsm
  have HS0 : Hid (12 = e5 ∧ 0 = f5) := Lib.hid HK5.out.2
  have PN0 := EN5
  obtain ⟨q, s1, r1, h_⟩ : ∃ u1_ u2_ u3_, manyS (qS b) nq (e5, f5) [] = (u1_, u2_, u3_) := ⟨_, _, _, rfl⟩
  have HM1 := Lib.hid h_
  clear h_
  have PN1 : s1 ≤ n := by have h_ := HM1.out; have h1_ := manyS_le (f := qS b) (n := b.length) (fun s h => qS_le h) nq (e5, f5) [] (by dsimp only; have h2_ := HBL.out; omega); rw [h_] at h1_; dsimp only at h1_; have h2_ := HBL.out; omega
  obtain ⟨a_, s2, r2, h_⟩ : ∃ u1_ u2_ u3_, manyS (recS b) na (s1, r1) [] = (u1_, u2_, u3_) := ⟨_, _, _, rfl⟩
  have HM2 := Lib.hid h_
  clear h_
  have PN2 : s2 ≤ n := by have h_ := HM2.out; have h1_ := manyS_le (f := recS b) (n := b.length) (fun s h => recS_le h) na (s1, r1) [] (by dsimp only; have h2_ := HBL.out; omega); rw [h_] at h1_; dsimp only at h1_; have h2_ := HBL.out; omega
  obtain ⟨o_, s3, r3, h_⟩ : ∃ u1_ u2_ u3_, manyS (recS b) no (s2, r2) [] = (u1_, u2_, u3_) := ⟨_, _, _, rfl⟩
  have HM3 := Lib.hid h_
  clear h_
  have PN3 : s3 ≤ n := by have h_ := HM3.out; have h1_ := manyS_le (f := recS b) (n := b.length) (fun s h => recS_le h) no (s2, r2) [] (by dsimp only; have h2_ := HBL.out; omega); rw [h_] at h1_; dsimp only at h1_; have h2_ := HBL.out; omega
  obtain ⟨m_, s4, r4, h_⟩ : ∃ u1_ u2_ u3_, manyS (recS b) nm (s3, r3) [] = (u1_, u2_, u3_) := ⟨_, _, _, rfl⟩
  have HM4 := Lib.hid h_
  clear h_
  have PN4 : s4 ≤ n := by have h_ := HM4.out; have h1_ := manyS_le (f := recS b) (n := b.length) (fun s h => recS_le h) nm (s3, r3) [] (by dsimp only; have h2_ := HBL.out; omega); rw [h_] at h1_; dsimp only at h1_; have h2_ := HBL.out; omega
  have HFIN : Hid (getM b = if r4 ≠ 0 then .error r4 else if s4 = b.length then .ok ⟨i0, f0, q, a_, o_, m_⟩ else .error 4) := Lib.hid (getM_fin HL1.out HL2.out HK0.out.1 HK1.out.1 HK2.out.1 HK3.out.1 HK4.out.1 HK5.out.1 HSM.out (by rw [HS0.out.1, HS0.out.2]; exact HM1.out) HM2.out HM3.out HM4.out)
  have hqs : Qws w.heap.size w [] [] := All2.nil
  obtain ⟨jq, hjq, hjq0, hjq1, hjq2⟩ := info_parts Try.info_rqn
  have bel := Below.refl w.heap.size w
  go_enter Try.func11, Try.ntmps11
  go_wp2_with (first | ((with_reducible show wpList _ _ _ (⟨some 2, _, _, _, _, _⟩ :: _) _ _); refine wpList_new_a rfl 40 rfl #[.int .i64 0, .int .i64 0, .slice none 0 0, .slice none 0 0, .slice none 0 0, .slice none 0 0] (by kernel_rfl) ?_; intro g2 w1 ge hh bb; have av_sb_b2 := sb.av_new ge; have ob2 := Nat.le_trans bel.size ge; replace sb := sb.below bb; replace hsz := Nat.le_trans hsz bb.size; replace hqs := hqs.kt (S := []) (kt_below bb) (by simp) (by simp); replace bel := bel.trans (bb.mono bel.size); have hb2 := hh; clear hh ge bb) | ((with_reducible show wpList _ _ _ (⟨some 22, _, _, _, _, _⟩ :: _) _ _); refine wpList_box_n rfl 66 (.tmp 21) rfl #[.slice A n c, .int .i64 0, .int .i64 0] rfl ?_; intro g22 w2 ge lt hh bb; have d_b2_wk := ne_new (hlt hb2) ge; have av_sb_wk := sb.av_new ge; have owk := Nat.le_trans bel.size ge; replace hb2 := blk_u hb2 bb; replace sb := sb.below bb; replace hsz := Nat.le_trans hsz bb.size; replace hqs := hqs.kt (S := []) (kt_below bb) (by simp) (by simp); replace bel := bel.trans (bb.mono bel.size); have hwk := hh; clear hh lt ge bb))
  with_reducible refine (ru16_00 _ hwk sb av_sb_wk NL HH0.out).mono ?_
  rintro e w3 ⟨rfl, hq_, b3⟩
  replace sb := sb.away av_sb_wk b3
  replace hb2 := blk_a hb2 b3 d_b2_wk
  replace hsz := Nat.le_trans hsz b3.size
  replace hqs := hqs.kt (S := [66]) (kt_grown b3 hwk (by simp)) (by decide) (by decide)
  replace bel := below_grown bel b3 owk bel.size
  clear b3
  clear hwk
  have hwk := hq_
  clear hq_
  go_wp2_with fail
  with_reducible refine (ru16_any _ hwk sb av_sb_wk NL EN0 HH1.out).mono ?_
  rintro e w4 ⟨rfl, hq_, b4⟩
  replace sb := sb.away av_sb_wk b4
  replace hb2 := blk_a hb2 b4 d_b2_wk
  replace hsz := Nat.le_trans hsz b4.size
  replace hqs := hqs.kt (S := [66]) (kt_grown b4 hwk (by simp)) (by decide) (by decide)
  replace bel := below_grown bel b4 owk bel.size
  clear b4
  clear hwk
  have hwk := hq_
  clear hq_
  go_wp2_with (first | ((with_reducible show wpList _ _ _ (⟨some 5, _, _, _, _, _⟩ :: _) _ _); refine wpList_new_a rfl 40 rfl #[.int .i64 0, .int .i64 0, .slice none 0 0, .slice none 0 0, .slice none 0 0, .slice none 0 0] (by kernel_rfl) ?_; intro g5 w5 ge hh bb; have d_b2_mm := ne_new (hlt hb2) ge; have d_wk_mm := ne_new (hlt hwk) ge; have av_sb_mm := sb.av_new ge; have omm := Nat.le_trans bel.size ge; replace hb2 := blk_u hb2 bb; replace hwk := blk_u hwk bb; replace sb := sb.below bb; replace hsz := Nat.le_trans hsz bb.size; replace hqs := hqs.kt (S := []) (kt_below bb) (by simp) (by simp); replace bel := bel.trans (bb.mono bel.size); have hmm := hh; clear hh ge bb) | ((with_reducible show wpList _ _ _ (⟨none, Op.store _ (.tmp 5) _, _, _, _, _⟩ :: _) _ _); refine wpList_store_blk rfl 40 (.tmp 5) (.tmp 27) rfl g5 rfl _ rfl _ 40 hmm (by rfl) (by kernel_rfl) (by kernel_rfl) ?_; intro w6 hq gr; replace sb := sb.away av_sb_mm gr; replace hb2 := blk_a hb2 gr d_b2_mm; replace hwk := blk_a hwk gr d_wk_mm; replace hsz := Nat.le_trans hsz gr.size; replace hqs := hqs.kt (S := [40]) (kt_grown gr hmm (by simp)) (by decide) (by decide); replace bel := below_grown bel gr omm bel.size; clear hmm; have hmm := hq; clear hq gr))
  with_reducible refine (ru16_any _ hwk sb av_sb_wk NL EN1 HH2.out).mono ?_
  rintro e w7 ⟨rfl, hq_, b7⟩
  replace sb := sb.away av_sb_wk b7
  replace hb2 := blk_a hb2 b7 d_b2_wk
  replace hmm := blk_a hmm b7 (ne_symm d_wk_mm)
  replace hsz := Nat.le_trans hsz b7.size
  replace hqs := hqs.kt (S := [66]) (kt_grown b7 hwk (by simp)) (by decide) (by decide)
  replace bel := below_grown bel b7 owk bel.size
  clear b7
  clear hwk
  have hwk := hq_
  clear hq_
  go_wp2_with fail
  with_reducible refine (ru16_any _ hwk sb av_sb_wk NL EN2 HH3.out).mono ?_
  rintro e w8 ⟨rfl, hq_, b8⟩
  replace sb := sb.away av_sb_wk b8
  replace hb2 := blk_a hb2 b8 d_b2_wk
  replace hmm := blk_a hmm b8 (ne_symm d_wk_mm)
  replace hsz := Nat.le_trans hsz b8.size
  replace hqs := hqs.kt (S := [66]) (kt_grown b8 hwk (by simp)) (by decide) (by decide)
  replace bel := below_grown bel b8 owk bel.size
  clear b8
  clear hwk
  have hwk := hq_
  clear hq_
  go_wp2_with fail
  with_reducible refine (ru16_any _ hwk sb av_sb_wk NL EN3 HH4.out).mono ?_
  rintro e w9 ⟨rfl, hq_, b9⟩
  replace sb := sb.away av_sb_wk b9
  replace hb2 := blk_a hb2 b9 d_b2_wk
  replace hmm := blk_a hmm b9 (ne_symm d_wk_mm)
  replace hsz := Nat.le_trans hsz b9.size
  replace hqs := hqs.kt (S := [66]) (kt_grown b9 hwk (by simp)) (by decide) (by decide)
  replace bel := below_grown bel b9 owk bel.size
  clear b9
  clear hwk
  have hwk := hq_
  clear hq_
  go_wp2_with fail
  with_reducible refine (ru16_any _ hwk sb av_sb_wk NL EN4 HH5.out).mono ?_
  rintro e w10 ⟨rfl, hq_, b10⟩
  replace sb := sb.away av_sb_wk b10
  replace hb2 := blk_a hb2 b10 d_b2_wk
  replace hmm := blk_a hmm b10 (ne_symm d_wk_mm)
  replace hsz := Nat.le_trans hsz b10.size
  replace hqs := hqs.kt (S := [66]) (kt_grown b10 hwk (by simp)) (by decide) (by decide)
  replace bel := below_grown bel b10 owk bel.size
  clear b10
  clear hwk
  have hwk := hq_
  clear hq_
  go_wp2_with fail
  go_loopg [10] (nq) (fun gk s10 wr => ∃ i : Nat, ∃ p0 : Nat, ∃ z0 : Nat, ∃ hs : List Qh, ∃ L1 : List Qn, ∃ (Aou : Option Addr) (cou : Nat), gk = nq - i ∧ i ≤ nq ∧ Hid (manyS (qS b) (nq - i) (p0, z0) L1 = manyS (qS b) nq (e5, f5) []) ∧ Hid (p0 ≤ n) ∧ w.heap.size ≤ wr.heap.size ∧ Qws w.heap.size wr hs L1 ∧ s10 = .int .i64 (i : Int) ∧ wr.ownsRow (w.heap.size) 68 3 (.slice Aou (i) cou) (i) ((hs : List Qh).flatMap qE) ∧ Ofs (.slice Aou (i) cou) g2 ∧ Ofs (.slice Aou (i) cou) g22 ∧ Ofs (.slice Aou (i) cou) g5 ∧ wr.heap[g2]? = some (.cells #[.int .i64 0, .int .i64 0, .slice none 0 0, .slice none 0 0, .slice none 0 0, .slice none 0 0] 40 (0, 0)) ∧ wr.heap[g22]? = some (.cells #[.slice A n c, .int .i64 (p0 : Int), .int .i64 (z0 : Int)] 66 (0, 0)) ∧ wr.heap[g5]? = some (.cells #[.int .i64 (i0 : Int), .int .i64 (f0 : Int), .slice Aou i cou, .slice none 0 0, .slice none 0 0, .slice none 0 0] 40 (0, 0)) ∧ Sl wr (A) (n) (c) (b) ∧ Below w.heap.size w wr)
  case atStart => exact ⟨0, e5, f5, [], [], none, 0, Nat.sub_zero _, Nat.zero_le _, Lib.hid rfl, Lib.hid PN0, hsz, hqs, rfl, owk_nil _ _ _, (fun g h => by simp [Value.ownBlock] at h), (fun g h => by simp [Value.ownBlock] at h), (fun g h => by simp [Value.ownBlock] at h), hb2, hwk, hmm, sb, bel⟩
  case round =>
    clear hsz hqs hb2 hwk hmm sb bel
    obtain ⟨i, p0, z0, hs, L1, Aou, cou, HGK, hi, HG, HP, hsz, hqs, rfl, ouw, of_ou_b2, of_ou_wk, of_ou_mm, hb2, hwk, hmm, sb, bel⟩ := hrel
    have HGK_ := Lib.hid HGK
    clear HGK
    have ou := (owk_sle (by decide) qE_len ouw).1
    have fr_ou := (owk_sle (by decide) qE_len ouw).2
    have lz_ou := bel.size
    have oulo := Nat.le_refl (w.heap.size)
    have av_ou_b2 := owk_av ouw of_ou_b2
    have av_ou_wk := owk_av ouw of_ou_wk
    have av_ou_mm := owk_av ouw of_ou_mm
    have hz_ou := Nat.le_refl w.heap.size
    have ii0 : (0 : Int) ≤ i := by omega
    have p00 : (0 : Int) ≤ p0 := by omega
    have z00 : (0 : Int) ≤ z0 := by omega
    have P0N : p0 ≤ n := HP.out
    by_cases hik : i < nq
    rotate_left
    · have hh := Lib.hid hik
      have HKI : Hid (i = nq) := Lib.hid (by omega)
      replace hik : decide (i < nq) = false := decide_eq_false (by omega)
      have HGE : Hid (manyS (qS b) nq (e5, f5) [] = (L1, p0, z0)) := Lib.hid (by rw [← HG.out]; exact by rw [HKI.out, Nat.sub_self]; rfl)
      have HE2 : Hid (L1 = q ∧ p0 = s1 ∧ z0 = r1) := Lib.hid (by have h_ := HGE.out.symm.trans HM1.out; injection h_ with h_ h1_; injection h1_ with h1_ h2_; exact ⟨h_, h1_, h2_⟩)
      obtain ⟨rfl, rfl, rfl⟩ := HE2.out
      clear HE2
      have hLQ : LQ w.heap.size wr 68 Aou i cou L1 := ⟨hs, ouw, hqs⟩
      clear ou ouw lz_ou
      clear hqs
      go_wp2_with fail
      have HS_hLA := hsz
      with_reducible refine (rrecs_any _ hwk sb av_sb_wk NL PN1 na (by omega) HM2.out).mono ?_
      rintro e w11 ⟨Qa, na2, ca2, rfl, hLA, hq_, b11⟩
      replace sb := sb.away av_sb_wk b11
      replace hb2 := blk_a hb2 b11 d_b2_wk
      replace hmm := blk_a hmm b11 (ne_symm d_wk_mm)
      replace hsz := Nat.le_trans hsz b11.size
      replace hLQ := hLQ.kt (S := [66]) (kt_grown b11 hwk (by simp)) (by decide) (by decide)
      replace bel := below_grown bel b11 owk bel.size
      clear b11
      clear hwk
      have hwk := hq_
      clear hq_
      replace hLA := hLA.lower HS_hLA
      go_wp2_with (first | ((with_reducible show wpList _ _ _ (⟨none, Op.store _ (.tmp 75) _, _, _, _, _⟩ :: _) _ _); refine wpList_store_part rfl 38 (.tmp 75) (.tmp 74) rfl g5 3 rfl [.slice Qa na2 ca2] rfl [.int .i64 (i0 : Int), .int .i64 (f0 : Int), .slice Aou i cou, .slice none 0 0, .slice none 0 0, .slice none 0 0] 40 hmm (by simp) [.int .i64 (i0 : Int), .int .i64 (f0 : Int), .slice Aou i cou, .slice Qa na2 ca2, .slice none 0 0, .slice none 0 0] rfl (by kernel_rfl) (by rfl) ?_; intro w12 hq gr; replace sb := sb.away av_sb_mm gr; replace hb2 := blk_a hb2 gr d_b2_mm; replace hwk := blk_a hwk gr d_wk_mm; replace hsz := Nat.le_trans hsz gr.size; replace hLQ := hLQ.kt (S := [40]) (kt_grown gr hmm (by simp)) (by decide) (by decide); replace hLA := hLA.kt (S := [40]) (kt_grown gr hmm (by simp)) (by decide) (by decide); replace bel := below_grown bel gr omm bel.size; clear hmm; have hmm := hq; clear hq gr))
      have HS_hLO := hsz
      with_reducible refine (rrecs_any _ hwk sb av_sb_wk NL PN2 no (by omega) HM3.out).mono ?_
      rintro e w13 ⟨Qo, no2, co2, rfl, hLO, hq_, b13⟩
      replace sb := sb.away av_sb_wk b13
      replace hb2 := blk_a hb2 b13 d_b2_wk
      replace hmm := blk_a hmm b13 (ne_symm d_wk_mm)
      replace hsz := Nat.le_trans hsz b13.size
      replace hLQ := hLQ.kt (S := [66]) (kt_grown b13 hwk (by simp)) (by decide) (by decide)
      replace hLA := hLA.kt (S := [66]) (kt_grown b13 hwk (by simp)) (by decide) (by decide)
      replace bel := below_grown bel b13 owk bel.size
      clear b13
      clear hwk
      have hwk := hq_
      clear hq_
      replace hLO := hLO.lower HS_hLO
      go_wp2_with (first | ((with_reducible show wpList _ _ _ (⟨none, Op.store _ (.tmp 79) _, _, _, _, _⟩ :: _) _ _); refine wpList_store_part rfl 38 (.tmp 79) (.tmp 78) rfl g5 4 rfl [.slice Qo no2 co2] rfl [.int .i64 (i0 : Int), .int .i64 (f0 : Int), .slice Aou i cou, .slice Qa na2 ca2, .slice none 0 0, .slice none 0 0] 40 hmm (by simp) [.int .i64 (i0 : Int), .int .i64 (f0 : Int), .slice Aou i cou, .slice Qa na2 ca2, .slice Qo no2 co2, .slice none 0 0] rfl (by kernel_rfl) (by rfl) ?_; intro w14 hq gr; replace sb := sb.away av_sb_mm gr; replace hb2 := blk_a hb2 gr d_b2_mm; replace hwk := blk_a hwk gr d_wk_mm; replace hsz := Nat.le_trans hsz gr.size; replace hLQ := hLQ.kt (S := [40]) (kt_grown gr hmm (by simp)) (by decide) (by decide); replace hLA := hLA.kt (S := [40]) (kt_grown gr hmm (by simp)) (by decide) (by decide); replace hLO := hLO.kt (S := [40]) (kt_grown gr hmm (by simp)) (by decide) (by decide); replace bel := below_grown bel gr omm bel.size; clear hmm; have hmm := hq; clear hq gr))
      have HS_hLM := hsz
      with_reducible refine (rrecs_any _ hwk sb av_sb_wk NL PN3 nm (by omega) HM4.out).mono ?_
      rintro e w15 ⟨Qm, nm2, cm2, rfl, hLM, hq_, b15⟩
      replace sb := sb.away av_sb_wk b15
      replace hb2 := blk_a hb2 b15 d_b2_wk
      replace hmm := blk_a hmm b15 (ne_symm d_wk_mm)
      replace hsz := Nat.le_trans hsz b15.size
      replace hLQ := hLQ.kt (S := [66]) (kt_grown b15 hwk (by simp)) (by decide) (by decide)
      replace hLA := hLA.kt (S := [66]) (kt_grown b15 hwk (by simp)) (by decide) (by decide)
      replace hLO := hLO.kt (S := [66]) (kt_grown b15 hwk (by simp)) (by decide) (by decide)
      replace bel := below_grown bel b15 owk bel.size
      clear b15
      clear hwk
      have hwk := hq_
      clear hq_
      replace hLM := hLM.lower HS_hLM
      by_cases h_z4 : r4 = 0
      rotate_left
      · have h_ := HFIN.out.symm.trans HOK.out
        rw [if_pos h_z4] at h_
        cases h_
      have HZ4 := Lib.hid h_z4
      have r4a : ((r4 : Int) == 0) = true := by rw [h_z4]; rfl
      have r4b : (r4 == 0) = true := by rw [h_z4]; rfl
      have r4c : ((r4 : Int) != 0) = false := by rw [h_z4]; rfl
      have r4d : (r4 != 0) = false := by rw [h_z4]; rfl
      clear h_z4
      by_cases h_s4 : s4 = n
      rotate_left
      · have h_ := HFIN.out.symm.trans HOK.out
        rw [if_neg (by have h1_ := HZ4.out; omega), if_neg (by rw [HBL.out]; exact h_s4)] at h_
        cases h_
      have HME : Hid ((⟨i0, f0, L1, a_, o_, m_⟩ : Mn) = m) := Lib.hid (by have h_ := HFIN.out.symm.trans HOK.out; rw [if_neg (by have h1_ := HZ4.out; omega), if_pos (by rw [HBL.out]; exact h_s4)] at h_; injection h_)
      have s4a : ((s4 : Int) != (n : Int)) = false := by rw [h_s4]; simp
      have s4b : (s4 != n) = false := by rw [h_s4]; simp
      clear h_s4
      go_wp2_with (first | ((with_reducible show wpList _ _ _ (⟨none, Op.store _ (.tmp 83) _, _, _, _, _⟩ :: _) _ _); refine wpList_store_part rfl 38 (.tmp 83) (.tmp 82) rfl g5 5 rfl [.slice Qm nm2 cm2] rfl [.int .i64 (i0 : Int), .int .i64 (f0 : Int), .slice Aou i cou, .slice Qa na2 ca2, .slice Qo no2 co2, .slice none 0 0] 40 hmm (by simp) [.int .i64 (i0 : Int), .int .i64 (f0 : Int), .slice Aou i cou, .slice Qa na2 ca2, .slice Qo no2 co2, .slice Qm nm2 cm2] rfl (by kernel_rfl) (by rfl) ?_; intro w16 hq gr; replace sb := sb.away av_sb_mm gr; replace hb2 := blk_a hb2 gr d_b2_mm; replace hwk := blk_a hwk gr d_wk_mm; replace hsz := Nat.le_trans hsz gr.size; replace hLQ := hLQ.kt (S := [40]) (kt_grown gr hmm (by simp)) (by decide) (by decide); replace hLA := hLA.kt (S := [40]) (kt_grown gr hmm (by simp)) (by decide) (by decide); replace hLO := hLO.kt (S := [40]) (kt_grown gr hmm (by simp)) (by decide) (by decide); replace hLM := hLM.kt (S := [40]) (kt_grown gr hmm (by simp)) (by decide) (by decide); replace bel := below_grown bel gr omm bel.size; clear hmm; have hmm := hq; clear hq gr; have R87 := cell_lit hwk 2 _ rfl; have R93 := cell_lit hwk 1 _ rfl; have R104 := cell_lit hwk 2 _ rfl; have R111 := Lib.hid (range_lit hmm 0 6 [.int .i64 (i0 : Int), .int .i64 (f0 : Int), .slice Aou i cou, .slice Qa na2 ca2, .slice Qo no2 co2, .slice Qm nm2 cm2] rfl)) | ((with_reducible show wpList _ _ _ (⟨some 111, _, _, _, _, _⟩ :: _) _ _); refine wpList_load_rng 40 (.tmp 5) rfl (by kernel_rfl) _ _ rfl _ R111.out _ Try.underlying40 rfl (by kernel_rfl) ?_) | ((with_reducible show wpList _ _ _ (⟨none, Op.store _ (.tmp 2) _, _, _, _, _⟩ :: _) _ _); refine wpList_store_blk rfl 40 (.tmp 2) (.tmp 111) rfl g2 rfl _ rfl _ 40 hb2 (by rfl) (by kernel_rfl) (by kernel_rfl) ?_; intro w17 hq gr; replace sb := sb.away av_sb_b2 gr; replace hwk := blk_a hwk gr (ne_symm d_b2_wk); replace hmm := blk_a hmm gr (ne_symm d_b2_mm); replace hsz := Nat.le_trans hsz gr.size; replace hLQ := hLQ.kt (S := [40]) (kt_grown gr hb2 (by simp)) (by decide) (by decide); replace hLA := hLA.kt (S := [40]) (kt_grown gr hb2 (by simp)) (by decide) (by decide); replace hLO := hLO.kt (S := [40]) (kt_grown gr hb2 (by simp)) (by decide) (by decide); replace hLM := hLM.kt (S := [40]) (kt_grown gr hb2 (by simp)) (by decide) (by decide); replace bel := below_grown bel gr ob2 bel.size; clear hb2; have hb2 := hq; clear hq gr))
      try clear R87
      try clear R93
      try clear R104
      try clear R111
      exact bodyPost_ret (results_cell_tmp_row rfl _ _ _ _ _ _ _ rfl hb2 Try.underlying40 rfl (by kernel_rfl) (.int .i64 0) rfl) rfl ⟨_, _, _, _, _, _, _, _, _, _, _, _, by rw [← HME.out], by rw [← HME.out]; exact mr_of hLQ hLA hLO hLM, bel⟩
    obtain ⟨r, hr_⟩ : ∃ r, nq - i = r + 1 := ⟨nq - i - 1, by omega⟩
    have HR := Lib.hid hr_
    clear hr_
    by_cases hz0 : z0 = 0
    rotate_left
    · have HZ0 : Hid (z0 ≠ 0) := Lib.hid hz0
      have za : ((z0 : Int) == 0) = false := by rw [beq_eq_false_iff_ne]; omega
      have zb : (z0 == 0) = false := by rw [beq_eq_false_iff_ne]; omega
      clear hz0
      have HGE : Hid (manyS (qS b) nq (e5, f5) [] = (L1, p0, z0)) := Lib.hid (by rw [← HG.out]; exact manyS_stop HZ0.out _ _)
      have HE2 : Hid (L1 = q ∧ p0 = s1 ∧ z0 = r1) := Lib.hid (by have h_ := HGE.out.symm.trans HM1.out; injection h_ with h_ h1_; injection h1_ with h1_ h2_; exact ⟨h_, h1_, h2_⟩)
      obtain ⟨rfl, rfl, rfl⟩ := HE2.out
      clear HE2
      have hLQ : LQ w.heap.size wr 68 Aou i cou L1 := ⟨hs, ouw, hqs⟩
      clear ou ouw lz_ou
      clear hqs
      have R52 := cell_lit hwk 2 _ rfl
      go_wp2_with fail
      clear R52
      have HS_hLA := hsz
      with_reducible refine (rrecs_any _ hwk sb av_sb_wk NL PN1 na (by omega) HM2.out).mono ?_
      rintro e w11 ⟨Qa, na2, ca2, rfl, hLA, hq_, b11⟩
      replace sb := sb.away av_sb_wk b11
      replace hb2 := blk_a hb2 b11 d_b2_wk
      replace hmm := blk_a hmm b11 (ne_symm d_wk_mm)
      replace hsz := Nat.le_trans hsz b11.size
      replace hLQ := hLQ.kt (S := [66]) (kt_grown b11 hwk (by simp)) (by decide) (by decide)
      replace bel := below_grown bel b11 owk bel.size
      clear b11
      clear hwk
      have hwk := hq_
      clear hq_
      replace hLA := hLA.lower HS_hLA
      go_wp2_with (first | ((with_reducible show wpList _ _ _ (⟨none, Op.store _ (.tmp 75) _, _, _, _, _⟩ :: _) _ _); refine wpList_store_part rfl 38 (.tmp 75) (.tmp 74) rfl g5 3 rfl [.slice Qa na2 ca2] rfl [.int .i64 (i0 : Int), .int .i64 (f0 : Int), .slice Aou i cou, .slice none 0 0, .slice none 0 0, .slice none 0 0] 40 hmm (by simp) [.int .i64 (i0 : Int), .int .i64 (f0 : Int), .slice Aou i cou, .slice Qa na2 ca2, .slice none 0 0, .slice none 0 0] rfl (by kernel_rfl) (by rfl) ?_; intro w12 hq gr; replace sb := sb.away av_sb_mm gr; replace hb2 := blk_a hb2 gr d_b2_mm; replace hwk := blk_a hwk gr d_wk_mm; replace hsz := Nat.le_trans hsz gr.size; replace hLQ := hLQ.kt (S := [40]) (kt_grown gr hmm (by simp)) (by decide) (by decide); replace hLA := hLA.kt (S := [40]) (kt_grown gr hmm (by simp)) (by decide) (by decide); replace bel := below_grown bel gr omm bel.size; clear hmm; have hmm := hq; clear hq gr))
      have HS_hLO := hsz
      with_reducible refine (rrecs_any _ hwk sb av_sb_wk NL PN2 no (by omega) HM3.out).mono ?_
      rintro e w13 ⟨Qo, no2, co2, rfl, hLO, hq_, b13⟩
      replace sb := sb.away av_sb_wk b13
      replace hb2 := blk_a hb2 b13 d_b2_wk
      replace hmm := blk_a hmm b13 (ne_symm d_wk_mm)
      replace hsz := Nat.le_trans hsz b13.size
      replace hLQ := hLQ.kt (S := [66]) (kt_grown b13 hwk (by simp)) (by decide) (by decide)
      replace hLA := hLA.kt (S := [66]) (kt_grown b13 hwk (by simp)) (by decide) (by decide)
      replace bel := below_grown bel b13 owk bel.size
      clear b13
      clear hwk
      have hwk := hq_
      clear hq_
      replace hLO := hLO.lower HS_hLO
      go_wp2_with (first | ((with_reducible show wpList _ _ _ (⟨none, Op.store _ (.tmp 79) _, _, _, _, _⟩ :: _) _ _); refine wpList_store_part rfl 38 (.tmp 79) (.tmp 78) rfl g5 4 rfl [.slice Qo no2 co2] rfl [.int .i64 (i0 : Int), .int .i64 (f0 : Int), .slice Aou i cou, .slice Qa na2 ca2, .slice none 0 0, .slice none 0 0] 40 hmm (by simp) [.int .i64 (i0 : Int), .int .i64 (f0 : Int), .slice Aou i cou, .slice Qa na2 ca2, .slice Qo no2 co2, .slice none 0 0] rfl (by kernel_rfl) (by rfl) ?_; intro w14 hq gr; replace sb := sb.away av_sb_mm gr; replace hb2 := blk_a hb2 gr d_b2_mm; replace hwk := blk_a hwk gr d_wk_mm; replace hsz := Nat.le_trans hsz gr.size; replace hLQ := hLQ.kt (S := [40]) (kt_grown gr hmm (by simp)) (by decide) (by decide); replace hLA := hLA.kt (S := [40]) (kt_grown gr hmm (by simp)) (by decide) (by decide); replace hLO := hLO.kt (S := [40]) (kt_grown gr hmm (by simp)) (by decide) (by decide); replace bel := below_grown bel gr omm bel.size; clear hmm; have hmm := hq; clear hq gr))
      have HS_hLM := hsz
      with_reducible refine (rrecs_any _ hwk sb av_sb_wk NL PN3 nm (by omega) HM4.out).mono ?_
      rintro e w15 ⟨Qm, nm2, cm2, rfl, hLM, hq_, b15⟩
      replace sb := sb.away av_sb_wk b15
      replace hb2 := blk_a hb2 b15 d_b2_wk
      replace hmm := blk_a hmm b15 (ne_symm d_wk_mm)
      replace hsz := Nat.le_trans hsz b15.size
      replace hLQ := hLQ.kt (S := [66]) (kt_grown b15 hwk (by simp)) (by decide) (by decide)
      replace hLA := hLA.kt (S := [66]) (kt_grown b15 hwk (by simp)) (by decide) (by decide)
      replace hLO := hLO.kt (S := [66]) (kt_grown b15 hwk (by simp)) (by decide) (by decide)
      replace bel := below_grown bel b15 owk bel.size
      clear b15
      clear hwk
      have hwk := hq_
      clear hq_
      replace hLM := hLM.lower HS_hLM
      by_cases h_z4 : r4 = 0
      rotate_left
      · have h_ := HFIN.out.symm.trans HOK.out
        rw [if_pos h_z4] at h_
        cases h_
      have HZ4 := Lib.hid h_z4
      have r4a : ((r4 : Int) == 0) = true := by rw [h_z4]; rfl
      have r4b : (r4 == 0) = true := by rw [h_z4]; rfl
      have r4c : ((r4 : Int) != 0) = false := by rw [h_z4]; rfl
      have r4d : (r4 != 0) = false := by rw [h_z4]; rfl
      clear h_z4
      by_cases h_s4 : s4 = n
      rotate_left
      · have h_ := HFIN.out.symm.trans HOK.out
        rw [if_neg (by have h1_ := HZ4.out; omega), if_neg (by rw [HBL.out]; exact h_s4)] at h_
        cases h_
      have HME : Hid ((⟨i0, f0, L1, a_, o_, m_⟩ : Mn) = m) := Lib.hid (by have h_ := HFIN.out.symm.trans HOK.out; rw [if_neg (by have h1_ := HZ4.out; omega), if_pos (by rw [HBL.out]; exact h_s4)] at h_; injection h_)
      have s4a : ((s4 : Int) != (n : Int)) = false := by rw [h_s4]; simp
      have s4b : (s4 != n) = false := by rw [h_s4]; simp
      clear h_s4
      go_wp2_with (first | ((with_reducible show wpList _ _ _ (⟨none, Op.store _ (.tmp 83) _, _, _, _, _⟩ :: _) _ _); refine wpList_store_part rfl 38 (.tmp 83) (.tmp 82) rfl g5 5 rfl [.slice Qm nm2 cm2] rfl [.int .i64 (i0 : Int), .int .i64 (f0 : Int), .slice Aou i cou, .slice Qa na2 ca2, .slice Qo no2 co2, .slice none 0 0] 40 hmm (by simp) [.int .i64 (i0 : Int), .int .i64 (f0 : Int), .slice Aou i cou, .slice Qa na2 ca2, .slice Qo no2 co2, .slice Qm nm2 cm2] rfl (by kernel_rfl) (by rfl) ?_; intro w16 hq gr; replace sb := sb.away av_sb_mm gr; replace hb2 := blk_a hb2 gr d_b2_mm; replace hwk := blk_a hwk gr d_wk_mm; replace hsz := Nat.le_trans hsz gr.size; replace hLQ := hLQ.kt (S := [40]) (kt_grown gr hmm (by simp)) (by decide) (by decide); replace hLA := hLA.kt (S := [40]) (kt_grown gr hmm (by simp)) (by decide) (by decide); replace hLO := hLO.kt (S := [40]) (kt_grown gr hmm (by simp)) (by decide) (by decide); replace hLM := hLM.kt (S := [40]) (kt_grown gr hmm (by simp)) (by decide) (by decide); replace bel := below_grown bel gr omm bel.size; clear hmm; have hmm := hq; clear hq gr; have R87 := cell_lit hwk 2 _ rfl; have R93 := cell_lit hwk 1 _ rfl; have R104 := cell_lit hwk 2 _ rfl; have R111 := Lib.hid (range_lit hmm 0 6 [.int .i64 (i0 : Int), .int .i64 (f0 : Int), .slice Aou i cou, .slice Qa na2 ca2, .slice Qo no2 co2, .slice Qm nm2 cm2] rfl)) | ((with_reducible show wpList _ _ _ (⟨some 111, _, _, _, _, _⟩ :: _) _ _); refine wpList_load_rng 40 (.tmp 5) rfl (by kernel_rfl) _ _ rfl _ R111.out _ Try.underlying40 rfl (by kernel_rfl) ?_) | ((with_reducible show wpList _ _ _ (⟨none, Op.store _ (.tmp 2) _, _, _, _, _⟩ :: _) _ _); refine wpList_store_blk rfl 40 (.tmp 2) (.tmp 111) rfl g2 rfl _ rfl _ 40 hb2 (by rfl) (by kernel_rfl) (by kernel_rfl) ?_; intro w17 hq gr; replace sb := sb.away av_sb_b2 gr; replace hwk := blk_a hwk gr (ne_symm d_b2_wk); replace hmm := blk_a hmm gr (ne_symm d_b2_mm); replace hsz := Nat.le_trans hsz gr.size; replace hLQ := hLQ.kt (S := [40]) (kt_grown gr hb2 (by simp)) (by decide) (by decide); replace hLA := hLA.kt (S := [40]) (kt_grown gr hb2 (by simp)) (by decide) (by decide); replace hLO := hLO.kt (S := [40]) (kt_grown gr hb2 (by simp)) (by decide) (by decide); replace hLM := hLM.kt (S := [40]) (kt_grown gr hb2 (by simp)) (by decide) (by decide); replace bel := below_grown bel gr ob2 bel.size; clear hb2; have hb2 := hq; clear hq gr))
      try clear R87
      try clear R93
      try clear R104
      try clear R111
      exact bodyPost_ret (results_cell_tmp_row rfl _ _ _ _ _ _ _ rfl hb2 Try.underlying40 rfl (by kernel_rfl) (.int .i64 0) rfl) rfl ⟨_, _, _, _, _, _, _, _, _, _, _, _, by rw [← HME.out], by rw [← HME.out]; exact mr_of hLQ hLA hLO hLM, bel⟩
    have HZ0 : Hid ((p0, z0).2 = 0) := Lib.hid hz0
    have za : ((z0 : Int) == 0) = true := by rw [hz0]; rfl
    have zb : (z0 == 0) = true := by rw [hz0]; rfl
    clear hz0
    obtain ⟨l, p1, z1, h_⟩ : ∃ u1_ u2_ u3_, nameS b (p0, z0) = (u1_, u2_, u3_) := ⟨_, _, _, rfl⟩
    have HT1 := Lib.hid h_
    clear h_
    have QN1 : p1 ≤ n := by have h_ := HT1.out; have h1_ := nameS_le (b := b) (s := (p0, z0)) (by have h2_ := HBL.out; dsimp only; omega); rw [h_] at h1_; dsimp only at h1_; have h2_ := HBL.out; omega
    obtain ⟨v1, p2, z2, h_⟩ : ∃ u1_ u2_ u3_, u16S b (p1, z1) = (u1_, u2_, u3_) := ⟨_, _, _, rfl⟩
    have HT2 := Lib.hid h_
    clear h_
    have QN2 : p2 ≤ n := by have h_ := HT2.out; have h1_ := u16S_le (b := b) (s := (p1, z1)) (by have h2_ := HBL.out; dsimp only; omega); rw [h_] at h1_; dsimp only at h1_; have h2_ := HBL.out; omega
    obtain ⟨v2, p3, z3, h_⟩ : ∃ u1_ u2_ u3_, u16S b (p2, z2) = (u1_, u2_, u3_) := ⟨_, _, _, rfl⟩
    have HT3 := Lib.hid h_
    clear h_
    have QN3 : p3 ≤ n := by have h_ := HT3.out; have h1_ := u16S_le (b := b) (s := (p2, z2)) (by have h2_ := HBL.out; dsimp only; omega); rw [h_] at h1_; dsimp only at h1_; have h2_ := HBL.out; omega
    have v10_ : (0 : Int) ≤ v1 := by omega
    have v20_ : (0 : Int) ≤ v2 := by omega
    have HRE : Hid (qS b (p0, z0) = (⟨l, (v1 : Int), (v2 : Int)⟩, p3, z3)) := Lib.hid (by unfold qS; simp only [HT1.out, HT2.out, HT3.out])
    have R52 := cell_lit hwk 2 _ rfl
    go_wp2_with fail
    clear R52
    have HS_N := hsz
    with_reducible refine (rname_any _ hwk sb av_sb_wk NL P0N HT1.out).mono ?_
    rintro e w11 ⟨Lq, mq, cq, rfl, nmw, hq_, b11⟩
    replace sb := sb.away av_sb_wk b11
    replace ou := ou.away av_ou_wk b11
    replace ouw := owk_off ouw of_ou_wk b11
    replace lz_ou := Nat.le_trans lz_ou b11.size
    replace hb2 := blk_a hb2 b11 d_b2_wk
    replace hmm := blk_a hmm b11 (ne_symm d_wk_mm)
    replace hsz := Nat.le_trans hsz b11.size
    replace hqs := hqs.kt (S := [66]) (kt_grown b11 hwk (by simp)) (by decide) (by decide)
    replace bel := below_grown bel b11 owk bel.size
    clear b11
    clear hwk
    have hwk := hq_
    clear hq_
    replace nmw := owk_lo nmw HS_N
    go_wp2_with (first | ((with_reducible show wpList _ _ _ (⟨some 11, _, _, _, _, _⟩ :: _) _ _); refine wpList_new_a rfl 68 rfl #[.slice none 0 0, .int .i64 0, .int .i64 0] (by kernel_rfl) ?_; intro g11 w12 ge hh bb; have d_b2_qq := ne_new (hlt hb2) ge; have d_wk_qq := ne_new (hlt hwk) ge; have d_mm_qq := ne_new (hlt hmm) ge; have av_sb_qq := sb.av_new ge; have av_ou_qq := ou.av_new ge; have of_ou_qq := owk_new ouw ge; have oqq := Nat.le_trans bel.size ge; replace hb2 := blk_u hb2 bb; replace hwk := blk_u hwk bb; replace hmm := blk_u hmm bb; replace sb := sb.below bb; replace ou := ou.below bb; replace ouw := owk_under ouw bb; replace lz_ou := Nat.le_trans lz_ou bb.size; replace hsz := Nat.le_trans hsz bb.size; replace hqs := hqs.kt (S := []) (kt_below bb) (by simp) (by simp); replace nmw := owk_under nmw bb; replace bel := bel.trans (bb.mono bel.size); have hqq := hh; clear hh ge bb) | ((with_reducible show wpList _ _ _ (⟨none, Op.store _ (.tmp 11) _, _, _, _, _⟩ :: _) _ _); refine wpList_store_blk rfl 68 (.tmp 11) (.tmp 59) rfl g11 rfl _ rfl _ 68 hqq (by rfl) (by kernel_rfl) (by kernel_rfl) ?_; intro w13 hq gr; replace sb := sb.away av_sb_qq gr; replace ou := ou.away av_ou_qq gr; replace ouw := owk_off ouw of_ou_qq gr; replace lz_ou := Nat.le_trans lz_ou gr.size; replace hb2 := blk_a hb2 gr d_b2_qq; replace hwk := blk_a hwk gr d_wk_qq; replace hmm := blk_a hmm gr d_mm_qq; replace hsz := Nat.le_trans hsz gr.size; replace hqs := hqs.kt (S := [68]) (kt_grown gr hqq (by simp)) (by decide) (by decide); replace nmw := owk_off nmw (ofs_type nmw hqq (by decide)) gr; replace bel := below_grown bel gr oqq bel.size; clear hqq; have hqq := hq; clear hq gr))
    with_reducible refine (ru16_any _ hwk sb av_sb_wk NL QN1 HT2.out).mono ?_
    rintro e w14 ⟨rfl, hq_, b14⟩
    replace sb := sb.away av_sb_wk b14
    replace ou := ou.away av_ou_wk b14
    replace ouw := owk_off ouw of_ou_wk b14
    replace lz_ou := Nat.le_trans lz_ou b14.size
    replace hb2 := blk_a hb2 b14 d_b2_wk
    replace hmm := blk_a hmm b14 (ne_symm d_wk_mm)
    replace hqq := blk_a hqq b14 (ne_symm d_wk_qq)
    replace hsz := Nat.le_trans hsz b14.size
    replace hqs := hqs.kt (S := [66]) (kt_grown b14 hwk (by simp)) (by decide) (by decide)
    replace nmw := owk_off nmw (ofs_type nmw hwk (by decide)) b14
    replace bel := below_grown bel b14 owk bel.size
    clear b14
    clear hwk
    have hwk := hq_
    clear hq_
    go_wp2_with (first | ((with_reducible show wpList _ _ _ (⟨none, Op.store _ (.tmp 62) _, _, _, _, _⟩ :: _) _ _); refine wpList_store_part rfl 3 (.tmp 62) (.tmp 61) rfl g11 1 rfl [.int .i64 (v1 : Int)] rfl [.slice Lq mq cq, .int .i64 0, .int .i64 0] 68 hqq (by simp) [.slice Lq mq cq, .int .i64 (v1 : Int), .int .i64 0] rfl (by kernel_rfl) (by rfl) ?_; intro w15 hq gr; replace sb := sb.away av_sb_qq gr; replace ou := ou.away av_ou_qq gr; replace ouw := owk_off ouw of_ou_qq gr; replace lz_ou := Nat.le_trans lz_ou gr.size; replace hb2 := blk_a hb2 gr d_b2_qq; replace hwk := blk_a hwk gr d_wk_qq; replace hmm := blk_a hmm gr d_mm_qq; replace hsz := Nat.le_trans hsz gr.size; replace hqs := hqs.kt (S := [68]) (kt_grown gr hqq (by simp)) (by decide) (by decide); replace nmw := owk_off nmw (ofs_type nmw hqq (by decide)) gr; replace bel := below_grown bel gr oqq bel.size; clear hqq; have hqq := hq; clear hq gr))
    with_reducible refine (ru16_any _ hwk sb av_sb_wk NL QN2 HT3.out).mono ?_
    rintro e w16 ⟨rfl, hq_, b16⟩
    replace sb := sb.away av_sb_wk b16
    replace ou := ou.away av_ou_wk b16
    replace ouw := owk_off ouw of_ou_wk b16
    replace lz_ou := Nat.le_trans lz_ou b16.size
    replace hb2 := blk_a hb2 b16 d_b2_wk
    replace hmm := blk_a hmm b16 (ne_symm d_wk_mm)
    replace hqq := blk_a hqq b16 (ne_symm d_wk_qq)
    replace hsz := Nat.le_trans hsz b16.size
    replace hqs := hqs.kt (S := [66]) (kt_grown b16 hwk (by simp)) (by decide) (by decide)
    replace nmw := owk_off nmw (ofs_type nmw hwk (by decide)) b16
    replace bel := below_grown bel b16 owk bel.size
    clear b16
    clear hwk
    have hwk := hq_
    clear hq_
    go_wp2_with (first | ((with_reducible show wpList _ _ _ (⟨none, Op.store _ (.tmp 65) _, _, _, _, _⟩ :: _) _ _); refine wpList_store_part rfl 3 (.tmp 65) (.tmp 64) rfl g11 2 rfl [.int .i64 (v2 : Int)] rfl [.slice Lq mq cq, .int .i64 (v1 : Int), .int .i64 0] 68 hqq (by simp) [.slice Lq mq cq, .int .i64 (v1 : Int), .int .i64 (v2 : Int)] rfl (by kernel_rfl) (by rfl) ?_; intro w17 hq gr; replace sb := sb.away av_sb_qq gr; replace ou := ou.away av_ou_qq gr; replace ouw := owk_off ouw of_ou_qq gr; replace lz_ou := Nat.le_trans lz_ou gr.size; replace hb2 := blk_a hb2 gr d_b2_qq; replace hwk := blk_a hwk gr d_wk_qq; replace hmm := blk_a hmm gr d_mm_qq; replace hsz := Nat.le_trans hsz gr.size; replace hqs := hqs.kt (S := [68]) (kt_grown gr hqq (by simp)) (by decide) (by decide); replace nmw := owk_off nmw (ofs_type nmw hqq (by decide)) gr; replace bel := below_grown bel gr oqq bel.size; clear hqq; have hqq := hq; clear hq gr; replace hqs := hqs.snoc (x := (⟨Lq, mq, cq, (v1 : Int), (v2 : Int)⟩ : Qh)) (q := (⟨l, (v1 : Int), (v2 : Int)⟩ : Qn)) ⟨rfl, rfl, nmw⟩; clear nmw; have R67 := cell_lit hmm 2 _ rfl; have R68 := Lib.hid (range_lit hqq 0 3 [.slice Lq mq cq, .int .i64 (v1 : Int), .int .i64 (v2 : Int)] rfl)) | ((with_reducible show wpList _ _ _ (⟨some 68, _, _, _, _, _⟩ :: _) _ _); refine wpList_load_rng 68 (.tmp 11) rfl (by kernel_rfl) _ _ rfl _ R68.out _ Try.underlying68 rfl (by kernel_rfl) ?_) | ((with_reducible show wpList _ _ _ (⟨some 69, _, _, _, _, _⟩ :: _) _ _); refine wpList_lit_n rfl 37 68 1 _ rfl #[.slice Lq mq cq, .int .i64 (v1 : Int), .int .i64 (v2 : Int)] (.agg #[.slice none 0 0, .int .i64 0, .int .i64 0]) Try.underlying37 (by kernel_rfl) 3 (by kernel_rfl) (by decide) (by kernel_rfl) ?_; intro g69 w18 ge lt hh bb; have d_b2_b69 := ne_new (hlt hb2) ge; have d_wk_b69 := ne_new (hlt hwk) ge; have d_mm_b69 := ne_new (hlt hmm) ge; have d_qq_b69 := ne_new (hlt hqq) ge; have av_sb_b69 := sb.av_new ge; have av_ou_b69 := ou.av_new ge; have of_ou_b69 := owk_new ouw ge; have ob69 := Nat.le_trans bel.size ge; replace hb2 := blk_u hb2 bb; replace hwk := blk_u hwk bb; replace hmm := blk_u hmm bb; replace hqq := blk_u hqq bb; replace sb := sb.below bb; replace ou := ou.below bb; replace ouw := owk_under ouw bb; replace lz_ou := Nat.le_trans lz_ou bb.size; replace hsz := Nat.le_trans hsz bb.size; replace hqs := hqs.kt (S := []) (kt_below bb) (by simp) (by simp); replace bel := bel.trans (bb.mono bel.size); have hb69 := hh; clear hh lt ge bb; have l1 : Sle qE 3 w18 (some ⟨g69, 0, none⟩) (1) (1) ([(⟨Lq, mq, cq, (v1 : Int), (v2 : Int)⟩ : Qh)]) := sle_lit ([(⟨Lq, mq, cq, (v1 : Int), (v2 : Int)⟩ : Qh)]) (by decide) qE_len hb69 rfl (by simp [maxLen])) | ((with_reducible show wpList _ _ _ (⟨some 70, _, _, _, _, _⟩ :: _) _ _); refine wpList_append_sle rfl (.tmp 67) (.tmp 69) 37 rfl (w.heap.size) 68 jq (.agg #[.slice none 0 0, .int .i64 0, .int .i64 0]) 40 Try.underlying37 hjq hjq0 hjq1 hjq2 rfl qE_one _ (i) (hs) rfl ouw (some ⟨g69, 0, none⟩) (1) (1) ([(⟨Lq, mq, cq, (v1 : Int), (v2 : Int)⟩ : Qh)]) rfl l1 (by unfold maxLen; omega) (by omega) lz_ou ?_; intro v70 w19 own_ bb gw ofw; have of70_b2 := ofw _ (hlt hb2) of_ou_b2; have of70_wk := ofw _ (hlt hwk) of_ou_wk; have of70_mm := ofw _ (hlt hmm) of_ou_mm; have of70_qq := ofw _ (hlt hqq) of_ou_qq; have of70_b69 := ofw _ (hlt hb69) of_ou_b69; clear ofw; replace hqs := hqs.kt (S := [68]) (kt_row gw ouw (by simp)) (by decide) (by decide); replace sb := sb.under BLB bb; replace l1 := Sle.off l1 of_ou_b69 gw; replace hb2 := blk_own hb2 gw of_ou_b2; replace hwk := blk_own hwk gw of_ou_wk; replace hmm := blk_own hmm gw of_ou_mm; replace hqq := blk_own hqq gw of_ou_qq; replace hb69 := blk_own hb69 gw of_ou_b69; clear gw; replace hsz := Nat.le_trans hsz bb.size; replace bel := bel.trans (bb.mono oulo); have lz_s70 := Nat.le_trans lz_ou bb.size; clear bb; clear ou ouw lz_ou; replace own_ : w19.ownsRow (w.heap.size) 68 3 v70 (i + 1) ((hs ++ [(⟨Lq, mq, cq, (v1 : Int), (v2 : Int)⟩ : Qh)] : List Qh).flatMap qE) := own_; obtain ⟨A70, c70, rfl⟩ := owk_val own_; have s70w := own_; have s70 := (owk_sle (by decide) qE_len own_).1; have fr_s70 := (owk_sle (by decide) qE_len own_).2; clear own_; have av_s70_b2 := owk_av s70w of70_b2; have av_s70_wk := owk_av s70w of70_wk; have av_s70_mm := owk_av s70w of70_mm; have av_s70_qq := owk_av s70w of70_qq; have av_s70_b69 := owk_av s70w of70_b69) | ((with_reducible show wpList _ _ _ (⟨none, Op.store _ (.tmp 71) _, _, _, _, _⟩ :: _) _ _); refine wpList_store_part rfl 37 (.tmp 71) (.tmp 70) rfl g5 2 rfl [.slice A70 (i + 1) c70] rfl [.int .i64 (i0 : Int), .int .i64 (f0 : Int), .slice Aou i cou, .slice none 0 0, .slice none 0 0, .slice none 0 0] 40 hmm (by simp) [.int .i64 (i0 : Int), .int .i64 (f0 : Int), .slice A70 (i + 1) c70, .slice none 0 0, .slice none 0 0, .slice none 0 0] rfl (by kernel_rfl) (by rfl) ?_; intro w20 hq gr; replace sb := sb.away av_sb_mm gr; clear l1; replace s70 := s70.away av_s70_mm gr; replace s70w := owk_off s70w of70_mm gr; replace lz_s70 := Nat.le_trans lz_s70 gr.size; replace hb2 := blk_a hb2 gr d_b2_mm; replace hwk := blk_a hwk gr d_wk_mm; replace hqq := blk_a hqq gr (ne_symm d_mm_qq); replace hb69 := blk_a hb69 gr (ne_symm d_mm_b69); replace hsz := Nat.le_trans hsz gr.size; replace hqs := hqs.kt (S := [40]) (kt_grown gr hmm (by simp)) (by decide) (by decide); replace bel := below_grown bel gr omm bel.size; clear hmm; have hmm := hq; clear hq gr))
    try clear R67
    try clear R68
    go_roundg (nq - (i + 1))
    case measure => have := HGK_.out; omega
    case rel => exact ⟨i + 1, p3, z3, hs ++ [(⟨Lq, mq, cq, (v1 : Int), (v2 : Int)⟩ : Qh)], L1 ++ [(⟨l, (v1 : Int), (v2 : Int)⟩ : Qn)], A70, c70, rfl, hik, Lib.hid (by rw [← HG.out, HR.out, manyS_go HZ0.out, HRE.out, show nq - (i + 1) = r by have h_ := HR.out; omega]), Lib.hid QN3, hsz, hqs, by go_num, s70w, of70_b2, of70_wk, of70_mm, hb2, hwk, hmm, sb, bel⟩
set_option linter.unusedVariables false in
set_option linter.unusedSimpArgs false in
set_option maxRecDepth 100000 in
set_option maxHeartbeats 16000000 in
theorem rgetm_no {A : Option Addr} {n c : Nat} {b : List UInt8} (w : World) (sb : Sl w A n c b) (hnb : n ≤ 100000) {er : Nat} (hg : getM b = .error er) (y : Int) (hy : (er : Int) = y) : Calls Try.prog 11 #[.slice A n c] w fun e w' => e = .returned (.tuple #[.agg #[.int .i64 0, .int .i64 0, .slice none 0 0, .slice none 0 0, .slice none 0 0, .slice none 0 0], .int .i64 y]) ∧ Below w.heap.size w w' := by
  have HBL := Lib.hid sb.1
  have n0 : (0 : Int) ≤ n := by omega
  have n1 : (n : Int) ≤ 100000 := by omega
  have BLB := sb.bl_new
  have hsz := Nat.le_refl w.heap.size
  have HOK := Lib.hid hg
  have HY := Lib.hid hy
  have NL := hnb
  clear hg hy
  have hqs : Qws w.heap.size w [] [] := All2.nil
  obtain ⟨jq, hjq, hjq0, hjq1, hjq2⟩ := info_parts Try.info_rqn
  have bel := Below.refl w.heap.size w
  go_enter Try.func11, Try.ntmps11
  by_cases h1472 : 1472 < n
  · have t14 : (1472 : Int) < (n : Int) := by omega
    have HY2 : Hid (y = 2) := Lib.hid (by have h_ := (getM_far (by rw [HBL.out]; exact h1472)).symm.trans HOK.out; injection h_ with h_; rw [← HY.out, ← h_]; rfl)
    clear h1472
    go_wp2_with (first | ((with_reducible show wpList _ _ _ (⟨some 2, _, _, _, _, _⟩ :: _) _ _); refine wpList_new_a rfl 40 rfl #[.int .i64 0, .int .i64 0, .slice none 0 0, .slice none 0 0, .slice none 0 0, .slice none 0 0] (by kernel_rfl) ?_; intro g2 w1 ge hh bb; have av_sb_b2 := sb.av_new ge; have ob2 := Nat.le_trans bel.size ge; replace sb := sb.below bb; replace hsz := Nat.le_trans hsz bb.size; replace hqs := hqs.kt (S := []) (kt_below bb) (by simp) (by simp); replace bel := bel.trans (bb.mono bel.size); have hb2 := hh; clear hh ge bb) | ((with_reducible show wpList _ _ _ (⟨none, Op.store _ (.tmp 2) _, _, _, _, _⟩ :: _) _ _); refine wpList_store_blk rfl 40 (.tmp 2) (.tmp 15) rfl g2 rfl _ rfl _ 40 hb2 (by rfl) (by kernel_rfl) (by kernel_rfl) ?_; intro w2 hq gr; replace sb := sb.away av_sb_b2 gr; replace hsz := Nat.le_trans hsz gr.size; replace hqs := hqs.kt (S := [40]) (kt_grown gr hb2 (by simp)) (by decide) (by decide); replace bel := below_grown bel gr ob2 bel.size; clear hb2; have hb2 := hq; clear hq gr))
    exact bodyPost_ret (results_cell_tmp_row rfl _ _ _ _ _ _ _ rfl hb2 Try.underlying40 rfl (by kernel_rfl) (.int .i64 2) rfl) rfl ⟨by rw [HY2.out], bel⟩
  have t14 : decide ((1472 : Int) < (n : Int)) = false := decide_eq_false (by omega)
  have HL1 : Hid (¬ 1472 < b.length) := Lib.hid (by rw [HBL.out]; exact h1472)
  clear h1472
  by_cases h12 : n < 12
  · have t18 : (n : Int) < 12 := by omega
    have HY2 : Hid (y = 3) := Lib.hid (by have h_ := (getM_cut HL1.out (by rw [HBL.out]; exact h12)).symm.trans HOK.out; injection h_ with h_; rw [← HY.out, ← h_]; rfl)
    clear h12
    go_wp2_with (first | ((with_reducible show wpList _ _ _ (⟨some 2, _, _, _, _, _⟩ :: _) _ _); refine wpList_new_a rfl 40 rfl #[.int .i64 0, .int .i64 0, .slice none 0 0, .slice none 0 0, .slice none 0 0, .slice none 0 0] (by kernel_rfl) ?_; intro g2 w1 ge hh bb; have av_sb_b2 := sb.av_new ge; have ob2 := Nat.le_trans bel.size ge; replace sb := sb.below bb; replace hsz := Nat.le_trans hsz bb.size; replace hqs := hqs.kt (S := []) (kt_below bb) (by simp) (by simp); replace bel := bel.trans (bb.mono bel.size); have hb2 := hh; clear hh ge bb) | ((with_reducible show wpList _ _ _ (⟨none, Op.store _ (.tmp 2) _, _, _, _, _⟩ :: _) _ _); refine wpList_store_blk rfl 40 (.tmp 2) (.tmp 19) rfl g2 rfl _ rfl _ 40 hb2 (by rfl) (by kernel_rfl) (by kernel_rfl) ?_; intro w2 hq gr; replace sb := sb.away av_sb_b2 gr; replace hsz := Nat.le_trans hsz gr.size; replace hqs := hqs.kt (S := [40]) (kt_grown gr hb2 (by simp)) (by decide) (by decide); replace bel := below_grown bel gr ob2 bel.size; clear hb2; have hb2 := hq; clear hq gr))
    exact bodyPost_ret (results_cell_tmp_row rfl _ _ _ _ _ _ _ rfl hb2 Try.underlying40 rfl (by kernel_rfl) (.int .i64 3) rfl) rfl ⟨by rw [HY2.out], bel⟩
  have t18 : decide ((n : Int) < 12) = false := decide_eq_false (by omega)
  have HL2 : Hid (¬ b.length < 12) := Lib.hid (by rw [HBL.out]; exact h12)
  clear h12
  obtain ⟨i0, e0, f0, h_⟩ : ∃ u1_ u2_ u3_, u16S b (0, 0) = (u1_, u2_, u3_) := ⟨_, _, _, rfl⟩
  have HH0 := Lib.hid h_
  have HK0 : Hid (nAt b 0 2 = i0 ∧ 2 = e0 ∧ 0 = f0) := Lib.hid (by have h1_ := h_; rw [u16S_ok (by have h2_ := HL2.out; omega)] at h1_; injection h1_ with h1_ h2_; injection h2_ with h2_ h3_; exact ⟨h1_, h2_, h3_⟩)
  clear h_
  have EN0 : e0 ≤ n := by have h_ := HK0.out.2.1; have h1_ := HL2.out; have h2_ := HBL.out; omega
  have i00_ : (0 : Int) ≤ i0 := by omega
  obtain ⟨f0, e1, f1, h_⟩ : ∃ u1_ u2_ u3_, u16S b (e0, f0) = (u1_, u2_, u3_) := ⟨_, _, _, rfl⟩
  have HH1 := Lib.hid h_
  have HK1 : Hid (nAt b 2 2 = f0 ∧ 4 = e1 ∧ 0 = f1) := Lib.hid (by have h1_ := h_; rw [← HK0.out.2.1, ← HK0.out.2.2] at h1_; rw [u16S_ok (by have h2_ := HL2.out; omega)] at h1_; injection h1_ with h1_ h2_; injection h2_ with h2_ h3_; exact ⟨h1_, h2_, h3_⟩)
  clear h_
  have EN1 : e1 ≤ n := by have h_ := HK1.out.2.1; have h1_ := HL2.out; have h2_ := HBL.out; omega
  have f00_ : (0 : Int) ≤ f0 := by omega
  obtain ⟨nq, e2, f2, h_⟩ : ∃ u1_ u2_ u3_, u16S b (e1, f1) = (u1_, u2_, u3_) := ⟨_, _, _, rfl⟩
  have HH2 := Lib.hid h_
  have HK2 : Hid (nAt b 4 2 = nq ∧ 6 = e2 ∧ 0 = f2) := Lib.hid (by have h1_ := h_; rw [← HK1.out.2.1, ← HK1.out.2.2] at h1_; rw [u16S_ok (by have h2_ := HL2.out; omega)] at h1_; injection h1_ with h1_ h2_; injection h2_ with h2_ h3_; exact ⟨h1_, h2_, h3_⟩)
  clear h_
  have EN2 : e2 ≤ n := by have h_ := HK2.out.2.1; have h1_ := HL2.out; have h2_ := HBL.out; omega
  have nq0_ : (0 : Int) ≤ nq := by omega
  obtain ⟨na, e3, f3, h_⟩ : ∃ u1_ u2_ u3_, u16S b (e2, f2) = (u1_, u2_, u3_) := ⟨_, _, _, rfl⟩
  have HH3 := Lib.hid h_
  have HK3 : Hid (nAt b 6 2 = na ∧ 8 = e3 ∧ 0 = f3) := Lib.hid (by have h1_ := h_; rw [← HK2.out.2.1, ← HK2.out.2.2] at h1_; rw [u16S_ok (by have h2_ := HL2.out; omega)] at h1_; injection h1_ with h1_ h2_; injection h2_ with h2_ h3_; exact ⟨h1_, h2_, h3_⟩)
  clear h_
  have EN3 : e3 ≤ n := by have h_ := HK3.out.2.1; have h1_ := HL2.out; have h2_ := HBL.out; omega
  have na0_ : (0 : Int) ≤ na := by omega
  obtain ⟨no, e4, f4, h_⟩ : ∃ u1_ u2_ u3_, u16S b (e3, f3) = (u1_, u2_, u3_) := ⟨_, _, _, rfl⟩
  have HH4 := Lib.hid h_
  have HK4 : Hid (nAt b 8 2 = no ∧ 10 = e4 ∧ 0 = f4) := Lib.hid (by have h1_ := h_; rw [← HK3.out.2.1, ← HK3.out.2.2] at h1_; rw [u16S_ok (by have h2_ := HL2.out; omega)] at h1_; injection h1_ with h1_ h2_; injection h2_ with h2_ h3_; exact ⟨h1_, h2_, h3_⟩)
  clear h_
  have EN4 : e4 ≤ n := by have h_ := HK4.out.2.1; have h1_ := HL2.out; have h2_ := HBL.out; omega
  have no0_ : (0 : Int) ≤ no := by omega
  obtain ⟨nm, e5, f5, h_⟩ : ∃ u1_ u2_ u3_, u16S b (e4, f4) = (u1_, u2_, u3_) := ⟨_, _, _, rfl⟩
  have HH5 := Lib.hid h_
  have HK5 : Hid (nAt b 10 2 = nm ∧ 12 = e5 ∧ 0 = f5) := Lib.hid (by have h1_ := h_; rw [← HK4.out.2.1, ← HK4.out.2.2] at h1_; rw [u16S_ok (by have h2_ := HL2.out; omega)] at h1_; injection h1_ with h1_ h2_; injection h2_ with h2_ h3_; exact ⟨h1_, h2_, h3_⟩)
  clear h_
  have EN5 : e5 ≤ n := by have h_ := HK5.out.2.1; have h1_ := HL2.out; have h2_ := HBL.out; omega
  have nm0_ : (0 : Int) ≤ nm := by omega
  have i016 : (i0 : Int) ≤ 65535 := by have h_ := nAt_lt2 b 0 (by have h2_ := HL2.out; omega); rw [HK0.out.1] at h_; omega
  have f016 : (f0 : Int) ≤ 65535 := by have h_ := nAt_lt2 b 2 (by have h2_ := HL2.out; omega); rw [HK1.out.1] at h_; omega
  have nq16 : (nq : Int) ≤ 65535 := by have h_ := nAt_lt2 b 4 (by have h2_ := HL2.out; omega); rw [HK2.out.1] at h_; omega
  have na16 : (na : Int) ≤ 65535 := by have h_ := nAt_lt2 b 6 (by have h2_ := HL2.out; omega); rw [HK3.out.1] at h_; omega
  have no16 : (no : Int) ≤ 65535 := by have h_ := nAt_lt2 b 8 (by have h2_ := HL2.out; omega); rw [HK4.out.1] at h_; omega
  have nm16 : (nm : Int) ≤ 65535 := by have h_ := nAt_lt2 b 10 (by have h2_ := HL2.out; omega); rw [HK5.out.1] at h_; omega
  go_wp2_with (first | ((with_reducible show wpList _ _ _ (⟨some 2, _, _, _, _, _⟩ :: _) _ _); refine wpList_new_a rfl 40 rfl #[.int .i64 0, .int .i64 0, .slice none 0 0, .slice none 0 0, .slice none 0 0, .slice none 0 0] (by kernel_rfl) ?_; intro g2 w1 ge hh bb; have av_sb_b2 := sb.av_new ge; have ob2 := Nat.le_trans bel.size ge; replace sb := sb.below bb; replace hsz := Nat.le_trans hsz bb.size; replace hqs := hqs.kt (S := []) (kt_below bb) (by simp) (by simp); replace bel := bel.trans (bb.mono bel.size); have hb2 := hh; clear hh ge bb) | ((with_reducible show wpList _ _ _ (⟨some 22, _, _, _, _, _⟩ :: _) _ _); refine wpList_box_n rfl 66 (.tmp 21) rfl #[.slice A n c, .int .i64 0, .int .i64 0] rfl ?_; intro g22 w2 ge lt hh bb; have d_b2_wk := ne_new (hlt hb2) ge; have av_sb_wk := sb.av_new ge; have owk := Nat.le_trans bel.size ge; replace hb2 := blk_u hb2 bb; replace sb := sb.below bb; replace hsz := Nat.le_trans hsz bb.size; replace hqs := hqs.kt (S := []) (kt_below bb) (by simp) (by simp); replace bel := bel.trans (bb.mono bel.size); have hwk := hh; clear hh lt ge bb))
  with_reducible refine (ru16_00 _ hwk sb av_sb_wk NL HH0.out).mono ?_
  rintro e w3 ⟨rfl, hq_, b3⟩
  replace sb := sb.away av_sb_wk b3
  replace hb2 := blk_a hb2 b3 d_b2_wk
  replace hsz := Nat.le_trans hsz b3.size
  replace hqs := hqs.kt (S := [66]) (kt_grown b3 hwk (by simp)) (by decide) (by decide)
  replace bel := below_grown bel b3 owk bel.size
  clear b3
  clear hwk
  have hwk := hq_
  clear hq_
  go_wp2_with fail
  with_reducible refine (ru16_any _ hwk sb av_sb_wk NL EN0 HH1.out).mono ?_
  rintro e w4 ⟨rfl, hq_, b4⟩
  replace sb := sb.away av_sb_wk b4
  replace hb2 := blk_a hb2 b4 d_b2_wk
  replace hsz := Nat.le_trans hsz b4.size
  replace hqs := hqs.kt (S := [66]) (kt_grown b4 hwk (by simp)) (by decide) (by decide)
  replace bel := below_grown bel b4 owk bel.size
  clear b4
  clear hwk
  have hwk := hq_
  clear hq_
  go_wp2_with (first | ((with_reducible show wpList _ _ _ (⟨some 5, _, _, _, _, _⟩ :: _) _ _); refine wpList_new_a rfl 40 rfl #[.int .i64 0, .int .i64 0, .slice none 0 0, .slice none 0 0, .slice none 0 0, .slice none 0 0] (by kernel_rfl) ?_; intro g5 w5 ge hh bb; have d_b2_mm := ne_new (hlt hb2) ge; have d_wk_mm := ne_new (hlt hwk) ge; have av_sb_mm := sb.av_new ge; have omm := Nat.le_trans bel.size ge; replace hb2 := blk_u hb2 bb; replace hwk := blk_u hwk bb; replace sb := sb.below bb; replace hsz := Nat.le_trans hsz bb.size; replace hqs := hqs.kt (S := []) (kt_below bb) (by simp) (by simp); replace bel := bel.trans (bb.mono bel.size); have hmm := hh; clear hh ge bb) | ((with_reducible show wpList _ _ _ (⟨none, Op.store _ (.tmp 5) _, _, _, _, _⟩ :: _) _ _); refine wpList_store_blk rfl 40 (.tmp 5) (.tmp 27) rfl g5 rfl _ rfl _ 40 hmm (by rfl) (by kernel_rfl) (by kernel_rfl) ?_; intro w6 hq gr; replace sb := sb.away av_sb_mm gr; replace hb2 := blk_a hb2 gr d_b2_mm; replace hwk := blk_a hwk gr d_wk_mm; replace hsz := Nat.le_trans hsz gr.size; replace hqs := hqs.kt (S := [40]) (kt_grown gr hmm (by simp)) (by decide) (by decide); replace bel := below_grown bel gr omm bel.size; clear hmm; have hmm := hq; clear hq gr))
  with_reducible refine (ru16_any _ hwk sb av_sb_wk NL EN1 HH2.out).mono ?_
  rintro e w7 ⟨rfl, hq_, b7⟩
  replace sb := sb.away av_sb_wk b7
  replace hb2 := blk_a hb2 b7 d_b2_wk
  replace hmm := blk_a hmm b7 (ne_symm d_wk_mm)
  replace hsz := Nat.le_trans hsz b7.size
  replace hqs := hqs.kt (S := [66]) (kt_grown b7 hwk (by simp)) (by decide) (by decide)
  replace bel := below_grown bel b7 owk bel.size
  clear b7
  clear hwk
  have hwk := hq_
  clear hq_
  go_wp2_with fail
  with_reducible refine (ru16_any _ hwk sb av_sb_wk NL EN2 HH3.out).mono ?_
  rintro e w8 ⟨rfl, hq_, b8⟩
  replace sb := sb.away av_sb_wk b8
  replace hb2 := blk_a hb2 b8 d_b2_wk
  replace hmm := blk_a hmm b8 (ne_symm d_wk_mm)
  replace hsz := Nat.le_trans hsz b8.size
  replace hqs := hqs.kt (S := [66]) (kt_grown b8 hwk (by simp)) (by decide) (by decide)
  replace bel := below_grown bel b8 owk bel.size
  clear b8
  clear hwk
  have hwk := hq_
  clear hq_
  go_wp2_with fail
  with_reducible refine (ru16_any _ hwk sb av_sb_wk NL EN3 HH4.out).mono ?_
  rintro e w9 ⟨rfl, hq_, b9⟩
  replace sb := sb.away av_sb_wk b9
  replace hb2 := blk_a hb2 b9 d_b2_wk
  replace hmm := blk_a hmm b9 (ne_symm d_wk_mm)
  replace hsz := Nat.le_trans hsz b9.size
  replace hqs := hqs.kt (S := [66]) (kt_grown b9 hwk (by simp)) (by decide) (by decide)
  replace bel := below_grown bel b9 owk bel.size
  clear b9
  clear hwk
  have hwk := hq_
  clear hq_
  go_wp2_with fail
  with_reducible refine (ru16_any _ hwk sb av_sb_wk NL EN4 HH5.out).mono ?_
  rintro e w10 ⟨rfl, hq_, b10⟩
  replace sb := sb.away av_sb_wk b10
  replace hb2 := blk_a hb2 b10 d_b2_wk
  replace hmm := blk_a hmm b10 (ne_symm d_wk_mm)
  replace hsz := Nat.le_trans hsz b10.size
  replace hqs := hqs.kt (S := [66]) (kt_grown b10 hwk (by simp)) (by decide) (by decide)
  replace bel := below_grown bel b10 owk bel.size
  clear b10
  clear hwk
  have hwk := hq_
  clear hq_
  by_cases hsm : 64 < nq + na + no + nm
  · have hs1 : (64 : Int) < (nq : Int) + na + no + nm := by omega
    have HY2 : Hid (y = 2) := Lib.hid (by have h_ := (getM_many HL1.out HL2.out HK2.out.1 HK3.out.1 HK4.out.1 HK5.out.1 hsm).symm.trans HOK.out; injection h_ with h_; rw [← HY.out, ← h_]; rfl)
    clear hsm
    go_wp2_with (first | ((with_reducible show wpList _ _ _ (⟨none, Op.store _ (.tmp 2) _, _, _, _, _⟩ :: _) _ _); refine wpList_store_blk rfl 40 (.tmp 2) (.tmp 44) rfl g2 rfl _ rfl _ 40 hb2 (by rfl) (by kernel_rfl) (by kernel_rfl) ?_; intro w11 hq gr; replace sb := sb.away av_sb_b2 gr; replace hwk := blk_a hwk gr (ne_symm d_b2_wk); replace hmm := blk_a hmm gr (ne_symm d_b2_mm); replace hsz := Nat.le_trans hsz gr.size; replace hqs := hqs.kt (S := [40]) (kt_grown gr hb2 (by simp)) (by decide) (by decide); replace bel := below_grown bel gr ob2 bel.size; clear hb2; have hb2 := hq; clear hq gr))
    exact bodyPost_ret (results_cell_tmp_row rfl _ _ _ _ _ _ _ rfl hb2 Try.underlying40 rfl (by kernel_rfl) (.int .i64 2) rfl) rfl ⟨by rw [HY2.out], bel⟩
  have hs1 : decide ((64 : Int) < (nq : Int) + na + no + nm) = false := decide_eq_false (by omega)
  have HSM : Hid (¬ 64 < nq + na + no + nm) := Lib.hid hsm
  have bq : (nq : Int) ≤ 64 := by omega
  have ba : (na : Int) ≤ 64 := by omega
  have bo : (no : Int) ≤ 64 := by omega
  have bm : (nm : Int) ≤ 64 := by omega
  clear hsm
  have HS0 : Hid (12 = e5 ∧ 0 = f5) := Lib.hid HK5.out.2
  have PN0 := EN5
  obtain ⟨q, s1, r1, h_⟩ : ∃ u1_ u2_ u3_, manyS (qS b) nq (e5, f5) [] = (u1_, u2_, u3_) := ⟨_, _, _, rfl⟩
  have HM1 := Lib.hid h_
  clear h_
  have PN1 : s1 ≤ n := by have h_ := HM1.out; have h1_ := manyS_le (f := qS b) (n := b.length) (fun s h => qS_le h) nq (e5, f5) [] (by dsimp only; have h2_ := HBL.out; omega); rw [h_] at h1_; dsimp only at h1_; have h2_ := HBL.out; omega
  obtain ⟨a_, s2, r2, h_⟩ : ∃ u1_ u2_ u3_, manyS (recS b) na (s1, r1) [] = (u1_, u2_, u3_) := ⟨_, _, _, rfl⟩
  have HM2 := Lib.hid h_
  clear h_
  have PN2 : s2 ≤ n := by have h_ := HM2.out; have h1_ := manyS_le (f := recS b) (n := b.length) (fun s h => recS_le h) na (s1, r1) [] (by dsimp only; have h2_ := HBL.out; omega); rw [h_] at h1_; dsimp only at h1_; have h2_ := HBL.out; omega
  obtain ⟨o_, s3, r3, h_⟩ : ∃ u1_ u2_ u3_, manyS (recS b) no (s2, r2) [] = (u1_, u2_, u3_) := ⟨_, _, _, rfl⟩
  have HM3 := Lib.hid h_
  clear h_
  have PN3 : s3 ≤ n := by have h_ := HM3.out; have h1_ := manyS_le (f := recS b) (n := b.length) (fun s h => recS_le h) no (s2, r2) [] (by dsimp only; have h2_ := HBL.out; omega); rw [h_] at h1_; dsimp only at h1_; have h2_ := HBL.out; omega
  obtain ⟨m_, s4, r4, h_⟩ : ∃ u1_ u2_ u3_, manyS (recS b) nm (s3, r3) [] = (u1_, u2_, u3_) := ⟨_, _, _, rfl⟩
  have HM4 := Lib.hid h_
  clear h_
  have PN4 : s4 ≤ n := by have h_ := HM4.out; have h1_ := manyS_le (f := recS b) (n := b.length) (fun s h => recS_le h) nm (s3, r3) [] (by dsimp only; have h2_ := HBL.out; omega); rw [h_] at h1_; dsimp only at h1_; have h2_ := HBL.out; omega
  have HFIN : Hid (getM b = if r4 ≠ 0 then .error r4 else if s4 = b.length then .ok ⟨i0, f0, q, a_, o_, m_⟩ else .error 4) := Lib.hid (getM_fin HL1.out HL2.out HK0.out.1 HK1.out.1 HK2.out.1 HK3.out.1 HK4.out.1 HK5.out.1 HSM.out (by rw [HS0.out.1, HS0.out.2]; exact HM1.out) HM2.out HM3.out HM4.out)
  go_wp2_with fail
  go_loopg [10] (nq) (fun gk s10 wr => ∃ i : Nat, ∃ p0 : Nat, ∃ z0 : Nat, ∃ hs : List Qh, ∃ L1 : List Qn, ∃ (Aou : Option Addr) (cou : Nat), gk = nq - i ∧ i ≤ nq ∧ Hid (manyS (qS b) (nq - i) (p0, z0) L1 = manyS (qS b) nq (e5, f5) []) ∧ Hid (p0 ≤ n) ∧ w.heap.size ≤ wr.heap.size ∧ Qws w.heap.size wr hs L1 ∧ s10 = .int .i64 (i : Int) ∧ wr.ownsRow (w.heap.size) 68 3 (.slice Aou (i) cou) (i) ((hs : List Qh).flatMap qE) ∧ Ofs (.slice Aou (i) cou) g2 ∧ Ofs (.slice Aou (i) cou) g22 ∧ Ofs (.slice Aou (i) cou) g5 ∧ wr.heap[g2]? = some (.cells #[.int .i64 0, .int .i64 0, .slice none 0 0, .slice none 0 0, .slice none 0 0, .slice none 0 0] 40 (0, 0)) ∧ wr.heap[g22]? = some (.cells #[.slice A n c, .int .i64 (p0 : Int), .int .i64 (z0 : Int)] 66 (0, 0)) ∧ wr.heap[g5]? = some (.cells #[.int .i64 (i0 : Int), .int .i64 (f0 : Int), .slice Aou i cou, .slice none 0 0, .slice none 0 0, .slice none 0 0] 40 (0, 0)) ∧ Sl wr (A) (n) (c) (b) ∧ Below w.heap.size w wr)
  case atStart => exact ⟨0, e5, f5, [], [], none, 0, Nat.sub_zero _, Nat.zero_le _, Lib.hid rfl, Lib.hid PN0, hsz, hqs, rfl, owk_nil _ _ _, (fun g h => by simp [Value.ownBlock] at h), (fun g h => by simp [Value.ownBlock] at h), (fun g h => by simp [Value.ownBlock] at h), hb2, hwk, hmm, sb, bel⟩
  case round =>
    clear hsz hqs hb2 hwk hmm sb bel
    obtain ⟨i, p0, z0, hs, L1, Aou, cou, HGK, hi, HG, HP, hsz, hqs, rfl, ouw, of_ou_b2, of_ou_wk, of_ou_mm, hb2, hwk, hmm, sb, bel⟩ := hrel
    have HGK_ := Lib.hid HGK
    clear HGK
    have ou := (owk_sle (by decide) qE_len ouw).1
    have fr_ou := (owk_sle (by decide) qE_len ouw).2
    have lz_ou := bel.size
    have oulo := Nat.le_refl (w.heap.size)
    have av_ou_b2 := owk_av ouw of_ou_b2
    have av_ou_wk := owk_av ouw of_ou_wk
    have av_ou_mm := owk_av ouw of_ou_mm
    have hz_ou := Nat.le_refl w.heap.size
    have ii0 : (0 : Int) ≤ i := by omega
    have p00 : (0 : Int) ≤ p0 := by omega
    have z00 : (0 : Int) ≤ z0 := by omega
    have P0N : p0 ≤ n := HP.out
    by_cases hik : i < nq
    rotate_left
    · have hh := Lib.hid hik
      have HKI : Hid (i = nq) := Lib.hid (by omega)
      replace hik : decide (i < nq) = false := decide_eq_false (by omega)
      have HGE : Hid (manyS (qS b) nq (e5, f5) [] = (L1, p0, z0)) := Lib.hid (by rw [← HG.out]; exact by rw [HKI.out, Nat.sub_self]; rfl)
      have HE2 : Hid (L1 = q ∧ p0 = s1 ∧ z0 = r1) := Lib.hid (by have h_ := HGE.out.symm.trans HM1.out; injection h_ with h_ h1_; injection h1_ with h1_ h2_; exact ⟨h_, h1_, h2_⟩)
      obtain ⟨rfl, rfl, rfl⟩ := HE2.out
      clear HE2
      have hLQ : LQ w.heap.size wr 68 Aou i cou L1 := ⟨hs, ouw, hqs⟩
      clear ou ouw lz_ou
      clear hqs
      go_wp2_with fail
      have HS_hLA := hsz
      with_reducible refine (rrecs_any _ hwk sb av_sb_wk NL PN1 na (by omega) HM2.out).mono ?_
      rintro e w11 ⟨Qa, na2, ca2, rfl, hLA, hq_, b11⟩
      replace sb := sb.away av_sb_wk b11
      replace hb2 := blk_a hb2 b11 d_b2_wk
      replace hmm := blk_a hmm b11 (ne_symm d_wk_mm)
      replace hsz := Nat.le_trans hsz b11.size
      replace hLQ := hLQ.kt (S := [66]) (kt_grown b11 hwk (by simp)) (by decide) (by decide)
      replace bel := below_grown bel b11 owk bel.size
      clear b11
      clear hwk
      have hwk := hq_
      clear hq_
      replace hLA := hLA.lower HS_hLA
      go_wp2_with (first | ((with_reducible show wpList _ _ _ (⟨none, Op.store _ (.tmp 75) _, _, _, _, _⟩ :: _) _ _); refine wpList_store_part rfl 38 (.tmp 75) (.tmp 74) rfl g5 3 rfl [.slice Qa na2 ca2] rfl [.int .i64 (i0 : Int), .int .i64 (f0 : Int), .slice Aou i cou, .slice none 0 0, .slice none 0 0, .slice none 0 0] 40 hmm (by simp) [.int .i64 (i0 : Int), .int .i64 (f0 : Int), .slice Aou i cou, .slice Qa na2 ca2, .slice none 0 0, .slice none 0 0] rfl (by kernel_rfl) (by rfl) ?_; intro w12 hq gr; replace sb := sb.away av_sb_mm gr; replace hb2 := blk_a hb2 gr d_b2_mm; replace hwk := blk_a hwk gr d_wk_mm; replace hsz := Nat.le_trans hsz gr.size; replace hLQ := hLQ.kt (S := [40]) (kt_grown gr hmm (by simp)) (by decide) (by decide); replace hLA := hLA.kt (S := [40]) (kt_grown gr hmm (by simp)) (by decide) (by decide); replace bel := below_grown bel gr omm bel.size; clear hmm; have hmm := hq; clear hq gr))
      have HS_hLO := hsz
      with_reducible refine (rrecs_any _ hwk sb av_sb_wk NL PN2 no (by omega) HM3.out).mono ?_
      rintro e w13 ⟨Qo, no2, co2, rfl, hLO, hq_, b13⟩
      replace sb := sb.away av_sb_wk b13
      replace hb2 := blk_a hb2 b13 d_b2_wk
      replace hmm := blk_a hmm b13 (ne_symm d_wk_mm)
      replace hsz := Nat.le_trans hsz b13.size
      replace hLQ := hLQ.kt (S := [66]) (kt_grown b13 hwk (by simp)) (by decide) (by decide)
      replace hLA := hLA.kt (S := [66]) (kt_grown b13 hwk (by simp)) (by decide) (by decide)
      replace bel := below_grown bel b13 owk bel.size
      clear b13
      clear hwk
      have hwk := hq_
      clear hq_
      replace hLO := hLO.lower HS_hLO
      go_wp2_with (first | ((with_reducible show wpList _ _ _ (⟨none, Op.store _ (.tmp 79) _, _, _, _, _⟩ :: _) _ _); refine wpList_store_part rfl 38 (.tmp 79) (.tmp 78) rfl g5 4 rfl [.slice Qo no2 co2] rfl [.int .i64 (i0 : Int), .int .i64 (f0 : Int), .slice Aou i cou, .slice Qa na2 ca2, .slice none 0 0, .slice none 0 0] 40 hmm (by simp) [.int .i64 (i0 : Int), .int .i64 (f0 : Int), .slice Aou i cou, .slice Qa na2 ca2, .slice Qo no2 co2, .slice none 0 0] rfl (by kernel_rfl) (by rfl) ?_; intro w14 hq gr; replace sb := sb.away av_sb_mm gr; replace hb2 := blk_a hb2 gr d_b2_mm; replace hwk := blk_a hwk gr d_wk_mm; replace hsz := Nat.le_trans hsz gr.size; replace hLQ := hLQ.kt (S := [40]) (kt_grown gr hmm (by simp)) (by decide) (by decide); replace hLA := hLA.kt (S := [40]) (kt_grown gr hmm (by simp)) (by decide) (by decide); replace hLO := hLO.kt (S := [40]) (kt_grown gr hmm (by simp)) (by decide) (by decide); replace bel := below_grown bel gr omm bel.size; clear hmm; have hmm := hq; clear hq gr))
      have HS_hLM := hsz
      with_reducible refine (rrecs_any _ hwk sb av_sb_wk NL PN3 nm (by omega) HM4.out).mono ?_
      rintro e w15 ⟨Qm, nm2, cm2, rfl, hLM, hq_, b15⟩
      replace sb := sb.away av_sb_wk b15
      replace hb2 := blk_a hb2 b15 d_b2_wk
      replace hmm := blk_a hmm b15 (ne_symm d_wk_mm)
      replace hsz := Nat.le_trans hsz b15.size
      replace hLQ := hLQ.kt (S := [66]) (kt_grown b15 hwk (by simp)) (by decide) (by decide)
      replace hLA := hLA.kt (S := [66]) (kt_grown b15 hwk (by simp)) (by decide) (by decide)
      replace hLO := hLO.kt (S := [66]) (kt_grown b15 hwk (by simp)) (by decide) (by decide)
      replace bel := below_grown bel b15 owk bel.size
      clear b15
      clear hwk
      have hwk := hq_
      clear hq_
      replace hLM := hLM.lower HS_hLM
      by_cases h_z4 : r4 = 0
      rotate_left
      · have HY2 : Hid (y = (r4 : Int)) := Lib.hid (by have h_ := HFIN.out.symm.trans HOK.out; rw [if_pos h_z4] at h_; injection h_ with h_; rw [← HY.out, ← h_])
        have r4a : ((r4 : Int) == 0) = false := by rw [beq_eq_false_iff_ne]; omega
        have r4b : (r4 == 0) = false := by rw [beq_eq_false_iff_ne]; omega
        have r4c : ((r4 : Int) != 0) = true := by rw [bne_iff_ne]; omega
        have r4d : (r4 != 0) = true := by rw [bne_iff_ne]; omega
        clear h_z4
        go_wp2_with (first | ((with_reducible show wpList _ _ _ (⟨none, Op.store _ (.tmp 83) _, _, _, _, _⟩ :: _) _ _); refine wpList_store_part rfl 38 (.tmp 83) (.tmp 82) rfl g5 5 rfl [.slice Qm nm2 cm2] rfl [.int .i64 (i0 : Int), .int .i64 (f0 : Int), .slice Aou i cou, .slice Qa na2 ca2, .slice Qo no2 co2, .slice none 0 0] 40 hmm (by simp) [.int .i64 (i0 : Int), .int .i64 (f0 : Int), .slice Aou i cou, .slice Qa na2 ca2, .slice Qo no2 co2, .slice Qm nm2 cm2] rfl (by kernel_rfl) (by rfl) ?_; intro w16 hq gr; replace sb := sb.away av_sb_mm gr; replace hb2 := blk_a hb2 gr d_b2_mm; replace hwk := blk_a hwk gr d_wk_mm; replace hsz := Nat.le_trans hsz gr.size; replace hLQ := hLQ.kt (S := [40]) (kt_grown gr hmm (by simp)) (by decide) (by decide); replace hLA := hLA.kt (S := [40]) (kt_grown gr hmm (by simp)) (by decide) (by decide); replace hLO := hLO.kt (S := [40]) (kt_grown gr hmm (by simp)) (by decide) (by decide); replace hLM := hLM.kt (S := [40]) (kt_grown gr hmm (by simp)) (by decide) (by decide); replace bel := below_grown bel gr omm bel.size; clear hmm; have hmm := hq; clear hq gr; have R87 := cell_lit hwk 2 _ rfl; have R104 := cell_lit hwk 2 _ rfl))
        try clear R87
        try clear R104
        replace bel := bel.drew
        replace hb2 : w16.drew.heap[g2]? = _ := hb2
        replace hwk : w16.drew.heap[g22]? = _ := hwk
        replace hmm : w16.drew.heap[g5]? = _ := hmm
        replace sb := sb.drew
        replace hsz := sz_drew' hsz
        replace hLQ := hLQ.drew
        replace hLA := hLA.drew
        replace hLO := hLO.drew
        replace hLM := hLM.drew
        refine wp_region_held_drew (S := fun W => W.heap[g22]? = some (.cells #[.slice A n c, .int .i64 (s4 : Int), .int .i64 (r4 : Int)] 66 (0, 0))) (by kernel_rfl) hwk (fun hH => ?_)
        generalize w16.drew = w17 at bel hb2 hwk hmm sb hsz hLQ hLA hLO hLM hH ⊢
        refine wpAnyH_take (i := 0) (v := ?_) rfl (by kernel_rfl) (by kernel_rfl) (by kernel_rfl) (fun _ _ _ h => h) (Or.inl ⟨by rfl, ?_⟩) hH ?_
        rotate_left
        · ((intro W hW; clear hW; go_simp) <;> with_reducible rfl)
        simp only [Act.put, List.getElem_toArray, List.getElem_cons_zero, List.setIfInBounds_toArray, List.set_cons_zero, List.set_cons_succ]
        refine wpAnyH_take (i := 1) (v := ?_) rfl (by kernel_rfl) (by kernel_rfl) (by kernel_rfl) (fun _ _ _ h => h) (Or.inl ⟨by rfl, ?_⟩) hH ?_
        rotate_left
        · ((intro W hW; clear hW; go_simp) <;> with_reducible rfl)
        simp only [sq3, sq4]
        refine wpAnyH_take (i := 2) (v := ?_) rfl (by kernel_rfl) (by kernel_rfl) (by kernel_rfl) (fun _ _ _ h => h) (Or.inl ⟨by rfl, ?_⟩) hH ?_
        rotate_left
        · ((intro W hW; clear hW; go_simp) <;> with_reducible rfl)
        simp only [sq3, sq4]
        refine wpAnyH_take (i := 3) (v := ?_) rfl (by kernel_rfl) (by kernel_rfl) (by kernel_rfl) (fun _ _ _ h => h) (Or.inl ⟨by rfl, ?_⟩) hH ?_
        rotate_left
        · ((intro W hW; clear hW; go_simp) <;> with_reducible rfl)
        simp only [sq3, sq4]
        refine wpAnyH_take (i := 4) (v := ?_) rfl (by kernel_rfl) (by kernel_rfl) (by kernel_rfl) (fun _ _ _ h => h) (Or.inl ⟨by rfl, ?_⟩) hH ?_
        rotate_left
        · ((intro W hW; have hk := cell_lit (hW) 2 _ rfl; clear hW; go_simp) <;> with_reducible rfl)
        simp only [sq3, sq4]
        refine wpAnyH_ready (rs := [5]) (by kernel_rfl) (by simp) ?_
        refine AllReadyH.cons (o := _) rfl (fun K hK => ?_) AllReadyH.nil
        simp only [sq3]
        rw [if_pos (by rfl)]
        refine wp_store_blk 40 (.tmp 2) (.tmp 106) rfl g2 rfl _ rfl _ 40 hb2 (by rfl) (by kernel_rfl) (by kernel_rfl) ?_
        intro w18 hq gr
        replace sb := sb.away av_sb_b2 gr
        replace hwk := blk_a hwk gr (ne_symm d_b2_wk)
        replace hmm := blk_a hmm gr (ne_symm d_b2_mm)
        replace hsz := Nat.le_trans hsz gr.size
        replace hLQ := hLQ.kt (S := [40]) (kt_grown gr hb2 (by simp)) (by decide) (by decide)
        replace hLA := hLA.kt (S := [40]) (kt_grown gr hb2 (by simp)) (by decide) (by decide)
        replace hLO := hLO.kt (S := [40]) (kt_grown gr hb2 (by simp)) (by decide) (by decide)
        replace hLM := hLM.kt (S := [40]) (kt_grown gr hb2 (by simp)) (by decide) (by decide)
        replace bel := below_grown bel gr ob2 bel.size
        clear hb2
        have hb2 := hq
        clear hq gr
        refine hK.out _ _ hwk (fun hH19 => ?_)
        clear hK K
        simp only [Act.put]
        refine wpAnyH_take (i := 6) (v := ?_) rfl (by kernel_rfl) (by kernel_rfl) (by kernel_rfl) (fun _ _ _ h => h) (Or.inl ⟨by rfl, ?_⟩) hH19 ?_
        rotate_left
        · ((intro W hW; clear hW; go_simp) <;> with_reducible rfl)
        simp only [sq3, sq4]
        refine wpAnyH_done (by kernel_rfl) ?_ _
        go_wp2_with fail
        exact bodyPost_ret (results_cell_tmp_row rfl _ _ _ _ _ _ _ rfl hb2 Try.underlying40 rfl (by kernel_rfl) (.int .i64 (r4 : Int)) rfl) rfl ⟨by rw [HY2.out], bel⟩
      have HZ4 := Lib.hid h_z4
      have r4a : ((r4 : Int) == 0) = true := by rw [h_z4]; rfl
      have r4b : (r4 == 0) = true := by rw [h_z4]; rfl
      have r4c : ((r4 : Int) != 0) = false := by rw [h_z4]; rfl
      have r4d : (r4 != 0) = false := by rw [h_z4]; rfl
      clear h_z4
      by_cases h_s4 : s4 = n
      · have h_ := HFIN.out.symm.trans HOK.out
        rw [if_neg (by have h1_ := HZ4.out; omega), if_pos (by rw [HBL.out]; exact h_s4)] at h_
        cases h_
      have HY2 : Hid (y = 4) := Lib.hid (by have h_ := HFIN.out.symm.trans HOK.out; rw [if_neg (by have h1_ := HZ4.out; omega), if_neg (by rw [HBL.out]; exact h_s4)] at h_; injection h_ with h_; rw [← HY.out, ← h_]; rfl)
      have s4a : ((s4 : Int) != (n : Int)) = true := by rw [bne_iff_ne]; omega
      have s4b : (s4 != n) = true := by rw [bne_iff_ne]; omega
      clear h_s4
      go_wp2_with (first | ((with_reducible show wpList _ _ _ (⟨none, Op.store _ (.tmp 83) _, _, _, _, _⟩ :: _) _ _); refine wpList_store_part rfl 38 (.tmp 83) (.tmp 82) rfl g5 5 rfl [.slice Qm nm2 cm2] rfl [.int .i64 (i0 : Int), .int .i64 (f0 : Int), .slice Aou i cou, .slice Qa na2 ca2, .slice Qo no2 co2, .slice none 0 0] 40 hmm (by simp) [.int .i64 (i0 : Int), .int .i64 (f0 : Int), .slice Aou i cou, .slice Qa na2 ca2, .slice Qo no2 co2, .slice Qm nm2 cm2] rfl (by kernel_rfl) (by rfl) ?_; intro w16 hq gr; replace sb := sb.away av_sb_mm gr; replace hb2 := blk_a hb2 gr d_b2_mm; replace hwk := blk_a hwk gr d_wk_mm; replace hsz := Nat.le_trans hsz gr.size; replace hLQ := hLQ.kt (S := [40]) (kt_grown gr hmm (by simp)) (by decide) (by decide); replace hLA := hLA.kt (S := [40]) (kt_grown gr hmm (by simp)) (by decide) (by decide); replace hLO := hLO.kt (S := [40]) (kt_grown gr hmm (by simp)) (by decide) (by decide); replace hLM := hLM.kt (S := [40]) (kt_grown gr hmm (by simp)) (by decide) (by decide); replace bel := below_grown bel gr omm bel.size; clear hmm; have hmm := hq; clear hq gr; have R87 := cell_lit hwk 2 _ rfl; have R93 := cell_lit hwk 1 _ rfl) | ((with_reducible show wpList _ _ _ (⟨none, Op.store _ (.tmp 100) _, _, _, _, _⟩ :: _) _ _); refine wpList_store_part rfl 27 (.tmp 100) (.const (.int .i64 4)) rfl g22 2 rfl [.int .i64 4] rfl [.slice A n c, .int .i64 (s4 : Int), .int .i64 (r4 : Int)] 66 hwk (by simp) [.slice A n c, .int .i64 (s4 : Int), .int .i64 4] rfl (by kernel_rfl) (by rfl) ?_; intro w17 hq gr; replace sb := sb.away av_sb_wk gr; replace hb2 := blk_a hb2 gr d_b2_wk; replace hmm := blk_a hmm gr (ne_symm d_wk_mm); replace hsz := Nat.le_trans hsz gr.size; replace hLQ := hLQ.kt (S := [66]) (kt_grown gr hwk (by simp)) (by decide) (by decide); replace hLA := hLA.kt (S := [66]) (kt_grown gr hwk (by simp)) (by decide) (by decide); replace hLO := hLO.kt (S := [66]) (kt_grown gr hwk (by simp)) (by decide) (by decide); replace hLM := hLM.kt (S := [66]) (kt_grown gr hwk (by simp)) (by decide) (by decide); replace bel := below_grown bel gr owk bel.size; clear hwk; have hwk := hq; clear hq gr; have R104 := cell_lit hwk 2 _ rfl))
      try clear R87
      try clear R93
      try clear R104
      replace bel := bel.drew
      replace hb2 : w17.drew.heap[g2]? = _ := hb2
      replace hwk : w17.drew.heap[g22]? = _ := hwk
      replace hmm : w17.drew.heap[g5]? = _ := hmm
      replace sb := sb.drew
      replace hsz := sz_drew' hsz
      replace hLQ := hLQ.drew
      replace hLA := hLA.drew
      replace hLO := hLO.drew
      replace hLM := hLM.drew
      refine wp_region_held_drew (S := fun W => W.heap[g22]? = some (.cells #[.slice A n c, .int .i64 (s4 : Int), .int .i64 4] 66 (0, 0))) (by kernel_rfl) hwk (fun hH => ?_)
      generalize w17.drew = w18 at bel hb2 hwk hmm sb hsz hLQ hLA hLO hLM hH ⊢
      refine wpAnyH_take (i := 0) (v := ?_) rfl (by kernel_rfl) (by kernel_rfl) (by kernel_rfl) (fun _ _ _ h => h) (Or.inl ⟨by rfl, ?_⟩) hH ?_
      rotate_left
      · ((intro W hW; clear hW; go_simp) <;> with_reducible rfl)
      simp only [Act.put, List.getElem_toArray, List.getElem_cons_zero, List.setIfInBounds_toArray, List.set_cons_zero, List.set_cons_succ]
      refine wpAnyH_take (i := 1) (v := ?_) rfl (by kernel_rfl) (by kernel_rfl) (by kernel_rfl) (fun _ _ _ h => h) (Or.inl ⟨by rfl, ?_⟩) hH ?_
      rotate_left
      · ((intro W hW; clear hW; go_simp) <;> with_reducible rfl)
      simp only [sq3, sq4]
      refine wpAnyH_take (i := 2) (v := ?_) rfl (by kernel_rfl) (by kernel_rfl) (by kernel_rfl) (fun _ _ _ h => h) (Or.inl ⟨by rfl, ?_⟩) hH ?_
      rotate_left
      · ((intro W hW; clear hW; go_simp) <;> with_reducible rfl)
      simp only [sq3, sq4]
      refine wpAnyH_take (i := 3) (v := ?_) rfl (by kernel_rfl) (by kernel_rfl) (by kernel_rfl) (fun _ _ _ h => h) (Or.inl ⟨by rfl, ?_⟩) hH ?_
      rotate_left
      · ((intro W hW; clear hW; go_simp) <;> with_reducible rfl)
      simp only [sq3, sq4]
      refine wpAnyH_take (i := 4) (v := ?_) rfl (by kernel_rfl) (by kernel_rfl) (by kernel_rfl) (fun _ _ _ h => h) (Or.inl ⟨by rfl, ?_⟩) hH ?_
      rotate_left
      · ((intro W hW; have hk := cell_lit (hW) 2 _ rfl; clear hW; go_simp) <;> with_reducible rfl)
      simp only [sq3, sq4]
      refine wpAnyH_ready (rs := [5]) (by kernel_rfl) (by simp) ?_
      refine AllReadyH.cons (o := _) rfl (fun K hK => ?_) AllReadyH.nil
      simp only [sq3]
      rw [if_pos (by rfl)]
      refine wp_store_blk 40 (.tmp 2) (.tmp 106) rfl g2 rfl _ rfl _ 40 hb2 (by rfl) (by kernel_rfl) (by kernel_rfl) ?_
      intro w19 hq gr
      replace sb := sb.away av_sb_b2 gr
      replace hwk := blk_a hwk gr (ne_symm d_b2_wk)
      replace hmm := blk_a hmm gr (ne_symm d_b2_mm)
      replace hsz := Nat.le_trans hsz gr.size
      replace hLQ := hLQ.kt (S := [40]) (kt_grown gr hb2 (by simp)) (by decide) (by decide)
      replace hLA := hLA.kt (S := [40]) (kt_grown gr hb2 (by simp)) (by decide) (by decide)
      replace hLO := hLO.kt (S := [40]) (kt_grown gr hb2 (by simp)) (by decide) (by decide)
      replace hLM := hLM.kt (S := [40]) (kt_grown gr hb2 (by simp)) (by decide) (by decide)
      replace bel := below_grown bel gr ob2 bel.size
      clear hb2
      have hb2 := hq
      clear hq gr
      refine hK.out _ _ hwk (fun hH20 => ?_)
      clear hK K
      simp only [Act.put]
      refine wpAnyH_take (i := 6) (v := ?_) rfl (by kernel_rfl) (by kernel_rfl) (by kernel_rfl) (fun _ _ _ h => h) (Or.inl ⟨by rfl, ?_⟩) hH20 ?_
      rotate_left
      · ((intro W hW; clear hW; go_simp) <;> with_reducible rfl)
      simp only [sq3, sq4]
      refine wpAnyH_done (by kernel_rfl) ?_ _
      go_wp2_with fail
      exact bodyPost_ret (results_cell_tmp_row rfl _ _ _ _ _ _ _ rfl hb2 Try.underlying40 rfl (by kernel_rfl) (.int .i64 4) rfl) rfl ⟨by rw [HY2.out], bel⟩
    obtain ⟨r, hr_⟩ : ∃ r, nq - i = r + 1 := ⟨nq - i - 1, by omega⟩
    have HR := Lib.hid hr_
    clear hr_
    by_cases hz0 : z0 = 0
    · have HZ0 : Hid ((p0, z0).2 = 0) := Lib.hid hz0
      have za : ((z0 : Int) == 0) = true := by rw [hz0]; rfl
      have zb : (z0 == 0) = true := by rw [hz0]; rfl
      clear hz0
      obtain ⟨l, p1, z1, h_⟩ : ∃ u1_ u2_ u3_, nameS b (p0, z0) = (u1_, u2_, u3_) := ⟨_, _, _, rfl⟩
      have HT1 := Lib.hid h_
      clear h_
      have QN1 : p1 ≤ n := by have h_ := HT1.out; have h1_ := nameS_le (b := b) (s := (p0, z0)) (by have h2_ := HBL.out; dsimp only; omega); rw [h_] at h1_; dsimp only at h1_; have h2_ := HBL.out; omega
      obtain ⟨v1, p2, z2, h_⟩ : ∃ u1_ u2_ u3_, u16S b (p1, z1) = (u1_, u2_, u3_) := ⟨_, _, _, rfl⟩
      have HT2 := Lib.hid h_
      clear h_
      have QN2 : p2 ≤ n := by have h_ := HT2.out; have h1_ := u16S_le (b := b) (s := (p1, z1)) (by have h2_ := HBL.out; dsimp only; omega); rw [h_] at h1_; dsimp only at h1_; have h2_ := HBL.out; omega
      obtain ⟨v2, p3, z3, h_⟩ : ∃ u1_ u2_ u3_, u16S b (p2, z2) = (u1_, u2_, u3_) := ⟨_, _, _, rfl⟩
      have HT3 := Lib.hid h_
      clear h_
      have QN3 : p3 ≤ n := by have h_ := HT3.out; have h1_ := u16S_le (b := b) (s := (p2, z2)) (by have h2_ := HBL.out; dsimp only; omega); rw [h_] at h1_; dsimp only at h1_; have h2_ := HBL.out; omega
      have v10_ : (0 : Int) ≤ v1 := by omega
      have v20_ : (0 : Int) ≤ v2 := by omega
      have HRE : Hid (qS b (p0, z0) = (⟨l, (v1 : Int), (v2 : Int)⟩, p3, z3)) := Lib.hid (by unfold qS; simp only [HT1.out, HT2.out, HT3.out])
      have R52 := cell_lit hwk 2 _ rfl
      go_wp2_with fail
      clear R52
      have HS_N := hsz
      with_reducible refine (rname_any _ hwk sb av_sb_wk NL P0N HT1.out).mono ?_
      rintro e w11 ⟨Lq, mq, cq, rfl, nmw, hq_, b11⟩
      replace sb := sb.away av_sb_wk b11
      replace ou := ou.away av_ou_wk b11
      replace ouw := owk_off ouw of_ou_wk b11
      replace lz_ou := Nat.le_trans lz_ou b11.size
      replace hb2 := blk_a hb2 b11 d_b2_wk
      replace hmm := blk_a hmm b11 (ne_symm d_wk_mm)
      replace hsz := Nat.le_trans hsz b11.size
      replace hqs := hqs.kt (S := [66]) (kt_grown b11 hwk (by simp)) (by decide) (by decide)
      replace bel := below_grown bel b11 owk bel.size
      clear b11
      clear hwk
      have hwk := hq_
      clear hq_
      replace nmw := owk_lo nmw HS_N
      go_wp2_with (first | ((with_reducible show wpList _ _ _ (⟨some 11, _, _, _, _, _⟩ :: _) _ _); refine wpList_new_a rfl 68 rfl #[.slice none 0 0, .int .i64 0, .int .i64 0] (by kernel_rfl) ?_; intro g11 w12 ge hh bb; have d_b2_qq := ne_new (hlt hb2) ge; have d_wk_qq := ne_new (hlt hwk) ge; have d_mm_qq := ne_new (hlt hmm) ge; have av_sb_qq := sb.av_new ge; have av_ou_qq := ou.av_new ge; have of_ou_qq := owk_new ouw ge; have oqq := Nat.le_trans bel.size ge; replace hb2 := blk_u hb2 bb; replace hwk := blk_u hwk bb; replace hmm := blk_u hmm bb; replace sb := sb.below bb; replace ou := ou.below bb; replace ouw := owk_under ouw bb; replace lz_ou := Nat.le_trans lz_ou bb.size; replace hsz := Nat.le_trans hsz bb.size; replace hqs := hqs.kt (S := []) (kt_below bb) (by simp) (by simp); replace nmw := owk_under nmw bb; replace bel := bel.trans (bb.mono bel.size); have hqq := hh; clear hh ge bb) | ((with_reducible show wpList _ _ _ (⟨none, Op.store _ (.tmp 11) _, _, _, _, _⟩ :: _) _ _); refine wpList_store_blk rfl 68 (.tmp 11) (.tmp 59) rfl g11 rfl _ rfl _ 68 hqq (by rfl) (by kernel_rfl) (by kernel_rfl) ?_; intro w13 hq gr; replace sb := sb.away av_sb_qq gr; replace ou := ou.away av_ou_qq gr; replace ouw := owk_off ouw of_ou_qq gr; replace lz_ou := Nat.le_trans lz_ou gr.size; replace hb2 := blk_a hb2 gr d_b2_qq; replace hwk := blk_a hwk gr d_wk_qq; replace hmm := blk_a hmm gr d_mm_qq; replace hsz := Nat.le_trans hsz gr.size; replace hqs := hqs.kt (S := [68]) (kt_grown gr hqq (by simp)) (by decide) (by decide); replace nmw := owk_off nmw (ofs_type nmw hqq (by decide)) gr; replace bel := below_grown bel gr oqq bel.size; clear hqq; have hqq := hq; clear hq gr))
      with_reducible refine (ru16_any _ hwk sb av_sb_wk NL QN1 HT2.out).mono ?_
      rintro e w14 ⟨rfl, hq_, b14⟩
      replace sb := sb.away av_sb_wk b14
      replace ou := ou.away av_ou_wk b14
      replace ouw := owk_off ouw of_ou_wk b14
      replace lz_ou := Nat.le_trans lz_ou b14.size
      replace hb2 := blk_a hb2 b14 d_b2_wk
      replace hmm := blk_a hmm b14 (ne_symm d_wk_mm)
      replace hqq := blk_a hqq b14 (ne_symm d_wk_qq)
      replace hsz := Nat.le_trans hsz b14.size
      replace hqs := hqs.kt (S := [66]) (kt_grown b14 hwk (by simp)) (by decide) (by decide)
      replace nmw := owk_off nmw (ofs_type nmw hwk (by decide)) b14
      replace bel := below_grown bel b14 owk bel.size
      clear b14
      clear hwk
      have hwk := hq_
      clear hq_
      go_wp2_with (first | ((with_reducible show wpList _ _ _ (⟨none, Op.store _ (.tmp 62) _, _, _, _, _⟩ :: _) _ _); refine wpList_store_part rfl 3 (.tmp 62) (.tmp 61) rfl g11 1 rfl [.int .i64 (v1 : Int)] rfl [.slice Lq mq cq, .int .i64 0, .int .i64 0] 68 hqq (by simp) [.slice Lq mq cq, .int .i64 (v1 : Int), .int .i64 0] rfl (by kernel_rfl) (by rfl) ?_; intro w15 hq gr; replace sb := sb.away av_sb_qq gr; replace ou := ou.away av_ou_qq gr; replace ouw := owk_off ouw of_ou_qq gr; replace lz_ou := Nat.le_trans lz_ou gr.size; replace hb2 := blk_a hb2 gr d_b2_qq; replace hwk := blk_a hwk gr d_wk_qq; replace hmm := blk_a hmm gr d_mm_qq; replace hsz := Nat.le_trans hsz gr.size; replace hqs := hqs.kt (S := [68]) (kt_grown gr hqq (by simp)) (by decide) (by decide); replace nmw := owk_off nmw (ofs_type nmw hqq (by decide)) gr; replace bel := below_grown bel gr oqq bel.size; clear hqq; have hqq := hq; clear hq gr))
      with_reducible refine (ru16_any _ hwk sb av_sb_wk NL QN2 HT3.out).mono ?_
      rintro e w16 ⟨rfl, hq_, b16⟩
      replace sb := sb.away av_sb_wk b16
      replace ou := ou.away av_ou_wk b16
      replace ouw := owk_off ouw of_ou_wk b16
      replace lz_ou := Nat.le_trans lz_ou b16.size
      replace hb2 := blk_a hb2 b16 d_b2_wk
      replace hmm := blk_a hmm b16 (ne_symm d_wk_mm)
      replace hqq := blk_a hqq b16 (ne_symm d_wk_qq)
      replace hsz := Nat.le_trans hsz b16.size
      replace hqs := hqs.kt (S := [66]) (kt_grown b16 hwk (by simp)) (by decide) (by decide)
      replace nmw := owk_off nmw (ofs_type nmw hwk (by decide)) b16
      replace bel := below_grown bel b16 owk bel.size
      clear b16
      clear hwk
      have hwk := hq_
      clear hq_
      go_wp2_with (first | ((with_reducible show wpList _ _ _ (⟨none, Op.store _ (.tmp 65) _, _, _, _, _⟩ :: _) _ _); refine wpList_store_part rfl 3 (.tmp 65) (.tmp 64) rfl g11 2 rfl [.int .i64 (v2 : Int)] rfl [.slice Lq mq cq, .int .i64 (v1 : Int), .int .i64 0] 68 hqq (by simp) [.slice Lq mq cq, .int .i64 (v1 : Int), .int .i64 (v2 : Int)] rfl (by kernel_rfl) (by rfl) ?_; intro w17 hq gr; replace sb := sb.away av_sb_qq gr; replace ou := ou.away av_ou_qq gr; replace ouw := owk_off ouw of_ou_qq gr; replace lz_ou := Nat.le_trans lz_ou gr.size; replace hb2 := blk_a hb2 gr d_b2_qq; replace hwk := blk_a hwk gr d_wk_qq; replace hmm := blk_a hmm gr d_mm_qq; replace hsz := Nat.le_trans hsz gr.size; replace hqs := hqs.kt (S := [68]) (kt_grown gr hqq (by simp)) (by decide) (by decide); replace nmw := owk_off nmw (ofs_type nmw hqq (by decide)) gr; replace bel := below_grown bel gr oqq bel.size; clear hqq; have hqq := hq; clear hq gr; replace hqs := hqs.snoc (x := (⟨Lq, mq, cq, (v1 : Int), (v2 : Int)⟩ : Qh)) (q := (⟨l, (v1 : Int), (v2 : Int)⟩ : Qn)) ⟨rfl, rfl, nmw⟩; clear nmw; have R67 := cell_lit hmm 2 _ rfl; have R68 := Lib.hid (range_lit hqq 0 3 [.slice Lq mq cq, .int .i64 (v1 : Int), .int .i64 (v2 : Int)] rfl)) | ((with_reducible show wpList _ _ _ (⟨some 68, _, _, _, _, _⟩ :: _) _ _); refine wpList_load_rng 68 (.tmp 11) rfl (by kernel_rfl) _ _ rfl _ R68.out _ Try.underlying68 rfl (by kernel_rfl) ?_) | ((with_reducible show wpList _ _ _ (⟨some 69, _, _, _, _, _⟩ :: _) _ _); refine wpList_lit_n rfl 37 68 1 _ rfl #[.slice Lq mq cq, .int .i64 (v1 : Int), .int .i64 (v2 : Int)] (.agg #[.slice none 0 0, .int .i64 0, .int .i64 0]) Try.underlying37 (by kernel_rfl) 3 (by kernel_rfl) (by decide) (by kernel_rfl) ?_; intro g69 w18 ge lt hh bb; have d_b2_b69 := ne_new (hlt hb2) ge; have d_wk_b69 := ne_new (hlt hwk) ge; have d_mm_b69 := ne_new (hlt hmm) ge; have d_qq_b69 := ne_new (hlt hqq) ge; have av_sb_b69 := sb.av_new ge; have av_ou_b69 := ou.av_new ge; have of_ou_b69 := owk_new ouw ge; have ob69 := Nat.le_trans bel.size ge; replace hb2 := blk_u hb2 bb; replace hwk := blk_u hwk bb; replace hmm := blk_u hmm bb; replace hqq := blk_u hqq bb; replace sb := sb.below bb; replace ou := ou.below bb; replace ouw := owk_under ouw bb; replace lz_ou := Nat.le_trans lz_ou bb.size; replace hsz := Nat.le_trans hsz bb.size; replace hqs := hqs.kt (S := []) (kt_below bb) (by simp) (by simp); replace bel := bel.trans (bb.mono bel.size); have hb69 := hh; clear hh lt ge bb; have l1 : Sle qE 3 w18 (some ⟨g69, 0, none⟩) (1) (1) ([(⟨Lq, mq, cq, (v1 : Int), (v2 : Int)⟩ : Qh)]) := sle_lit ([(⟨Lq, mq, cq, (v1 : Int), (v2 : Int)⟩ : Qh)]) (by decide) qE_len hb69 rfl (by simp [maxLen])) | ((with_reducible show wpList _ _ _ (⟨some 70, _, _, _, _, _⟩ :: _) _ _); refine wpList_append_sle rfl (.tmp 67) (.tmp 69) 37 rfl (w.heap.size) 68 jq (.agg #[.slice none 0 0, .int .i64 0, .int .i64 0]) 40 Try.underlying37 hjq hjq0 hjq1 hjq2 rfl qE_one _ (i) (hs) rfl ouw (some ⟨g69, 0, none⟩) (1) (1) ([(⟨Lq, mq, cq, (v1 : Int), (v2 : Int)⟩ : Qh)]) rfl l1 (by unfold maxLen; omega) (by omega) lz_ou ?_; intro v70 w19 own_ bb gw ofw; have of70_b2 := ofw _ (hlt hb2) of_ou_b2; have of70_wk := ofw _ (hlt hwk) of_ou_wk; have of70_mm := ofw _ (hlt hmm) of_ou_mm; have of70_qq := ofw _ (hlt hqq) of_ou_qq; have of70_b69 := ofw _ (hlt hb69) of_ou_b69; clear ofw; replace hqs := hqs.kt (S := [68]) (kt_row gw ouw (by simp)) (by decide) (by decide); replace sb := sb.under BLB bb; replace l1 := Sle.off l1 of_ou_b69 gw; replace hb2 := blk_own hb2 gw of_ou_b2; replace hwk := blk_own hwk gw of_ou_wk; replace hmm := blk_own hmm gw of_ou_mm; replace hqq := blk_own hqq gw of_ou_qq; replace hb69 := blk_own hb69 gw of_ou_b69; clear gw; replace hsz := Nat.le_trans hsz bb.size; replace bel := bel.trans (bb.mono oulo); have lz_s70 := Nat.le_trans lz_ou bb.size; clear bb; clear ou ouw lz_ou; replace own_ : w19.ownsRow (w.heap.size) 68 3 v70 (i + 1) ((hs ++ [(⟨Lq, mq, cq, (v1 : Int), (v2 : Int)⟩ : Qh)] : List Qh).flatMap qE) := own_; obtain ⟨A70, c70, rfl⟩ := owk_val own_; have s70w := own_; have s70 := (owk_sle (by decide) qE_len own_).1; have fr_s70 := (owk_sle (by decide) qE_len own_).2; clear own_; have av_s70_b2 := owk_av s70w of70_b2; have av_s70_wk := owk_av s70w of70_wk; have av_s70_mm := owk_av s70w of70_mm; have av_s70_qq := owk_av s70w of70_qq; have av_s70_b69 := owk_av s70w of70_b69) | ((with_reducible show wpList _ _ _ (⟨none, Op.store _ (.tmp 71) _, _, _, _, _⟩ :: _) _ _); refine wpList_store_part rfl 37 (.tmp 71) (.tmp 70) rfl g5 2 rfl [.slice A70 (i + 1) c70] rfl [.int .i64 (i0 : Int), .int .i64 (f0 : Int), .slice Aou i cou, .slice none 0 0, .slice none 0 0, .slice none 0 0] 40 hmm (by simp) [.int .i64 (i0 : Int), .int .i64 (f0 : Int), .slice A70 (i + 1) c70, .slice none 0 0, .slice none 0 0, .slice none 0 0] rfl (by kernel_rfl) (by rfl) ?_; intro w20 hq gr; replace sb := sb.away av_sb_mm gr; clear l1; replace s70 := s70.away av_s70_mm gr; replace s70w := owk_off s70w of70_mm gr; replace lz_s70 := Nat.le_trans lz_s70 gr.size; replace hb2 := blk_a hb2 gr d_b2_mm; replace hwk := blk_a hwk gr d_wk_mm; replace hqq := blk_a hqq gr (ne_symm d_mm_qq); replace hb69 := blk_a hb69 gr (ne_symm d_mm_b69); replace hsz := Nat.le_trans hsz gr.size; replace hqs := hqs.kt (S := [40]) (kt_grown gr hmm (by simp)) (by decide) (by decide); replace bel := below_grown bel gr omm bel.size; clear hmm; have hmm := hq; clear hq gr))
      try clear R67
      try clear R68
      go_roundg (nq - (i + 1))
      case measure => have := HGK_.out; omega
      case rel => exact ⟨i + 1, p3, z3, hs ++ [(⟨Lq, mq, cq, (v1 : Int), (v2 : Int)⟩ : Qh)], L1 ++ [(⟨l, (v1 : Int), (v2 : Int)⟩ : Qn)], A70, c70, rfl, hik, Lib.hid (by rw [← HG.out, HR.out, manyS_go HZ0.out, HRE.out, show nq - (i + 1) = r by have h_ := HR.out; omega]), Lib.hid QN3, hsz, hqs, by go_num, s70w, of70_b2, of70_wk, of70_mm, hb2, hwk, hmm, sb, bel⟩
    have HZ0 : Hid (z0 ≠ 0) := Lib.hid hz0
    have za : ((z0 : Int) == 0) = false := by rw [beq_eq_false_iff_ne]; omega
    have zb : (z0 == 0) = false := by rw [beq_eq_false_iff_ne]; omega
    clear hz0
    have HGE : Hid (manyS (qS b) nq (e5, f5) [] = (L1, p0, z0)) := Lib.hid (by rw [← HG.out]; exact manyS_stop HZ0.out _ _)
    have HE2 : Hid (L1 = q ∧ p0 = s1 ∧ z0 = r1) := Lib.hid (by have h_ := HGE.out.symm.trans HM1.out; injection h_ with h_ h1_; injection h1_ with h1_ h2_; exact ⟨h_, h1_, h2_⟩)
    obtain ⟨rfl, rfl, rfl⟩ := HE2.out
    clear HE2
    have hLQ : LQ w.heap.size wr 68 Aou i cou L1 := ⟨hs, ouw, hqs⟩
    clear ou ouw lz_ou
    clear hqs
    have R52 := cell_lit hwk 2 _ rfl
    go_wp2_with fail
    clear R52
    have HS_hLA := hsz
    with_reducible refine (rrecs_any _ hwk sb av_sb_wk NL PN1 na (by omega) HM2.out).mono ?_
    rintro e w11 ⟨Qa, na2, ca2, rfl, hLA, hq_, b11⟩
    replace sb := sb.away av_sb_wk b11
    replace hb2 := blk_a hb2 b11 d_b2_wk
    replace hmm := blk_a hmm b11 (ne_symm d_wk_mm)
    replace hsz := Nat.le_trans hsz b11.size
    replace hLQ := hLQ.kt (S := [66]) (kt_grown b11 hwk (by simp)) (by decide) (by decide)
    replace bel := below_grown bel b11 owk bel.size
    clear b11
    clear hwk
    have hwk := hq_
    clear hq_
    replace hLA := hLA.lower HS_hLA
    go_wp2_with (first | ((with_reducible show wpList _ _ _ (⟨none, Op.store _ (.tmp 75) _, _, _, _, _⟩ :: _) _ _); refine wpList_store_part rfl 38 (.tmp 75) (.tmp 74) rfl g5 3 rfl [.slice Qa na2 ca2] rfl [.int .i64 (i0 : Int), .int .i64 (f0 : Int), .slice Aou i cou, .slice none 0 0, .slice none 0 0, .slice none 0 0] 40 hmm (by simp) [.int .i64 (i0 : Int), .int .i64 (f0 : Int), .slice Aou i cou, .slice Qa na2 ca2, .slice none 0 0, .slice none 0 0] rfl (by kernel_rfl) (by rfl) ?_; intro w12 hq gr; replace sb := sb.away av_sb_mm gr; replace hb2 := blk_a hb2 gr d_b2_mm; replace hwk := blk_a hwk gr d_wk_mm; replace hsz := Nat.le_trans hsz gr.size; replace hLQ := hLQ.kt (S := [40]) (kt_grown gr hmm (by simp)) (by decide) (by decide); replace hLA := hLA.kt (S := [40]) (kt_grown gr hmm (by simp)) (by decide) (by decide); replace bel := below_grown bel gr omm bel.size; clear hmm; have hmm := hq; clear hq gr))
    have HS_hLO := hsz
    with_reducible refine (rrecs_any _ hwk sb av_sb_wk NL PN2 no (by omega) HM3.out).mono ?_
    rintro e w13 ⟨Qo, no2, co2, rfl, hLO, hq_, b13⟩
    replace sb := sb.away av_sb_wk b13
    replace hb2 := blk_a hb2 b13 d_b2_wk
    replace hmm := blk_a hmm b13 (ne_symm d_wk_mm)
    replace hsz := Nat.le_trans hsz b13.size
    replace hLQ := hLQ.kt (S := [66]) (kt_grown b13 hwk (by simp)) (by decide) (by decide)
    replace hLA := hLA.kt (S := [66]) (kt_grown b13 hwk (by simp)) (by decide) (by decide)
    replace bel := below_grown bel b13 owk bel.size
    clear b13
    clear hwk
    have hwk := hq_
    clear hq_
    replace hLO := hLO.lower HS_hLO
    go_wp2_with (first | ((with_reducible show wpList _ _ _ (⟨none, Op.store _ (.tmp 79) _, _, _, _, _⟩ :: _) _ _); refine wpList_store_part rfl 38 (.tmp 79) (.tmp 78) rfl g5 4 rfl [.slice Qo no2 co2] rfl [.int .i64 (i0 : Int), .int .i64 (f0 : Int), .slice Aou i cou, .slice Qa na2 ca2, .slice none 0 0, .slice none 0 0] 40 hmm (by simp) [.int .i64 (i0 : Int), .int .i64 (f0 : Int), .slice Aou i cou, .slice Qa na2 ca2, .slice Qo no2 co2, .slice none 0 0] rfl (by kernel_rfl) (by rfl) ?_; intro w14 hq gr; replace sb := sb.away av_sb_mm gr; replace hb2 := blk_a hb2 gr d_b2_mm; replace hwk := blk_a hwk gr d_wk_mm; replace hsz := Nat.le_trans hsz gr.size; replace hLQ := hLQ.kt (S := [40]) (kt_grown gr hmm (by simp)) (by decide) (by decide); replace hLA := hLA.kt (S := [40]) (kt_grown gr hmm (by simp)) (by decide) (by decide); replace hLO := hLO.kt (S := [40]) (kt_grown gr hmm (by simp)) (by decide) (by decide); replace bel := below_grown bel gr omm bel.size; clear hmm; have hmm := hq; clear hq gr))
    have HS_hLM := hsz
    with_reducible refine (rrecs_any _ hwk sb av_sb_wk NL PN3 nm (by omega) HM4.out).mono ?_
    rintro e w15 ⟨Qm, nm2, cm2, rfl, hLM, hq_, b15⟩
    replace sb := sb.away av_sb_wk b15
    replace hb2 := blk_a hb2 b15 d_b2_wk
    replace hmm := blk_a hmm b15 (ne_symm d_wk_mm)
    replace hsz := Nat.le_trans hsz b15.size
    replace hLQ := hLQ.kt (S := [66]) (kt_grown b15 hwk (by simp)) (by decide) (by decide)
    replace hLA := hLA.kt (S := [66]) (kt_grown b15 hwk (by simp)) (by decide) (by decide)
    replace hLO := hLO.kt (S := [66]) (kt_grown b15 hwk (by simp)) (by decide) (by decide)
    replace bel := below_grown bel b15 owk bel.size
    clear b15
    clear hwk
    have hwk := hq_
    clear hq_
    replace hLM := hLM.lower HS_hLM
    by_cases h_z4 : r4 = 0
    rotate_left
    · have HY2 : Hid (y = (r4 : Int)) := Lib.hid (by have h_ := HFIN.out.symm.trans HOK.out; rw [if_pos h_z4] at h_; injection h_ with h_; rw [← HY.out, ← h_])
      have r4a : ((r4 : Int) == 0) = false := by rw [beq_eq_false_iff_ne]; omega
      have r4b : (r4 == 0) = false := by rw [beq_eq_false_iff_ne]; omega
      have r4c : ((r4 : Int) != 0) = true := by rw [bne_iff_ne]; omega
      have r4d : (r4 != 0) = true := by rw [bne_iff_ne]; omega
      clear h_z4
      go_wp2_with (first | ((with_reducible show wpList _ _ _ (⟨none, Op.store _ (.tmp 83) _, _, _, _, _⟩ :: _) _ _); refine wpList_store_part rfl 38 (.tmp 83) (.tmp 82) rfl g5 5 rfl [.slice Qm nm2 cm2] rfl [.int .i64 (i0 : Int), .int .i64 (f0 : Int), .slice Aou i cou, .slice Qa na2 ca2, .slice Qo no2 co2, .slice none 0 0] 40 hmm (by simp) [.int .i64 (i0 : Int), .int .i64 (f0 : Int), .slice Aou i cou, .slice Qa na2 ca2, .slice Qo no2 co2, .slice Qm nm2 cm2] rfl (by kernel_rfl) (by rfl) ?_; intro w16 hq gr; replace sb := sb.away av_sb_mm gr; replace hb2 := blk_a hb2 gr d_b2_mm; replace hwk := blk_a hwk gr d_wk_mm; replace hsz := Nat.le_trans hsz gr.size; replace hLQ := hLQ.kt (S := [40]) (kt_grown gr hmm (by simp)) (by decide) (by decide); replace hLA := hLA.kt (S := [40]) (kt_grown gr hmm (by simp)) (by decide) (by decide); replace hLO := hLO.kt (S := [40]) (kt_grown gr hmm (by simp)) (by decide) (by decide); replace hLM := hLM.kt (S := [40]) (kt_grown gr hmm (by simp)) (by decide) (by decide); replace bel := below_grown bel gr omm bel.size; clear hmm; have hmm := hq; clear hq gr; have R87 := cell_lit hwk 2 _ rfl; have R104 := cell_lit hwk 2 _ rfl))
      try clear R87
      try clear R104
      replace bel := bel.drew
      replace hb2 : w16.drew.heap[g2]? = _ := hb2
      replace hwk : w16.drew.heap[g22]? = _ := hwk
      replace hmm : w16.drew.heap[g5]? = _ := hmm
      replace sb := sb.drew
      replace hsz := sz_drew' hsz
      replace hLQ := hLQ.drew
      replace hLA := hLA.drew
      replace hLO := hLO.drew
      replace hLM := hLM.drew
      refine wp_region_held_drew (S := fun W => W.heap[g22]? = some (.cells #[.slice A n c, .int .i64 (s4 : Int), .int .i64 (r4 : Int)] 66 (0, 0))) (by kernel_rfl) hwk (fun hH => ?_)
      generalize w16.drew = w17 at bel hb2 hwk hmm sb hsz hLQ hLA hLO hLM hH ⊢
      refine wpAnyH_take (i := 0) (v := ?_) rfl (by kernel_rfl) (by kernel_rfl) (by kernel_rfl) (fun _ _ _ h => h) (Or.inl ⟨by rfl, ?_⟩) hH ?_
      rotate_left
      · ((intro W hW; clear hW; go_simp) <;> with_reducible rfl)
      simp only [Act.put, List.getElem_toArray, List.getElem_cons_zero, List.setIfInBounds_toArray, List.set_cons_zero, List.set_cons_succ]
      refine wpAnyH_take (i := 1) (v := ?_) rfl (by kernel_rfl) (by kernel_rfl) (by kernel_rfl) (fun _ _ _ h => h) (Or.inl ⟨by rfl, ?_⟩) hH ?_
      rotate_left
      · ((intro W hW; clear hW; go_simp) <;> with_reducible rfl)
      simp only [sq3, sq4]
      refine wpAnyH_take (i := 2) (v := ?_) rfl (by kernel_rfl) (by kernel_rfl) (by kernel_rfl) (fun _ _ _ h => h) (Or.inl ⟨by rfl, ?_⟩) hH ?_
      rotate_left
      · ((intro W hW; clear hW; go_simp) <;> with_reducible rfl)
      simp only [sq3, sq4]
      refine wpAnyH_take (i := 3) (v := ?_) rfl (by kernel_rfl) (by kernel_rfl) (by kernel_rfl) (fun _ _ _ h => h) (Or.inl ⟨by rfl, ?_⟩) hH ?_
      rotate_left
      · ((intro W hW; clear hW; go_simp) <;> with_reducible rfl)
      simp only [sq3, sq4]
      refine wpAnyH_take (i := 4) (v := ?_) rfl (by kernel_rfl) (by kernel_rfl) (by kernel_rfl) (fun _ _ _ h => h) (Or.inl ⟨by rfl, ?_⟩) hH ?_
      rotate_left
      · ((intro W hW; have hk := cell_lit (hW) 2 _ rfl; clear hW; go_simp) <;> with_reducible rfl)
      simp only [sq3, sq4]
      refine wpAnyH_ready (rs := [5]) (by kernel_rfl) (by simp) ?_
      refine AllReadyH.cons (o := _) rfl (fun K hK => ?_) AllReadyH.nil
      simp only [sq3]
      rw [if_pos (by rfl)]
      refine wp_store_blk 40 (.tmp 2) (.tmp 106) rfl g2 rfl _ rfl _ 40 hb2 (by rfl) (by kernel_rfl) (by kernel_rfl) ?_
      intro w18 hq gr
      replace sb := sb.away av_sb_b2 gr
      replace hwk := blk_a hwk gr (ne_symm d_b2_wk)
      replace hmm := blk_a hmm gr (ne_symm d_b2_mm)
      replace hsz := Nat.le_trans hsz gr.size
      replace hLQ := hLQ.kt (S := [40]) (kt_grown gr hb2 (by simp)) (by decide) (by decide)
      replace hLA := hLA.kt (S := [40]) (kt_grown gr hb2 (by simp)) (by decide) (by decide)
      replace hLO := hLO.kt (S := [40]) (kt_grown gr hb2 (by simp)) (by decide) (by decide)
      replace hLM := hLM.kt (S := [40]) (kt_grown gr hb2 (by simp)) (by decide) (by decide)
      replace bel := below_grown bel gr ob2 bel.size
      clear hb2
      have hb2 := hq
      clear hq gr
      refine hK.out _ _ hwk (fun hH19 => ?_)
      clear hK K
      simp only [Act.put]
      refine wpAnyH_take (i := 6) (v := ?_) rfl (by kernel_rfl) (by kernel_rfl) (by kernel_rfl) (fun _ _ _ h => h) (Or.inl ⟨by rfl, ?_⟩) hH19 ?_
      rotate_left
      · ((intro W hW; clear hW; go_simp) <;> with_reducible rfl)
      simp only [sq3, sq4]
      refine wpAnyH_done (by kernel_rfl) ?_ _
      go_wp2_with fail
      exact bodyPost_ret (results_cell_tmp_row rfl _ _ _ _ _ _ _ rfl hb2 Try.underlying40 rfl (by kernel_rfl) (.int .i64 (r4 : Int)) rfl) rfl ⟨by rw [HY2.out], bel⟩
    have HZ4 := Lib.hid h_z4
    have r4a : ((r4 : Int) == 0) = true := by rw [h_z4]; rfl
    have r4b : (r4 == 0) = true := by rw [h_z4]; rfl
    have r4c : ((r4 : Int) != 0) = false := by rw [h_z4]; rfl
    have r4d : (r4 != 0) = false := by rw [h_z4]; rfl
    clear h_z4
    by_cases h_s4 : s4 = n
    · have h_ := HFIN.out.symm.trans HOK.out
      rw [if_neg (by have h1_ := HZ4.out; omega), if_pos (by rw [HBL.out]; exact h_s4)] at h_
      cases h_
    have HY2 : Hid (y = 4) := Lib.hid (by have h_ := HFIN.out.symm.trans HOK.out; rw [if_neg (by have h1_ := HZ4.out; omega), if_neg (by rw [HBL.out]; exact h_s4)] at h_; injection h_ with h_; rw [← HY.out, ← h_]; rfl)
    have s4a : ((s4 : Int) != (n : Int)) = true := by rw [bne_iff_ne]; omega
    have s4b : (s4 != n) = true := by rw [bne_iff_ne]; omega
    clear h_s4
    go_wp2_with (first | ((with_reducible show wpList _ _ _ (⟨none, Op.store _ (.tmp 83) _, _, _, _, _⟩ :: _) _ _); refine wpList_store_part rfl 38 (.tmp 83) (.tmp 82) rfl g5 5 rfl [.slice Qm nm2 cm2] rfl [.int .i64 (i0 : Int), .int .i64 (f0 : Int), .slice Aou i cou, .slice Qa na2 ca2, .slice Qo no2 co2, .slice none 0 0] 40 hmm (by simp) [.int .i64 (i0 : Int), .int .i64 (f0 : Int), .slice Aou i cou, .slice Qa na2 ca2, .slice Qo no2 co2, .slice Qm nm2 cm2] rfl (by kernel_rfl) (by rfl) ?_; intro w16 hq gr; replace sb := sb.away av_sb_mm gr; replace hb2 := blk_a hb2 gr d_b2_mm; replace hwk := blk_a hwk gr d_wk_mm; replace hsz := Nat.le_trans hsz gr.size; replace hLQ := hLQ.kt (S := [40]) (kt_grown gr hmm (by simp)) (by decide) (by decide); replace hLA := hLA.kt (S := [40]) (kt_grown gr hmm (by simp)) (by decide) (by decide); replace hLO := hLO.kt (S := [40]) (kt_grown gr hmm (by simp)) (by decide) (by decide); replace hLM := hLM.kt (S := [40]) (kt_grown gr hmm (by simp)) (by decide) (by decide); replace bel := below_grown bel gr omm bel.size; clear hmm; have hmm := hq; clear hq gr; have R87 := cell_lit hwk 2 _ rfl; have R93 := cell_lit hwk 1 _ rfl) | ((with_reducible show wpList _ _ _ (⟨none, Op.store _ (.tmp 100) _, _, _, _, _⟩ :: _) _ _); refine wpList_store_part rfl 27 (.tmp 100) (.const (.int .i64 4)) rfl g22 2 rfl [.int .i64 4] rfl [.slice A n c, .int .i64 (s4 : Int), .int .i64 (r4 : Int)] 66 hwk (by simp) [.slice A n c, .int .i64 (s4 : Int), .int .i64 4] rfl (by kernel_rfl) (by rfl) ?_; intro w17 hq gr; replace sb := sb.away av_sb_wk gr; replace hb2 := blk_a hb2 gr d_b2_wk; replace hmm := blk_a hmm gr (ne_symm d_wk_mm); replace hsz := Nat.le_trans hsz gr.size; replace hLQ := hLQ.kt (S := [66]) (kt_grown gr hwk (by simp)) (by decide) (by decide); replace hLA := hLA.kt (S := [66]) (kt_grown gr hwk (by simp)) (by decide) (by decide); replace hLO := hLO.kt (S := [66]) (kt_grown gr hwk (by simp)) (by decide) (by decide); replace hLM := hLM.kt (S := [66]) (kt_grown gr hwk (by simp)) (by decide) (by decide); replace bel := below_grown bel gr owk bel.size; clear hwk; have hwk := hq; clear hq gr; have R104 := cell_lit hwk 2 _ rfl))
    try clear R87
    try clear R93
    try clear R104
    replace bel := bel.drew
    replace hb2 : w17.drew.heap[g2]? = _ := hb2
    replace hwk : w17.drew.heap[g22]? = _ := hwk
    replace hmm : w17.drew.heap[g5]? = _ := hmm
    replace sb := sb.drew
    replace hsz := sz_drew' hsz
    replace hLQ := hLQ.drew
    replace hLA := hLA.drew
    replace hLO := hLO.drew
    replace hLM := hLM.drew
    refine wp_region_held_drew (S := fun W => W.heap[g22]? = some (.cells #[.slice A n c, .int .i64 (s4 : Int), .int .i64 4] 66 (0, 0))) (by kernel_rfl) hwk (fun hH => ?_)
    generalize w17.drew = w18 at bel hb2 hwk hmm sb hsz hLQ hLA hLO hLM hH ⊢
    refine wpAnyH_take (i := 0) (v := ?_) rfl (by kernel_rfl) (by kernel_rfl) (by kernel_rfl) (fun _ _ _ h => h) (Or.inl ⟨by rfl, ?_⟩) hH ?_
    rotate_left
    · ((intro W hW; clear hW; go_simp) <;> with_reducible rfl)
    simp only [Act.put, List.getElem_toArray, List.getElem_cons_zero, List.setIfInBounds_toArray, List.set_cons_zero, List.set_cons_succ]
    refine wpAnyH_take (i := 1) (v := ?_) rfl (by kernel_rfl) (by kernel_rfl) (by kernel_rfl) (fun _ _ _ h => h) (Or.inl ⟨by rfl, ?_⟩) hH ?_
    rotate_left
    · ((intro W hW; clear hW; go_simp) <;> with_reducible rfl)
    simp only [sq3, sq4]
    refine wpAnyH_take (i := 2) (v := ?_) rfl (by kernel_rfl) (by kernel_rfl) (by kernel_rfl) (fun _ _ _ h => h) (Or.inl ⟨by rfl, ?_⟩) hH ?_
    rotate_left
    · ((intro W hW; clear hW; go_simp) <;> with_reducible rfl)
    simp only [sq3, sq4]
    refine wpAnyH_take (i := 3) (v := ?_) rfl (by kernel_rfl) (by kernel_rfl) (by kernel_rfl) (fun _ _ _ h => h) (Or.inl ⟨by rfl, ?_⟩) hH ?_
    rotate_left
    · ((intro W hW; clear hW; go_simp) <;> with_reducible rfl)
    simp only [sq3, sq4]
    refine wpAnyH_take (i := 4) (v := ?_) rfl (by kernel_rfl) (by kernel_rfl) (by kernel_rfl) (fun _ _ _ h => h) (Or.inl ⟨by rfl, ?_⟩) hH ?_
    rotate_left
    · ((intro W hW; have hk := cell_lit (hW) 2 _ rfl; clear hW; go_simp) <;> with_reducible rfl)
    simp only [sq3, sq4]
    refine wpAnyH_ready (rs := [5]) (by kernel_rfl) (by simp) ?_
    refine AllReadyH.cons (o := _) rfl (fun K hK => ?_) AllReadyH.nil
    simp only [sq3]
    rw [if_pos (by rfl)]
    refine wp_store_blk 40 (.tmp 2) (.tmp 106) rfl g2 rfl _ rfl _ 40 hb2 (by rfl) (by kernel_rfl) (by kernel_rfl) ?_
    intro w19 hq gr
    replace sb := sb.away av_sb_b2 gr
    replace hwk := blk_a hwk gr (ne_symm d_b2_wk)
    replace hmm := blk_a hmm gr (ne_symm d_b2_mm)
    replace hsz := Nat.le_trans hsz gr.size
    replace hLQ := hLQ.kt (S := [40]) (kt_grown gr hb2 (by simp)) (by decide) (by decide)
    replace hLA := hLA.kt (S := [40]) (kt_grown gr hb2 (by simp)) (by decide) (by decide)
    replace hLO := hLO.kt (S := [40]) (kt_grown gr hb2 (by simp)) (by decide) (by decide)
    replace hLM := hLM.kt (S := [40]) (kt_grown gr hb2 (by simp)) (by decide) (by decide)
    replace bel := below_grown bel gr ob2 bel.size
    clear hb2
    have hb2 := hq
    clear hq gr
    refine hK.out _ _ hwk (fun hH20 => ?_)
    clear hK K
    simp only [Act.put]
    refine wpAnyH_take (i := 6) (v := ?_) rfl (by kernel_rfl) (by kernel_rfl) (by kernel_rfl) (fun _ _ _ h => h) (Or.inl ⟨by rfl, ?_⟩) hH20 ?_
    rotate_left
    · ((intro W hW; clear hW; go_simp) <;> with_reducible rfl)
    simp only [sq3, sq4]
    refine wpAnyH_done (by kernel_rfl) ?_ _
    go_wp2_with fail
    exact bodyPost_ret (results_cell_tmp_row rfl _ _ _ _ _ _ _ rfl hb2 Try.underlying40 rfl (by kernel_rfl) (.int .i64 4) rfl) rfl ⟨by rw [HY2.out], bel⟩
end Go.Proofs.Ytjedknjlpeccbaa
