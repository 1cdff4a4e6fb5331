/- Texts put together: Dr5. -/
import Derived.Test.YtjedknjlpeccbaaQ1
import Derived.Test.YtjedknjlpeccbaaQ10
namespace Go.Proofs.Ytjedknjlpeccbaa
open Go.RowKit

set_option linter.unusedVariables false in
set_option linter.unusedSimpArgs false in
set_option maxRecDepth 100000 in
set_option maxHeartbeats 16000000 in
theorem rrefuse_any (id fl : Int) (Q : Option Addr) (qn qc : Nat) (A : Option Addr) (an ac : Nat) (O : Option Addr) (on oc : Nat) (M : Option Addr) (mn mc : Nat) (code : Int) (w : World) : Calls Try.prog 17 #[.agg #[.int .i64 id, .int .i64 fl, .slice Q qn qc, .slice A an ac, .slice O on oc, .slice M mn mc], .int .i64 code] w fun e w' => e = .returned (.agg #[.int .i64 id, .int .i64 (bits .or .i64 (bits .or .i64 (bits .or .i64 (bits .or .i64 32768 (bits .and .i64 fl 30720)) (bits .and .i64 fl 256)) 128) (bits .and .i64 code 15)), .slice Q qn qc, .slice none 0 0, .slice none 0 0, .slice none 0 0]) ∧ Below w.heap.size w w' := by
  have bel := Below.refl w.heap.size w
  go_enter Try.func17, Try.ntmps17
  go_wp2_with (first | ((with_reducible show wpList _ _ _ (⟨some 2, _, _, _, _, _⟩ :: _) _ _); refine wpList_box_n rfl 40 (.tmp 0) rfl #[.int .i64 id, .int .i64 fl, .slice Q qn qc, .slice A an ac, .slice O on oc, .slice M mn mc] rfl ?_; intro g2 w1 ge lt hh bb; have opm := Nat.le_trans bel.size ge; replace bel := bel.trans (bb.mono bel.size); have hpm := hh; clear hh lt ge bb) | ((with_reducible show wpList _ _ _ (⟨some 4, _, _, _, _, _⟩ :: _) _ _); refine wpList_new_a rfl 40 rfl #[.int .i64 0, .int .i64 0, .slice none 0 0, .slice none 0 0, .slice none 0 0, .slice none 0 0] (by kernel_rfl) ?_; intro g4 w2 ge hh bb; have d_pm_b4 := ne_new (hlt hpm) ge; have ob4 := Nat.le_trans bel.size ge; replace hpm := blk_u hpm bb; replace bel := bel.trans (bb.mono bel.size); have hb4 := hh; clear hh ge bb; have R6 := cell_lit hpm 0 _ rfl; have R8 := cell_lit hpm 1 _ rfl; have R12 := cell_lit hpm 1 _ rfl; have R20 := cell_lit hpm 2 _ rfl) | ((with_reducible show wpList _ _ _ (⟨none, Op.store _ (.tmp 4) _, _, _, _, _⟩ :: _) _ _); refine wpList_store_blk rfl 40 (.tmp 4) (.tmp 21) rfl g4 rfl _ rfl _ 40 hb4 (by rfl) (by kernel_rfl) (by kernel_rfl) ?_; intro w3 hq gr; replace hpm := blk_a hpm gr d_pm_b4; replace bel := below_grown bel gr ob4 bel.size; clear hb4; have hb4 := hq; clear hq gr))
  try clear R6
  try clear R8
  try clear R12
  try clear R20
  exact bodyPost_ret (results_cell_row' rfl _ _ _ _ _ _ _ rfl hb4 Try.underlying40 rfl (by kernel_rfl)) rfl ⟨rfl, bel⟩
theorem okM_all {m : Mn} (h : (allR m).all okR = false) : okM m = false := by unfold okM; rw [h, Bool.and_false]
theorem all3 {La Lo Lm : List Rn} {id fl : Int} {Lq : List Qn} : (allR ⟨id, fl, Lq, La, Lo, Lm⟩).all okR = (La.all okR && Lo.all okR && Lm.all okR) := by simp [allR, List.all_append, Bool.and_assoc]
theorem cut3 (l0 : List UInt8) (a o m : List Rn) : cutE (cutE (cutE l0 a) o) m = l0 ++ (a ++ o ++ m).flatMap encR ∨ (2000 < (cutE (cutE (cutE l0 a) o) m).length ∧ 2000 < (l0 ++ (a ++ o ++ m).flatMap encR).length) := by
  have e : l0 ++ (a ++ o ++ m).flatMap encR = ((l0 ++ a.flatMap encR) ++ o.flatMap encR) ++ m.flatMap encR := by simp
  rw [e]
  have big : ∀ (L : List Rn) (l : List UInt8), 2000 < l.length → cutE l L = l := fun L l h => by
    cases L with
    | nil => rfl
    | cons r L => rw [cutE, if_pos h]
  have mono : ∀ (x y : List UInt8), 2000 < x.length → 2000 < (x ++ y).length := fun x y h => by rw [List.length_append]; omega
  rcases cutE_eq a l0 with h1 | ⟨h1, h2⟩
  · rw [h1]
    rcases cutE_eq o (l0 ++ a.flatMap encR) with h3 | ⟨h3, h4⟩
    · rw [h3]
      exact cutE_eq m _
    · right
      rw [big m _ h3]
      exact ⟨h3, mono _ _ h4⟩
  · right
    rw [big o _ h1, big m _ h1]
    exact ⟨h1, mono _ _ (mono _ _ h2)⟩
set_option linter.unusedVariables false in
set_option linter.unusedSimpArgs false in
set_option maxRecDepth 100000 in
set_option maxHeartbeats 16000000 in
theorem rputm_any (id fl : Int) (Q : Option Addr) (qn qc : Nat) (A : Option Addr) (an ac : Nat) (O : Option Addr) (on oc : Nat) (M : Option Addr) (mn mc : Nat) {hq : List Qh} {ha ho hm : List Rh} {Lq : List Qn} {La Lo Lm : List Rn} (w : World) (sq : Sle qE 3 w Q qn qc hq) (rq : QRs w hq Lq) (sa : Sle rE 5 w A an ac ha) (ra : RRs w ha La) (so : Sle rE 5 w O on oc ho) (ro : RRs w ho Lo) (sm : Sle rE 5 w M mn mc hm) (rm : RRs w hm Lm) (hb : qn + an + on + mn ≤ 1000) (hnb : ∀ q ∈ Lq, q.name.length ≤ 100000) (hrb : ∀ r ∈ allR (⟨id, fl, Lq, La, Lo, Lm⟩ : Mn), r.name.length ≤ 100000 ∧ r.data.length ≤ 2100 ∧ 0 ≤ r.ttl ∧ r.ttl < 4294967296) : Calls Try.prog 15 #[.agg #[.int .i64 id, .int .i64 fl, .slice Q qn qc, .slice A an ac, .slice O on oc, .slice M mn mc]] w fun e w' => ∃ B n c, e = .returned (.tuple #[.slice B n c, .int .i64 (putM (⟨id, fl, Lq, La, Lo, Lm⟩ : Mn)).2]) ∧ Sl w' B n c (putM (⟨id, fl, Lq, La, Lo, Lm⟩ : Mn)).1 ∧ Below w.heap.size w w' := by
  have BLS := sq.bl_new
  have HQL := Lib.hid sq.1
  have HRQ := Lib.hid rq
  have HRR : Hid (RRs w (ha ++ ho ++ hm) (allR (⟨id, fl, Lq, La, Lo, Lm⟩ : Mn))) := Lib.hid ((ra.append ro).append rm)
  have HAL := Lib.hid sa.1
  have HOL := Lib.hid so.1
  have HML := Lib.hid sm.1
  have HQQ : Hid (Lq.length = qn) := Lib.hid (by rw [← rq.1]; exact sq.1)
  have HLA : Hid (La.length = an) := Lib.hid (by rw [← ra.1]; exact sa.1)
  have HLO : Hid (Lo.length = on) := Lib.hid (by rw [← ro.1]; exact so.1)
  have HLM : Hid (Lm.length = mn) := Lib.hid (by rw [← rm.1]; exact sm.1)
  have HNB := Lib.hid hnb
  have HRB := Lib.hid hrb
  have HSA := Lib.hid sa
  have HSO := Lib.hid so
  have HSMM := Lib.hid sm
  have HRA := Lib.hid ra
  have HRO := Lib.hid ro
  have HRM := Lib.hid rm
  have HBA : Hid (∀ r ∈ La, r.name.length ≤ 100000 ∧ r.data.length ≤ 2100 ∧ 0 ≤ r.ttl ∧ r.ttl < 4294967296) := Lib.hid (fun r hr => hrb r (by simp [allR, hr]))
  have HBO : Hid (∀ r ∈ Lo, r.name.length ≤ 100000 ∧ r.data.length ≤ 2100 ∧ 0 ≤ r.ttl ∧ r.ttl < 4294967296) := Lib.hid (fun r hr => hrb r (by simp [allR, hr]))
  have HBM : Hid (∀ r ∈ Lm, r.name.length ≤ 100000 ∧ r.data.length ≤ 2100 ∧ 0 ≤ r.ttl ∧ r.ttl < 4294967296) := Lib.hid (fun r hr => hrb r (by simp [allR, hr]))
  have HHD : Hid (headM (⟨id, fl, Lq, La, Lo, Lm⟩ : Mn) = (two id ++ two fl ++ two (qn : Int) ++ two (an : Int) ++ two (on : Int) ++ two (mn : Int))) := Lib.hid (by unfold headM; rw [HQQ.out, HLA.out, HLO.out, HLM.out])
  clear rq ra ro rm hnb hrb sa so sm
  have qn0 : (0 : Int) ≤ qn := by omega
  have qn1 : (qn : Int) ≤ 1000 := by omega
  have an0 : (0 : Int) ≤ an := by omega
  have an1 : (an : Int) ≤ 1000 := by omega
  have on0 : (0 : Int) ≤ on := by omega
  have on1 : (on : Int) ≤ 1000 := by omega
  have mn0 : (0 : Int) ≤ mn := by omega
  have mn1 : (mn : Int) ≤ 1000 := by omega
  obtain ⟨ii, hii, hz0, hz1, hz2⟩ := info_parts Try.info5
  have HB := Lib.hid hb
  have nl := Sl.nil w
  have bel := Below.refl w.heap.size w
  go_enter Try.func15, Try.ntmps15
  go_upto_region 1 with (first | ((with_reducible show wpList _ _ _ (⟨some 1, _, _, _, _, _⟩ :: _) _ _); refine wpList_box_n rfl 40 (.tmp 0) rfl #[.int .i64 id, .int .i64 fl, .slice Q qn qc, .slice A an ac, .slice O on oc, .slice M mn mc] rfl ?_; intro g1 w1 ge lt hh bb; have av_sq_pm := sq.av_new ge; have av_nl_pm := nl.av_new ge; have opm := Nat.le_trans bel.size ge; replace sq := sq.below bb; replace nl := nl.below bb; replace bel := bel.trans (bb.mono bel.size); have hpm := hh; clear hh lt ge bb))
  simp only [List.append_eq, List.cons_append, List.nil_append]
  rcases (by decide : ∀ b : Bool, b = true ∨ b = false) (h16 id) with hid_ | hid_
  rotate_left
  · have HID := Lib.hid hid_
    have HP : Hid (putM (⟨id, fl, Lq, La, Lo, Lm⟩ : Mn) = ([], 1)) := Lib.hid (putM_no (okM_id hid_))
    clear hid_
    have R8 := cell_lit hpm 0 _ rfl
    go_wp2_with fail
    clear R8
    with_reducible refine (rfit_is _ HID.out).mono ?_
    rintro e _ ⟨rfl, rfl⟩
    go_wp2_with fail
    exact bodyPost_ret (v := .tuple #[.slice none 0 0, .int .i64 1]) (by simp [results, Try.results15, go_sem]) rfl ⟨none, 0, 0, by rw [HP.out], by rw [HP.out]; exact Sl.nil _, bel⟩
  have HID := Lib.hid hid_
  clear hid_
  have R8 := cell_lit hpm 0 _ rfl
  go_wp2_with fail
  clear R8
  with_reducible refine (rfit_is _ HID.out).mono ?_
  rintro e _ ⟨rfl, rfl⟩
  rcases (by decide : ∀ b : Bool, b = true ∨ b = false) (h16 fl) with hfl_ | hfl_
  rotate_left
  · have HFL := Lib.hid hfl_
    have HP : Hid (putM (⟨id, fl, Lq, La, Lo, Lm⟩ : Mn) = ([], 1)) := Lib.hid (putM_no (okM_fl hfl_))
    clear hfl_
    have R13 := cell_lit hpm 1 _ rfl
    go_wp2_with fail
    clear R13
    with_reducible refine (rfit_is _ HFL.out).mono ?_
    rintro e _ ⟨rfl, rfl⟩
    go_wp2_with fail
    exact bodyPost_ret (v := .tuple #[.slice none 0 0, .int .i64 1]) (by simp [results, Try.results15, go_sem]) rfl ⟨none, 0, 0, by rw [HP.out], by rw [HP.out]; exact Sl.nil _, bel⟩
  have HFL := Lib.hid hfl_
  clear hfl_
  have R13 := cell_lit hpm 1 _ rfl
  go_wp2_with fail
  clear R13
  with_reducible refine (rfit_is _ HFL.out).mono ?_
  rintro e _ ⟨rfl, rfl⟩
  by_cases hps : qn + an + on + mn ≤ 64
  rotate_left
  · skip
    by_cases h64_0 : qn ≤ 64
    rotate_left
    · have t640 : (64 : Int) < (qn : Int) := by omega
      have HP : Hid (putM (⟨id, fl, Lq, La, Lo, Lm⟩ : Mn) = ([], 1)) := Lib.hid (putM_no (okM_parts (show 64 < Lq.length + La.length + Lo.length + Lm.length by rw [HQQ.out, HLA.out, HLO.out, HLM.out]; omega)))
      clear hps
      have R19 := cell_lit hpm 2 _ rfl
      go_wp2_with fail
      clear R19
      exact bodyPost_ret (v := .tuple #[.slice none 0 0, .int .i64 1]) (by simp [results, Try.results15, go_sem]) rfl ⟨none, 0, 0, by rw [HP.out], by rw [HP.out]; exact Sl.nil _, bel⟩
    have t640 : decide ((64 : Int) < (qn : Int)) = false := decide_eq_false (by omega)
    by_cases h64_1 : an ≤ 64
    rotate_left
    · have t641 : (64 : Int) < (an : Int) := by omega
      have HP : Hid (putM (⟨id, fl, Lq, La, Lo, Lm⟩ : Mn) = ([], 1)) := Lib.hid (putM_no (okM_parts (show 64 < Lq.length + La.length + Lo.length + Lm.length by rw [HQQ.out, HLA.out, HLO.out, HLM.out]; omega)))
      clear hps
      have R19 := cell_lit hpm 2 _ rfl
      have R25 := cell_lit hpm 3 _ rfl
      go_wp2_with fail
      clear R19 R25
      exact bodyPost_ret (v := .tuple #[.slice none 0 0, .int .i64 1]) (by simp [results, Try.results15, go_sem]) rfl ⟨none, 0, 0, by rw [HP.out], by rw [HP.out]; exact Sl.nil _, bel⟩
    have t641 : decide ((64 : Int) < (an : Int)) = false := decide_eq_false (by omega)
    by_cases h64_2 : on ≤ 64
    rotate_left
    · have t642 : (64 : Int) < (on : Int) := by omega
      have HP : Hid (putM (⟨id, fl, Lq, La, Lo, Lm⟩ : Mn) = ([], 1)) := Lib.hid (putM_no (okM_parts (show 64 < Lq.length + La.length + Lo.length + Lm.length by rw [HQQ.out, HLA.out, HLO.out, HLM.out]; omega)))
      clear hps
      have R19 := cell_lit hpm 2 _ rfl
      have R25 := cell_lit hpm 3 _ rfl
      have R31 := cell_lit hpm 4 _ rfl
      go_wp2_with fail
      clear R19 R25 R31
      exact bodyPost_ret (v := .tuple #[.slice none 0 0, .int .i64 1]) (by simp [results, Try.results15, go_sem]) rfl ⟨none, 0, 0, by rw [HP.out], by rw [HP.out]; exact Sl.nil _, bel⟩
    have t642 : decide ((64 : Int) < (on : Int)) = false := decide_eq_false (by omega)
    by_cases h64_3 : mn ≤ 64
    rotate_left
    · have t643 : (64 : Int) < (mn : Int) := by omega
      have HP : Hid (putM (⟨id, fl, Lq, La, Lo, Lm⟩ : Mn) = ([], 1)) := Lib.hid (putM_no (okM_parts (show 64 < Lq.length + La.length + Lo.length + Lm.length by rw [HQQ.out, HLA.out, HLO.out, HLM.out]; omega)))
      clear hps
      have R19 := cell_lit hpm 2 _ rfl
      have R25 := cell_lit hpm 3 _ rfl
      have R31 := cell_lit hpm 4 _ rfl
      have R37 := cell_lit hpm 5 _ rfl
      go_wp2_with fail
      clear R19 R25 R31 R37
      exact bodyPost_ret (v := .tuple #[.slice none 0 0, .int .i64 1]) (by simp [results, Try.results15, go_sem]) rfl ⟨none, 0, 0, by rw [HP.out], by rw [HP.out]; exact Sl.nil _, bel⟩
    have t643 : decide ((64 : Int) < (mn : Int)) = false := decide_eq_false (by omega)
    have t64s : (64 : Int) < (qn : Int) + an + on + mn := by omega
    have HP : Hid (putM (⟨id, fl, Lq, La, Lo, Lm⟩ : Mn) = ([], 1)) := Lib.hid (putM_no (okM_parts (show 64 < Lq.length + La.length + Lo.length + Lm.length by rw [HQQ.out, HLA.out, HLO.out, HLM.out]; omega)))
    clear hps
    have R19 := cell_lit hpm 2 _ rfl
    have R25 := cell_lit hpm 3 _ rfl
    have R31 := cell_lit hpm 4 _ rfl
    have R37 := cell_lit hpm 5 _ rfl
    have R43 := cell_lit hpm 2 _ rfl
    have R46 := cell_lit hpm 3 _ rfl
    have R50 := cell_lit hpm 4 _ rfl
    have R54 := cell_lit hpm 5 _ rfl
    go_wp2_with fail
    clear R19 R25 R31 R37 R43 R46 R50 R54
    exact bodyPost_ret (v := .tuple #[.slice none 0 0, .int .i64 1]) (by simp [results, Try.results15, go_sem]) rfl ⟨none, 0, 0, by rw [HP.out], by rw [HP.out]; exact Sl.nil _, bel⟩
  have HPS := Lib.hid hps
  have HPQ : Hid (qn ≤ 64) := Lib.hid (by omega)
  have t64qn : decide ((64 : Int) < (qn : Int)) = false := decide_eq_false (by omega)
  have t64an : decide ((64 : Int) < (an : Int)) = false := decide_eq_false (by omega)
  have t64on : decide ((64 : Int) < (on : Int)) = false := decide_eq_false (by omega)
  have t64mn : decide ((64 : Int) < (mn : Int)) = false := decide_eq_false (by omega)
  have t64s : decide ((64 : Int) < (qn : Int) + an + on + mn) = false := decide_eq_false (by omega)
  clear hps
  rcases (by decide : ∀ b : Bool, b = true ∨ b = false) (La.all okR) with hga | hga
  rotate_left
  · have HGA := Lib.hid hga
    have HP : Hid (putM (⟨id, fl, Lq, La, Lo, Lm⟩ : Mn) = ([], 1)) := Lib.hid (putM_no (okM_all (by rw [all3, hga]; rfl)))
    clear hga
    have R19 := cell_lit hpm 2 _ rfl
    have R25 := cell_lit hpm 3 _ rfl
    have R31 := cell_lit hpm 4 _ rfl
    have R37 := cell_lit hpm 5 _ rfl
    have R43 := cell_lit hpm 2 _ rfl
    have R46 := cell_lit hpm 3 _ rfl
    have R50 := cell_lit hpm 4 _ rfl
    have R54 := cell_lit hpm 5 _ rfl
    have R61 := cell_lit hpm 3 _ rfl
    go_wp2_with fail
    clear R19 R25 R31 R37 R43 R46 R50 R54 R61
    with_reducible refine (rgoods_is _ (HSA.out.below bel) (HRA.out.below bel) (by have h_ := HB.out; omega) HBA.out HGA.out).mono ?_
    rintro e w2 ⟨rfl, b2⟩
    replace hpm := blk_u hpm b2
    replace sq := sq.below b2
    replace nl := nl.below b2
    replace bel := bel.trans (b2.mono bel.size)
    clear b2
    go_wp2_with fail
    exact bodyPost_ret (v := .tuple #[.slice none 0 0, .int .i64 1]) (by simp [results, Try.results15, go_sem]) rfl ⟨none, 0, 0, by rw [HP.out], by rw [HP.out]; exact Sl.nil _, bel⟩
  have HGA := Lib.hid hga
  have HKA := Lib.hid (List.all_eq_true.1 HGA.out)
  clear hga
  have R19 := cell_lit hpm 2 _ rfl
  have R25 := cell_lit hpm 3 _ rfl
  have R31 := cell_lit hpm 4 _ rfl
  have R37 := cell_lit hpm 5 _ rfl
  have R43 := cell_lit hpm 2 _ rfl
  have R46 := cell_lit hpm 3 _ rfl
  have R50 := cell_lit hpm 4 _ rfl
  have R54 := cell_lit hpm 5 _ rfl
  have R61 := cell_lit hpm 3 _ rfl
  go_wp2_with fail
  clear R19 R25 R31 R37 R43 R46 R50 R54 R61
  with_reducible refine (rgoods_is _ (HSA.out.below bel) (HRA.out.below bel) (by have h_ := HB.out; omega) HBA.out HGA.out).mono ?_
  rintro e w2 ⟨rfl, b2⟩
  replace hpm := blk_u hpm b2
  replace sq := sq.below b2
  replace nl := nl.below b2
  replace bel := bel.trans (b2.mono bel.size)
  clear b2
  rcases (by decide : ∀ b : Bool, b = true ∨ b = false) (Lo.all okR) with hgo | hgo
  rotate_left
  · have HGO := Lib.hid hgo
    have HP : Hid (putM (⟨id, fl, Lq, La, Lo, Lm⟩ : Mn) = ([], 1)) := Lib.hid (putM_no (okM_all (by rw [all3, hgo, Bool.and_false]; rfl)))
    clear hgo
    have R67 := cell_lit hpm 4 _ rfl
    go_wp2_with fail
    clear R67
    with_reducible refine (rgoods_is _ (HSO.out.below bel) (HRO.out.below bel) (by have h_ := HB.out; omega) HBO.out HGO.out).mono ?_
    rintro e w3 ⟨rfl, b3⟩
    replace hpm := blk_u hpm b3
    replace sq := sq.below b3
    replace nl := nl.below b3
    replace bel := bel.trans (b3.mono bel.size)
    clear b3
    go_wp2_with fail
    exact bodyPost_ret (v := .tuple #[.slice none 0 0, .int .i64 1]) (by simp [results, Try.results15, go_sem]) rfl ⟨none, 0, 0, by rw [HP.out], by rw [HP.out]; exact Sl.nil _, bel⟩
  have HGO := Lib.hid hgo
  have HKO := Lib.hid (List.all_eq_true.1 HGO.out)
  clear hgo
  have R67 := cell_lit hpm 4 _ rfl
  go_wp2_with fail
  clear R67
  with_reducible refine (rgoods_is _ (HSO.out.below bel) (HRO.out.below bel) (by have h_ := HB.out; omega) HBO.out HGO.out).mono ?_
  rintro e w3 ⟨rfl, b3⟩
  replace hpm := blk_u hpm b3
  replace sq := sq.below b3
  replace nl := nl.below b3
  replace bel := bel.trans (b3.mono bel.size)
  clear b3
  rcases (by decide : ∀ b : Bool, b = true ∨ b = false) (Lm.all okR) with hgm | hgm
  rotate_left
  · have HGM := Lib.hid hgm
    have HP : Hid (putM (⟨id, fl, Lq, La, Lo, Lm⟩ : Mn) = ([], 1)) := Lib.hid (putM_no (okM_all (by rw [all3, hgm, Bool.and_false])))
    clear hgm
    have R73 := cell_lit hpm 5 _ rfl
    go_wp2_with fail
    clear R73
    with_reducible refine (rgoods_is _ (HSMM.out.below bel) (HRM.out.below bel) (by have h_ := HB.out; omega) HBM.out HGM.out).mono ?_
    rintro e w4 ⟨rfl, b4⟩
    replace hpm := blk_u hpm b4
    replace sq := sq.below b4
    replace nl := nl.below b4
    replace bel := bel.trans (b4.mono bel.size)
    clear b4
    go_wp2_with fail
    exact bodyPost_ret (v := .tuple #[.slice none 0 0, .int .i64 1]) (by simp [results, Try.results15, go_sem]) rfl ⟨none, 0, 0, by rw [HP.out], by rw [HP.out]; exact Sl.nil _, bel⟩
  have HGM := Lib.hid hgm
  have HKM := Lib.hid (List.all_eq_true.1 HGM.out)
  clear hgm
  have R73 := cell_lit hpm 5 _ rfl
  go_wp2_with fail
  clear R73
  with_reducible refine (rgoods_is _ (HSMM.out.below bel) (HRM.out.below bel) (by have h_ := HB.out; omega) HBM.out HGM.out).mono ?_
  rintro e w4 ⟨rfl, b4⟩
  replace hpm := blk_u hpm b4
  replace sq := sq.below b4
  replace nl := nl.below b4
  replace bel := bel.trans (b4.mono bel.size)
  clear b4
  go_wp2_with fail
  replace bel := bel.drew
  replace hpm : w4.drew.heap[g1]? = _ := hpm
  replace sq := sq.drew
  replace nl := nl.drew
  refine wp_region_held_drew (S := fun W => W.heap[g1]? = some (.cells #[.int .i64 id, .int .i64 fl, .slice Q qn qc, .slice A an ac, .slice O on oc, .slice M mn mc] 40 (0, 0))) (by kernel_rfl) hpm (fun hH => ?_)
  generalize w4.drew = w5 at bel hpm sq nl hH ⊢
  refine wpAnyH_take (i := 0) (v := ?_) rfl (by kernel_rfl) (by kernel_rfl) (by kernel_rfl) (fun _ _ _ h => h) (Or.inl ⟨by rfl, ?_⟩) hH ?_
  rotate_left
  · ((intro W hW; clear hW; go_simp) <;> with_reducible rfl)
  simp only [Act.put, List.getElem_toArray, List.getElem_cons_zero, List.setIfInBounds_toArray, List.set_cons_zero, List.set_cons_succ]
  refine wpAnyH_take (i := 1) (v := ?_) rfl (by kernel_rfl) (by kernel_rfl) (by kernel_rfl) (fun _ _ _ h => h) (Or.inl ⟨by rfl, ?_⟩) hH ?_
  rotate_left
  · ((intro W hW; have hk := cell_lit (hW) 0 _ rfl; clear hW; go_simp) <;> with_reducible rfl)
  simp only [sq3, sq4]
  refine wpAnyH_take (i := 3) (v := ?_) rfl (by kernel_rfl) (by kernel_rfl) (by kernel_rfl) (fun _ _ _ h => h) (Or.inl ⟨by rfl, ?_⟩) hH ?_
  rotate_left
  · ((intro W hW; clear hW; go_simp) <;> with_reducible rfl)
  simp only [sq3, sq4]
  refine wpAnyH_take (i := 4) (v := ?_) rfl (by kernel_rfl) (by kernel_rfl) (by kernel_rfl) (fun _ _ _ h => h) (Or.inl ⟨by rfl, ?_⟩) hH ?_
  rotate_left
  · ((intro W hW; have hk := cell_lit (hW) 1 _ rfl; clear hW; go_simp) <;> with_reducible rfl)
  simp only [sq3, sq4]
  refine wpAnyH_ready (rs := [2]) (by kernel_rfl) (by simp) ?_
  refine AllReadyH.cons (o := _) rfl (fun K hK => ?_) AllReadyH.nil
  simp only [sq3]
  go_simp
  with_reducible refine (r16_oto _ (0) 2 _ _ _ _ rfl nl (by omega)).mono ?_
  rintro e w6 ⟨v_s0, rfl, s0w, b6⟩
  dsimp only
  have y_s0_pm := Lib.hid (hlt hpm)
  have bl_sq_s0 := sq.bl_new
  have bl_nl_s0 := nl.bl_new
  have s0lo := bel.size
  have lz_s0 := b6.size
  replace hpm := blk_u hpm b6
  replace sq := sq.below b6
  replace nl := nl.below b6
  replace bel := bel.trans (b6.mono bel.size)
  clear b6
  obtain ⟨As0, cs0, rfl⟩ := own_val s0w
  have s0 := (own_sl s0w).1
  have fr_s0 := (own_sl s0w).2
  have av_s0_pm := fr_s0.av y_s0_pm.out
  clear nl
  refine hK.out _ _ hpm (fun hH7 => ?_)
  clear hK K
  refine wpAnyH_ready (rs := [5]) (by kernel_rfl) (by simp) ?_
  refine AllReadyH.cons (o := _) rfl (fun K hK => ?_) AllReadyH.nil
  simp only [sq3]
  go_simp
  with_reducible refine (r16_oto _ (2) 4 _ _ _ _ rfl s0 (by omega)).mono ?_
  rintro e w8 ⟨v_s1, rfl, s1w, b8⟩
  dsimp only
  have y_s1_pm := Lib.hid (hlt hpm)
  have bl_sq_s1 := sq.bl_new
  have bl_s0_s1 := s0.bl_new
  have s1lo := bel.size
  have lz_s1 := b8.size
  replace hpm := blk_u hpm b8
  replace sq := sq.below b8
  replace s0 := s0.below b8
  replace s0w := own_under s0w b8
  replace lz_s0 := Nat.le_trans lz_s0 b8.size
  replace bel := bel.trans (b8.mono bel.size)
  clear b8
  obtain ⟨As1, cs1, rfl⟩ := own_val s1w
  have s1 := (own_sl s1w).1
  have fr_s1 := (own_sl s1w).2
  have av_s1_pm := fr_s1.av y_s1_pm.out
  clear s0 s0w lz_s0
  refine hK.out _ _ hpm (fun hH9 => ?_)
  clear hK K
  refine wpAnyH_take (i := 6) (v := ?_) rfl (by kernel_rfl) (by kernel_rfl) (by kernel_rfl) (fun _ _ _ h => h) (Or.inl ⟨by rfl, ?_⟩) hH9 ?_
  rotate_left
  · ((intro W hW; clear hW; go_simp) <;> with_reducible rfl)
  simp only [sq3, sq4]
  refine wpAnyH_done (by kernel_rfl) ?_ _
  go_wp2_with fail
  replace bel := bel.drew
  replace hpm : w8.drew.heap[g1]? = _ := hpm
  replace sq := sq.drew
  replace s1 := s1.drew
  replace s1w : w8.drew.ownsRow _ _ _ _ _ _ := s1w
  replace lz_s1 : _ ≤ w8.drew.heap.size := lz_s1
  refine wp_region_held_drew (S := fun W => W.heap[g1]? = some (.cells #[.int .i64 id, .int .i64 fl, .slice Q qn qc, .slice A an ac, .slice O on oc, .slice M mn mc] 40 (0, 0))) (by kernel_rfl) hpm (fun hH => ?_)
  generalize w8.drew = w10 at bel hpm sq s1 s1w lz_s1 hH ⊢
  refine wpAnyH_take (i := 0) (v := ?_) rfl (by kernel_rfl) (by kernel_rfl) (by kernel_rfl) (fun _ _ _ h => h) (Or.inl ⟨by rfl, ?_⟩) hH ?_
  rotate_left
  · ((intro W hW; clear hW; go_simp) <;> with_reducible rfl)
  simp only [Act.put, List.getElem_toArray, List.getElem_cons_zero, List.setIfInBounds_toArray, List.set_cons_zero, List.set_cons_succ]
  refine wpAnyH_take (i := 1) (v := ?_) rfl (by kernel_rfl) (by kernel_rfl) (by kernel_rfl) (fun _ _ _ h => h) (Or.inl ⟨by rfl, ?_⟩) hH ?_
  rotate_left
  · ((intro W hW; clear hW; go_simp) <;> with_reducible rfl)
  simp only [sq3, sq4]
  refine wpAnyH_take (i := 2) (v := ?_) rfl (by kernel_rfl) (by kernel_rfl) (by kernel_rfl) (fun _ _ _ h => h) (Or.inl ⟨by rfl, ?_⟩) hH ?_
  rotate_left
  · ((intro W hW; have hk := cell_lit (hW) 2 _ rfl; clear hW; go_simp) <;> with_reducible rfl)
  simp only [sq3, sq4]
  refine wpAnyH_take (i := 3) (v := ?_) rfl (by kernel_rfl) (by kernel_rfl) (by kernel_rfl) (fun _ _ _ h => h) (Or.inl ⟨by rfl, ?_⟩) hH ?_
  rotate_left
  · ((intro W hW; clear hW; go_simp) <;> with_reducible rfl)
  simp only [sq3, sq4]
  refine wpAnyH_take (i := 5) (v := ?_) rfl (by kernel_rfl) (by kernel_rfl) (by kernel_rfl) (fun _ _ _ h => h) (Or.inl ⟨by rfl, ?_⟩) hH ?_
  rotate_left
  · ((intro W hW; clear hW; go_simp) <;> with_reducible rfl)
  simp only [sq3, sq4]
  refine wpAnyH_take (i := 6) (v := ?_) rfl (by kernel_rfl) (by kernel_rfl) (by kernel_rfl) (fun _ _ _ h => h) (Or.inl ⟨by rfl, ?_⟩) hH ?_
  rotate_left
  · ((intro W hW; have hk := cell_lit (hW) 3 _ rfl; clear hW; go_simp) <;> with_reducible rfl)
  simp only [sq3, sq4]
  refine wpAnyH_take (i := 7) (v := ?_) rfl (by kernel_rfl) (by kernel_rfl) (by kernel_rfl) (fun _ _ _ h => h) (Or.inl ⟨by rfl, ?_⟩) hH ?_
  rotate_left
  · ((intro W hW; clear hW; go_simp) <;> with_reducible rfl)
  simp only [sq3, sq4]
  refine wpAnyH_ready (rs := [4]) (by kernel_rfl) (by simp) ?_
  refine AllReadyH.cons (o := _) rfl (fun K hK => ?_) AllReadyH.nil
  simp only [sq3]
  go_simp
  with_reducible refine (r16_oto _ (4) 6 _ _ _ _ rfl s1 (by omega)).mono ?_
  rintro e w11 ⟨v_s2, rfl, s2w, b11⟩
  dsimp only
  have y_s2_pm := Lib.hid (hlt hpm)
  have bl_sq_s2 := sq.bl_new
  have bl_s1_s2 := s1.bl_new
  have s2lo := bel.size
  have lz_s2 := b11.size
  replace hpm := blk_u hpm b11
  replace sq := sq.below b11
  replace s1 := s1.below b11
  replace s1w := own_under s1w b11
  replace lz_s1 := Nat.le_trans lz_s1 b11.size
  replace bel := bel.trans (b11.mono bel.size)
  clear b11
  obtain ⟨As2, cs2, rfl⟩ := own_val s2w
  have s2 := (own_sl s2w).1
  have fr_s2 := (own_sl s2w).2
  have av_s2_pm := fr_s2.av y_s2_pm.out
  clear s1 s1w lz_s1
  refine hK.out _ _ hpm (fun hH12 => ?_)
  clear hK K
  refine wpAnyH_ready (rs := [8]) (by kernel_rfl) (by simp) ?_
  refine AllReadyH.cons (o := _) rfl (fun K hK => ?_) AllReadyH.nil
  simp only [sq3]
  go_simp
  with_reducible refine (r16_oto _ (6) 8 _ _ _ _ rfl s2 (by omega)).mono ?_
  rintro e w13 ⟨v_s3, rfl, s3w, b13⟩
  dsimp only
  have y_s3_pm := Lib.hid (hlt hpm)
  have bl_sq_s3 := sq.bl_new
  have bl_s2_s3 := s2.bl_new
  have s3lo := bel.size
  have lz_s3 := b13.size
  replace hpm := blk_u hpm b13
  replace sq := sq.below b13
  replace s2 := s2.below b13
  replace s2w := own_under s2w b13
  replace lz_s2 := Nat.le_trans lz_s2 b13.size
  replace bel := bel.trans (b13.mono bel.size)
  clear b13
  obtain ⟨As3, cs3, rfl⟩ := own_val s3w
  have s3 := (own_sl s3w).1
  have fr_s3 := (own_sl s3w).2
  have av_s3_pm := fr_s3.av y_s3_pm.out
  clear s2 s2w lz_s2
  refine hK.out _ _ hpm (fun hH14 => ?_)
  clear hK K
  refine wpAnyH_take (i := 9) (v := ?_) rfl (by kernel_rfl) (by kernel_rfl) (by kernel_rfl) (fun _ _ _ h => h) (Or.inl ⟨by rfl, ?_⟩) hH14 ?_
  rotate_left
  · ((intro W hW; clear hW; go_simp) <;> with_reducible rfl)
  simp only [sq3, sq4]
  refine wpAnyH_done (by kernel_rfl) ?_ _
  go_wp2_with fail
  replace bel := bel.drew
  replace hpm : w13.drew.heap[g1]? = _ := hpm
  replace sq := sq.drew
  replace s3 := s3.drew
  replace s3w : w13.drew.ownsRow _ _ _ _ _ _ := s3w
  replace lz_s3 : _ ≤ w13.drew.heap.size := lz_s3
  refine wp_region_held_drew (S := fun W => W.heap[g1]? = some (.cells #[.int .i64 id, .int .i64 fl, .slice Q qn qc, .slice A an ac, .slice O on oc, .slice M mn mc] 40 (0, 0))) (by kernel_rfl) hpm (fun hH => ?_)
  generalize w13.drew = w15 at bel hpm sq s3 s3w lz_s3 hH ⊢
  refine wpAnyH_take (i := 0) (v := ?_) rfl (by kernel_rfl) (by kernel_rfl) (by kernel_rfl) (fun _ _ _ h => h) (Or.inl ⟨by rfl, ?_⟩) hH ?_
  rotate_left
  · ((intro W hW; clear hW; go_simp) <;> with_reducible rfl)
  simp only [Act.put, List.getElem_toArray, List.getElem_cons_zero, List.setIfInBounds_toArray, List.set_cons_zero, List.set_cons_succ]
  refine wpAnyH_take (i := 1) (v := ?_) rfl (by kernel_rfl) (by kernel_rfl) (by kernel_rfl) (fun _ _ _ h => h) (Or.inl ⟨by rfl, ?_⟩) hH ?_
  rotate_left
  · ((intro W hW; clear hW; go_simp) <;> with_reducible rfl)
  simp only [sq3, sq4]
  refine wpAnyH_take (i := 2) (v := ?_) rfl (by kernel_rfl) (by kernel_rfl) (by kernel_rfl) (fun _ _ _ h => h) (Or.inl ⟨by rfl, ?_⟩) hH ?_
  rotate_left
  · ((intro W hW; have hk := cell_lit (hW) 4 _ rfl; clear hW; go_simp) <;> with_reducible rfl)
  simp only [sq3, sq4]
  refine wpAnyH_take (i := 3) (v := ?_) rfl (by kernel_rfl) (by kernel_rfl) (by kernel_rfl) (fun _ _ _ h => h) (Or.inl ⟨by rfl, ?_⟩) hH ?_
  rotate_left
  · ((intro W hW; clear hW; go_simp) <;> with_reducible rfl)
  simp only [sq3, sq4]
  refine wpAnyH_take (i := 5) (v := ?_) rfl (by kernel_rfl) (by kernel_rfl) (by kernel_rfl) (fun _ _ _ h => h) (Or.inl ⟨by rfl, ?_⟩) hH ?_
  rotate_left
  · ((intro W hW; clear hW; go_simp) <;> with_reducible rfl)
  simp only [sq3, sq4]
  refine wpAnyH_take (i := 6) (v := ?_) rfl (by kernel_rfl) (by kernel_rfl) (by kernel_rfl) (fun _ _ _ h => h) (Or.inl ⟨by rfl, ?_⟩) hH ?_
  rotate_left
  · ((intro W hW; have hk := cell_lit (hW) 5 _ rfl; clear hW; go_simp) <;> with_reducible rfl)
  simp only [sq3, sq4]
  refine wpAnyH_take (i := 7) (v := ?_) rfl (by kernel_rfl) (by kernel_rfl) (by kernel_rfl) (fun _ _ _ h => h) (Or.inl ⟨by rfl, ?_⟩) hH ?_
  rotate_left
  · ((intro W hW; clear hW; go_simp) <;> with_reducible rfl)
  simp only [sq3, sq4]
  refine wpAnyH_ready (rs := [4]) (by kernel_rfl) (by simp) ?_
  refine AllReadyH.cons (o := _) rfl (fun K hK => ?_) AllReadyH.nil
  simp only [sq3]
  go_simp
  with_reducible refine (r16_oto _ (8) 10 _ _ _ _ rfl s3 (by omega)).mono ?_
  rintro e w16 ⟨v_s4, rfl, s4w, b16⟩
  dsimp only
  have y_s4_pm := Lib.hid (hlt hpm)
  have bl_sq_s4 := sq.bl_new
  have bl_s3_s4 := s3.bl_new
  have s4lo := bel.size
  have lz_s4 := b16.size
  replace hpm := blk_u hpm b16
  replace sq := sq.below b16
  replace s3 := s3.below b16
  replace s3w := own_under s3w b16
  replace lz_s3 := Nat.le_trans lz_s3 b16.size
  replace bel := bel.trans (b16.mono bel.size)
  clear b16
  obtain ⟨As4, cs4, rfl⟩ := own_val s4w
  have s4 := (own_sl s4w).1
  have fr_s4 := (own_sl s4w).2
  have av_s4_pm := fr_s4.av y_s4_pm.out
  clear s3 s3w lz_s3
  refine hK.out _ _ hpm (fun hH17 => ?_)
  clear hK K
  refine wpAnyH_ready (rs := [8]) (by kernel_rfl) (by simp) ?_
  refine AllReadyH.cons (o := _) rfl (fun K hK => ?_) AllReadyH.nil
  simp only [sq3]
  go_simp
  with_reducible refine (r16_oto _ (10) 12 _ _ _ _ rfl s4 (by omega)).mono ?_
  rintro e w18 ⟨v_s5, rfl, s5w, b18⟩
  dsimp only
  have y_s5_pm := Lib.hid (hlt hpm)
  have bl_sq_s5 := sq.bl_new
  have bl_s4_s5 := s4.bl_new
  have s5lo := bel.size
  have lz_s5 := b18.size
  replace hpm := blk_u hpm b18
  replace sq := sq.below b18
  replace s4 := s4.below b18
  replace s4w := own_under s4w b18
  replace lz_s4 := Nat.le_trans lz_s4 b18.size
  replace bel := bel.trans (b18.mono bel.size)
  clear b18
  obtain ⟨As5, cs5, rfl⟩ := own_val s5w
  have s5 := (own_sl s5w).1
  have fr_s5 := (own_sl s5w).2
  have av_s5_pm := fr_s5.av y_s5_pm.out
  clear s4 s4w lz_s4
  have of_s5_pm := ofs_type s5w hpm (by decide)
  refine hK.out _ _ hpm (fun hH19 => ?_)
  clear hK K
  refine wpAnyH_take (i := 9) (v := ?_) rfl (by kernel_rfl) (by kernel_rfl) (by kernel_rfl) (fun _ _ _ h => h) (Or.inl ⟨by rfl, ?_⟩) hH19 ?_
  rotate_left
  · ((intro W hW; clear hW; go_simp) <;> with_reducible rfl)
  simp only [sq3, sq4]
  refine wpAnyH_done (by kernel_rfl) ?_ _
  go_wp2_with fail
  go_loopg [4, 5] (qn) (fun gk s4 s5 wr => ∃ i : Nat, ∃ z : Nat, ∃ (Aou : Option Addr) (cou : Nat), gk = qn - i ∧ i ≤ qn ∧ Hid (∀ q ∈ Lq.take i, okQ q = true) ∧ z ≤ 12 + 259 * i ∧ s4 = .slice Aou z cou ∧ s5 = .int .i64 (i : Int) ∧ wr.ownsRow (w.heap.size) 5 1 (.slice Aou (z) cou) (z) (((two id ++ two fl ++ two (qn : Int) ++ two (an : Int) ++ two (on : Int) ++ two (mn : Int)) ++ (Lq.take i).flatMap encQ : List UInt8).map u8v) ∧ Ofs (.slice Aou (z) cou) g1 ∧ wr.heap[g1]? = some (.cells #[.int .i64 id, .int .i64 fl, .slice Q qn qc, .slice A an ac, .slice O on oc, .slice M mn mc] 40 (0, 0)) ∧ Sle qE 3 wr (Q) (qn) (qc) (hq) ∧ Below w.heap.size w wr)
  case atStart => exact ⟨0, 12, As5, cs5, Nat.sub_zero _, Nat.zero_le _, Lib.hid (by simp), by omega, rfl, rfl, (owk_lo (own_to s5w rfl (by simp)) s5lo), of_s5_pm, hpm, sq, bel⟩
  case round =>
    clear hpm sq s5 bel
    obtain ⟨i, z, Aou, cou, HGK, hi, HO1, hz, rfl, rfl, ouw, of_ou_pm, hpm, sq, bel⟩ := hrel
    have HGK_ := Lib.hid HGK
    clear HGK
    have ou := (own_sl ouw).1
    have fr_ou := (own_sl ouw).2
    have lz_ou := bel.size
    have oulo := Nat.le_refl (w.heap.size)
    have av_ou_pm := own_av ouw of_ou_pm
    have i0 : (0 : Int) ≤ i := by omega
    have z0 : (0 : Int) ≤ z := by omega
    have hqn_ : qn ≤ 64 := HPQ.out
    have z1 : (z : Int) ≤ 100000 := by omega
    by_cases hik : i < qn
    rotate_left
    · have HI : Hid (qn ≤ i) := Lib.hid (by omega)
      replace hik : decide (i < qn) = false := decide_eq_false hik
      have hz_ : z ≤ 20000 := by have h_ := HPQ.out; omega
      clear hi hz
      clear sq
      have R103 := cell_lit hpm 2 _ rfl
      go_wp2_with fail
      clear R103
      replace bel := bel.drew
      replace hpm : wr.drew.heap[g1]? = _ := hpm
      replace ou := ou.drew
      replace ouw : wr.drew.ownsRow _ _ _ _ _ _ := ouw
      replace lz_ou : _ ≤ wr.drew.heap.size := lz_ou
      refine wp_region_held_drew (S := fun W => W.heap[g1]? = some (.cells #[.int .i64 id, .int .i64 fl, .slice Q qn qc, .slice A an ac, .slice O on oc, .slice M mn mc] 40 (0, 0))) (by kernel_rfl) hpm (fun hH => ?_)
      generalize wr.drew = w20 at bel hpm ou ouw lz_ou hH ⊢
      refine wpAnyH_take (i := 0) (v := ?_) rfl (by kernel_rfl) (by kernel_rfl) (by kernel_rfl) (fun _ _ _ h => h) (Or.inl ⟨by rfl, ?_⟩) hH ?_
      rotate_left
      · ((intro W hW; clear hW; go_simp) <;> with_reducible rfl)
      simp only [Act.put, List.getElem_toArray, List.getElem_cons_zero, List.setIfInBounds_toArray, List.set_cons_zero, List.set_cons_succ]
      refine wpAnyH_take (i := 1) (v := ?_) rfl (by kernel_rfl) (by kernel_rfl) (by kernel_rfl) (fun _ _ _ h => h) (Or.inl ⟨by rfl, ?_⟩) hH ?_
      rotate_left
      · ((intro W hW; clear hW; go_simp) <;> with_reducible rfl)
      simp only [sq3, sq4]
      refine wpAnyH_take (i := 2) (v := ?_) rfl (by kernel_rfl) (by kernel_rfl) (by kernel_rfl) (fun _ _ _ h => h) (Or.inl ⟨by rfl, ?_⟩) hH ?_
      rotate_left
      · ((intro W hW; have hk := cell_lit (hW) 3 _ rfl; clear hW; go_simp) <;> with_reducible rfl)
      simp only [sq3, sq4]
      refine wpAnyH_take (i := 4) (v := ?_) rfl (by kernel_rfl) (by kernel_rfl) (by kernel_rfl) (fun _ _ _ h => h) (Or.inl ⟨by rfl, ?_⟩) hH ?_
      rotate_left
      · ((intro W hW; clear hW; go_simp) <;> with_reducible rfl)
      simp only [sq3, sq4]
      refine wpAnyH_take (i := 5) (v := ?_) rfl (by kernel_rfl) (by kernel_rfl) (by kernel_rfl) (fun _ _ _ h => h) (Or.inl ⟨by rfl, ?_⟩) hH ?_
      rotate_left
      · ((intro W hW; have hk := cell_lit (hW) 4 _ rfl; clear hW; go_simp) <;> with_reducible rfl)
      simp only [sq3, sq4]
      refine wpAnyH_take (i := 7) (v := ?_) rfl (by kernel_rfl) (by kernel_rfl) (by kernel_rfl) (fun _ _ _ h => h) (Or.inl ⟨by rfl, ?_⟩) hH ?_
      rotate_left
      · ((intro W hW; clear hW; go_simp) <;> with_reducible rfl)
      simp only [sq3, sq4]
      refine wpAnyH_take (i := 8) (v := ?_) rfl (by kernel_rfl) (by kernel_rfl) (by kernel_rfl) (fun _ _ _ h => h) (Or.inl ⟨by rfl, ?_⟩) hH ?_
      rotate_left
      · ((intro W hW; have hk := cell_lit (hW) 5 _ rfl; clear hW; go_simp) <;> with_reducible rfl)
      simp only [sq3, sq4]
      refine wpAnyH_ready (rs := [3]) (by kernel_rfl) (by simp) ?_
      refine AllReadyH.cons (o := _) rfl (fun K hK => ?_) AllReadyH.nil
      simp only [sq3]
      go_simp
      with_reducible refine (rputs_any _ (HSA.out.below bel) (HRA.out.below bel) (by have h_ := HB.out; omega) HBA.out ou (by omega) HKA.out).mono ?_
      rintro e w21 ⟨B1, m1, c1, rfl, hm1, sp, b21⟩
      dsimp only
      replace hpm := blk_u hpm b21
      replace ou := ou.below b21
      replace ouw := own_under ouw b21
      replace lz_ou := Nat.le_trans lz_ou b21.size
      replace bel := bel.trans (b21.mono bel.size)
      clear b21
      have HM1 := Lib.hid hm1
      clear hm1
      clear ou ouw lz_ou
      refine hK.out _ _ hpm (fun hH22 => ?_)
      clear hK K
      refine wpAnyH_ready (rs := [6]) (by kernel_rfl) (by simp) ?_
      refine AllReadyH.cons (o := _) rfl (fun K hK => ?_) AllReadyH.nil
      simp only [sq3]
      go_simp
      with_reducible refine (rputs_any _ (HSO.out.below bel) (HRO.out.below bel) (by have h_ := HB.out; omega) HBO.out sp HM1.out HKO.out).mono ?_
      rintro e w23 ⟨B2, m2, c2, rfl, hm2, sp2, b23⟩
      dsimp only
      replace hpm := blk_u hpm b23
      replace sp := sp.below b23
      replace bel := bel.trans (b23.mono bel.size)
      clear b23
      have HM2 := Lib.hid hm2
      clear hm2
      clear sp
      refine hK.out _ _ hpm (fun hH24 => ?_)
      clear hK K
      refine wpAnyH_ready (rs := [9]) (by kernel_rfl) (by simp) ?_
      refine AllReadyH.cons (o := _) rfl (fun K hK => ?_) AllReadyH.nil
      simp only [sq3]
      go_simp
      with_reducible refine (rputs_any _ (HSMM.out.below bel) (HRM.out.below bel) (by have h_ := HB.out; omega) HBM.out sp2 HM2.out HKM.out).mono ?_
      rintro e w25 ⟨B3, m3, c3, rfl, hm3, sp3, b25⟩
      dsimp only
      replace hpm := blk_u hpm b25
      replace sp2 := sp2.below b25
      replace bel := bel.trans (b25.mono bel.size)
      clear b25
      have HM3 := Lib.hid hm3
      clear hm3
      clear sp2
      refine hK.out _ _ hpm (fun hH26 => ?_)
      clear hK K
      refine wpAnyH_take (i := 10) (v := ?_) rfl (by kernel_rfl) (by kernel_rfl) (by kernel_rfl) (fun _ _ _ h => h) (Or.inl ⟨by rfl, ?_⟩) hH26 ?_
      rotate_left
      · ((intro W hW; clear hW; go_simp) <;> with_reducible rfl)
      simp only [sq3, sq4]
      refine wpAnyH_done (by kernel_rfl) ?_ _
      have HOKM : Hid (okM (⟨id, fl, Lq, La, Lo, Lm⟩ : Mn) = true) := Lib.hid (okM_of HID.out HFL.out (show Lq.length + La.length + Lo.length + Lm.length ≤ 64 by rw [HQQ.out, HLA.out, HLO.out, HLM.out]; exact HPS.out) (by have h_ := HO1.out; rw [List.take_of_length_le (by have h1_ := HI.out; have h2_ := HQQ.out; omega)] at h_; exact h_) (List.all_eq_true.1 (by rw [all3, HGA.out, HGO.out, HGM.out]; rfl)))
      have HCC : Hid (cutE (cutE (cutE ((two id ++ two fl ++ two (qn : Int) ++ two (an : Int) ++ two (on : Int) ++ two (mn : Int)) ++ (Lq.take i).flatMap encQ) La) Lo) Lm = encM (⟨id, fl, Lq, La, Lo, Lm⟩ : Mn) ∨ (2000 < (cutE (cutE (cutE ((two id ++ two fl ++ two (qn : Int) ++ two (an : Int) ++ two (on : Int) ++ two (mn : Int)) ++ (Lq.take i).flatMap encQ) La) Lo) Lm).length ∧ 2000 < (encM (⟨id, fl, Lq, La, Lo, Lm⟩ : Mn)).length)) := Lib.hid (by have h_ := cut3 ((two id ++ two fl ++ two (qn : Int) ++ two (an : Int) ++ two (on : Int) ++ two (mn : Int)) ++ (Lq.take i).flatMap encQ) La Lo Lm; have e_ : encM (⟨id, fl, Lq, La, Lo, Lm⟩ : Mn) = ((two id ++ two fl ++ two (qn : Int) ++ two (an : Int) ++ two (on : Int) ++ two (mn : Int)) ++ (Lq.take i).flatMap encQ) ++ (La ++ Lo ++ Lm).flatMap encR := (by rw [List.take_of_length_le (by have h1_ := HI.out; have h2_ := HQQ.out; omega)]; unfold encM; rw [HHD.out]; rfl); rw [e_]; exact h_)
      have HZL := Lib.hid sp3.1
      have m30 : (0 : Int) ≤ m3 := by omega
      by_cases hzz : m3 ≤ 1472
      rotate_left
      · have HP : Hid (putM (⟨id, fl, Lq, La, Lo, Lm⟩ : Mn) = ([], 2)) := Lib.hid (by unfold putM; rw [if_pos HOKM.out, if_neg (by rcases HCC.out with h_ | h_; rw [← h_, HZL.out]; exact hzz; omega)])
        have t76 : (1472 : Int) < (m3 : Int) := by omega
        clear hzz
        go_wp2_with fail
        exact bodyPost_ret (v := .tuple #[.slice none 0 0, .int .i64 2]) (by simp [results, Try.results15, go_sem]) rfl ⟨none, 0, 0, by rw [HP.out], by rw [HP.out]; exact Sl.nil _, bel⟩
      have HEQ : Hid (cutE (cutE (cutE ((two id ++ two fl ++ two (qn : Int) ++ two (an : Int) ++ two (on : Int) ++ two (mn : Int)) ++ (Lq.take i).flatMap encQ) La) Lo) Lm = encM (⟨id, fl, Lq, La, Lo, Lm⟩ : Mn)) := Lib.hid (by rcases HCC.out with h_ | h_; exact h_; have h1_ := HZL.out; omega)
      have HP : Hid (putM (⟨id, fl, Lq, La, Lo, Lm⟩ : Mn) = (encM (⟨id, fl, Lq, La, Lo, Lm⟩ : Mn), 0)) := Lib.hid (by unfold putM; rw [if_pos HOKM.out, if_pos (by rw [← HEQ.out, HZL.out]; exact hzz)])
      have t76 : decide ((1472 : Int) < (m3 : Int)) = false := decide_eq_false (by omega)
      clear hzz
      go_wp2_with fail
      exact bodyPost_ret (v := .tuple #[.slice B3 m3 c3, .int .i64 0]) (by simp [results, Try.results15, go_sem]) rfl ⟨_, _, _, by rw [HP.out], by rw [HP.out]; rw [HEQ.out] at sp3; exact sp3, bel⟩
    obtain ⟨gE, oE, hp_⟩ := sq.place (by omega)
    subst hp_
    obtain ⟨x, hx_⟩ : ∃ u_, hq[i]? = some u_ := ⟨_, List.getElem?_eq_getElem (by rw [HQL.out]; exact hik)⟩
    have HX := Lib.hid hx_
    obtain ⟨q1, hl_, hr_⟩ := HRQ.out.at hx_
    have HLI := Lib.hid hl_
    have HXE : Hid ((⟨q1.name, x.t, x.k⟩ : Qn) = q1) := Lib.hid (by rw [hr_.1, hr_.2.1])
    have HSN : Hid (Sle stf 1 w x.A x.n x.c q1.name) := Lib.hid hr_.2.2
    have HXN : Hid (x.n ≤ 100000) := Lib.hid (by have h_ := HNB.out q1 (List.mem_of_getElem? hl_); have h1_ := hr_.2.2.1; omega)
    clear hx_ hl_ hr_
    rcases (by decide : ∀ b : Bool, b = true ∨ b = false) (goodN q1.name) with hg_ | hg_
    rotate_left
    · have HG := Lib.hid hg_
      have HP : Hid (putM (⟨id, fl, Lq, La, Lo, Lm⟩ : Mn) = ([], 1)) := Lib.hid (putM_no (okM_q HLI.out (by rw [← HXE.out]; unfold okQ; rw [hg_]; rfl)))
      clear hg_
      have R103 := cell_lit hpm 2 _ rfl
      have R109 := cell_lit hpm 2 _ rfl
      have R112 := Lib.hid (Sle.range0 sq HX.out 3 [.slice x.A x.n x.c, .int .i64 x.t, .int .i64 x.k] rfl)
      go_wp2_with (first | ((with_reducible show wpList _ _ _ (⟨some 112, _, _, _, _, _⟩ :: _) _ _); refine wpList_load_rng 68 (.tmp 111) rfl (by kernel_rfl) _ _ rfl _ R112.out _ Try.underlying68 rfl (by kernel_rfl) ?_) | ((with_reducible show wpList _ _ _ (⟨some 6, _, _, _, _, _⟩ :: _) _ _); refine wpList_new_a rfl 68 rfl #[.slice none 0 0, .int .i64 0, .int .i64 0] (by kernel_rfl) ?_; intro g6 w20 ge hh bb; have d_pm_qq := ne_new (hlt hpm) ge; have av_sq_qq := sq.av_new ge; have av_ou_qq := ou.av_new ge; have of_ou_qq := own_new ouw ge; have oqq := Nat.le_trans bel.size ge; replace hpm := blk_u hpm bb; replace sq := sq.below bb; replace ou := ou.below bb; replace ouw := own_under ouw bb; replace lz_ou := Nat.le_trans lz_ou bb.size; replace bel := bel.trans (bb.mono bel.size); have hqq := hh; clear hh ge bb) | ((with_reducible show wpList _ _ _ (⟨none, Op.store _ (.tmp 6) _, _, _, _, _⟩ :: _) _ _); refine wpList_store_blk rfl 68 (.tmp 6) (.tmp 112) rfl g6 rfl _ rfl _ 68 hqq (by rfl) (by kernel_rfl) (by kernel_rfl) ?_; intro w21 hq gr; replace sq := sq.away av_sq_qq gr; replace ou := ou.away av_ou_qq gr; replace ouw := own_off ouw of_ou_qq gr; replace lz_ou := Nat.le_trans lz_ou gr.size; replace hpm := blk_a hpm gr d_pm_qq; replace bel := below_grown bel gr oqq bel.size; clear hqq; have hqq := hq; clear hq gr; have R114 := cell_lit hqq 0 _ rfl))
      try clear R103
      try clear R109
      try clear R112
      try clear R114
      with_reducible refine (rgood_is _ (HSN.out.below bel) HXN.out HG.out).mono ?_
      rintro e _ ⟨rfl, rfl⟩
      go_wp2_with fail
      exact bodyPost_ret (v := .tuple #[.slice none 0 0, .int .i64 1]) (by simp [results, Try.results15, go_sem]) rfl ⟨none, 0, 0, by rw [HP.out], by rw [HP.out]; exact Sl.nil _, bel⟩
    have HG := Lib.hid hg_
    clear hg_
    have R103 := cell_lit hpm 2 _ rfl
    have R109 := cell_lit hpm 2 _ rfl
    have R112 := Lib.hid (Sle.range0 sq HX.out 3 [.slice x.A x.n x.c, .int .i64 x.t, .int .i64 x.k] rfl)
    go_wp2_with (first | ((with_reducible show wpList _ _ _ (⟨some 112, _, _, _, _, _⟩ :: _) _ _); refine wpList_load_rng 68 (.tmp 111) rfl (by kernel_rfl) _ _ rfl _ R112.out _ Try.underlying68 rfl (by kernel_rfl) ?_) | ((with_reducible show wpList _ _ _ (⟨some 6, _, _, _, _, _⟩ :: _) _ _); refine wpList_new_a rfl 68 rfl #[.slice none 0 0, .int .i64 0, .int .i64 0] (by kernel_rfl) ?_; intro g6 w20 ge hh bb; have d_pm_qq := ne_new (hlt hpm) ge; have av_sq_qq := sq.av_new ge; have av_ou_qq := ou.av_new ge; have of_ou_qq := own_new ouw ge; have oqq := Nat.le_trans bel.size ge; replace hpm := blk_u hpm bb; replace sq := sq.below bb; replace ou := ou.below bb; replace ouw := own_under ouw bb; replace lz_ou := Nat.le_trans lz_ou bb.size; replace bel := bel.trans (bb.mono bel.size); have hqq := hh; clear hh ge bb) | ((with_reducible show wpList _ _ _ (⟨none, Op.store _ (.tmp 6) _, _, _, _, _⟩ :: _) _ _); refine wpList_store_blk rfl 68 (.tmp 6) (.tmp 112) rfl g6 rfl _ rfl _ 68 hqq (by rfl) (by kernel_rfl) (by kernel_rfl) ?_; intro w21 hq gr; replace sq := sq.away av_sq_qq gr; replace ou := ou.away av_ou_qq gr; replace ouw := own_off ouw of_ou_qq gr; replace lz_ou := Nat.le_trans lz_ou gr.size; replace hpm := blk_a hpm gr d_pm_qq; replace bel := below_grown bel gr oqq bel.size; clear hqq; have hqq := hq; clear hq gr; have R114 := cell_lit hqq 0 _ rfl))
    try clear R103
    try clear R109
    try clear R112
    try clear R114
    with_reducible refine (rgood_is _ (HSN.out.below bel) HXN.out HG.out).mono ?_
    rintro e _ ⟨rfl, rfl⟩
    rcases (by decide : ∀ b : Bool, b = true ∨ b = false) (h16 x.t) with ht_ | ht_
    rotate_left
    · have HT := Lib.hid ht_
      have HP : Hid (putM (⟨id, fl, Lq, La, Lo, Lm⟩ : Mn) = ([], 1)) := Lib.hid (putM_no (okM_q HLI.out (by rw [← HXE.out]; unfold okQ; rw [ht_]; simp)))
      clear ht_
      have R119 := cell_lit hqq 1 _ rfl
      go_wp2_with fail
      clear R119
      with_reducible refine (rfit_is _ HT.out).mono ?_
      rintro e _ ⟨rfl, rfl⟩
      go_wp2_with fail
      exact bodyPost_ret (v := .tuple #[.slice none 0 0, .int .i64 1]) (by simp [results, Try.results15, go_sem]) rfl ⟨none, 0, 0, by rw [HP.out], by rw [HP.out]; exact Sl.nil _, bel⟩
    have HT := Lib.hid ht_
    clear ht_
    have R119 := cell_lit hqq 1 _ rfl
    go_wp2_with fail
    clear R119
    with_reducible refine (rfit_is _ HT.out).mono ?_
    rintro e _ ⟨rfl, rfl⟩
    rcases (by decide : ∀ b : Bool, b = true ∨ b = false) (h16 x.k) with hk_ | hk_
    rotate_left
    · have HK := Lib.hid hk_
      have HP : Hid (putM (⟨id, fl, Lq, La, Lo, Lm⟩ : Mn) = ([], 1)) := Lib.hid (putM_no (okM_q HLI.out (by rw [← HXE.out]; unfold okQ; rw [hk_]; simp)))
      clear hk_
      have R125 := cell_lit hqq 2 _ rfl
      go_wp2_with fail
      clear R125
      with_reducible refine (rfit_is _ HK.out).mono ?_
      rintro e _ ⟨rfl, rfl⟩
      go_wp2_with fail
      exact bodyPost_ret (v := .tuple #[.slice none 0 0, .int .i64 1]) (by simp [results, Try.results15, go_sem]) rfl ⟨none, 0, 0, by rw [HP.out], by rw [HP.out]; exact Sl.nil _, bel⟩
    have HK := Lib.hid hk_
    have HZN : Hid (z ≤ 100000) := Lib.hid (by omega)
    obtain ⟨z2, hz_⟩ : ∃ u_, (((two id ++ two fl ++ two (qn : Int) ++ two (an : Int) ++ two (on : Int) ++ two (mn : Int)) ++ (Lq.take i).flatMap encQ) ++ putN q1.name).length = u_ := ⟨_, rfl⟩
    have HPL := Lib.hid hz_
    have HZB : Hid (z2 ≤ z + 255) := Lib.hid (by have h_ := good_size HG.out; have h1_ := ou.1; have h2_ := put_len q1.name; rw [List.length_append, h1_] at hz_; omega)
    have z20 : (0 : Int) ≤ z2 := by omega
    have z21 : z2 ≤ 100300 := by have h_ := HZB.out; omega
    clear hz_ hk_
    have R125 := cell_lit hqq 2 _ rfl
    go_wp2_with fail
    clear R125
    with_reducible refine (rfit_is _ HK.out).mono ?_
    rintro e _ ⟨rfl, rfl⟩
    go_wp2_with fail
    replace bel := bel.drew
    replace hpm : w21.drew.heap[g1]? = _ := hpm
    replace hqq : w21.drew.heap[g6]? = _ := hqq
    replace sq := sq.drew
    replace ou := ou.drew
    replace ouw : w21.drew.ownsRow _ _ _ _ _ _ := ouw
    replace lz_ou : _ ≤ w21.drew.heap.size := lz_ou
    refine wp_region_held_drew (S := fun W => W.heap[g6]? = some (.cells #[.slice x.A x.n x.c, .int .i64 x.t, .int .i64 x.k] 68 (0, 0))) (by kernel_rfl) hqq (fun hH => ?_)
    generalize w21.drew = w22 at bel hpm hqq sq ou ouw lz_ou hH ⊢
    refine wpAnyH_take (i := 0) (v := ?_) rfl (by kernel_rfl) (by kernel_rfl) (by kernel_rfl) (fun _ _ _ h => h) (Or.inl ⟨by rfl, ?_⟩) hH ?_
    rotate_left
    · ((intro W hW; clear hW; go_simp) <;> with_reducible rfl)
    simp only [Act.put, List.getElem_toArray, List.getElem_cons_zero, List.setIfInBounds_toArray, List.set_cons_zero, List.set_cons_succ]
    refine wpAnyH_take (i := 1) (v := ?_) rfl (by kernel_rfl) (by kernel_rfl) (by kernel_rfl) (fun _ _ _ h => h) (Or.inl ⟨by rfl, ?_⟩) hH ?_
    rotate_left
    · ((intro W hW; clear hW; go_simp) <;> with_reducible rfl)
    simp only [sq3, sq4]
    refine wpAnyH_take (i := 2) (v := ?_) rfl (by kernel_rfl) (by kernel_rfl) (by kernel_rfl) (fun _ _ _ h => h) (Or.inl ⟨by rfl, ?_⟩) hH ?_
    rotate_left
    · ((intro W hW; have hk := cell_lit (hW) 0 _ rfl; clear hW; go_simp) <;> with_reducible rfl)
    simp only [sq3, sq4]
    refine wpAnyH_take (i := 4) (v := ?_) rfl (by kernel_rfl) (by kernel_rfl) (by kernel_rfl) (fun _ _ _ h => h) (Or.inl ⟨by rfl, ?_⟩) hH ?_
    rotate_left
    · ((intro W hW; clear hW; go_simp) <;> with_reducible rfl)
    simp only [sq3, sq4]
    refine wpAnyH_take (i := 5) (v := ?_) rfl (by kernel_rfl) (by kernel_rfl) (by kernel_rfl) (fun _ _ _ h => h) (Or.inl ⟨by rfl, ?_⟩) hH ?_
    rotate_left
    · ((intro W hW; have hk := cell_lit (hW) 1 _ rfl; clear hW; go_simp) <;> with_reducible rfl)
    simp only [sq3, sq4]
    refine wpAnyH_take (i := 7) (v := ?_) rfl (by kernel_rfl) (by kernel_rfl) (by kernel_rfl) (fun _ _ _ h => h) (Or.inl ⟨by rfl, ?_⟩) hH ?_
    rotate_left
    · ((intro W hW; clear hW; go_simp) <;> with_reducible rfl)
    simp only [sq3, sq4]
    refine wpAnyH_take (i := 8) (v := ?_) rfl (by kernel_rfl) (by kernel_rfl) (by kernel_rfl) (fun _ _ _ h => h) (Or.inl ⟨by rfl, ?_⟩) hH ?_
    rotate_left
    · ((intro W hW; have hk := cell_lit (hW) 2 _ rfl; clear hW; go_simp) <;> with_reducible rfl)
    simp only [sq3, sq4]
    refine wpAnyH_ready (rs := [3]) (by kernel_rfl) (by simp) ?_
    refine AllReadyH.cons (o := _) rfl (fun K hK => ?_) AllReadyH.nil
    simp only [sq3]
    go_simp
    with_reducible refine (rput_lit _ ou (HSN.out.below bel) HZN.out HG.out rfl HPL.out).mono ?_
    rintro e w23 ⟨v_pa, rfl, paw, b23⟩
    dsimp only
    have y_pa_pm := Lib.hid (hlt hpm)
    have y_pa_qq := Lib.hid (hlt hqq)
    have bl_sq_pa := sq.bl_new
    have bl_ou_pa := ou.bl_new
    have palo := bel.size
    have lz_pa := b23.size
    replace hpm := blk_u hpm b23
    replace hqq := blk_u hqq b23
    replace sq := sq.below b23
    replace ou := ou.below b23
    replace ouw := own_under ouw b23
    replace lz_ou := Nat.le_trans lz_ou b23.size
    replace bel := bel.trans (b23.mono bel.size)
    clear b23
    obtain ⟨Apa, cpa, rfl⟩ := own_val paw
    have pa := (own_sl paw).1
    have fr_pa := (own_sl paw).2
    have av_pa_pm := fr_pa.av y_pa_pm.out
    have av_pa_qq := fr_pa.av y_pa_qq.out
    clear ou ouw lz_ou
    refine hK.out _ _ hqq (fun hH24 => ?_)
    clear hK K
    refine wpAnyH_ready (rs := [6]) (by kernel_rfl) (by simp) ?_
    refine AllReadyH.cons (o := _) rfl (fun K hK => ?_) AllReadyH.nil
    simp only [sq3]
    go_simp
    with_reducible refine (r16_oto _ (z2) (z2 + 2) _ _ _ _ rfl pa (by omega)).mono ?_
    rintro e w25 ⟨v_pb, rfl, pbw, b25⟩
    dsimp only
    have y_pb_pm := Lib.hid (hlt hpm)
    have y_pb_qq := Lib.hid (hlt hqq)
    have bl_sq_pb := sq.bl_new
    have bl_pa_pb := pa.bl_new
    have pblo := bel.size
    have lz_pb := b25.size
    replace hpm := blk_u hpm b25
    replace hqq := blk_u hqq b25
    replace sq := sq.below b25
    replace pa := pa.below b25
    replace paw := own_under paw b25
    replace lz_pa := Nat.le_trans lz_pa b25.size
    replace bel := bel.trans (b25.mono bel.size)
    clear b25
    obtain ⟨Apb, cpb, rfl⟩ := own_val pbw
    have pb := (own_sl pbw).1
    have fr_pb := (own_sl pbw).2
    have av_pb_pm := fr_pb.av y_pb_pm.out
    have av_pb_qq := fr_pb.av y_pb_qq.out
    clear pa paw lz_pa
    refine hK.out _ _ hqq (fun hH26 => ?_)
    clear hK K
    refine wpAnyH_ready (rs := [9]) (by kernel_rfl) (by simp) ?_
    refine AllReadyH.cons (o := _) rfl (fun K hK => ?_) AllReadyH.nil
    simp only [sq3]
    go_simp
    with_reducible refine (r16_oto _ (z2 + 2) (z2 + 2 + 2) _ _ _ _ rfl pb (by omega)).mono ?_
    rintro e w27 ⟨v_pc, rfl, pcw, b27⟩
    dsimp only
    have y_pc_pm := Lib.hid (hlt hpm)
    have y_pc_qq := Lib.hid (hlt hqq)
    have bl_sq_pc := sq.bl_new
    have bl_pb_pc := pb.bl_new
    have pclo := bel.size
    have lz_pc := b27.size
    replace hpm := blk_u hpm b27
    replace hqq := blk_u hqq b27
    replace sq := sq.below b27
    replace pb := pb.below b27
    replace pbw := own_under pbw b27
    replace lz_pb := Nat.le_trans lz_pb b27.size
    replace bel := bel.trans (b27.mono bel.size)
    clear b27
    obtain ⟨Apc, cpc, rfl⟩ := own_val pcw
    have pc := (own_sl pcw).1
    have fr_pc := (own_sl pcw).2
    have av_pc_pm := fr_pc.av y_pc_pm.out
    have av_pc_qq := fr_pc.av y_pc_qq.out
    clear pb pbw lz_pb
    have of_pc_pm := ofs_type pcw hpm (by decide)
    have of_pc_qq := ofs_type pcw hqq (by decide)
    refine hK.out _ _ hqq (fun hH28 => ?_)
    clear hK K
    refine wpAnyH_take (i := 10) (v := ?_) rfl (by kernel_rfl) (by kernel_rfl) (by kernel_rfl) (fun _ _ _ h => h) (Or.inl ⟨by rfl, ?_⟩) hH28 ?_
    rotate_left
    · ((intro W hW; clear hW; go_simp) <;> with_reducible rfl)
    simp only [sq3, sq4]
    refine wpAnyH_done (by kernel_rfl) ?_ _
    go_wp2_with fail
    go_roundg (qn - (i + 1))
    case measure => have := HGK_.out; omega
    case rel => exact ⟨i + 1, z2 + 2 + 2, Apc, cpc, rfl, hik, Lib.hid (ok_step HO1.out HLI.out (by rw [← HXE.out]; exact okQ_of HG.out HT.out HK.out)), by have h_ := HZB.out; omega, rfl, by go_num, (owk_lo (own_to pcw rfl (by rw [flatE_next HLI.out, ← congrArg encQ HXE.out]; simp [encQ])) pclo), of_pc_pm, hpm, sq, bel⟩
end Go.Proofs.Ytjedknjlpeccbaa
