/- Sorting one mapping; the values of a map; Tick where one mapping is over. -/
import Derived.Test.YtmjmjfcdblapcaaPti
namespace Go.Proofs.Ytmjmjfcdblapcaa
open Go.RowKit

set_option linter.unusedVariables false in
set_option linter.unusedSimpArgs false in
set_option maxRecDepth 100000 in
set_option maxHeartbeats 16000000 in
theorem len64_1 (w : World) : Calls Try.prog 75 #[.int .u64 1] w fun e w' => e = .returned (.int .i64 1) ∧ w = w' := by
  skip
  go_enter Try.func75, Try.ntmps75
  go_wp2_with fail
  go_ret
  exact ⟨by kernel_rfl, rfl⟩
set_option linter.unusedVariables false in
set_option linter.unusedSimpArgs false in
set_option maxRecDepth 100000 in
set_option maxHeartbeats 16000000 in
theorem blen_1 (w : World) : Calls Try.prog 63 #[.int .u64 1] w fun e w' => e = .returned (.int .i64 1) ∧ w = w' := by
  skip
  go_enter Try.func63, Try.ntmps63
  go_wp2_with fail
  with_reducible refine (len64_1 _).mono ?_
  rintro e _ ⟨rfl, rfl⟩
  go_wp2_with fail
  go_ret
  exact ⟨rfl, rfl⟩
set_option linter.unusedVariables false in
set_option linter.unusedSimpArgs false in
set_option maxRecDepth 100000 in
set_option maxHeartbeats 16000000 in
theorem pins_1 {A : Option Addr} {c : Nat} (w : World) : Calls Try.prog 66 #[.slice A 1 c, .int .i64 0, .int .i64 1, .func (.func 35) #[] #[]] w fun e w' => e = .returned (.tuple #[]) ∧ Below w.heap.size w w' := by
  have bel := Below.refl w.heap.size w
  go_enter Try.func66, Try.ntmps66
  go_wp2_with fail
  refine wp_loop_rounds 1 ?_
  rw [rounds_succ]
  go_wp2_with fail
  exact bodyPost_end (results_none rfl _ _ _) rfl ⟨rfl, bel⟩
set_option linter.unusedVariables false in
set_option linter.unusedSimpArgs false in
set_option maxRecDepth 100000 in
set_option maxHeartbeats 16000000 in
theorem ppdq_1 {A : Option Addr} {c : Nat} {lim : Int} (w : World) : Calls Try.prog 62 #[.slice A 1 c, .int .i64 0, .int .i64 1, .int .i64 lim, .func (.func 35) #[] #[]] w fun e w' => e = .returned (.tuple #[]) ∧ Below w.heap.size w w' := by
  have bel := Below.refl w.heap.size w
  go_enter Try.func62, Try.ntmps62
  go_wp2_with fail
  refine wp_loop_rounds 1 ?_
  rw [rounds_succ]
  go_wp2_with fail
  with_reducible refine (pins_1 _).mono ?_
  rintro e w1 ⟨rfl, b1⟩
  replace bel := bel.trans (b1.mono bel.size)
  clear b1
  go_wp2_with fail
  exact bodyPost_ret (results_none rfl _ _ _) rfl ⟨rfl, bel⟩
set_option linter.unusedVariables false in
set_option linter.unusedSimpArgs false in
set_option maxRecDepth 100000 in
set_option maxHeartbeats 16000000 in
theorem psort_1 {A : Option Addr} {c : Nat} (w : World) : Calls Try.prog 50 #[.slice A 1 c, .func (.func 35) #[] #[]] w fun e w' => e = .returned (.tuple #[]) ∧ Below w.heap.size w w' := by
  have bel := Below.refl w.heap.size w
  go_enter Try.func50, Try.ntmps50
  go_wp2_with fail
  with_reducible refine (blen_1 _).mono ?_
  rintro e _ ⟨rfl, rfl⟩
  go_wp2_with fail
  with_reducible refine (ppdq_1 _).mono ?_
  rintro e w1 ⟨rfl, b1⟩
  replace bel := bel.trans (b1.mono bel.size)
  clear b1
  go_wp2_with fail
  exact bodyPost_end (results_none rfl _ _ _) rfl ⟨rfl, bel⟩
set_option linter.unusedVariables false in
set_option linter.unusedSimpArgs false in
set_option maxRecDepth 100000 in
set_option maxHeartbeats 16000000 in
theorem pvals_any {mb : Nat} (w : World) : Calls Try.prog 34 #[.map (some mb)] w fun e w' => ∃ Bm, e = .returned (.func (.func 51) #[] #[.pointer (some ⟨Bm, 0, none⟩)]) ∧ w'.heap[Bm]? = some (.cells #[.map (some mb)] 53 (0, 0)) ∧ Below w.heap.size w w' := by
  have bel := Below.refl w.heap.size w
  go_enter Try.func34, Try.ntmps34
  go_wp2_with (first | ((with_reducible show wpList _ _ _ (⟨some 1, _, _, _, _, _⟩ :: _) _ _); refine wpList_box_n rfl 53 (.tmp 0) rfl #[.map (some mb)] rfl ?_; intro g1 w1 ge lt hh bb; have ovb := Nat.le_trans bel.size ge; replace bel := bel.trans (bb.mono bel.size); have hvb := hh; clear hh lt ge bb))
  go_ret
  exact ⟨_, rfl, hvb, bel⟩
set_option maxRecDepth 100000 in
set_option maxHeartbeats 16000000 in
theorem pcoll_1 {lo mb Bm : Nat} {m : Mp} (w : World) (hB : w.heap[Bm]? = some (.cells #[.map (some mb)] 53 (0, 0))) (hO : Om lo mb w [m]) : Calls Try.prog 49 #[.func (.func 51) #[] #[.pointer (some ⟨Bm, 0, none⟩)]] w fun e w' => ∃ A2 c2, e = .returned (.slice A2 1 c2) ∧ w'.ownsRow w.heap.size 31 9 (.slice A2 1 c2) 1 (mpE m) ∧ Below w.heap.size w w' := by
  go_enter Try.func49, Try.ntmps49
  go_wp2_with fail
  with_reducible refine (pseq_1 _ hB hO).mono ?_
  rintro e w1 ⟨v, rfl, own, b1⟩
  obtain ⟨A2, c2, rfl⟩ := owk_val own
  go_wp2_with fail
  go_ret
  exact ⟨A2, c2, rfl, own, b1⟩
set_option maxRecDepth 100000 in
set_option maxHeartbeats 16000000 in
theorem psorted_1 {lo mb Bm : Nat} {m : Mp} (w : World) (hB : w.heap[Bm]? = some (.cells #[.map (some mb)] 53 (0, 0))) (hO : Om lo mb w [m]) : Calls Try.prog 33 #[.func (.func 51) #[] #[.pointer (some ⟨Bm, 0, none⟩)], .func (.func 35) #[] #[]] w fun e w' => ∃ A2 c2, e = .returned (.slice A2 1 c2) ∧ w'.ownsRow w.heap.size 31 9 (.slice A2 1 c2) 1 (mpE m) ∧ Below w.heap.size w w' := by
  go_enter Try.func33, Try.ntmps33
  go_wp2_with fail
  with_reducible refine (pcoll_1 _ hB hO).mono ?_
  rintro e w1 ⟨A2, c2, rfl, own, b1⟩
  go_wp2_with fail
  with_reducible refine (psort_1 _).mono ?_
  rintro e w2 ⟨rfl, b2⟩
  go_wp2_with fail
  go_ret
  exact ⟨A2, c2, rfl, owk_under own b2, b1.trans (b2.mono b1.size)⟩
set_option linter.unusedVariables false in
set_option linter.unusedSimpArgs false in
set_option maxRecDepth 100000 in
set_option maxHeartbeats 16000000 in
theorem ttick_one {lo gt : Nat} {s : Ts} {lw rm now : Int} {l : List Mp} {m : Mp} (t : Int) (w : World) (hT : Tp lo gt w s) (ha : s.adv t = ⟨lw, rm, now, l, [m]⟩) : Calls Try.prog 14 #[.pointer (some ⟨gt, 0, none⟩), .int .i64 t] w fun e w' => ∃ A2 c2, e = .returned (.slice A2 1 c2) ∧ w'.ownsRow w.heap.size 31 9 (.slice A2 1 c2) 1 (mpE m) ∧ ApV gt w' (.slice A2 1 c2) ∧ Tp lo gt w' ⟨lw, rm, now, l, []⟩ ∧ Fap gt w w' ∧ Below lo w w' := by
  have hlo : lo ≤ w.heap.size := hT.lo_le
  have HLO := Lib.hid hlo
  have fr := Fap.refl gt w
  have bel := Below.refl lo w
  go_enter Try.func14, Try.ntmps14
  go_wp2_with fail
  with_reducible refine (tadv_any _ _ hT ha).mono ?_
  rintro e w1 ⟨rfl, hT_, f_, bb⟩
  replace fr := fr.trans f_
  clear hT
  have hT := hT_
  replace bel := bel.trans bb
  clear bb f_ hT_
  obtain ⟨A, n, c, mb, htb, otb, hM, own, hok⟩ := hT
  dsimp only at htb hM own
  have off_tb := ofs_type own htb (by decide)
  have hl := row_len (by decide) mpE_len own
  have HLL := Lib.hid hl
  have HOK := Lib.hid hok
  have H32 : Hid (n ≤ 1000) := Lib.hid (by have h1_ := hok.len; have h2_ := hok.r1; simp only at h1_ h2_; omega)
  have H128 : Hid (n ≤ 128) := Lib.hid (by have h1_ := hok.len; have h2_ := hok.r1; simp only at h1_ h2_; omega)
  clear hl hok
  have fo := fr.fo htb
  clear fr
  have R12 := cell_lit htb 4 _ rfl
  go_wp2_with fail
  clear R12
  with_reducible refine (pvals_any _).mono ?_
  rintro e w2 ⟨gv, rfl, hvb, b2⟩
  replace htb := blk_u htb b2
  replace own := owk_under own b2
  replace fo := fo.below b2
  replace hM := hM.below b2
  replace bel := bel.trans (b2.mono (Nat.le_trans hlo bel.size))
  clear b2
  go_wp2_with fail
  have HOK0 : Hid (Ts.ok ⟨lw, rm, now, l, []⟩) := Lib.hid (by have h_ := HOK.out; exact ⟨h_.srt, h_.okp, h_.n0, h_.n1, h_.l0, h_.l1, h_.r0, h_.r1, h_.len⟩)
  have HGT := Lib.hid (hlt htb)
  have HSZ := Lib.hid bel.size
  have HRW : Hid (∀ g, (Value.slice A n c).ownBlock = some g → g < w2.heap.size) := Lib.hid (fun g h => (own.lt g h).2)
  with_reducible refine (psorted_1 _ hvb hM).mono ?_
  rintro e w3 ⟨A2, c2, rfl, own2, b3⟩
  replace htb := blk_u htb b3
  replace own := owk_under own b3
  replace fo := fo.below b3
  replace hM := hM.below b3
  replace bel := bel.trans (b3.mono (Nat.le_trans hlo bel.size))
  clear b3
  have off2 := ofs_type own2 htb (by decide)
  clear hvb
  go_wp2_with (first | ((with_reducible show wpList _ _ _ (⟨some 16, _, _, _, _, _⟩ :: _) _ _); refine wpList_makemap_n rfl 53 rfl ?_; intro g16 w80 ge hM_ bb; have hM2 := hM_.lo_le (Nat.le_trans HLO.out bel.size); replace htb := blk_u htb bb; replace own := owk_under own bb; replace fo := fo.below bb; replace hM := hM.below bb; replace own2 := owk_under own2 bb; replace bel := bel.trans (bb.mono (Nat.le_trans hlo bel.size)); clear hM; have hM := hM2; clear hM2 hM_ bb ge) | ((with_reducible show wpList _ _ _ (⟨none, Op.store _ (.tmp 18) _, _, _, _, _⟩ :: _) _ _); refine wpList_store_part rfl 53 (.tmp 18) (.tmp 16) rfl gt 4 rfl [.map (some g16)] rfl [.int .i64 lw, .int .i64 rm, .int .i64 now, .slice A n c, .map (some mb)] 55 htb (by simp) [.int .i64 lw, .int .i64 rm, .int .i64 now, .slice A n c, .map (some g16)] rfl (by kernel_rfl) (by rfl) ?_; intro w4 hq gr; replace own := owk_off own off_tb gr; replace fo := fo.tb gr; replace hM := hM.grown gr htb; replace own2 := owk_off own2 off2 gr; replace bel := below_grown bel gr otb (Nat.le_trans hlo bel.size); clear htb; have htb := hq; clear hq gr))
  go_ret
  exact ⟨A2, c2, rfl, owk_lo own2 HSZ.out, (fun g hg => Ap.mk htb (fun g_ h_ e_ => by have h1_ := HRW.out g_ h_; have h2_ := (own2.lt g hg).1; omega) (by have h1_ := HGT.out; have h2_ := (own2.lt g hg).1; omega)), ⟨A, n, c, g16, htb, otb, hM, own, HOK0.out⟩, fo.fr htb, bel⟩
end Go.Proofs.Ytmjmjfcdblapcaa
