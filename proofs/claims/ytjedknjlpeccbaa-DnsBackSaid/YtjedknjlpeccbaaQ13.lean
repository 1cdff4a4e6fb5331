/- Texts put together: Ds5. -/
import Derived.Test.YtjedknjlpeccbaaQ8
namespace Go.Proofs.Ytjedknjlpeccbaa
open Go.RowKit

theorem dtake_head {gx n c : Nat} {A : Option Addr} {b : List UInt8} (w : World) (hwk : w.heap[gx]? = some (.cells #[.slice A n c, .int .i64 0] 53 (0, 0))) (sb : Sl w A n c b) (av_sb_wk : Av A n gx) (hn : n ≤ 100000) {p0 : Nat} (hp : 12 = p0) (h12 : 12 ≤ n) : Calls Try.prog 43 #[.pointer (some ⟨gx, 0, none⟩), .int .i64 12] w fun e w' => ∃ A' c', e = .returned (.tuple #[.slice A' 12 c', .int .i64 0]) ∧ w'.heap[gx]? = some (.cells #[.slice A n c, .int .i64 (p0 : Int)] 53 (0, 0)) ∧ Sl w' A' 12 c' (b.take 12) ∧ Sub A' 12 A n ∧ w.grownBy w' (some gx) := by
 have h_ := dtake_ok (a := 0) w hwk sb av_sb_wk hn (by decide) 12 12 p0 rfl (by decide) (by omega) (by omega)
 rw [List.drop_zero] at h_
 exact h_
theorem dtake_head_no {gx n c : Nat} {A : Option Addr} {b : List UInt8} (w : World) (hwk : w.heap[gx]? = some (.cells #[.slice A n c, .int .i64 0] 53 (0, 0))) (sb : Sl w A n c b) (av_sb_wk : Av A n gx) (hn : n ≤ 100000) (h12 : n < 12) : Calls Try.prog 43 #[.pointer (some ⟨gx, 0, none⟩), .int .i64 12] w fun e w' => e = .returned (.tuple #[.slice none 0 0, .int .i64 3]) ∧ w.grownBy w' (some gx) := by
 refine (dtake_no (a := 0) w hwk sb av_sb_wk hn (by decide) 12 12 rfl (by decide) (by omega)).mono ?_
 rintro e w' ⟨h1, _, h2⟩
 exact ⟨h1, h2⟩
set_option linter.unusedVariables false in
set_option linter.unusedSimpArgs false in
set_option maxRecDepth 100000 in
set_option maxHeartbeats 16000000 in
theorem dmsg_short {gx n c : Nat} {A : Option Addr} {b : List UInt8} (w : World) (hwk : w.heap[gx]? = some (.cells #[.slice A n c, .int .i64 0] 53 (0, 0))) (sb : Sl w A n c b) (av_sb_wk : Av A n gx) (hn : n ≤ 100000) (h12 : n < 12) : Calls Try.prog 19 #[.pointer (some ⟨gx, 0, none⟩)] w fun e w' => e = .returned (.tuple #[.agg #[.int .i64 0, .int .i64 0, .slice none 0 0, .slice none 0 0, .slice none 0 0, .slice none 0 0], .int .i64 3]) ∧ w.grownBy w' (some gx) := by
 have hlo := Nat.zero_le w.heap.size
 have owk := Nat.zero_le gx
 have HBL := Lib.hid sb.1
 have n0 : (0 : Int) ≤ n := by omega
 have n1 : (n : Int) ≤ 100000 := by omega
 have hsz := Nat.le_refl w.heap.size
 have fz := fz_refl w (some gx)
 skip
 have bel := Below.refl 0 w
 go_enter Try.func19, Try.ntmps19
 go_wp2_with (first | ((with_reducible show wpList _ _ _ (⟨some 2, _, _, _, _, _⟩ :: _) _ _); refine wpList_new_a rfl 26 rfl #[.int .i64 0, .int .i64 0, .slice none 0 0, .slice none 0 0, .slice none 0 0, .slice none 0 0] (by kernel_rfl) ?_; intro g2 w1 ge hh bb; have d_wk_b2 := ne_new (hlt hwk) ge; have av_sb_b2 := sb.av_new ge; have ob2 := Nat.le_trans (Nat.le_trans hlo bel.size) ge; have pb2 := Nat.le_trans hsz ge; replace hwk := blk_u hwk bb; replace sb := sb.below bb; replace fz := gk_under fz bb hsz; replace hsz := Nat.le_trans hsz bb.size; replace bel := bel.trans (bb.mono (Nat.le_trans hlo bel.size)); have hb2 := hh; clear hh ge bb))
 with_reducible refine (dtake_head_no _ hwk sb av_sb_wk hn h12).mono ?_
 rintro e w2 ⟨rfl, b2⟩
 replace sb := sb.away av_sb_wk b2
 replace hb2 := blk_a hb2 b2 (ne_symm d_wk_b2)
 replace fz := fz_self fz b2
 replace hsz := Nat.le_trans hsz b2.size
 replace bel := below_grown bel b2 owk (Nat.le_trans hlo bel.size)
 clear b2
 clear hwk
 go_wp2_with (first | ((with_reducible show wpList _ _ _ (⟨none, Op.store _ (.tmp 2) _, _, _, _, _⟩ :: _) _ _); refine wpList_store_blk rfl 26 (.tmp 2) (.tmp 19) rfl g2 rfl _ rfl _ 26 hb2 (by rfl) (by kernel_rfl) (by kernel_rfl) ?_; intro w3 hq gr; replace sb := sb.away av_sb_b2 gr; replace fz := fz_new fz gr pb2; replace hsz := Nat.le_trans hsz gr.size; replace bel := below_grown bel gr ob2 (Nat.le_trans hlo bel.size); clear hb2; have hb2 := hq; clear hq gr))
 exact bodyPost_ret (results_cell_tmp_row rfl _ _ _ _ _ _ _ rfl hb2 Try.underlying26 rfl (by kernel_rfl) (.int .i64 3) rfl) rfl ⟨rfl, fz⟩
set_option linter.unusedVariables false in
set_option linter.unusedSimpArgs false in
set_option maxRecDepth 100000 in
set_option maxHeartbeats 16000000 in
theorem dmsg_ok {gx n c : Nat} {A : Option Addr} {b : List UInt8} (w : World) (hwk : w.heap[gx]? = some (.cells #[.slice A n c, .int .i64 0] 53 (0, 0))) (sb : Sl w A n c b) (av_sb_wk : Av A n gx) (hn : n ≤ 100000) (h12 : 12 ≤ n) {m : Mn} {p2 : Nat} (hok : bodyM b = .ok (m, p2)) : Calls Try.prog 19 #[.pointer (some ⟨gx, 0, none⟩)] w fun e w' => ∃ (Q : Option Addr) (qn qc : Nat) (A1 : Option Addr) (an ac : Nat) (O : Option Addr) (on oc : Nat) (M : Option Addr) (mn mc : Nat), e = .returned (.tuple #[.agg #[.int .i64 m.id, .int .i64 m.fl, .slice Q qn qc, .slice A1 an ac, .slice O on oc, .slice M mn mc], .int .i64 0]) ∧ LQ w.heap.size w' 60 Q qn qc m.q ∧ LR w.heap.size w' 36 A1 an ac m.a ∧ LR w.heap.size w' 36 O on oc m.o ∧ LR w.heap.size w' 36 M mn mc m.m ∧ w'.heap[gx]? = some (.cells #[.slice A n c, .int .i64 (p2 : Int)] 53 (0, 0)) ∧ w.grownBy w' (some gx) := by
 have hlo := Nat.zero_le w.heap.size
 have owk := Nat.zero_le gx
 have HBL := Lib.hid sb.1
 have n0 : (0 : Int) ≤ n := by omega
 have n1 : (n : Int) ≤ 100000 := by omega
 have hsz := Nat.le_refl w.heap.size
 have fz := fz_refl w (some gx)
 have HOK := Lib.hid hok
 clear hok
 have H12 := Lib.hid h12
 clear h12
 obtain ⟨p0, hp0_⟩ : ∃ u_, 12 = u_ := ⟨_, rfl⟩
 have HP0 := Lib.hid hp0_
 have P0N : p0 ≤ n := by have h_ := H12.out; omega
 have P0L : p0 ≤ 100000 := by omega
 clear hp0_
 obtain ⟨i0, hi0_⟩ : ∃ u_, nAt b 0 2 = u_ := ⟨_, rfl⟩
 have HN0 := Lib.hid hi0_
 clear hi0_
 have i00_ : (0 : Int) ≤ i0 := by omega
 obtain ⟨f0, hf0_⟩ : ∃ u_, nAt b 2 2 = u_ := ⟨_, rfl⟩
 have HN2 := Lib.hid hf0_
 clear hf0_
 have f00_ : (0 : Int) ≤ f0 := by omega
 obtain ⟨nq, hnq_⟩ : ∃ u_, nAt b 4 2 = u_ := ⟨_, rfl⟩
 have HN4 := Lib.hid hnq_
 clear hnq_
 have nq0_ : (0 : Int) ≤ nq := by omega
 obtain ⟨na, hna_⟩ : ∃ u_, nAt b 6 2 = u_ := ⟨_, rfl⟩
 have HN6 := Lib.hid hna_
 clear hna_
 have na0_ : (0 : Int) ≤ na := by omega
 obtain ⟨no, hno_⟩ : ∃ u_, nAt b 8 2 = u_ := ⟨_, rfl⟩
 have HN8 := Lib.hid hno_
 clear hno_
 have no0_ : (0 : Int) ≤ no := by omega
 obtain ⟨nm, hnm_⟩ : ∃ u_, nAt b 10 2 = u_ := ⟨_, rfl⟩
 have HN10 := Lib.hid hnm_
 clear hnm_
 have nm0_ : (0 : Int) ≤ nm := by omega
 have i016 : (i0 : Int) ≤ 65535 := by have h_ := nAt_lt2 b 0 (by have h1_ := H12.out; have h2_ := HBL.out; omega); rw [HN0.out] at h_; omega
 have f016 : (f0 : Int) ≤ 65535 := by have h_ := nAt_lt2 b 2 (by have h1_ := H12.out; have h2_ := HBL.out; omega); rw [HN2.out] at h_; omega
 have nq16 : (nq : Int) ≤ 65535 := by have h_ := nAt_lt2 b 4 (by have h1_ := H12.out; have h2_ := HBL.out; omega); rw [HN4.out] at h_; omega
 have na16 : (na : Int) ≤ 65535 := by have h_ := nAt_lt2 b 6 (by have h1_ := H12.out; have h2_ := HBL.out; omega); rw [HN6.out] at h_; omega
 have no16 : (no : Int) ≤ 65535 := by have h_ := nAt_lt2 b 8 (by have h1_ := H12.out; have h2_ := HBL.out; omega); rw [HN8.out] at h_; omega
 have nm16 : (nm : Int) ≤ 65535 := by have h_ := nAt_lt2 b 10 (by have h1_ := H12.out; have h2_ := HBL.out; omega); rw [HN10.out] at h_; omega
 have bel := Below.refl 0 w
 go_enter Try.func19, Try.ntmps19
 go_wp2_with (first | ((with_reducible show wpList _ _ _ (⟨some 2, _, _, _, _, _⟩ :: _) _ _); refine wpList_new_a rfl 26 rfl #[.int .i64 0, .int .i64 0, .slice none 0 0, .slice none 0 0, .slice none 0 0, .slice none 0 0] (by kernel_rfl) ?_; intro g2 w1 ge hh bb; have d_wk_b2 := ne_new (hlt hwk) ge; have av_sb_b2 := sb.av_new ge; have ob2 := Nat.le_trans (Nat.le_trans hlo bel.size) ge; have pb2 := Nat.le_trans hsz ge; replace hwk := blk_u hwk bb; replace sb := sb.below bb; replace fz := gk_under fz bb hsz; replace hsz := Nat.le_trans hsz bb.size; replace bel := bel.trans (bb.mono (Nat.le_trans hlo bel.size)); have hb2 := hh; clear hh ge bb))
 with_reducible refine (dtake_head _ hwk sb av_sb_wk hn HP0.out H12.out).mono ?_
 rintro e w2 ⟨A12, c12, rfl, hq_, tk, u_, b2⟩
 replace sb := sb.away av_sb_wk b2
 replace hb2 := blk_a hb2 b2 (ne_symm d_wk_b2)
 replace fz := fz_self fz b2
 replace hsz := Nat.le_trans hsz b2.size
 replace bel := below_grown bel b2 owk (Nat.le_trans hlo bel.size)
 clear b2
 clear hwk
 have hwk := hq_
 clear hq_
 have av_tk_wk := av_sb_wk.sub u_
 have av_tk_b2 := av_sb_b2.sub u_
 clear u_
 go_wp2_with fail
 with_reducible refine (rd_read _ _ _ _ _ tk (by omega)).mono ?_
 rintro e w3 ⟨gr, Ar2, cr2, rfl, ge, hh, rest, frr, avr, b3⟩
 have av_rest_wk := frr.av (hlt hwk)
 have av_rest_b2 := frr.av (hlt hb2)
 have d_wk_r := ne_new (hlt hwk) ge
 have d_b2_r := ne_new (hlt hb2) ge
 have av_sb_r := sb.av_new ge
 have av_tk_r := tk.av_new ge
 have or := Nat.le_trans (Nat.le_trans hlo bel.size) ge
 have pr := Nat.le_trans hsz ge
 replace hwk := blk_u hwk b3
 replace hb2 := blk_u hb2 b3
 replace sb := sb.below b3
 replace tk := tk.below b3
 replace fz := gk_under fz b3 hsz
 replace hsz := Nat.le_trans hsz b3.size
 replace bel := bel.trans (b3.mono (Nat.le_trans hlo bel.size))
 have hr := hh
 clear hh ge b3
 replace rest : Sl w3 (Ar2) (12) (cr2) (b.take 12) := rest
 have HTL : Hid ((b.take 12).length = 12) := Lib.hid tk.1
 have HY0 : Hid (((be (((b.take 12).take 2)) : Nat) : Int) = (i0 : Int)) := Lib.hid (by rw [← HN0.out]; exact congrArg Int.ofNat ((nAt_sub (b := b) (a := 0) (k := 12) (i := 0) (j := 2) rfl (by decide)).trans (by rw [Nat.zero_add])))
 have HY2 : Hid (((be ((((b.take 12).drop 2).take 2)) : Nat) : Int) = (f0 : Int)) := Lib.hid (by rw [← HN2.out]; exact congrArg Int.ofNat ((nAt_sub (b := b) (a := 0) (k := 12) (i := 2) (j := 2) rfl (by decide)).trans (by rw [Nat.zero_add])))
 have HY4 : Hid (((be ((((b.take 12).drop 4).take 2)) : Nat) : Int) = (nq : Int)) := Lib.hid (by rw [← HN4.out]; exact congrArg Int.ofNat ((nAt_sub (b := b) (a := 0) (k := 12) (i := 4) (j := 2) rfl (by decide)).trans (by rw [Nat.zero_add])))
 have HY6 : Hid (((be ((((b.take 12).drop 6).take 2)) : Nat) : Int) = (na : Int)) := Lib.hid (by rw [← HN6.out]; exact congrArg Int.ofNat ((nAt_sub (b := b) (a := 0) (k := 12) (i := 6) (j := 2) rfl (by decide)).trans (by rw [Nat.zero_add])))
 have HY8 : Hid (((be ((((b.take 12).drop 8).take 2)) : Nat) : Int) = (no : Int)) := Lib.hid (by rw [← HN8.out]; exact congrArg Int.ofNat ((nAt_sub (b := b) (a := 0) (k := 12) (i := 8) (j := 2) rfl (by decide)).trans (by rw [Nat.zero_add])))
 have HY10 : Hid (((be ((((b.take 12).drop 10).take 2)) : Nat) : Int) = (nm : Int)) := Lib.hid (by rw [← HN10.out]; exact congrArg Int.ofNat ((nAt_sub (b := b) (a := 0) (k := 12) (i := 10) (j := 2) rfl (by decide)).trans (by rw [Nat.zero_add])))
 go_wp2_with fail
 with_reducible refine (dn_u16 (by have h_ := HTL.out; omega) HY0 hr rest).mono ?_
 rintro e w4 ⟨Au0, nu0, cu0, rfl, hq, sq, uq, b4⟩
 replace sb := sb.away av_sb_r b4
 replace tk := tk.away av_tk_r b4
 replace hwk := blk_a hwk b4 d_wk_r
 replace hb2 := blk_a hb2 b4 d_b2_r
 replace fz := fz_new fz b4 pr
 replace hsz := Nat.le_trans hsz b4.size
 replace bel := below_grown bel b4 or (Nat.le_trans hlo bel.size)
 clear b4
 clear hr rest
 have hr := hq
 have rest := sq
 clear hq sq
 have avu0_rest_wk := av_rest_wk.sub uq
 have avu0_rest_b2 := av_rest_b2.sub uq
 have avu0_rest_r := avr.sub uq
 clear uq
 go_wp2_with fail
 with_reducible refine (dn_u16d (j := 2) (j2 := 4) rfl (by have h_ := HTL.out; omega) HY2 hr rest).mono ?_
 rintro e w5 ⟨Au2, nu2, cu2, rfl, hq, sq, uq, b5⟩
 replace sb := sb.away av_sb_r b5
 replace tk := tk.away av_tk_r b5
 replace hwk := blk_a hwk b5 d_wk_r
 replace hb2 := blk_a hb2 b5 d_b2_r
 replace fz := fz_new fz b5 pr
 replace hsz := Nat.le_trans hsz b5.size
 replace bel := below_grown bel b5 or (Nat.le_trans hlo bel.size)
 clear b5
 clear hr rest
 have hr := hq
 have rest := sq
 clear hq sq
 have avu2_rest_wk := avu0_rest_wk.sub uq
 have avu2_rest_b2 := avu0_rest_b2.sub uq
 have avu2_rest_r := avu0_rest_r.sub uq
 clear uq
 go_wp2_with (first | ((with_reducible show wpList _ _ _ (⟨some 7, _, _, _, _, _⟩ :: _) _ _); refine wpList_new_a rfl 26 rfl #[.int .i64 0, .int .i64 0, .slice none 0 0, .slice none 0 0, .slice none 0 0, .slice none 0 0] (by kernel_rfl) ?_; intro g7 w6 ge hh bb; have d_wk_m := ne_new (hlt hwk) ge; have d_b2_m := ne_new (hlt hb2) ge; have d_r_m := ne_new (hlt hr) ge; have av_sb_m := sb.av_new ge; have av_tk_m := tk.av_new ge; have av_rest_m := rest.av_new ge; have om := Nat.le_trans (Nat.le_trans hlo bel.size) ge; have pm := Nat.le_trans hsz ge; replace hwk := blk_u hwk bb; replace hb2 := blk_u hb2 bb; replace hr := blk_u hr bb; replace sb := sb.below bb; replace tk := tk.below bb; replace rest := rest.below bb; replace fz := gk_under fz bb hsz; replace hsz := Nat.le_trans hsz bb.size; replace bel := bel.trans (bb.mono (Nat.le_trans hlo bel.size)); have hm := hh; clear hh ge bb) | ((with_reducible show wpList _ _ _ (⟨none, Op.store _ (.tmp 7) _, _, _, _, _⟩ :: _) _ _); refine wpList_store_blk rfl 26 (.tmp 7) (.tmp 27) rfl g7 rfl _ rfl _ 26 hm (by rfl) (by kernel_rfl) (by kernel_rfl) ?_; intro w7 hq gr; replace sb := sb.away av_sb_m gr; replace tk := tk.away av_tk_m gr; replace rest := rest.away av_rest_m gr; replace hwk := blk_a hwk gr d_wk_m; replace hb2 := blk_a hb2 gr d_b2_m; replace hr := blk_a hr gr d_r_m; replace fz := fz_new fz gr pm; replace hsz := Nat.le_trans hsz gr.size; replace bel := below_grown bel gr om (Nat.le_trans hlo bel.size); clear hm; have hm := hq; clear hq gr))
 with_reducible refine (dn_u16d (j := 4) (j2 := 6) rfl (by have h_ := HTL.out; omega) HY4 hr rest).mono ?_
 rintro e w8 ⟨Au4, nu4, cu4, rfl, hq, sq, uq, b8⟩
 replace sb := sb.away av_sb_r b8
 replace tk := tk.away av_tk_r b8
 replace hwk := blk_a hwk b8 d_wk_r
 replace hb2 := blk_a hb2 b8 d_b2_r
 replace hm := blk_a hm b8 (ne_symm d_r_m)
 replace fz := fz_new fz b8 pr
 replace hsz := Nat.le_trans hsz b8.size
 replace bel := below_grown bel b8 or (Nat.le_trans hlo bel.size)
 clear b8
 clear hr rest
 have hr := hq
 have rest := sq
 clear hq sq
 have avu4_rest_wk := avu2_rest_wk.sub uq
 have avu4_rest_b2 := avu2_rest_b2.sub uq
 have avu4_rest_r := avu2_rest_r.sub uq
 have avu4_rest_m := av_rest_m.sub uq
 clear uq
 go_wp2_with fail
 with_reducible refine (dn_u16d (j := 6) (j2 := 8) rfl (by have h_ := HTL.out; omega) HY6 hr rest).mono ?_
 rintro e w9 ⟨Au6, nu6, cu6, rfl, hq, sq, uq, b9⟩
 replace sb := sb.away av_sb_r b9
 replace tk := tk.away av_tk_r b9
 replace hwk := blk_a hwk b9 d_wk_r
 replace hb2 := blk_a hb2 b9 d_b2_r
 replace hm := blk_a hm b9 (ne_symm d_r_m)
 replace fz := fz_new fz b9 pr
 replace hsz := Nat.le_trans hsz b9.size
 replace bel := below_grown bel b9 or (Nat.le_trans hlo bel.size)
 clear b9
 clear hr rest
 have hr := hq
 have rest := sq
 clear hq sq
 have avu6_rest_wk := avu4_rest_wk.sub uq
 have avu6_rest_b2 := avu4_rest_b2.sub uq
 have avu6_rest_r := avu4_rest_r.sub uq
 have avu6_rest_m := avu4_rest_m.sub uq
 clear uq
 go_wp2_with fail
 with_reducible refine (dn_u16d (j := 8) (j2 := 10) rfl (by have h_ := HTL.out; omega) HY8 hr rest).mono ?_
 rintro e w10 ⟨Au8, nu8, cu8, rfl, hq, sq, uq, b10⟩
 replace sb := sb.away av_sb_r b10
 replace tk := tk.away av_tk_r b10
 replace hwk := blk_a hwk b10 d_wk_r
 replace hb2 := blk_a hb2 b10 d_b2_r
 replace hm := blk_a hm b10 (ne_symm d_r_m)
 replace fz := fz_new fz b10 pr
 replace hsz := Nat.le_trans hsz b10.size
 replace bel := below_grown bel b10 or (Nat.le_trans hlo bel.size)
 clear b10
 clear hr rest
 have hr := hq
 have rest := sq
 clear hq sq
 have avu8_rest_wk := avu6_rest_wk.sub uq
 have avu8_rest_b2 := avu6_rest_b2.sub uq
 have avu8_rest_r := avu6_rest_r.sub uq
 have avu8_rest_m := avu6_rest_m.sub uq
 clear uq
 go_wp2_with fail
 with_reducible refine (dn_u16d (j := 10) (j2 := 12) rfl (by have h_ := HTL.out; omega) HY10 hr rest).mono ?_
 rintro e w11 ⟨Au10, nu10, cu10, rfl, hq, sq, uq, b11⟩
 replace sb := sb.away av_sb_r b11
 replace tk := tk.away av_tk_r b11
 replace hwk := blk_a hwk b11 d_wk_r
 replace hb2 := blk_a hb2 b11 d_b2_r
 replace hm := blk_a hm b11 (ne_symm d_r_m)
 replace fz := fz_new fz b11 pr
 replace hsz := Nat.le_trans hsz b11.size
 replace bel := below_grown bel b11 or (Nat.le_trans hlo bel.size)
 clear b11
 clear hr rest
 have hr := hq
 have rest := sq
 clear hq sq
 have avu10_rest_wk := avu8_rest_wk.sub uq
 have avu10_rest_b2 := avu8_rest_b2.sub uq
 have avu10_rest_r := avu8_rest_r.sub uq
 have avu10_rest_m := avu8_rest_m.sub uq
 clear uq
 by_cases hsm : 64 < nq + na + no + nm
 ·have hs1 : (64 : Int) < (nq : Int) + na + no + nm := by omega
  have HSM : Hid (64 < nq + na + no + nm) := Lib.hid hsm
  have h_ := (bodyM_many HN4.out HN6.out HN8.out HN10.out HSM.out).symm.trans HOK.out
  cases h_
 have hs1 : decide ((64 : Int) < (nq : Int) + na + no + nm) = false := decide_eq_false (by omega)
 have HSM : Hid (¬ 64 < nq + na + no + nm) := Lib.hid hsm
 have bq : (nq : Int) ≤ 64 := by omega
 have ba : (na : Int) ≤ 64 := by omega
 have bo : (no : Int) ≤ 64 := by omega
 have bm : (nm : Int) ≤ 64 := by omega
 rcases hx : goL (qAt b) nq p0 [] with er_ | ⟨q, a1⟩
 ·have HGE := Lib.hid hx
  clear hx
  have h_ := (bodyM_q HN4.out HN6.out HN8.out HN10.out HSM.out (HP0.out ▸ HGE.out)).symm.trans HOK.out
  cases h_
 have HGQ := Lib.hid hx
 clear hx
 have HLa1 := Lib.hid (goLq_le (by have h_ := HBL.out; omega) HGQ.out)
 have A1N : a1 ≤ n := by have h_ := HLa1.out; have h1_ := HBL.out; omega
 have A1L : a1 ≤ 100000 := by have h_ := HLa1.out; have h1_ := HBL.out; omega
 go_wp2_with fail
 have HS_hLQ := hsz
 with_reducible refine (dlistq_ok _ hwk sb av_sb_wk hn P0L P0N nq (by omega) HGQ.out).mono ?_
 rintro e w12 ⟨Qq, cq, rfl, hLQ, hq_, b12⟩
 replace sb := sb.away av_sb_wk b12
 replace tk := tk.away av_tk_wk b12
 replace rest := rest.away avu10_rest_wk b12
 replace hb2 := blk_a hb2 b12 (ne_symm d_wk_b2)
 replace hr := blk_a hr b12 (ne_symm d_wk_r)
 replace hm := blk_a hm b12 (ne_symm d_wk_m)
 replace fz := fz_self fz b12
 replace hsz := Nat.le_trans hsz b12.size
 replace bel := below_grown bel b12 owk (Nat.le_trans hlo bel.size)
 clear b12
 clear hwk
 have hwk := hq_
 clear hq_
 replace hLQ := hLQ.lower HS_hLQ
 rcases hx : goL (rAt b) na a1 [] with er_ | ⟨a_, a2⟩
 ·have HGE := Lib.hid hx
  clear hx
  have h_ := (bodyM_a HN4.out HN6.out HN8.out HN10.out HSM.out (HP0.out ▸ HGQ.out) HGE.out).symm.trans HOK.out
  cases h_
 have HGA := Lib.hid hx
 clear hx
 have HLa2 := Lib.hid (goLr_le HLa1.out HGA.out)
 have A2N : a2 ≤ n := by have h_ := HLa2.out; have h1_ := HBL.out; omega
 have A2L : a2 ≤ 100000 := by have h_ := HLa2.out; have h1_ := HBL.out; omega
 go_wp2_with (first | ((with_reducible show wpList _ _ _ (⟨none, Op.store _ (.tmp 52) _, _, _, _, _⟩ :: _) _ _); refine wpList_store_part rfl 23 (.tmp 52) (.tmp 50) rfl g7 2 rfl [.slice Qq nq cq] rfl [.int .i64 (i0 : Int), .int .i64 (f0 : Int), .slice none 0 0, .slice none 0 0, .slice none 0 0, .slice none 0 0] 26 hm (by simp) [.int .i64 (i0 : Int), .int .i64 (f0 : Int), .slice Qq nq cq, .slice none 0 0, .slice none 0 0, .slice none 0 0] rfl (by kernel_rfl) (by rfl) ?_; intro w13 hq gr; replace sb := sb.away av_sb_m gr; replace tk := tk.away av_tk_m gr; replace rest := rest.away avu10_rest_m gr; replace hwk := blk_a hwk gr d_wk_m; replace hb2 := blk_a hb2 gr d_b2_m; replace hr := blk_a hr gr d_r_m; replace fz := fz_new fz gr pm; replace hsz := Nat.le_trans hsz gr.size; replace hLQ := hLQ.kt (S := [26]) (kt_grown gr hm (by simp)) (by decide) (by decide); replace bel := below_grown bel gr om (Nat.le_trans hlo bel.size); clear hm; have hm := hq; clear hq gr))
 have HS_hLA := hsz
 with_reducible refine (dlistr_ok _ hwk sb av_sb_wk hn A1L A1N na (by omega) HGA.out).mono ?_
 rintro e w14 ⟨Qa, ca, rfl, hLA, hq_, b14⟩
 replace sb := sb.away av_sb_wk b14
 replace tk := tk.away av_tk_wk b14
 replace rest := rest.away avu10_rest_wk b14
 replace hb2 := blk_a hb2 b14 (ne_symm d_wk_b2)
 replace hr := blk_a hr b14 (ne_symm d_wk_r)
 replace hm := blk_a hm b14 (ne_symm d_wk_m)
 replace fz := fz_self fz b14
 replace hsz := Nat.le_trans hsz b14.size
 replace hLQ := hLQ.kt (S := [53]) (kt_grown b14 hwk (by simp)) (by decide) (by decide)
 replace bel := below_grown bel b14 owk (Nat.le_trans hlo bel.size)
 clear b14
 clear hwk
 have hwk := hq_
 clear hq_
 replace hLA := hLA.lower HS_hLA
 rcases hx : goL (rAt b) no a2 [] with er_ | ⟨o_, a3⟩
 ·have HGE := Lib.hid hx
  clear hx
  have h_ := (bodyM_o HN4.out HN6.out HN8.out HN10.out HSM.out (HP0.out ▸ HGQ.out) HGA.out HGE.out).symm.trans HOK.out
  cases h_
 have HGO := Lib.hid hx
 clear hx
 have HLa3 := Lib.hid (goLr_le HLa2.out HGO.out)
 have A3N : a3 ≤ n := by have h_ := HLa3.out; have h1_ := HBL.out; omega
 have A3L : a3 ≤ 100000 := by have h_ := HLa3.out; have h1_ := HBL.out; omega
 go_wp2_with (first | ((with_reducible show wpList _ _ _ (⟨none, Op.store _ (.tmp 62) _, _, _, _, _⟩ :: _) _ _); refine wpList_store_part rfl 24 (.tmp 62) (.tmp 60) rfl g7 3 rfl [.slice Qa na ca] rfl [.int .i64 (i0 : Int), .int .i64 (f0 : Int), .slice Qq nq cq, .slice none 0 0, .slice none 0 0, .slice none 0 0] 26 hm (by simp) [.int .i64 (i0 : Int), .int .i64 (f0 : Int), .slice Qq nq cq, .slice Qa na ca, .slice none 0 0, .slice none 0 0] rfl (by kernel_rfl) (by rfl) ?_; intro w15 hq gr; replace sb := sb.away av_sb_m gr; replace tk := tk.away av_tk_m gr; replace rest := rest.away avu10_rest_m gr; replace hwk := blk_a hwk gr d_wk_m; replace hb2 := blk_a hb2 gr d_b2_m; replace hr := blk_a hr gr d_r_m; replace fz := fz_new fz gr pm; replace hsz := Nat.le_trans hsz gr.size; replace hLQ := hLQ.kt (S := [26]) (kt_grown gr hm (by simp)) (by decide) (by decide); replace hLA := hLA.kt (S := [26]) (kt_grown gr hm (by simp)) (by decide) (by decide); replace bel := below_grown bel gr om (Nat.le_trans hlo bel.size); clear hm; have hm := hq; clear hq gr))
 have HS_hLO := hsz
 with_reducible refine (dlistr_ok _ hwk sb av_sb_wk hn A2L A2N no (by omega) HGO.out).mono ?_
 rintro e w16 ⟨Qo, co, rfl, hLO, hq_, b16⟩
 replace sb := sb.away av_sb_wk b16
 replace tk := tk.away av_tk_wk b16
 replace rest := rest.away avu10_rest_wk b16
 replace hb2 := blk_a hb2 b16 (ne_symm d_wk_b2)
 replace hr := blk_a hr b16 (ne_symm d_wk_r)
 replace hm := blk_a hm b16 (ne_symm d_wk_m)
 replace fz := fz_self fz b16
 replace hsz := Nat.le_trans hsz b16.size
 replace hLQ := hLQ.kt (S := [53]) (kt_grown b16 hwk (by simp)) (by decide) (by decide)
 replace hLA := hLA.kt (S := [53]) (kt_grown b16 hwk (by simp)) (by decide) (by decide)
 replace bel := below_grown bel b16 owk (Nat.le_trans hlo bel.size)
 clear b16
 clear hwk
 have hwk := hq_
 clear hq_
 replace hLO := hLO.lower HS_hLO
 rcases hx : goL (rAt b) nm a3 [] with er_ | ⟨m_, a4⟩
 ·have HGE := Lib.hid hx
  clear hx
  have h_ := (bodyM_m HN4.out HN6.out HN8.out HN10.out HSM.out (HP0.out ▸ HGQ.out) HGA.out HGO.out HGE.out).symm.trans HOK.out
  cases h_
 have HGM := Lib.hid hx
 clear hx
 skip
 go_wp2_with (first | ((with_reducible show wpList _ _ _ (⟨none, Op.store _ (.tmp 72) _, _, _, _, _⟩ :: _) _ _); refine wpList_store_part rfl 24 (.tmp 72) (.tmp 70) rfl g7 4 rfl [.slice Qo no co] rfl [.int .i64 (i0 : Int), .int .i64 (f0 : Int), .slice Qq nq cq, .slice Qa na ca, .slice none 0 0, .slice none 0 0] 26 hm (by simp) [.int .i64 (i0 : Int), .int .i64 (f0 : Int), .slice Qq nq cq, .slice Qa na ca, .slice Qo no co, .slice none 0 0] rfl (by kernel_rfl) (by rfl) ?_; intro w17 hq gr; replace sb := sb.away av_sb_m gr; replace tk := tk.away av_tk_m gr; replace rest := rest.away avu10_rest_m gr; replace hwk := blk_a hwk gr d_wk_m; replace hb2 := blk_a hb2 gr d_b2_m; replace hr := blk_a hr gr d_r_m; replace fz := fz_new fz gr pm; replace hsz := Nat.le_trans hsz gr.size; replace hLQ := hLQ.kt (S := [26]) (kt_grown gr hm (by simp)) (by decide) (by decide); replace hLA := hLA.kt (S := [26]) (kt_grown gr hm (by simp)) (by decide) (by decide); replace hLO := hLO.kt (S := [26]) (kt_grown gr hm (by simp)) (by decide) (by decide); replace bel := below_grown bel gr om (Nat.le_trans hlo bel.size); clear hm; have hm := hq; clear hq gr))
 have HS_hLM := hsz
 with_reducible refine (dlistr_ok _ hwk sb av_sb_wk hn A3L A3N nm (by omega) HGM.out).mono ?_
 rintro e w18 ⟨Qm, cm, rfl, hLM, hq_, b18⟩
 replace sb := sb.away av_sb_wk b18
 replace tk := tk.away av_tk_wk b18
 replace rest := rest.away avu10_rest_wk b18
 replace hb2 := blk_a hb2 b18 (ne_symm d_wk_b2)
 replace hr := blk_a hr b18 (ne_symm d_wk_r)
 replace hm := blk_a hm b18 (ne_symm d_wk_m)
 replace fz := fz_self fz b18
 replace hsz := Nat.le_trans hsz b18.size
 replace hLQ := hLQ.kt (S := [53]) (kt_grown b18 hwk (by simp)) (by decide) (by decide)
 replace hLA := hLA.kt (S := [53]) (kt_grown b18 hwk (by simp)) (by decide) (by decide)
 replace hLO := hLO.kt (S := [53]) (kt_grown b18 hwk (by simp)) (by decide) (by decide)
 replace bel := below_grown bel b18 owk (Nat.le_trans hlo bel.size)
 clear b18
 clear hwk
 have hwk := hq_
 clear hq_
 replace hLM := hLM.lower HS_hLM
 have HME : Hid ((⟨nAt b 0 2, nAt b 2 2, q, a_, o_, m_⟩ : Mn) = m ∧ a4 = p2) := Lib.hid (by have h_ := (bodyM_yes HN4.out HN6.out HN8.out HN10.out HSM.out (HP0.out ▸ HGQ.out) HGA.out HGO.out HGM.out).symm.trans HOK.out; injection h_ with h_; injection h_ with h1_ h2_; exact ⟨h1_, h2_⟩)
 go_wp2_with (first | ((with_reducible show wpList _ _ _ (⟨none, Op.store _ (.tmp 82) _, _, _, _, _⟩ :: _) _ _); refine wpList_store_part rfl 24 (.tmp 82) (.tmp 80) rfl g7 5 rfl [.slice Qm nm cm] rfl [.int .i64 (i0 : Int), .int .i64 (f0 : Int), .slice Qq nq cq, .slice Qa na ca, .slice Qo no co, .slice none 0 0] 26 hm (by simp) [.int .i64 (i0 : Int), .int .i64 (f0 : Int), .slice Qq nq cq, .slice Qa na ca, .slice Qo no co, .slice Qm nm cm] rfl (by kernel_rfl) (by rfl) ?_; intro w19 hq gr; replace sb := sb.away av_sb_m gr; replace tk := tk.away av_tk_m gr; replace rest := rest.away avu10_rest_m gr; replace hwk := blk_a hwk gr d_wk_m; replace hb2 := blk_a hb2 gr d_b2_m; replace hr := blk_a hr gr d_r_m; replace fz := fz_new fz gr pm; replace hsz := Nat.le_trans hsz gr.size; replace hLQ := hLQ.kt (S := [26]) (kt_grown gr hm (by simp)) (by decide) (by decide); replace hLA := hLA.kt (S := [26]) (kt_grown gr hm (by simp)) (by decide) (by decide); replace hLO := hLO.kt (S := [26]) (kt_grown gr hm (by simp)) (by decide) (by decide); replace hLM := hLM.kt (S := [26]) (kt_grown gr hm (by simp)) (by decide) (by decide); replace bel := below_grown bel gr om (Nat.le_trans hlo bel.size); clear hm; have hm := hq; clear hq gr; have R83 := Lib.hid (range_lit hm 0 6 [.int .i64 (i0 : Int), .int .i64 (f0 : Int), .slice Qq nq cq, .slice Qa na ca, .slice Qo no co, .slice Qm nm cm] rfl)) | ((with_reducible show wpList _ _ _ (⟨some 83, _, _, _, _, _⟩ :: _) _ _); refine wpList_load_rng 26 (.tmp 7) rfl (by kernel_rfl) _ _ rfl _ R83.out _ Try.underlying26 rfl (by kernel_rfl) ?_) | ((with_reducible show wpList _ _ _ (⟨none, Op.store _ (.tmp 2) _, _, _, _, _⟩ :: _) _ _); refine wpList_store_blk rfl 26 (.tmp 2) (.tmp 83) rfl g2 rfl _ rfl _ 26 hb2 (by rfl) (by kernel_rfl) (by kernel_rfl) ?_; intro w20 hq gr; replace sb := sb.away av_sb_b2 gr; replace tk := tk.away av_tk_b2 gr; replace rest := rest.away avu10_rest_b2 gr; replace hwk := blk_a hwk gr d_wk_b2; replace hr := blk_a hr gr (ne_symm d_b2_r); replace hm := blk_a hm gr (ne_symm d_b2_m); replace fz := fz_new fz gr pb2; replace hsz := Nat.le_trans hsz gr.size; replace hLQ := hLQ.kt (S := [26]) (kt_grown gr hb2 (by simp)) (by decide) (by decide); replace hLA := hLA.kt (S := [26]) (kt_grown gr hb2 (by simp)) (by decide) (by decide); replace hLO := hLO.kt (S := [26]) (kt_grown gr hb2 (by simp)) (by decide) (by decide); replace hLM := hLM.kt (S := [26]) (kt_grown gr hb2 (by simp)) (by decide) (by decide); replace bel := below_grown bel gr ob2 (Nat.le_trans hlo bel.size); clear hb2; have hb2 := hq; clear hq gr))
 try clear R83
 exact bodyPost_ret (results_cell_tmp_row rfl _ _ _ _ _ _ _ rfl hb2 Try.underlying26 rfl (by kernel_rfl) (.int .i64 0) rfl) rfl ⟨_, _, _, _, _, _, _, _, _, _, _, _, by rw [← HME.out.1, ← HN0.out, ← HN2.out], by rw [← HME.out.1]; exact hLQ, by rw [← HME.out.1]; exact hLA, by rw [← HME.out.1]; exact hLO, by rw [← HME.out.1]; exact hLM, by rw [← HME.out.2]; exact hwk, fz⟩
set_option linter.unusedVariables false in
set_option linter.unusedSimpArgs false in
set_option maxRecDepth 100000 in
set_option maxHeartbeats 16000000 in
theorem dmsg_no {gx n c : Nat} {A : Option Addr} {b : List UInt8} (w : World) (hwk : w.heap[gx]? = some (.cells #[.slice A n c, .int .i64 0] 53 (0, 0))) (sb : Sl w A n c b) (av_sb_wk : Av A n gx) (hn : n ≤ 100000) (h12 : 12 ≤ n) {er : Nat} (hno : bodyM b = .error er) (y : Int) (hy : (er : Int) = y) : Calls Try.prog 19 #[.pointer (some ⟨gx, 0, none⟩)] w fun e w' => ∃ (i f : Int), ∃ (Q : Option Addr) (qn qc : Nat) (A1 : Option Addr) (an ac : Nat) (O : Option Addr) (on oc : Nat) (M : Option Addr) (mn mc : Nat), e = .returned (.tuple #[.agg #[.int .i64 i, .int .i64 f, .slice Q qn qc, .slice A1 an ac, .slice O on oc, .slice M mn mc], .int .i64 y]) ∧ w.grownBy w' (some gx) := by
 have hlo := Nat.zero_le w.heap.size
 have owk := Nat.zero_le gx
 have HBL := Lib.hid sb.1
 have n0 : (0 : Int) ≤ n := by omega
 have n1 : (n : Int) ≤ 100000 := by omega
 have hsz := Nat.le_refl w.heap.size
 have fz := fz_refl w (some gx)
 have HER0 := Lib.hid hy
 have y0 : y ≠ 0 := by have h_ := bodyM_err hno; omega
 have y1 : (y == 0) = false := by simpa using y0
 have HOK := Lib.hid hno
 clear hno hy y0
 have H12 := Lib.hid h12
 clear h12
 obtain ⟨p0, hp0_⟩ : ∃ u_, 12 = u_ := ⟨_, rfl⟩
 have HP0 := Lib.hid hp0_
 have P0N : p0 ≤ n := by have h_ := H12.out; omega
 have P0L : p0 ≤ 100000 := by omega
 clear hp0_
 obtain ⟨i0, hi0_⟩ : ∃ u_, nAt b 0 2 = u_ := ⟨_, rfl⟩
 have HN0 := Lib.hid hi0_
 clear hi0_
 have i00_ : (0 : Int) ≤ i0 := by omega
 obtain ⟨f0, hf0_⟩ : ∃ u_, nAt b 2 2 = u_ := ⟨_, rfl⟩
 have HN2 := Lib.hid hf0_
 clear hf0_
 have f00_ : (0 : Int) ≤ f0 := by omega
 obtain ⟨nq, hnq_⟩ : ∃ u_, nAt b 4 2 = u_ := ⟨_, rfl⟩
 have HN4 := Lib.hid hnq_
 clear hnq_
 have nq0_ : (0 : Int) ≤ nq := by omega
 obtain ⟨na, hna_⟩ : ∃ u_, nAt b 6 2 = u_ := ⟨_, rfl⟩
 have HN6 := Lib.hid hna_
 clear hna_
 have na0_ : (0 : Int) ≤ na := by omega
 obtain ⟨no, hno_⟩ : ∃ u_, nAt b 8 2 = u_ := ⟨_, rfl⟩
 have HN8 := Lib.hid hno_
 clear hno_
 have no0_ : (0 : Int) ≤ no := by omega
 obtain ⟨nm, hnm_⟩ : ∃ u_, nAt b 10 2 = u_ := ⟨_, rfl⟩
 have HN10 := Lib.hid hnm_
 clear hnm_
 have nm0_ : (0 : Int) ≤ nm := by omega
 have i016 : (i0 : Int) ≤ 65535 := by have h_ := nAt_lt2 b 0 (by have h1_ := H12.out; have h2_ := HBL.out; omega); rw [HN0.out] at h_; omega
 have f016 : (f0 : Int) ≤ 65535 := by have h_ := nAt_lt2 b 2 (by have h1_ := H12.out; have h2_ := HBL.out; omega); rw [HN2.out] at h_; omega
 have nq16 : (nq : Int) ≤ 65535 := by have h_ := nAt_lt2 b 4 (by have h1_ := H12.out; have h2_ := HBL.out; omega); rw [HN4.out] at h_; omega
 have na16 : (na : Int) ≤ 65535 := by have h_ := nAt_lt2 b 6 (by have h1_ := H12.out; have h2_ := HBL.out; omega); rw [HN6.out] at h_; omega
 have no16 : (no : Int) ≤ 65535 := by have h_ := nAt_lt2 b 8 (by have h1_ := H12.out; have h2_ := HBL.out; omega); rw [HN8.out] at h_; omega
 have nm16 : (nm : Int) ≤ 65535 := by have h_ := nAt_lt2 b 10 (by have h1_ := H12.out; have h2_ := HBL.out; omega); rw [HN10.out] at h_; omega
 have bel := Below.refl 0 w
 go_enter Try.func19, Try.ntmps19
 go_wp2_with (first | ((with_reducible show wpList _ _ _ (⟨some 2, _, _, _, _, _⟩ :: _) _ _); refine wpList_new_a rfl 26 rfl #[.int .i64 0, .int .i64 0, .slice none 0 0, .slice none 0 0, .slice none 0 0, .slice none 0 0] (by kernel_rfl) ?_; intro g2 w1 ge hh bb; have d_wk_b2 := ne_new (hlt hwk) ge; have av_sb_b2 := sb.av_new ge; have ob2 := Nat.le_trans (Nat.le_trans hlo bel.size) ge; have pb2 := Nat.le_trans hsz ge; replace hwk := blk_u hwk bb; replace sb := sb.below bb; replace fz := gk_under fz bb hsz; replace hsz := Nat.le_trans hsz bb.size; replace bel := bel.trans (bb.mono (Nat.le_trans hlo bel.size)); have hb2 := hh; clear hh ge bb))
 with_reducible refine (dtake_head _ hwk sb av_sb_wk hn HP0.out H12.out).mono ?_
 rintro e w2 ⟨A12, c12, rfl, hq_, tk, u_, b2⟩
 replace sb := sb.away av_sb_wk b2
 replace hb2 := blk_a hb2 b2 (ne_symm d_wk_b2)
 replace fz := fz_self fz b2
 replace hsz := Nat.le_trans hsz b2.size
 replace bel := below_grown bel b2 owk (Nat.le_trans hlo bel.size)
 clear b2
 clear hwk
 have hwk := hq_
 clear hq_
 have av_tk_wk := av_sb_wk.sub u_
 have av_tk_b2 := av_sb_b2.sub u_
 clear u_
 go_wp2_with fail
 with_reducible refine (rd_read _ _ _ _ _ tk (by omega)).mono ?_
 rintro e w3 ⟨gr, Ar2, cr2, rfl, ge, hh, rest, frr, avr, b3⟩
 have av_rest_wk := frr.av (hlt hwk)
 have av_rest_b2 := frr.av (hlt hb2)
 have d_wk_r := ne_new (hlt hwk) ge
 have d_b2_r := ne_new (hlt hb2) ge
 have av_sb_r := sb.av_new ge
 have av_tk_r := tk.av_new ge
 have or := Nat.le_trans (Nat.le_trans hlo bel.size) ge
 have pr := Nat.le_trans hsz ge
 replace hwk := blk_u hwk b3
 replace hb2 := blk_u hb2 b3
 replace sb := sb.below b3
 replace tk := tk.below b3
 replace fz := gk_under fz b3 hsz
 replace hsz := Nat.le_trans hsz b3.size
 replace bel := bel.trans (b3.mono (Nat.le_trans hlo bel.size))
 have hr := hh
 clear hh ge b3
 replace rest : Sl w3 (Ar2) (12) (cr2) (b.take 12) := rest
 have HTL : Hid ((b.take 12).length = 12) := Lib.hid tk.1
 have HY0 : Hid (((be (((b.take 12).take 2)) : Nat) : Int) = (i0 : Int)) := Lib.hid (by rw [← HN0.out]; exact congrArg Int.ofNat ((nAt_sub (b := b) (a := 0) (k := 12) (i := 0) (j := 2) rfl (by decide)).trans (by rw [Nat.zero_add])))
 have HY2 : Hid (((be ((((b.take 12).drop 2).take 2)) : Nat) : Int) = (f0 : Int)) := Lib.hid (by rw [← HN2.out]; exact congrArg Int.ofNat ((nAt_sub (b := b) (a := 0) (k := 12) (i := 2) (j := 2) rfl (by decide)).trans (by rw [Nat.zero_add])))
 have HY4 : Hid (((be ((((b.take 12).drop 4).take 2)) : Nat) : Int) = (nq : Int)) := Lib.hid (by rw [← HN4.out]; exact congrArg Int.ofNat ((nAt_sub (b := b) (a := 0) (k := 12) (i := 4) (j := 2) rfl (by decide)).trans (by rw [Nat.zero_add])))
 have HY6 : Hid (((be ((((b.take 12).drop 6).take 2)) : Nat) : Int) = (na : Int)) := Lib.hid (by rw [← HN6.out]; exact congrArg Int.ofNat ((nAt_sub (b := b) (a := 0) (k := 12) (i := 6) (j := 2) rfl (by decide)).trans (by rw [Nat.zero_add])))
 have HY8 : Hid (((be ((((b.take 12).drop 8).take 2)) : Nat) : Int) = (no : Int)) := Lib.hid (by rw [← HN8.out]; exact congrArg Int.ofNat ((nAt_sub (b := b) (a := 0) (k := 12) (i := 8) (j := 2) rfl (by decide)).trans (by rw [Nat.zero_add])))
 have HY10 : Hid (((be ((((b.take 12).drop 10).take 2)) : Nat) : Int) = (nm : Int)) := Lib.hid (by rw [← HN10.out]; exact congrArg Int.ofNat ((nAt_sub (b := b) (a := 0) (k := 12) (i := 10) (j := 2) rfl (by decide)).trans (by rw [Nat.zero_add])))
 go_wp2_with fail
 with_reducible refine (dn_u16 (by have h_ := HTL.out; omega) HY0 hr rest).mono ?_
 rintro e w4 ⟨Au0, nu0, cu0, rfl, hq, sq, uq, b4⟩
 replace sb := sb.away av_sb_r b4
 replace tk := tk.away av_tk_r b4
 replace hwk := blk_a hwk b4 d_wk_r
 replace hb2 := blk_a hb2 b4 d_b2_r
 replace fz := fz_new fz b4 pr
 replace hsz := Nat.le_trans hsz b4.size
 replace bel := below_grown bel b4 or (Nat.le_trans hlo bel.size)
 clear b4
 clear hr rest
 have hr := hq
 have rest := sq
 clear hq sq
 have avu0_rest_wk := av_rest_wk.sub uq
 have avu0_rest_b2 := av_rest_b2.sub uq
 have avu0_rest_r := avr.sub uq
 clear uq
 go_wp2_with fail
 with_reducible refine (dn_u16d (j := 2) (j2 := 4) rfl (by have h_ := HTL.out; omega) HY2 hr rest).mono ?_
 rintro e w5 ⟨Au2, nu2, cu2, rfl, hq, sq, uq, b5⟩
 replace sb := sb.away av_sb_r b5
 replace tk := tk.away av_tk_r b5
 replace hwk := blk_a hwk b5 d_wk_r
 replace hb2 := blk_a hb2 b5 d_b2_r
 replace fz := fz_new fz b5 pr
 replace hsz := Nat.le_trans hsz b5.size
 replace bel := below_grown bel b5 or (Nat.le_trans hlo bel.size)
 clear b5
 clear hr rest
 have hr := hq
 have rest := sq
 clear hq sq
 have avu2_rest_wk := avu0_rest_wk.sub uq
 have avu2_rest_b2 := avu0_rest_b2.sub uq
 have avu2_rest_r := avu0_rest_r.sub uq
 clear uq
 go_wp2_with (first | ((with_reducible show wpList _ _ _ (⟨some 7, _, _, _, _, _⟩ :: _) _ _); refine wpList_new_a rfl 26 rfl #[.int .i64 0, .int .i64 0, .slice none 0 0, .slice none 0 0, .slice none 0 0, .slice none 0 0] (by kernel_rfl) ?_; intro g7 w6 ge hh bb; have d_wk_m := ne_new (hlt hwk) ge; have d_b2_m := ne_new (hlt hb2) ge; have d_r_m := ne_new (hlt hr) ge; have av_sb_m := sb.av_new ge; have av_tk_m := tk.av_new ge; have av_rest_m := rest.av_new ge; have om := Nat.le_trans (Nat.le_trans hlo bel.size) ge; have pm := Nat.le_trans hsz ge; replace hwk := blk_u hwk bb; replace hb2 := blk_u hb2 bb; replace hr := blk_u hr bb; replace sb := sb.below bb; replace tk := tk.below bb; replace rest := rest.below bb; replace fz := gk_under fz bb hsz; replace hsz := Nat.le_trans hsz bb.size; replace bel := bel.trans (bb.mono (Nat.le_trans hlo bel.size)); have hm := hh; clear hh ge bb) | ((with_reducible show wpList _ _ _ (⟨none, Op.store _ (.tmp 7) _, _, _, _, _⟩ :: _) _ _); refine wpList_store_blk rfl 26 (.tmp 7) (.tmp 27) rfl g7 rfl _ rfl _ 26 hm (by rfl) (by kernel_rfl) (by kernel_rfl) ?_; intro w7 hq gr; replace sb := sb.away av_sb_m gr; replace tk := tk.away av_tk_m gr; replace rest := rest.away av_rest_m gr; replace hwk := blk_a hwk gr d_wk_m; replace hb2 := blk_a hb2 gr d_b2_m; replace hr := blk_a hr gr d_r_m; replace fz := fz_new fz gr pm; replace hsz := Nat.le_trans hsz gr.size; replace bel := below_grown bel gr om (Nat.le_trans hlo bel.size); clear hm; have hm := hq; clear hq gr))
 with_reducible refine (dn_u16d (j := 4) (j2 := 6) rfl (by have h_ := HTL.out; omega) HY4 hr rest).mono ?_
 rintro e w8 ⟨Au4, nu4, cu4, rfl, hq, sq, uq, b8⟩
 replace sb := sb.away av_sb_r b8
 replace tk := tk.away av_tk_r b8
 replace hwk := blk_a hwk b8 d_wk_r
 replace hb2 := blk_a hb2 b8 d_b2_r
 replace hm := blk_a hm b8 (ne_symm d_r_m)
 replace fz := fz_new fz b8 pr
 replace hsz := Nat.le_trans hsz b8.size
 replace bel := below_grown bel b8 or (Nat.le_trans hlo bel.size)
 clear b8
 clear hr rest
 have hr := hq
 have rest := sq
 clear hq sq
 have avu4_rest_wk := avu2_rest_wk.sub uq
 have avu4_rest_b2 := avu2_rest_b2.sub uq
 have avu4_rest_r := avu2_rest_r.sub uq
 have avu4_rest_m := av_rest_m.sub uq
 clear uq
 go_wp2_with fail
 with_reducible refine (dn_u16d (j := 6) (j2 := 8) rfl (by have h_ := HTL.out; omega) HY6 hr rest).mono ?_
 rintro e w9 ⟨Au6, nu6, cu6, rfl, hq, sq, uq, b9⟩
 replace sb := sb.away av_sb_r b9
 replace tk := tk.away av_tk_r b9
 replace hwk := blk_a hwk b9 d_wk_r
 replace hb2 := blk_a hb2 b9 d_b2_r
 replace hm := blk_a hm b9 (ne_symm d_r_m)
 replace fz := fz_new fz b9 pr
 replace hsz := Nat.le_trans hsz b9.size
 replace bel := below_grown bel b9 or (Nat.le_trans hlo bel.size)
 clear b9
 clear hr rest
 have hr := hq
 have rest := sq
 clear hq sq
 have avu6_rest_wk := avu4_rest_wk.sub uq
 have avu6_rest_b2 := avu4_rest_b2.sub uq
 have avu6_rest_r := avu4_rest_r.sub uq
 have avu6_rest_m := avu4_rest_m.sub uq
 clear uq
 go_wp2_with fail
 with_reducible refine (dn_u16d (j := 8) (j2 := 10) rfl (by have h_ := HTL.out; omega) HY8 hr rest).mono ?_
 rintro e w10 ⟨Au8, nu8, cu8, rfl, hq, sq, uq, b10⟩
 replace sb := sb.away av_sb_r b10
 replace tk := tk.away av_tk_r b10
 replace hwk := blk_a hwk b10 d_wk_r
 replace hb2 := blk_a hb2 b10 d_b2_r
 replace hm := blk_a hm b10 (ne_symm d_r_m)
 replace fz := fz_new fz b10 pr
 replace hsz := Nat.le_trans hsz b10.size
 replace bel := below_grown bel b10 or (Nat.le_trans hlo bel.size)
 clear b10
 clear hr rest
 have hr := hq
 have rest := sq
 clear hq sq
 have avu8_rest_wk := avu6_rest_wk.sub uq
 have avu8_rest_b2 := avu6_rest_b2.sub uq
 have avu8_rest_r := avu6_rest_r.sub uq
 have avu8_rest_m := avu6_rest_m.sub uq
 clear uq
 go_wp2_with fail
 with_reducible refine (dn_u16d (j := 10) (j2 := 12) rfl (by have h_ := HTL.out; omega) HY10 hr rest).mono ?_
 rintro e w11 ⟨Au10, nu10, cu10, rfl, hq, sq, uq, b11⟩
 replace sb := sb.away av_sb_r b11
 replace tk := tk.away av_tk_r b11
 replace hwk := blk_a hwk b11 d_wk_r
 replace hb2 := blk_a hb2 b11 d_b2_r
 replace hm := blk_a hm b11 (ne_symm d_r_m)
 replace fz := fz_new fz b11 pr
 replace hsz := Nat.le_trans hsz b11.size
 replace bel := below_grown bel b11 or (Nat.le_trans hlo bel.size)
 clear b11
 clear hr rest
 have hr := hq
 have rest := sq
 clear hq sq
 have avu10_rest_wk := avu8_rest_wk.sub uq
 have avu10_rest_b2 := avu8_rest_b2.sub uq
 have avu10_rest_r := avu8_rest_r.sub uq
 have avu10_rest_m := avu8_rest_m.sub uq
 clear uq
 by_cases hsm : 64 < nq + na + no + nm
 ·have hs1 : (64 : Int) < (nq : Int) + na + no + nm := by omega
  have HSM : Hid (64 < nq + na + no + nm) := Lib.hid hsm
  have H2 : Hid (y = 2) := Lib.hid (by have h_ := (bodyM_many HN4.out HN6.out HN8.out HN10.out HSM.out).symm.trans HOK.out; injection h_ with h_; rw [← HER0.out, ← h_]; rfl)
  go_wp2_with (first | ((with_reducible show wpList _ _ _ (⟨none, Op.store _ (.tmp 2) _, _, _, _, _⟩ :: _) _ _); refine wpList_store_blk rfl 26 (.tmp 2) (.tmp 44) rfl g2 rfl _ rfl _ 26 hb2 (by rfl) (by kernel_rfl) (by kernel_rfl) ?_; intro w12 hq gr; replace sb := sb.away av_sb_b2 gr; replace tk := tk.away av_tk_b2 gr; replace rest := rest.away avu10_rest_b2 gr; replace hwk := blk_a hwk gr d_wk_b2; replace hr := blk_a hr gr (ne_symm d_b2_r); replace hm := blk_a hm gr (ne_symm d_b2_m); replace fz := fz_new fz gr pb2; replace hsz := Nat.le_trans hsz gr.size; replace bel := below_grown bel gr ob2 (Nat.le_trans hlo bel.size); clear hb2; have hb2 := hq; clear hq gr))
  exact bodyPost_ret (results_cell_tmp_row rfl _ _ _ _ _ _ _ rfl hb2 Try.underlying26 rfl (by kernel_rfl) (.int .i64 2) rfl) rfl ⟨_, _, _, _, _, _, _, _, _, _, _, _, _, _, by rw [H2.out], fz⟩
 have hs1 : decide ((64 : Int) < (nq : Int) + na + no + nm) = false := decide_eq_false (by omega)
 have HSM : Hid (¬ 64 < nq + na + no + nm) := Lib.hid hsm
 have bq : (nq : Int) ≤ 64 := by omega
 have ba : (na : Int) ≤ 64 := by omega
 have bo : (no : Int) ≤ 64 := by omega
 have bm : (nm : Int) ≤ 64 := by omega
 rcases hx : goL (qAt b) nq p0 [] with er_ | ⟨q, a1⟩
 ·have HGE := Lib.hid hx
  clear hx
  have HEQ : Hid (er_ = er) := Lib.hid (by have h_ := (bodyM_q HN4.out HN6.out HN8.out HN10.out HSM.out (HP0.out ▸ HGE.out)).symm.trans HOK.out; injection h_)
  have HY : Hid ((er_ : Int) = y) := Lib.hid (by rw [HEQ.out]; exact HER0.out)
  go_wp2_with fail
  with_reducible refine (dlistq_no _ hwk sb av_sb_wk hn P0L P0N nq (by omega) HGE.out y HY.out).mono ?_
  rintro e w12 ⟨rfl, b12⟩
  replace sb := sb.away av_sb_wk b12
  replace tk := tk.away av_tk_wk b12
  replace rest := rest.away avu10_rest_wk b12
  replace hb2 := blk_a hb2 b12 (ne_symm d_wk_b2)
  replace hr := blk_a hr b12 (ne_symm d_wk_r)
  replace hm := blk_a hm b12 (ne_symm d_wk_m)
  replace fz := fz_self fz b12
  replace hsz := Nat.le_trans hsz b12.size
  replace bel := below_grown bel b12 owk (Nat.le_trans hlo bel.size)
  clear b12
  clear hwk
  go_wp2_with (first | ((with_reducible show wpList _ _ _ (⟨none, Op.store _ (.tmp 52) _, _, _, _, _⟩ :: _) _ _); refine wpList_store_part rfl 23 (.tmp 52) (.tmp 50) rfl g7 2 rfl [.slice none 0 0] rfl [.int .i64 (i0 : Int), .int .i64 (f0 : Int), .slice none 0 0, .slice none 0 0, .slice none 0 0, .slice none 0 0] 26 hm (by simp) [.int .i64 (i0 : Int), .int .i64 (f0 : Int), .slice none 0 0, .slice none 0 0, .slice none 0 0, .slice none 0 0] rfl (by kernel_rfl) (by rfl) ?_; intro w13 hq gr; replace sb := sb.away av_sb_m gr; replace tk := tk.away av_tk_m gr; replace rest := rest.away avu10_rest_m gr; replace hb2 := blk_a hb2 gr d_b2_m; replace hr := blk_a hr gr d_r_m; replace fz := fz_new fz gr pm; replace hsz := Nat.le_trans hsz gr.size; replace bel := below_grown bel gr om (Nat.le_trans hlo bel.size); clear hm; have hm := hq; clear hq gr; have R83 := Lib.hid (range_lit hm 0 6 [.int .i64 (i0 : Int), .int .i64 (f0 : Int), .slice none 0 0, .slice none 0 0, .slice none 0 0, .slice none 0 0] rfl)) | ((with_reducible show wpList _ _ _ (⟨some 83, _, _, _, _, _⟩ :: _) _ _); refine wpList_load_rng 26 (.tmp 7) rfl (by kernel_rfl) _ _ rfl _ R83.out _ Try.underlying26 rfl (by kernel_rfl) ?_) | ((with_reducible show wpList _ _ _ (⟨none, Op.store _ (.tmp 2) _, _, _, _, _⟩ :: _) _ _); refine wpList_store_blk rfl 26 (.tmp 2) (.tmp 83) rfl g2 rfl _ rfl _ 26 hb2 (by rfl) (by kernel_rfl) (by kernel_rfl) ?_; intro w14 hq gr; replace sb := sb.away av_sb_b2 gr; replace tk := tk.away av_tk_b2 gr; replace rest := rest.away avu10_rest_b2 gr; replace hr := blk_a hr gr (ne_symm d_b2_r); replace hm := blk_a hm gr (ne_symm d_b2_m); replace fz := fz_new fz gr pb2; replace hsz := Nat.le_trans hsz gr.size; replace bel := below_grown bel gr ob2 (Nat.le_trans hlo bel.size); clear hb2; have hb2 := hq; clear hq gr))
  try clear R83
  exact bodyPost_ret (results_cell_tmp_row rfl _ _ _ _ _ _ _ rfl hb2 Try.underlying26 rfl (by kernel_rfl) (.int .i64 y) rfl) rfl ⟨_, _, _, _, _, _, _, _, _, _, _, _, _, _, rfl, fz⟩
 have HGQ := Lib.hid hx
 clear hx
 have HLa1 := Lib.hid (goLq_le (by have h_ := HBL.out; omega) HGQ.out)
 have A1N : a1 ≤ n := by have h_ := HLa1.out; have h1_ := HBL.out; omega
 have A1L : a1 ≤ 100000 := by have h_ := HLa1.out; have h1_ := HBL.out; omega
 go_wp2_with fail
 have HS_hLQ := hsz
 with_reducible refine (dlistq_ok _ hwk sb av_sb_wk hn P0L P0N nq (by omega) HGQ.out).mono ?_
 rintro e w12 ⟨Qq, cq, rfl, hLQ, hq_, b12⟩
 replace sb := sb.away av_sb_wk b12
 replace tk := tk.away av_tk_wk b12
 replace rest := rest.away avu10_rest_wk b12
 replace hb2 := blk_a hb2 b12 (ne_symm d_wk_b2)
 replace hr := blk_a hr b12 (ne_symm d_wk_r)
 replace hm := blk_a hm b12 (ne_symm d_wk_m)
 replace fz := fz_self fz b12
 replace hsz := Nat.le_trans hsz b12.size
 replace bel := below_grown bel b12 owk (Nat.le_trans hlo bel.size)
 clear b12
 clear hwk
 have hwk := hq_
 clear hq_
 replace hLQ := hLQ.lower HS_hLQ
 rcases hx : goL (rAt b) na a1 [] with er_ | ⟨a_, a2⟩
 ·have HGE := Lib.hid hx
  clear hx
  have HEQ : Hid (er_ = er) := Lib.hid (by have h_ := (bodyM_a HN4.out HN6.out HN8.out HN10.out HSM.out (HP0.out ▸ HGQ.out) HGE.out).symm.trans HOK.out; injection h_)
  have HY : Hid ((er_ : Int) = y) := Lib.hid (by rw [HEQ.out]; exact HER0.out)
  go_wp2_with (first | ((with_reducible show wpList _ _ _ (⟨none, Op.store _ (.tmp 52) _, _, _, _, _⟩ :: _) _ _); refine wpList_store_part rfl 23 (.tmp 52) (.tmp 50) rfl g7 2 rfl [.slice Qq nq cq] rfl [.int .i64 (i0 : Int), .int .i64 (f0 : Int), .slice none 0 0, .slice none 0 0, .slice none 0 0, .slice none 0 0] 26 hm (by simp) [.int .i64 (i0 : Int), .int .i64 (f0 : Int), .slice Qq nq cq, .slice none 0 0, .slice none 0 0, .slice none 0 0] rfl (by kernel_rfl) (by rfl) ?_; intro w13 hq gr; replace sb := sb.away av_sb_m gr; replace tk := tk.away av_tk_m gr; replace rest := rest.away avu10_rest_m gr; replace hwk := blk_a hwk gr d_wk_m; replace hb2 := blk_a hb2 gr d_b2_m; replace hr := blk_a hr gr d_r_m; replace fz := fz_new fz gr pm; replace hsz := Nat.le_trans hsz gr.size; replace hLQ := hLQ.kt (S := [26]) (kt_grown gr hm (by simp)) (by decide) (by decide); replace bel := below_grown bel gr om (Nat.le_trans hlo bel.size); clear hm; have hm := hq; clear hq gr))
  with_reducible refine (dlistr_no _ hwk sb av_sb_wk hn A1L A1N na (by omega) HGE.out y HY.out).mono ?_
  rintro e w14 ⟨rfl, b14⟩
  replace sb := sb.away av_sb_wk b14
  replace tk := tk.away av_tk_wk b14
  replace rest := rest.away avu10_rest_wk b14
  replace hb2 := blk_a hb2 b14 (ne_symm d_wk_b2)
  replace hr := blk_a hr b14 (ne_symm d_wk_r)
  replace hm := blk_a hm b14 (ne_symm d_wk_m)
  replace fz := fz_self fz b14
  replace hsz := Nat.le_trans hsz b14.size
  replace hLQ := hLQ.kt (S := [53]) (kt_grown b14 hwk (by simp)) (by decide) (by decide)
  replace bel := below_grown bel b14 owk (Nat.le_trans hlo bel.size)
  clear b14
  clear hwk
  go_wp2_with (first | ((with_reducible show wpList _ _ _ (⟨none, Op.store _ (.tmp 62) _, _, _, _, _⟩ :: _) _ _); refine wpList_store_part rfl 24 (.tmp 62) (.tmp 60) rfl g7 3 rfl [.slice none 0 0] rfl [.int .i64 (i0 : Int), .int .i64 (f0 : Int), .slice Qq nq cq, .slice none 0 0, .slice none 0 0, .slice none 0 0] 26 hm (by simp) [.int .i64 (i0 : Int), .int .i64 (f0 : Int), .slice Qq nq cq, .slice none 0 0, .slice none 0 0, .slice none 0 0] rfl (by kernel_rfl) (by rfl) ?_; intro w15 hq gr; replace sb := sb.away av_sb_m gr; replace tk := tk.away av_tk_m gr; replace rest := rest.away avu10_rest_m gr; replace hb2 := blk_a hb2 gr d_b2_m; replace hr := blk_a hr gr d_r_m; replace fz := fz_new fz gr pm; replace hsz := Nat.le_trans hsz gr.size; replace hLQ := hLQ.kt (S := [26]) (kt_grown gr hm (by simp)) (by decide) (by decide); replace bel := below_grown bel gr om (Nat.le_trans hlo bel.size); clear hm; have hm := hq; clear hq gr; have R83 := Lib.hid (range_lit hm 0 6 [.int .i64 (i0 : Int), .int .i64 (f0 : Int), .slice Qq nq cq, .slice none 0 0, .slice none 0 0, .slice none 0 0] rfl)) | ((with_reducible show wpList _ _ _ (⟨some 83, _, _, _, _, _⟩ :: _) _ _); refine wpList_load_rng 26 (.tmp 7) rfl (by kernel_rfl) _ _ rfl _ R83.out _ Try.underlying26 rfl (by kernel_rfl) ?_) | ((with_reducible show wpList _ _ _ (⟨none, Op.store _ (.tmp 2) _, _, _, _, _⟩ :: _) _ _); refine wpList_store_blk rfl 26 (.tmp 2) (.tmp 83) rfl g2 rfl _ rfl _ 26 hb2 (by rfl) (by kernel_rfl) (by kernel_rfl) ?_; intro w16 hq gr; replace sb := sb.away av_sb_b2 gr; replace tk := tk.away av_tk_b2 gr; replace rest := rest.away avu10_rest_b2 gr; replace hr := blk_a hr gr (ne_symm d_b2_r); replace hm := blk_a hm gr (ne_symm d_b2_m); replace fz := fz_new fz gr pb2; replace hsz := Nat.le_trans hsz gr.size; replace hLQ := hLQ.kt (S := [26]) (kt_grown gr hb2 (by simp)) (by decide) (by decide); replace bel := below_grown bel gr ob2 (Nat.le_trans hlo bel.size); clear hb2; have hb2 := hq; clear hq gr))
  try clear R83
  exact bodyPost_ret (results_cell_tmp_row rfl _ _ _ _ _ _ _ rfl hb2 Try.underlying26 rfl (by kernel_rfl) (.int .i64 y) rfl) rfl ⟨_, _, _, _, _, _, _, _, _, _, _, _, _, _, rfl, fz⟩
 have HGA := Lib.hid hx
 clear hx
 have HLa2 := Lib.hid (goLr_le HLa1.out HGA.out)
 have A2N : a2 ≤ n := by have h_ := HLa2.out; have h1_ := HBL.out; omega
 have A2L : a2 ≤ 100000 := by have h_ := HLa2.out; have h1_ := HBL.out; omega
 go_wp2_with (first | ((with_reducible show wpList _ _ _ (⟨none, Op.store _ (.tmp 52) _, _, _, _, _⟩ :: _) _ _); refine wpList_store_part rfl 23 (.tmp 52) (.tmp 50) rfl g7 2 rfl [.slice Qq nq cq] rfl [.int .i64 (i0 : Int), .int .i64 (f0 : Int), .slice none 0 0, .slice none 0 0, .slice none 0 0, .slice none 0 0] 26 hm (by simp) [.int .i64 (i0 : Int), .int .i64 (f0 : Int), .slice Qq nq cq, .slice none 0 0, .slice none 0 0, .slice none 0 0] rfl (by kernel_rfl) (by rfl) ?_; intro w13 hq gr; replace sb := sb.away av_sb_m gr; replace tk := tk.away av_tk_m gr; replace rest := rest.away avu10_rest_m gr; replace hwk := blk_a hwk gr d_wk_m; replace hb2 := blk_a hb2 gr d_b2_m; replace hr := blk_a hr gr d_r_m; replace fz := fz_new fz gr pm; replace hsz := Nat.le_trans hsz gr.size; replace hLQ := hLQ.kt (S := [26]) (kt_grown gr hm (by simp)) (by decide) (by decide); replace bel := below_grown bel gr om (Nat.le_trans hlo bel.size); clear hm; have hm := hq; clear hq gr))
 have HS_hLA := hsz
 with_reducible refine (dlistr_ok _ hwk sb av_sb_wk hn A1L A1N na (by omega) HGA.out).mono ?_
 rintro e w14 ⟨Qa, ca, rfl, hLA, hq_, b14⟩
 replace sb := sb.away av_sb_wk b14
 replace tk := tk.away av_tk_wk b14
 replace rest := rest.away avu10_rest_wk b14
 replace hb2 := blk_a hb2 b14 (ne_symm d_wk_b2)
 replace hr := blk_a hr b14 (ne_symm d_wk_r)
 replace hm := blk_a hm b14 (ne_symm d_wk_m)
 replace fz := fz_self fz b14
 replace hsz := Nat.le_trans hsz b14.size
 replace hLQ := hLQ.kt (S := [53]) (kt_grown b14 hwk (by simp)) (by decide) (by decide)
 replace bel := below_grown bel b14 owk (Nat.le_trans hlo bel.size)
 clear b14
 clear hwk
 have hwk := hq_
 clear hq_
 replace hLA := hLA.lower HS_hLA
 rcases hx : goL (rAt b) no a2 [] with er_ | ⟨o_, a3⟩
 ·have HGE := Lib.hid hx
  clear hx
  have HEQ : Hid (er_ = er) := Lib.hid (by have h_ := (bodyM_o HN4.out HN6.out HN8.out HN10.out HSM.out (HP0.out ▸ HGQ.out) HGA.out HGE.out).symm.trans HOK.out; injection h_)
  have HY : Hid ((er_ : Int) = y) := Lib.hid (by rw [HEQ.out]; exact HER0.out)
  go_wp2_with (first | ((with_reducible show wpList _ _ _ (⟨none, Op.store _ (.tmp 62) _, _, _, _, _⟩ :: _) _ _); refine wpList_store_part rfl 24 (.tmp 62) (.tmp 60) rfl g7 3 rfl [.slice Qa na ca] rfl [.int .i64 (i0 : Int), .int .i64 (f0 : Int), .slice Qq nq cq, .slice none 0 0, .slice none 0 0, .slice none 0 0] 26 hm (by simp) [.int .i64 (i0 : Int), .int .i64 (f0 : Int), .slice Qq nq cq, .slice Qa na ca, .slice none 0 0, .slice none 0 0] rfl (by kernel_rfl) (by rfl) ?_; intro w15 hq gr; replace sb := sb.away av_sb_m gr; replace tk := tk.away av_tk_m gr; replace rest := rest.away avu10_rest_m gr; replace hwk := blk_a hwk gr d_wk_m; replace hb2 := blk_a hb2 gr d_b2_m; replace hr := blk_a hr gr d_r_m; replace fz := fz_new fz gr pm; replace hsz := Nat.le_trans hsz gr.size; replace hLQ := hLQ.kt (S := [26]) (kt_grown gr hm (by simp)) (by decide) (by decide); replace hLA := hLA.kt (S := [26]) (kt_grown gr hm (by simp)) (by decide) (by decide); replace bel := below_grown bel gr om (Nat.le_trans hlo bel.size); clear hm; have hm := hq; clear hq gr))
  with_reducible refine (dlistr_no _ hwk sb av_sb_wk hn A2L A2N no (by omega) HGE.out y HY.out).mono ?_
  rintro e w16 ⟨rfl, b16⟩
  replace sb := sb.away av_sb_wk b16
  replace tk := tk.away av_tk_wk b16
  replace rest := rest.away avu10_rest_wk b16
  replace hb2 := blk_a hb2 b16 (ne_symm d_wk_b2)
  replace hr := blk_a hr b16 (ne_symm d_wk_r)
  replace hm := blk_a hm b16 (ne_symm d_wk_m)
  replace fz := fz_self fz b16
  replace hsz := Nat.le_trans hsz b16.size
  replace hLQ := hLQ.kt (S := [53]) (kt_grown b16 hwk (by simp)) (by decide) (by decide)
  replace hLA := hLA.kt (S := [53]) (kt_grown b16 hwk (by simp)) (by decide) (by decide)
  replace bel := below_grown bel b16 owk (Nat.le_trans hlo bel.size)
  clear b16
  clear hwk
  go_wp2_with (first | ((with_reducible show wpList _ _ _ (⟨none, Op.store _ (.tmp 72) _, _, _, _, _⟩ :: _) _ _); refine wpList_store_part rfl 24 (.tmp 72) (.tmp 70) rfl g7 4 rfl [.slice none 0 0] rfl [.int .i64 (i0 : Int), .int .i64 (f0 : Int), .slice Qq nq cq, .slice Qa na ca, .slice none 0 0, .slice none 0 0] 26 hm (by simp) [.int .i64 (i0 : Int), .int .i64 (f0 : Int), .slice Qq nq cq, .slice Qa na ca, .slice none 0 0, .slice none 0 0] rfl (by kernel_rfl) (by rfl) ?_; intro w17 hq gr; replace sb := sb.away av_sb_m gr; replace tk := tk.away av_tk_m gr; replace rest := rest.away avu10_rest_m gr; replace hb2 := blk_a hb2 gr d_b2_m; replace hr := blk_a hr gr d_r_m; replace fz := fz_new fz gr pm; replace hsz := Nat.le_trans hsz gr.size; replace hLQ := hLQ.kt (S := [26]) (kt_grown gr hm (by simp)) (by decide) (by decide); replace hLA := hLA.kt (S := [26]) (kt_grown gr hm (by simp)) (by decide) (by decide); replace bel := below_grown bel gr om (Nat.le_trans hlo bel.size); clear hm; have hm := hq; clear hq gr; have R83 := Lib.hid (range_lit hm 0 6 [.int .i64 (i0 : Int), .int .i64 (f0 : Int), .slice Qq nq cq, .slice Qa na ca, .slice none 0 0, .slice none 0 0] rfl)) | ((with_reducible show wpList _ _ _ (⟨some 83, _, _, _, _, _⟩ :: _) _ _); refine wpList_load_rng 26 (.tmp 7) rfl (by kernel_rfl) _ _ rfl _ R83.out _ Try.underlying26 rfl (by kernel_rfl) ?_) | ((with_reducible show wpList _ _ _ (⟨none, Op.store _ (.tmp 2) _, _, _, _, _⟩ :: _) _ _); refine wpList_store_blk rfl 26 (.tmp 2) (.tmp 83) rfl g2 rfl _ rfl _ 26 hb2 (by rfl) (by kernel_rfl) (by kernel_rfl) ?_; intro w18 hq gr; replace sb := sb.away av_sb_b2 gr; replace tk := tk.away av_tk_b2 gr; replace rest := rest.away avu10_rest_b2 gr; replace hr := blk_a hr gr (ne_symm d_b2_r); replace hm := blk_a hm gr (ne_symm d_b2_m); replace fz := fz_new fz gr pb2; replace hsz := Nat.le_trans hsz gr.size; replace hLQ := hLQ.kt (S := [26]) (kt_grown gr hb2 (by simp)) (by decide) (by decide); replace hLA := hLA.kt (S := [26]) (kt_grown gr hb2 (by simp)) (by decide) (by decide); replace bel := below_grown bel gr ob2 (Nat.le_trans hlo bel.size); clear hb2; have hb2 := hq; clear hq gr))
  try clear R83
  exact bodyPost_ret (results_cell_tmp_row rfl _ _ _ _ _ _ _ rfl hb2 Try.underlying26 rfl (by kernel_rfl) (.int .i64 y) rfl) rfl ⟨_, _, _, _, _, _, _, _, _, _, _, _, _, _, rfl, fz⟩
 have HGO := Lib.hid hx
 clear hx
 have HLa3 := Lib.hid (goLr_le HLa2.out HGO.out)
 have A3N : a3 ≤ n := by have h_ := HLa3.out; have h1_ := HBL.out; omega
 have A3L : a3 ≤ 100000 := by have h_ := HLa3.out; have h1_ := HBL.out; omega
 go_wp2_with (first | ((with_reducible show wpList _ _ _ (⟨none, Op.store _ (.tmp 62) _, _, _, _, _⟩ :: _) _ _); refine wpList_store_part rfl 24 (.tmp 62) (.tmp 60) rfl g7 3 rfl [.slice Qa na ca] rfl [.int .i64 (i0 : Int), .int .i64 (f0 : Int), .slice Qq nq cq, .slice none 0 0, .slice none 0 0, .slice none 0 0] 26 hm (by simp) [.int .i64 (i0 : Int), .int .i64 (f0 : Int), .slice Qq nq cq, .slice Qa na ca, .slice none 0 0, .slice none 0 0] rfl (by kernel_rfl) (by rfl) ?_; intro w15 hq gr; replace sb := sb.away av_sb_m gr; replace tk := tk.away av_tk_m gr; replace rest := rest.away avu10_rest_m gr; replace hwk := blk_a hwk gr d_wk_m; replace hb2 := blk_a hb2 gr d_b2_m; replace hr := blk_a hr gr d_r_m; replace fz := fz_new fz gr pm; replace hsz := Nat.le_trans hsz gr.size; replace hLQ := hLQ.kt (S := [26]) (kt_grown gr hm (by simp)) (by decide) (by decide); replace hLA := hLA.kt (S := [26]) (kt_grown gr hm (by simp)) (by decide) (by decide); replace bel := below_grown bel gr om (Nat.le_trans hlo bel.size); clear hm; have hm := hq; clear hq gr))
 have HS_hLO := hsz
 with_reducible refine (dlistr_ok _ hwk sb av_sb_wk hn A2L A2N no (by omega) HGO.out).mono ?_
 rintro e w16 ⟨Qo, co, rfl, hLO, hq_, b16⟩
 replace sb := sb.away av_sb_wk b16
 replace tk := tk.away av_tk_wk b16
 replace rest := rest.away avu10_rest_wk b16
 replace hb2 := blk_a hb2 b16 (ne_symm d_wk_b2)
 replace hr := blk_a hr b16 (ne_symm d_wk_r)
 replace hm := blk_a hm b16 (ne_symm d_wk_m)
 replace fz := fz_self fz b16
 replace hsz := Nat.le_trans hsz b16.size
 replace hLQ := hLQ.kt (S := [53]) (kt_grown b16 hwk (by simp)) (by decide) (by decide)
 replace hLA := hLA.kt (S := [53]) (kt_grown b16 hwk (by simp)) (by decide) (by decide)
 replace bel := below_grown bel b16 owk (Nat.le_trans hlo bel.size)
 clear b16
 clear hwk
 have hwk := hq_
 clear hq_
 replace hLO := hLO.lower HS_hLO
 rcases hx : goL (rAt b) nm a3 [] with er_ | ⟨m_, a4⟩
 rotate_left
 ·have HGM := Lib.hid hx
  clear hx
  skip
  have h_ := (bodyM_yes HN4.out HN6.out HN8.out HN10.out HSM.out (HP0.out ▸ HGQ.out) HGA.out HGO.out HGM.out).symm.trans HOK.out
  cases h_
 have HGE := Lib.hid hx
 clear hx
 have HEQ : Hid (er_ = er) := Lib.hid (by have h_ := (bodyM_m HN4.out HN6.out HN8.out HN10.out HSM.out (HP0.out ▸ HGQ.out) HGA.out HGO.out HGE.out).symm.trans HOK.out; injection h_)
 have HY : Hid ((er_ : Int) = y) := Lib.hid (by rw [HEQ.out]; exact HER0.out)
 go_wp2_with (first | ((with_reducible show wpList _ _ _ (⟨none, Op.store _ (.tmp 72) _, _, _, _, _⟩ :: _) _ _); refine wpList_store_part rfl 24 (.tmp 72) (.tmp 70) rfl g7 4 rfl [.slice Qo no co] rfl [.int .i64 (i0 : Int), .int .i64 (f0 : Int), .slice Qq nq cq, .slice Qa na ca, .slice none 0 0, .slice none 0 0] 26 hm (by simp) [.int .i64 (i0 : Int), .int .i64 (f0 : Int), .slice Qq nq cq, .slice Qa na ca, .slice Qo no co, .slice none 0 0] rfl (by kernel_rfl) (by rfl) ?_; intro w17 hq gr; replace sb := sb.away av_sb_m gr; replace tk := tk.away av_tk_m gr; replace rest := rest.away avu10_rest_m gr; replace hwk := blk_a hwk gr d_wk_m; replace hb2 := blk_a hb2 gr d_b2_m; replace hr := blk_a hr gr d_r_m; replace fz := fz_new fz gr pm; replace hsz := Nat.le_trans hsz gr.size; replace hLQ := hLQ.kt (S := [26]) (kt_grown gr hm (by simp)) (by decide) (by decide); replace hLA := hLA.kt (S := [26]) (kt_grown gr hm (by simp)) (by decide) (by decide); replace hLO := hLO.kt (S := [26]) (kt_grown gr hm (by simp)) (by decide) (by decide); replace bel := below_grown bel gr om (Nat.le_trans hlo bel.size); clear hm; have hm := hq; clear hq gr))
 with_reducible refine (dlistr_no _ hwk sb av_sb_wk hn A3L A3N nm (by omega) HGE.out y HY.out).mono ?_
 rintro e w18 ⟨rfl, b18⟩
 replace sb := sb.away av_sb_wk b18
 replace tk := tk.away av_tk_wk b18
 replace rest := rest.away avu10_rest_wk b18
 replace hb2 := blk_a hb2 b18 (ne_symm d_wk_b2)
 replace hr := blk_a hr b18 (ne_symm d_wk_r)
 replace hm := blk_a hm b18 (ne_symm d_wk_m)
 replace fz := fz_self fz b18
 replace hsz := Nat.le_trans hsz b18.size
 replace hLQ := hLQ.kt (S := [53]) (kt_grown b18 hwk (by simp)) (by decide) (by decide)
 replace hLA := hLA.kt (S := [53]) (kt_grown b18 hwk (by simp)) (by decide) (by decide)
 replace hLO := hLO.kt (S := [53]) (kt_grown b18 hwk (by simp)) (by decide) (by decide)
 replace bel := below_grown bel b18 owk (Nat.le_trans hlo bel.size)
 clear b18
 clear hwk
 go_wp2_with (first | ((with_reducible show wpList _ _ _ (⟨none, Op.store _ (.tmp 82) _, _, _, _, _⟩ :: _) _ _); refine wpList_store_part rfl 24 (.tmp 82) (.tmp 80) rfl g7 5 rfl [.slice none 0 0] rfl [.int .i64 (i0 : Int), .int .i64 (f0 : Int), .slice Qq nq cq, .slice Qa na ca, .slice Qo no co, .slice none 0 0] 26 hm (by simp) [.int .i64 (i0 : Int), .int .i64 (f0 : Int), .slice Qq nq cq, .slice Qa na ca, .slice Qo no co, .slice none 0 0] rfl (by kernel_rfl) (by rfl) ?_; intro w19 hq gr; replace sb := sb.away av_sb_m gr; replace tk := tk.away av_tk_m gr; replace rest := rest.away avu10_rest_m gr; replace hb2 := blk_a hb2 gr d_b2_m; replace hr := blk_a hr gr d_r_m; replace fz := fz_new fz gr pm; replace hsz := Nat.le_trans hsz gr.size; replace hLQ := hLQ.kt (S := [26]) (kt_grown gr hm (by simp)) (by decide) (by decide); replace hLA := hLA.kt (S := [26]) (kt_grown gr hm (by simp)) (by decide) (by decide); replace hLO := hLO.kt (S := [26]) (kt_grown gr hm (by simp)) (by decide) (by decide); replace bel := below_grown bel gr om (Nat.le_trans hlo bel.size); clear hm; have hm := hq; clear hq gr; have R83 := Lib.hid (range_lit hm 0 6 [.int .i64 (i0 : Int), .int .i64 (f0 : Int), .slice Qq nq cq, .slice Qa na ca, .slice Qo no co, .slice none 0 0] rfl)) | ((with_reducible show wpList _ _ _ (⟨some 83, _, _, _, _, _⟩ :: _) _ _); refine wpList_load_rng 26 (.tmp 7) rfl (by kernel_rfl) _ _ rfl _ R83.out _ Try.underlying26 rfl (by kernel_rfl) ?_) | ((with_reducible show wpList _ _ _ (⟨none, Op.store _ (.tmp 2) _, _, _, _, _⟩ :: _) _ _); refine wpList_store_blk rfl 26 (.tmp 2) (.tmp 83) rfl g2 rfl _ rfl _ 26 hb2 (by rfl) (by kernel_rfl) (by kernel_rfl) ?_; intro w20 hq gr; replace sb := sb.away av_sb_b2 gr; replace tk := tk.away av_tk_b2 gr; replace rest := rest.away avu10_rest_b2 gr; replace hr := blk_a hr gr (ne_symm d_b2_r); replace hm := blk_a hm gr (ne_symm d_b2_m); replace fz := fz_new fz gr pb2; replace hsz := Nat.le_trans hsz gr.size; replace hLQ := hLQ.kt (S := [26]) (kt_grown gr hb2 (by simp)) (by decide) (by decide); replace hLA := hLA.kt (S := [26]) (kt_grown gr hb2 (by simp)) (by decide) (by decide); replace hLO := hLO.kt (S := [26]) (kt_grown gr hb2 (by simp)) (by decide) (by decide); replace bel := below_grown bel gr ob2 (Nat.le_trans hlo bel.size); clear hb2; have hb2 := hq; clear hq gr))
 try clear R83
 exact bodyPost_ret (results_cell_tmp_row rfl _ _ _ _ _ _ _ rfl hb2 Try.underlying26 rfl (by kernel_rfl) (.int .i64 y) rfl) rfl ⟨_, _, _, _, _, _, _, _, _, _, _, _, _, _, rfl, fz⟩
theorem getM_yes {b : List UInt8} {m : Mn} (h : getM b = .ok m) : b.length ≤ 1472 ∧ 12 ≤ b.length ∧ bodyM b = .ok (m, b.length) := by
 obtain ⟨_, h1, h2⟩ := getM_ok h
 refine ⟨h1, h2, ?_⟩
 rw [getM_body (by omega) (by omega)] at h
 rcases hb : bodyM b with e | ⟨m2, p⟩
 ·rw [hb] at h; cases h
 ·rw [hb] at h
  dsimp only at h
  split at h
  ·rename_i hp
   injection h with h
   rw [h, hp]
  ·cases h
theorem getM_no {b : List UInt8} {e : Nat} (h : getM b = .error e) : (1472 < b.length ∧ e = 2) ∨ (b.length ≤ 1472 ∧ b.length < 12 ∧ e = 3) ∨ (b.length ≤ 1472 ∧ 12 ≤ b.length ∧ bodyM b = .error e) ∨ ∃ m p, b.length ≤ 1472 ∧ 12 ≤ b.length ∧ bodyM b = .ok (m, p) ∧ p < b.length ∧ e = 4 := by
 by_cases h1 : 1472 < b.length
 ·unfold getM at h
  rw [if_pos h1] at h
  injection h with h
  exact .inl ⟨h1, h.symm⟩
 ·by_cases h2 : b.length < 12
  ·unfold getM at h
   rw [if_neg h1, if_pos h2] at h
   injection h with h
   exact .inr (.inl ⟨by omega, h2, h.symm⟩)
  ·rw [getM_body h1 h2] at h
   rcases hb : bodyM b with e2 | ⟨m, p⟩
   ·rw [hb] at h
    injection h with h
    subst h
    exact .inr (.inr (.inl ⟨by omega, by omega, rfl⟩))
   ·rw [hb] at h
    dsimp only at h
    have := bodyM_le (by omega) hb
    split at h
    ·cases h
    ·injection h with h
     exact .inr (.inr (.inr ⟨m, p, by omega, by omega, rfl, by omega, h.symm⟩))
theorem getM_err {b : List UInt8} {e : Nat} (h : getM b = .error e) : e ≠ 0 := by
 rcases getM_no h with ⟨_, h⟩ | ⟨_, _, h⟩ | ⟨_, _, h⟩ | ⟨_, _, _, _, _, _, h⟩
 ·omega
 ·omega
 ·exact bodyM_err h
 ·omega
set_option linter.unusedVariables false in
set_option linter.unusedSimpArgs false in
set_option maxRecDepth 100000 in
set_option maxHeartbeats 16000000 in
theorem dget_ok {A : Option Addr} {n c : Nat} {b : List UInt8} (w : World) (sb : Sl w A n c b) {m : Mn} (hg : getM b = .ok m) : Calls Try.prog 9 #[.slice A n c] w fun e w' => ∃ (Q : Option Addr) (qn qc : Nat) (A1 : Option Addr) (an ac : Nat) (O : Option Addr) (on oc : Nat) (M : Option Addr) (mn mc : Nat), e = .returned (.tuple #[.agg #[.int .i64 m.id, .int .i64 m.fl, .slice Q qn qc, .slice A1 an ac, .slice O on oc, .slice M mn mc], .int .i64 0]) ∧ Mr w' Q qn qc A1 an ac O on oc M mn mc m ∧ Below w.heap.size w w' := by
 have hnb : n ≤ 100000 := by have h_ := (getM_yes hg).1; have h1_ := sb.1; omega
 have HBL := Lib.hid sb.1
 have n0 : (0 : Int) ≤ n := by omega
 have n1 : (n : Int) ≤ 100000 := by omega
 obtain ⟨h1_, h2_, h3_⟩ := getM_yes hg
 obtain ⟨p2, hp2_⟩ : ∃ u_, b.length = u_ := ⟨_, rfl⟩
 rw [hp2_] at h3_
 have HOK := Lib.hid h3_
 have P2L : p2 ≤ 100000 := by omega
 have t21 : decide (p2 < n) = false := decide_eq_false (by have h_ := HBL.out; omega)
 have hn_ : n ≤ 1472 := by have h_ := HBL.out; omega
 have H12 : Hid (12 ≤ n) := Lib.hid (by have h_ := HBL.out; omega)
 have t9 : decide ((1472 : Int) < (n : Int)) = false := decide_eq_false (by omega)
 have NL : n ≤ 100000 := by omega
 clear h1_ h2_ h3_ hp2_ hg hn_
 have bel := Below.refl w.heap.size w
 go_enter Try.func9, Try.ntmps9
 go_wp2_with (first | ((with_reducible show wpList _ _ _ (⟨some 2, _, _, _, _, _⟩ :: _) _ _); refine wpList_new_a rfl 26 rfl #[.int .i64 0, .int .i64 0, .slice none 0 0, .slice none 0 0, .slice none 0 0, .slice none 0 0] (by kernel_rfl) ?_; intro g2 w1 ge hh bb; have av_sb_b2 := sb.av_new ge; have ob2 := Nat.le_trans bel.size ge; replace sb := sb.below bb; replace bel := bel.trans (bb.mono bel.size); have hb2 := hh; clear hh ge bb) | ((with_reducible show wpList _ _ _ (⟨some 4, _, _, _, _, _⟩ :: _) _ _); refine wpList_new_a rfl 53 rfl #[.slice none 0 0, .int .i64 0] (by kernel_rfl) ?_; intro g4 w2 ge hh bb; have d_b2_wk := ne_new (hlt hb2) ge; have av_sb_wk := sb.av_new ge; have owk := Nat.le_trans bel.size ge; replace hb2 := blk_u hb2 bb; replace sb := sb.below bb; replace bel := bel.trans (bb.mono bel.size); have hwk := hh; clear hh ge bb) | ((with_reducible show wpList _ _ _ (⟨none, Op.store _ (.tmp 4) _, _, _, _, _⟩ :: _) _ _); refine wpList_store_blk rfl 53 (.tmp 4) (.tmp 12) rfl g4 rfl _ rfl _ 53 hwk (by rfl) (by kernel_rfl) (by kernel_rfl) ?_; intro w3 hq gr; replace sb := sb.away av_sb_wk gr; replace hb2 := blk_a hb2 gr d_b2_wk; replace bel := below_grown bel gr owk bel.size; clear hwk; have hwk := hq; clear hq gr))
 with_reducible refine (dmsg_ok _ hwk sb av_sb_wk NL H12.out HOK.out).mono ?_
 rintro e w4 ⟨Qq, nq, cq, Qa, na, ca, Qo, no, co, Qm, nm, cm, rfl, hLQ, hLA, hLO, hLM, hq_, b4⟩
 replace sb := sb.away av_sb_wk b4
 replace hb2 := blk_a hb2 b4 d_b2_wk
 replace bel := below_grown bel b4 owk bel.size
 clear b4
 clear hwk
 have hwk := hq_
 clear hq_
 go_wp2_with (first | ((with_reducible show wpList _ _ _ (⟨some 5, _, _, _, _, _⟩ :: _) _ _); refine wpList_new_a rfl 26 rfl #[.int .i64 0, .int .i64 0, .slice none 0 0, .slice none 0 0, .slice none 0 0, .slice none 0 0] (by kernel_rfl) ?_; intro g5 w5 ge hh bb; have d_b2_m := ne_new (hlt hb2) ge; have d_wk_m := ne_new (hlt hwk) ge; have av_sb_m := sb.av_new ge; have om := Nat.le_trans bel.size ge; replace hb2 := blk_u hb2 bb; replace hwk := blk_u hwk bb; replace sb := sb.below bb; replace hLQ := hLQ.kt (S := []) (kt_below bb) (by simp) (by simp); replace hLA := hLA.kt (S := []) (kt_below bb) (by simp) (by simp); replace hLO := hLO.kt (S := []) (kt_below bb) (by simp) (by simp); replace hLM := hLM.kt (S := []) (kt_below bb) (by simp) (by simp); replace bel := bel.trans (bb.mono bel.size); have hm := hh; clear hh ge bb) | ((with_reducible show wpList _ _ _ (⟨none, Op.store _ (.tmp 5) _, _, _, _, _⟩ :: _) _ _); refine wpList_store_blk rfl 26 (.tmp 5) (.tmp 15) rfl g5 rfl _ rfl _ 26 hm (by rfl) (by kernel_rfl) (by kernel_rfl) ?_; intro w6 hq gr; replace sb := sb.away av_sb_m gr; replace hb2 := blk_a hb2 gr d_b2_m; replace hwk := blk_a hwk gr d_wk_m; replace hLQ := hLQ.kt (S := [26]) (kt_grown gr hm (by simp)) (by decide) (by decide); replace hLA := hLA.kt (S := [26]) (kt_grown gr hm (by simp)) (by decide) (by decide); replace hLO := hLO.kt (S := [26]) (kt_grown gr hm (by simp)) (by decide) (by decide); replace hLM := hLM.kt (S := [26]) (kt_grown gr hm (by simp)) (by decide) (by decide); replace bel := below_grown bel gr om bel.size; clear hm; have hm := hq; clear hq gr))
 with_reducible refine (dleft_any _ hwk sb av_sb_wk NL P2L).mono ?_
 rintro e w7 ⟨rfl, b7⟩
 replace hb2 := blk_u hb2 b7
 replace hwk := blk_u hwk b7
 replace hm := blk_u hm b7
 replace sb := sb.below b7
 replace hLQ := hLQ.kt (S := []) (kt_below b7) (by simp) (by simp)
 replace hLA := hLA.kt (S := []) (kt_below b7) (by simp) (by simp)
 replace hLO := hLO.kt (S := []) (kt_below b7) (by simp) (by simp)
 replace hLM := hLM.kt (S := []) (kt_below b7) (by simp) (by simp)
 replace bel := bel.trans (b7.mono bel.size)
 clear b7
 have R27 := Lib.hid (range_lit hm 0 6 [.int .i64 m.id, .int .i64 m.fl, .slice Qq nq cq, .slice Qa na ca, .slice Qo no co, .slice Qm nm cm] rfl)
 go_wp2_with (first | ((with_reducible show wpList _ _ _ (⟨some 27, _, _, _, _, _⟩ :: _) _ _); refine wpList_load_rng 26 (.tmp 5) rfl (by kernel_rfl) _ _ rfl _ R27.out _ Try.underlying26 rfl (by kernel_rfl) ?_) | ((with_reducible show wpList _ _ _ (⟨none, Op.store _ (.tmp 2) _, _, _, _, _⟩ :: _) _ _); refine wpList_store_blk rfl 26 (.tmp 2) (.tmp 27) rfl g2 rfl _ rfl _ 26 hb2 (by rfl) (by kernel_rfl) (by kernel_rfl) ?_; intro w8 hq gr; replace sb := sb.away av_sb_b2 gr; replace hwk := blk_a hwk gr (ne_symm d_b2_wk); replace hm := blk_a hm gr (ne_symm d_b2_m); replace hLQ := hLQ.kt (S := [26]) (kt_grown gr hb2 (by simp)) (by decide) (by decide); replace hLA := hLA.kt (S := [26]) (kt_grown gr hb2 (by simp)) (by decide) (by decide); replace hLO := hLO.kt (S := [26]) (kt_grown gr hb2 (by simp)) (by decide) (by decide); replace hLM := hLM.kt (S := [26]) (kt_grown gr hb2 (by simp)) (by decide) (by decide); replace bel := below_grown bel gr ob2 bel.size; clear hb2; have hb2 := hq; clear hq gr))
 try clear R27
 exact bodyPost_ret (results_cell_tmp_row rfl _ _ _ _ _ _ _ rfl hb2 Try.underlying26 rfl (by kernel_rfl) (.int .i64 0) rfl) rfl ⟨_, _, _, _, _, _, _, _, _, _, _, _, rfl, mr_of hLQ hLA hLO hLM, bel⟩
set_option linter.unusedVariables false in
set_option linter.unusedSimpArgs false in
set_option maxRecDepth 100000 in
set_option maxHeartbeats 16000000 in
theorem dget_no {A : Option Addr} {n c : Nat} {b : List UInt8} (w : World) (sb : Sl w A n c b) (hnb : n ≤ 100000) {er : Nat} (hg : getM b = .error er) (y : Int) (hy : (er : Int) = y) : Calls Try.prog 9 #[.slice A n c] w fun e w' => e = .returned (.tuple #[.agg #[.int .i64 0, .int .i64 0, .slice none 0 0, .slice none 0 0, .slice none 0 0, .slice none 0 0], .int .i64 y]) ∧ Below w.heap.size w w' := by
 have HBL := Lib.hid sb.1
 have n0 : (0 : Int) ≤ n := by omega
 have n1 : (n : Int) ≤ 100000 := by omega
 have HY := Lib.hid hy
 clear hy
 have bel := Below.refl w.heap.size w
 go_enter Try.func9, Try.ntmps9
 rcases getM_no hg with ⟨h1_, he_⟩ | ⟨h1_, h2_, he_⟩ | ⟨h1_, h2_, h3_⟩ | ⟨m, p2, h1_, h2_, h3_, h4_, he_⟩
 ·have HE := Lib.hid he_
  have t9 : (1472 : Int) < (n : Int) := by have h_ := HBL.out; omega
  clear h1_ he_ hg
  go_wp2_with (first | ((with_reducible show wpList _ _ _ (⟨some 2, _, _, _, _, _⟩ :: _) _ _); refine wpList_new_a rfl 26 rfl #[.int .i64 0, .int .i64 0, .slice none 0 0, .slice none 0 0, .slice none 0 0, .slice none 0 0] (by kernel_rfl) ?_; intro g2 w1 ge hh bb; have av_sb_b2 := sb.av_new ge; have ob2 := Nat.le_trans bel.size ge; replace sb := sb.below bb; replace bel := bel.trans (bb.mono bel.size); have hb2 := hh; clear hh ge bb) | ((with_reducible show wpList _ _ _ (⟨none, Op.store _ (.tmp 2) _, _, _, _, _⟩ :: _) _ _); refine wpList_store_blk rfl 26 (.tmp 2) (.tmp 10) rfl g2 rfl _ rfl _ 26 hb2 (by rfl) (by kernel_rfl) (by kernel_rfl) ?_; intro w2 hq gr; replace sb := sb.away av_sb_b2 gr; replace bel := below_grown bel gr ob2 bel.size; clear hb2; have hb2 := hq; clear hq gr))
  exact bodyPost_ret (results_cell_tmp_row rfl _ _ _ _ _ _ _ rfl hb2 Try.underlying26 rfl (by kernel_rfl) (.int .i64 2) rfl) rfl ⟨by rw [← HY.out, HE.out]; rfl, bel⟩
 ·have HE := Lib.hid he_
  have H12 : Hid (n < 12) := Lib.hid (by have h_ := HBL.out; omega)
  have hn_ : n ≤ 1472 := by have h_ := HBL.out; omega
  have t9 : decide ((1472 : Int) < (n : Int)) = false := decide_eq_false (by omega)
  have NL : n ≤ 100000 := by omega
  clear hn_
  clear h1_ h2_ he_ hg
  go_wp2_with (first | ((with_reducible show wpList _ _ _ (⟨some 2, _, _, _, _, _⟩ :: _) _ _); refine wpList_new_a rfl 26 rfl #[.int .i64 0, .int .i64 0, .slice none 0 0, .slice none 0 0, .slice none 0 0, .slice none 0 0] (by kernel_rfl) ?_; intro g2 w1 ge hh bb; have av_sb_b2 := sb.av_new ge; have ob2 := Nat.le_trans bel.size ge; replace sb := sb.below bb; replace bel := bel.trans (bb.mono bel.size); have hb2 := hh; clear hh ge bb) | ((with_reducible show wpList _ _ _ (⟨some 4, _, _, _, _, _⟩ :: _) _ _); refine wpList_new_a rfl 53 rfl #[.slice none 0 0, .int .i64 0] (by kernel_rfl) ?_; intro g4 w2 ge hh bb; have d_b2_wk := ne_new (hlt hb2) ge; have av_sb_wk := sb.av_new ge; have owk := Nat.le_trans bel.size ge; replace hb2 := blk_u hb2 bb; replace sb := sb.below bb; replace bel := bel.trans (bb.mono bel.size); have hwk := hh; clear hh ge bb) | ((with_reducible show wpList _ _ _ (⟨none, Op.store _ (.tmp 4) _, _, _, _, _⟩ :: _) _ _); refine wpList_store_blk rfl 53 (.tmp 4) (.tmp 12) rfl g4 rfl _ rfl _ 53 hwk (by rfl) (by kernel_rfl) (by kernel_rfl) ?_; intro w3 hq gr; replace sb := sb.away av_sb_wk gr; replace hb2 := blk_a hb2 gr d_b2_wk; replace bel := below_grown bel gr owk bel.size; clear hwk; have hwk := hq; clear hq gr))
  with_reducible refine (dmsg_short _ hwk sb av_sb_wk NL H12.out).mono ?_
  rintro e w4 ⟨rfl, b4⟩
  replace sb := sb.away av_sb_wk b4
  replace hb2 := blk_a hb2 b4 d_b2_wk
  replace bel := below_grown bel b4 owk bel.size
  clear b4
  clear hwk
  go_wp2_with (first | ((with_reducible show wpList _ _ _ (⟨some 5, _, _, _, _, _⟩ :: _) _ _); refine wpList_new_a rfl 26 rfl #[.int .i64 0, .int .i64 0, .slice none 0 0, .slice none 0 0, .slice none 0 0, .slice none 0 0] (by kernel_rfl) ?_; intro g5 w5 ge hh bb; have d_b2_m := ne_new (hlt hb2) ge; have av_sb_m := sb.av_new ge; have om := Nat.le_trans bel.size ge; replace hb2 := blk_u hb2 bb; replace sb := sb.below bb; replace bel := bel.trans (bb.mono bel.size); have hm := hh; clear hh ge bb) | ((with_reducible show wpList _ _ _ (⟨none, Op.store _ (.tmp 5) _, _, _, _, _⟩ :: _) _ _); refine wpList_store_blk rfl 26 (.tmp 5) (.tmp 15) rfl g5 rfl _ rfl _ 26 hm (by rfl) (by kernel_rfl) (by kernel_rfl) ?_; intro w6 hq gr; replace sb := sb.away av_sb_m gr; replace hb2 := blk_a hb2 gr d_b2_m; replace bel := below_grown bel gr om bel.size; clear hm; have hm := hq; clear hq gr) | ((with_reducible show wpList _ _ _ (⟨none, Op.store _ (.tmp 2) _, _, _, _, _⟩ :: _) _ _); refine wpList_store_blk rfl 26 (.tmp 2) (.tmp 25) rfl g2 rfl _ rfl _ 26 hb2 (by rfl) (by kernel_rfl) (by kernel_rfl) ?_; intro w7 hq gr; replace sb := sb.away av_sb_b2 gr; replace hm := blk_a hm gr (ne_symm d_b2_m); replace bel := below_grown bel gr ob2 bel.size; clear hb2; have hb2 := hq; clear hq gr))
  exact bodyPost_ret (results_cell_tmp_row rfl _ _ _ _ _ _ _ rfl hb2 Try.underlying26 rfl (by kernel_rfl) (.int .i64 3) rfl) rfl ⟨by rw [← HY.out, HE.out]; rfl, bel⟩
 ·have HNO := Lib.hid h3_
  have y0 : y ≠ 0 := by have h_ := bodyM_err h3_; have h1_ := HY.out; omega
  have y1 : (y != 0) = true := by simpa using y0
  have y2 : (y == 0) = false := by simpa using y0
  have H12 : Hid (12 ≤ n) := Lib.hid (by have h_ := HBL.out; omega)
  have hn_ : n ≤ 1472 := by have h_ := HBL.out; omega
  have t9 : decide ((1472 : Int) < (n : Int)) = false := decide_eq_false (by omega)
  have NL : n ≤ 100000 := by omega
  clear hn_
  clear h1_ h2_ h3_ hg y0
  go_wp2_with (first | ((with_reducible show wpList _ _ _ (⟨some 2, _, _, _, _, _⟩ :: _) _ _); refine wpList_new_a rfl 26 rfl #[.int .i64 0, .int .i64 0, .slice none 0 0, .slice none 0 0, .slice none 0 0, .slice none 0 0] (by kernel_rfl) ?_; intro g2 w1 ge hh bb; have av_sb_b2 := sb.av_new ge; have ob2 := Nat.le_trans bel.size ge; replace sb := sb.below bb; replace bel := bel.trans (bb.mono bel.size); have hb2 := hh; clear hh ge bb) | ((with_reducible show wpList _ _ _ (⟨some 4, _, _, _, _, _⟩ :: _) _ _); refine wpList_new_a rfl 53 rfl #[.slice none 0 0, .int .i64 0] (by kernel_rfl) ?_; intro g4 w2 ge hh bb; have d_b2_wk := ne_new (hlt hb2) ge; have av_sb_wk := sb.av_new ge; have owk := Nat.le_trans bel.size ge; replace hb2 := blk_u hb2 bb; replace sb := sb.below bb; replace bel := bel.trans (bb.mono bel.size); have hwk := hh; clear hh ge bb) | ((with_reducible show wpList _ _ _ (⟨none, Op.store _ (.tmp 4) _, _, _, _, _⟩ :: _) _ _); refine wpList_store_blk rfl 53 (.tmp 4) (.tmp 12) rfl g4 rfl _ rfl _ 53 hwk (by rfl) (by kernel_rfl) (by kernel_rfl) ?_; intro w3 hq gr; replace sb := sb.away av_sb_wk gr; replace hb2 := blk_a hb2 gr d_b2_wk; replace bel := below_grown bel gr owk bel.size; clear hwk; have hwk := hq; clear hq gr))
  with_reducible refine (dmsg_no _ hwk sb av_sb_wk NL H12.out HNO.out y HY.out).mono ?_
  rintro e w4 ⟨i_, f_, Qq, nq, cq, Qa, na, ca, Qo, no, co, Qm, nm, cm, rfl, b4⟩
  replace sb := sb.away av_sb_wk b4
  replace hb2 := blk_a hb2 b4 d_b2_wk
  replace bel := below_grown bel b4 owk bel.size
  clear b4
  clear hwk
  go_wp2_with (first | ((with_reducible show wpList _ _ _ (⟨some 5, _, _, _, _, _⟩ :: _) _ _); refine wpList_new_a rfl 26 rfl #[.int .i64 0, .int .i64 0, .slice none 0 0, .slice none 0 0, .slice none 0 0, .slice none 0 0] (by kernel_rfl) ?_; intro g5 w5 ge hh bb; have d_b2_m := ne_new (hlt hb2) ge; have av_sb_m := sb.av_new ge; have om := Nat.le_trans bel.size ge; replace hb2 := blk_u hb2 bb; replace sb := sb.below bb; replace bel := bel.trans (bb.mono bel.size); have hm := hh; clear hh ge bb) | ((with_reducible show wpList _ _ _ (⟨none, Op.store _ (.tmp 5) _, _, _, _, _⟩ :: _) _ _); refine wpList_store_blk rfl 26 (.tmp 5) (.tmp 15) rfl g5 rfl _ rfl _ 26 hm (by rfl) (by kernel_rfl) (by kernel_rfl) ?_; intro w6 hq gr; replace sb := sb.away av_sb_m gr; replace hb2 := blk_a hb2 gr d_b2_m; replace bel := below_grown bel gr om bel.size; clear hm; have hm := hq; clear hq gr) | ((with_reducible show wpList _ _ _ (⟨none, Op.store _ (.tmp 2) _, _, _, _, _⟩ :: _) _ _); refine wpList_store_blk rfl 26 (.tmp 2) (.tmp 25) rfl g2 rfl _ rfl _ 26 hb2 (by rfl) (by kernel_rfl) (by kernel_rfl) ?_; intro w7 hq gr; replace sb := sb.away av_sb_b2 gr; replace hm := blk_a hm gr (ne_symm d_b2_m); replace bel := below_grown bel gr ob2 bel.size; clear hb2; have hb2 := hq; clear hq gr))
  exact bodyPost_ret (results_cell_tmp_row rfl _ _ _ _ _ _ _ rfl hb2 Try.underlying26 rfl (by kernel_rfl) (.int .i64 y) rfl) rfl ⟨rfl, bel⟩
 have HE := Lib.hid he_
 have HOK := Lib.hid h3_
 have P2L : p2 ≤ 100000 := by omega
 have t21 : p2 < n := by have h_ := HBL.out; omega
 have H12 : Hid (12 ≤ n) := Lib.hid (by have h_ := HBL.out; omega)
 have hn_ : n ≤ 1472 := by have h_ := HBL.out; omega
 have t9 : decide ((1472 : Int) < (n : Int)) = false := decide_eq_false (by omega)
 have NL : n ≤ 100000 := by omega
 clear hn_
 clear h1_ h2_ h3_ h4_ he_ hg
 go_wp2_with (first | ((with_reducible show wpList _ _ _ (⟨some 2, _, _, _, _, _⟩ :: _) _ _); refine wpList_new_a rfl 26 rfl #[.int .i64 0, .int .i64 0, .slice none 0 0, .slice none 0 0, .slice none 0 0, .slice none 0 0] (by kernel_rfl) ?_; intro g2 w1 ge hh bb; have av_sb_b2 := sb.av_new ge; have ob2 := Nat.le_trans bel.size ge; replace sb := sb.below bb; replace bel := bel.trans (bb.mono bel.size); have hb2 := hh; clear hh ge bb) | ((with_reducible show wpList _ _ _ (⟨some 4, _, _, _, _, _⟩ :: _) _ _); refine wpList_new_a rfl 53 rfl #[.slice none 0 0, .int .i64 0] (by kernel_rfl) ?_; intro g4 w2 ge hh bb; have d_b2_wk := ne_new (hlt hb2) ge; have av_sb_wk := sb.av_new ge; have owk := Nat.le_trans bel.size ge; replace hb2 := blk_u hb2 bb; replace sb := sb.below bb; replace bel := bel.trans (bb.mono bel.size); have hwk := hh; clear hh ge bb) | ((with_reducible show wpList _ _ _ (⟨none, Op.store _ (.tmp 4) _, _, _, _, _⟩ :: _) _ _); refine wpList_store_blk rfl 53 (.tmp 4) (.tmp 12) rfl g4 rfl _ rfl _ 53 hwk (by rfl) (by kernel_rfl) (by kernel_rfl) ?_; intro w3 hq gr; replace sb := sb.away av_sb_wk gr; replace hb2 := blk_a hb2 gr d_b2_wk; replace bel := below_grown bel gr owk bel.size; clear hwk; have hwk := hq; clear hq gr))
 with_reducible refine (dmsg_ok _ hwk sb av_sb_wk NL H12.out HOK.out).mono ?_
 rintro e w4 ⟨Qq, nq, cq, Qa, na, ca, Qo, no, co, Qm, nm, cm, rfl, hLQ, hLA, hLO, hLM, hq_, b4⟩
 replace sb := sb.away av_sb_wk b4
 replace hb2 := blk_a hb2 b4 d_b2_wk
 replace bel := below_grown bel b4 owk bel.size
 clear b4
 clear hwk
 have hwk := hq_
 clear hq_
 go_wp2_with (first | ((with_reducible show wpList _ _ _ (⟨some 5, _, _, _, _, _⟩ :: _) _ _); refine wpList_new_a rfl 26 rfl #[.int .i64 0, .int .i64 0, .slice none 0 0, .slice none 0 0, .slice none 0 0, .slice none 0 0] (by kernel_rfl) ?_; intro g5 w5 ge hh bb; have d_b2_m := ne_new (hlt hb2) ge; have d_wk_m := ne_new (hlt hwk) ge; have av_sb_m := sb.av_new ge; have om := Nat.le_trans bel.size ge; replace hb2 := blk_u hb2 bb; replace hwk := blk_u hwk bb; replace sb := sb.below bb; replace hLQ := hLQ.kt (S := []) (kt_below bb) (by simp) (by simp); replace hLA := hLA.kt (S := []) (kt_below bb) (by simp) (by simp); replace hLO := hLO.kt (S := []) (kt_below bb) (by simp) (by simp); replace hLM := hLM.kt (S := []) (kt_below bb) (by simp) (by simp); replace bel := bel.trans (bb.mono bel.size); have hm := hh; clear hh ge bb) | ((with_reducible show wpList _ _ _ (⟨none, Op.store _ (.tmp 5) _, _, _, _, _⟩ :: _) _ _); refine wpList_store_blk rfl 26 (.tmp 5) (.tmp 15) rfl g5 rfl _ rfl _ 26 hm (by rfl) (by kernel_rfl) (by kernel_rfl) ?_; intro w6 hq gr; replace sb := sb.away av_sb_m gr; replace hb2 := blk_a hb2 gr d_b2_m; replace hwk := blk_a hwk gr d_wk_m; replace hLQ := hLQ.kt (S := [26]) (kt_grown gr hm (by simp)) (by decide) (by decide); replace hLA := hLA.kt (S := [26]) (kt_grown gr hm (by simp)) (by decide) (by decide); replace hLO := hLO.kt (S := [26]) (kt_grown gr hm (by simp)) (by decide) (by decide); replace hLM := hLM.kt (S := [26]) (kt_grown gr hm (by simp)) (by decide) (by decide); replace bel := below_grown bel gr om bel.size; clear hm; have hm := hq; clear hq gr))
 with_reducible refine (dleft_any _ hwk sb av_sb_wk NL P2L).mono ?_
 rintro e w7 ⟨rfl, b7⟩
 replace hb2 := blk_u hb2 b7
 replace hwk := blk_u hwk b7
 replace hm := blk_u hm b7
 replace sb := sb.below b7
 replace hLQ := hLQ.kt (S := []) (kt_below b7) (by simp) (by simp)
 replace hLA := hLA.kt (S := []) (kt_below b7) (by simp) (by simp)
 replace hLO := hLO.kt (S := []) (kt_below b7) (by simp) (by simp)
 replace hLM := hLM.kt (S := []) (kt_below b7) (by simp) (by simp)
 replace bel := bel.trans (b7.mono bel.size)
 clear b7
 go_wp2_with (first | ((with_reducible show wpList _ _ _ (⟨none, Op.store _ (.tmp 2) _, _, _, _, _⟩ :: _) _ _); refine wpList_store_blk rfl 26 (.tmp 2) (.tmp 25) rfl g2 rfl _ rfl _ 26 hb2 (by rfl) (by kernel_rfl) (by kernel_rfl) ?_; intro w8 hq gr; replace sb := sb.away av_sb_b2 gr; replace hwk := blk_a hwk gr (ne_symm d_b2_wk); replace hm := blk_a hm gr (ne_symm d_b2_m); replace hLQ := hLQ.kt (S := [26]) (kt_grown gr hb2 (by simp)) (by decide) (by decide); replace hLA := hLA.kt (S := [26]) (kt_grown gr hb2 (by simp)) (by decide) (by decide); replace hLO := hLO.kt (S := [26]) (kt_grown gr hb2 (by simp)) (by decide) (by decide); replace hLM := hLM.kt (S := [26]) (kt_grown gr hb2 (by simp)) (by decide) (by decide); replace bel := below_grown bel gr ob2 bel.size; clear hb2; have hb2 := hq; clear hq gr))
 exact bodyPost_ret (results_cell_tmp_row rfl _ _ _ _ _ _ _ rfl hb2 Try.underlying26 rfl (by kernel_rfl) (.int .i64 4) rfl) rfl ⟨by rw [← HY.out, HE.out]; rfl, bel⟩
end Go.Proofs.Ytjedknjlpeccbaa
