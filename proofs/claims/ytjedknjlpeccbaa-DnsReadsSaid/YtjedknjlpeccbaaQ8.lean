/- Texts put together: Ds4, Walkw, Sum, Sumw, Sumr, Sumc, Slices, Eth1, Eth5, Rad, Ipr1, Ipr2, Ipr3, Ipl, Ipa, Ipd, Eth4, Ipe, Ipf, Udl, Ud3, Rd3, Ds6. -/
import Derived.Test.YtjedknjlpeccbaaQ1
import Derived.Test.YtjedknjlpeccbaaQ2
import Derived.Test.YtjedknjlpeccbaaQ5
import Derived.Test.YtjedknjlpeccbaaQ6
import Derived.Test.YtjedknjlpeccbaaQ7
import Derived.Deep.QuietTactic
import Derived.BigQuiet
import Derived.Lib.Hide
import Derived.Deep.LoopGhost
import Derived.BigRegion
import Derived.Stop.BytesEq
import Derived.Deep.RegionHeld3
import Derived.Laws.ResultCell
namespace Go.Proofs.Ytjedknjlpeccbaa
open Go.RowKit

/-- A row of questions, of records of the call's own. -/
def LQ (lo : Nat) (w : World) (T : TypeId) (A : Option Addr) (n c : Nat) (L : List Qn) : Prop := ∃ hs : List Qh, w.ownsRow lo T 3 (.slice A n c) n (hs.flatMap qE) ∧ Qws lo w hs L
def LR (lo : Nat) (w : World) (T : TypeId) (A : Option Addr) (n c : Nat) (L : List Rn) : Prop := ∃ hs : List Rh, w.ownsRow lo T 5 (.slice A n c) n (hs.flatMap rE) ∧ Rws lo w hs L
section
variable {S : List TypeId} {w w' : World} {lo lo' : Nat} {T : TypeId} {A : Option Addr} {n c : Nat}
theorem LQ.kt {L : List Qn} (p : LQ lo w T A n c L) (k : Kt S w w') (h1 : 9 ∉ S ∧ T ∉ S) (h2 : 5 ∉ S) : LQ lo w' T A n c L := by
 obtain ⟨hs, h3, h4⟩ := p
 exact ⟨hs, k.own h3 h1.2, h4.kt k h1.1 h2⟩
theorem LR.kt {L : List Rn} (p : LR lo w T A n c L) (k : Kt S w w') (h1 : 9 ∉ S ∧ T ∉ S) (h2 : 5 ∉ S) : LR lo w' T A n c L := by
 obtain ⟨hs, h3, h4⟩ := p
 exact ⟨hs, k.own h3 h1.2, h4.kt k h1.1 h2⟩
theorem LQ.drew {L : List Qn} (p : LQ lo w T A n c L) : LQ lo w.drew T A n c L := p
theorem LR.drew {L : List Rn} (p : LR lo w T A n c L) : LR lo w.drew T A n c L := p
theorem LQ.lower {L : List Qn} (p : LQ lo w T A n c L) (hl : lo' ≤ lo) : LQ lo' w T A n c L := by
 obtain ⟨hs, h3, h4⟩ := p
 exact ⟨hs, owk_lo h3 hl, h4.lower hl⟩
theorem LR.lower {L : List Rn} (p : LR lo w T A n c L) (hl : lo' ≤ lo) : LR lo' w T A n c L := by
 obtain ⟨hs, h3, h4⟩ := p
 exact ⟨hs, owk_lo h3 hl, h4.lower hl⟩
theorem LQ.nil (w : World) : LQ lo w T none 0 0 [] := ⟨[], owk_nil _ _ _, All2.nil⟩
theorem LR.nil (w : World) : LR lo w T none 0 0 [] := ⟨[], owk_nil _ _ _, All2.nil⟩
end
theorem mr_of {w : World} {lo : Nat} {Tq Tr : TypeId} {Q A O M : Option Addr} {qn qc an ac on oc mn mc : Nat} {m : Mn} (h1 : LQ lo w Tq Q qn qc m.q) (h2 : LR lo w Tr A an ac m.a) (h3 : LR lo w Tr O on oc m.o) (h4 : LR lo w Tr M mn mc m.m) : Mr w Q qn qc A an ac O on oc M mn mc m := by
 obtain ⟨hq, q1, q2⟩ := h1
 obtain ⟨ha, a1, a2⟩ := h2
 obtain ⟨ho, o1, o2⟩ := h3
 obtain ⟨hm, m1, m2⟩ := h4
 exact ⟨hq, ha, ho, hm, (owk_sle (by decide) qE_len q1).1, q2.qr, (owk_sle (by decide) rE_len a1).1, a2.rr, (owk_sle (by decide) rE_len o1).1, o2.rr, (owk_sle (by decide) rE_len m1).1, m2.rr⟩
theorem rAt_le {b : List UInt8} {a a2 : Nat} {r : Rn} (h : rAt b a = .ok (r, a2)) : a2 ≤ b.length := by
 obtain ⟨q, a1, kd, _, _, _, hd, ha, _⟩ := rAt_inv h
 have := (dAt_inv hd).1
 omega
theorem Qws.snoc {lo : Nat} {w : World} {hs : List Qh} {L : List Qn} {x : Qh} {q : Qn} (h : Qws lo w hs L) (hx : Qw lo w x q) : Qws lo w (hs ++ [x]) (L ++ [q]) := All2.snoc h hx
theorem Rws.snoc {lo : Nat} {w : World} {hs : List Rh} {L : List Rn} {x : Rh} {q : Rn} (h : Rws lo w hs L) (hx : Rw lo w x q) : Rws lo w (hs ++ [x]) (L ++ [q]) := All2.snoc h hx
theorem dn_u16d {g : Nat} {A : Option Addr} {n c j j2 : Nat} {t : List UInt8} {s : Bool} {w : World} {y : Int} (hj : j + 2 = j2) (hl : j2 ≤ t.length) (hy : Hid (((be ((t.drop j).take 2) : Nat) : Int) = y)) (h : w.heap[g]? = some (.cells #[.slice A n c, .bool s] 106 (0, 0))) (hs : Sl w A n c (t.drop j)) :
  Calls Try.prog 45 #[.pointer (some ⟨g, 0, none⟩)] w fun e w' => ∃ A' n' c', e = .returned (.int .i64 y) ∧ w'.heap[g]? = some (.cells #[.slice A' n' c', .bool s] 106 (0, 0)) ∧ Sl w' A' n' c' (t.drop j2) ∧ Sub A' n' A n ∧ w.grownBy w' (some g) := by
 have h1 := dn_u16 (l := t.drop j) (by rw [List.length_drop]; omega) hy h hs
 rw [List.drop_drop, hj] at h1
 exact h1
set_option linter.unusedVariables false in
set_option linter.unusedSimpArgs false in
set_option maxRecDepth 100000 in
set_option maxHeartbeats 16000000 in
theorem dlistq_ok {gx n c : Nat} {A : Option Addr} {b : List UInt8} {a : Nat} (w : World) (hwk : w.heap[gx]? = some (.cells #[.slice A n c, .int .i64 (a : Int)] 53 (0, 0))) (sb : Sl w A n c b) (av_sb_wk : Av A n gx) (hn : n ≤ 100000) (ha : a ≤ 100000) (han : a ≤ n) (k : Nat) (hk : k ≤ 100) {L : List Qn} {a2 : Nat} (hok : goL (qAt b) k a [] = .ok (L, a2)) : Calls Try.prog 46 #[.int .i64 (k : Int), .func (.func 47) #[.pointer (some ⟨gx, 0, none⟩)] #[]] w fun e w' => ∃ Q cq, e = .returned (.tuple #[.slice Q k cq, .int .i64 0]) ∧ LQ w.heap.size w' 60 Q k cq L ∧ w'.heap[gx]? = some (.cells #[.slice A n c, .int .i64 (a2 : Int)] 53 (0, 0)) ∧ w.grownBy w' (some gx) := by
 have hlo := Nat.zero_le w.heap.size
 have owk := Nat.zero_le gx
 have HBL := Lib.hid sb.1
 have a0 : (0 : Int) ≤ a := by omega
 have a1 : (a : Int) ≤ 100000 := by omega
 have n0 : (0 : Int) ≤ n := by omega
 have n1 : (n : Int) ≤ 100000 := by omega
 have hsz := Nat.le_refl w.heap.size
 have fz := fz_refl w (some gx)
 have BLB := sb.bl_new
 have hqs : Qws w.heap.size w [] [] := All2.nil
 have k0 : (0 : Int) ≤ k := by omega
 have k1 : (k : Int) ≤ 100 := by omega
 obtain ⟨iq, hiq, hiq0, hiq1, hiq2⟩ := info_parts Try.info_qn
 have HOK := Lib.hid hok
 clear hok
 have bel := Below.refl 0 w
 go_enter Try.func46, Try.ntmps46
 go_wp2_with fail
 go_loopg [6, 10] (k) (fun gk s6 s10 wr => ∃ i : Nat, ∃ p : Nat, ∃ hs : List Qh, ∃ L1 : List Qn, ∃ (Aou : Option Addr) (cou : Nat), gk = k - i ∧ i ≤ k ∧ Hid (goL (qAt b) (k - i) p L1 = goL (qAt b) k a []) ∧ Hid (p ≤ n) ∧ w.grownBy wr (some gx) ∧ w.heap.size ≤ wr.heap.size ∧ Qws w.heap.size wr hs L1 ∧ s6 = .slice Aou i cou ∧ s10 = .int .i64 (i : Int) ∧ wr.ownsRow (w.heap.size) 60 3 (.slice Aou (i) cou) (i) ((hs : List Qh).flatMap qE) ∧ Ofs (.slice Aou (i) cou) gx ∧ w.heap.size ≤ wr.heap.size ∧ wr.heap[gx]? = some (.cells #[.slice A n c, .int .i64 (p : Int)] 53 (0, 0)) ∧ Sl wr (A) (n) (c) (b) ∧ Below 0 w wr)
 case atStart => exact ⟨0, a, [], [], none, 0, Nat.sub_zero _, Nat.zero_le _, Lib.hid rfl, Lib.hid han, fz, hsz, hqs, rfl, rfl, owk_nil _ _ _, (fun g h => by simp [Value.ownBlock] at h), hsz, hwk, sb, bel⟩
 case round =>
  clear fz hsz hqs hwk sb bel
  obtain ⟨i, p, hs, L1, Aou, cou, HGK, hi, HG, HP, fz, hsz, hqs, rfl, rfl, ouw, of_ou_wk, lz_ou, hwk, sb, bel⟩ := hrel
  have HGK_ := Lib.hid HGK
  clear HGK
  have ou := (owk_sle (by decide) qE_len ouw).1
  have fr_ou := (owk_sle (by decide) qE_len ouw).2
  have av_ou_wk := owk_av ouw of_ou_wk
  have hz_ou := Nat.le_refl w.heap.size
  have i0 : (0 : Int) ≤ i := by omega
  have p0 : (0 : Int) ≤ p := by omega
  have PL : p ≤ 100000 := by have h_ := HP.out; omega
  have oulo := Nat.zero_le w.heap.size
  by_cases hik : i < k
  rotate_left
  ·have hh := Lib.hid hik
   obtain rfl : i = k := by omega
   replace hik : decide (i < i) = false := decide_eq_false (by omega)
   have HGE : Hid (goL (qAt b) i a [] = .ok (L1, p)) := Lib.hid (by rw [← HG.out, Nat.sub_self]; rfl)
   have HE2 : Hid (L1 = L ∧ p = a2) := Lib.hid (by have h_ := HGE.out.symm.trans HOK.out; injection h_ with h_; injection h_ with h1_ h2_; exact ⟨h1_, h2_⟩)
   go_wp2_with fail
   exact bodyPost_ret (v := .tuple #[.slice Aou i cou, .int .i64 0]) (by simp [results, Try.results46, go_sem]) rfl ⟨_, _, rfl, by rw [← HE2.out.1]; exact ⟨hs, ouw, hqs⟩, by rw [← HE2.out.2]; exact hwk, fz⟩
  obtain ⟨r, hr_⟩ : ∃ r, k - i = r + 1 := ⟨k - i - 1, by omega⟩
  have HR := Lib.hid hr_
  clear hr_
  have GNO : ∀ er, qAt b p = .error er → goL (qAt b) k a [] = .error er := fun er h_ => by rw [← HG.out, HR.out]; exact goL_no h_ _ _
  rcases hq : qAt b p with er | ⟨q, a1⟩
  ·have h_ := (GNO er hq).symm.trans HOK.out
   cases h_
  have HQ := Lib.hid hq
  clear hq GNO
  go_wp2_with fail
  have HSQ := hsz
  with_reducible refine (dquest_ok _ hwk sb av_sb_wk hn PL HQ.out).mono ?_
  rintro e w1 ⟨x, rfl, hq_, hx, b1⟩
  replace sb := sb.away av_sb_wk b1
  replace ou := ou.away av_ou_wk b1
  replace ouw := owk_off ouw of_ou_wk b1
  replace lz_ou := Nat.le_trans lz_ou b1.size
  replace fz := fz_self fz b1
  replace hsz := Nat.le_trans hsz b1.size
  replace hqs := hqs.kt (S := [53]) (kt_grown b1 hwk (by simp)) (by decide) (by decide)
  replace bel := below_grown bel b1 owk (Nat.le_trans hlo bel.size)
  clear b1
  clear hwk
  have hwk := hq_
  clear hq_
  replace hx := hx.lower HSQ
  go_wp2_with (first | ((with_reducible show wpList _ _ _ (⟨some 7, _, _, _, _, _⟩ :: _) _ _); refine wpList_new_a rfl 60 rfl #[.slice none 0 0, .int .i64 0, .int .i64 0] (by kernel_rfl) ?_; intro g7 w2 ge hh bb; have d_wk_b7 := ne_new (hlt hwk) ge; have av_sb_b7 := sb.av_new ge; have av_ou_b7 := ou.av_new ge; have of_ou_b7 := owk_new ouw ge; have ob7 := Nat.le_trans (Nat.le_trans hlo bel.size) ge; have pb7 := Nat.le_trans hsz ge; replace hwk := blk_u hwk bb; replace sb := sb.below bb; replace ou := ou.below bb; replace ouw := owk_under ouw bb; replace lz_ou := Nat.le_trans lz_ou bb.size; replace fz := gk_under fz bb hsz; replace hsz := Nat.le_trans hsz bb.size; replace hqs := hqs.kt (S := []) (kt_below bb) (by simp) (by simp); replace hx := hx.kt (S := []) (kt_below bb) (by simp) (by simp); replace bel := bel.trans (bb.mono (Nat.le_trans hlo bel.size)); have hb7 := hh; clear hh ge bb) | ((with_reducible show wpList _ _ _ (⟨none, Op.store _ (.tmp 7) _, _, _, _, _⟩ :: _) _ _); refine wpList_store_blk rfl 60 (.tmp 7) (.tmp 15) rfl g7 rfl _ rfl _ 60 hb7 (by rfl) (by kernel_rfl) (by kernel_rfl) ?_; intro w3 hq gr; replace sb := sb.away av_sb_b7 gr; replace ou := ou.away av_ou_b7 gr; replace ouw := owk_off ouw of_ou_b7 gr; replace lz_ou := Nat.le_trans lz_ou gr.size; replace hwk := blk_a hwk gr d_wk_b7; replace fz := fz_new fz gr pb7; replace hsz := Nat.le_trans hsz gr.size; replace hqs := hqs.kt (S := [60]) (kt_grown gr hb7 (by simp)) (by decide) (by decide); replace hx := hx.kt (S := [60]) (kt_grown gr hb7 (by simp)) (by decide) (by decide); replace bel := below_grown bel gr ob7 (Nat.le_trans hlo bel.size); clear hb7; have hb7 := hq; clear hq gr; replace hqs := hqs.snoc hx; clear hx; have R21 := Lib.hid (range_lit hb7 0 3 [.slice x.A x.n x.c, .int .i64 x.t, .int .i64 x.k] rfl)) | ((with_reducible show wpList _ _ _ (⟨some 21, _, _, _, _, _⟩ :: _) _ _); refine wpList_load_rng 60 (.tmp 7) rfl (by kernel_rfl) _ _ rfl _ R21.out _ Try.underlying60 rfl (by kernel_rfl) ?_) | ((with_reducible show wpList _ _ _ (⟨some 22, _, _, _, _, _⟩ :: _) _ _); refine wpList_lit_n rfl 23 60 1 _ rfl #[.slice x.A x.n x.c, .int .i64 x.t, .int .i64 x.k] (.agg #[.slice none 0 0, .int .i64 0, .int .i64 0]) Try.underlying23 (by kernel_rfl) 3 (by kernel_rfl) (by decide) (by kernel_rfl) ?_; intro g22 w4 ge lt hh bb; have d_wk_b22 := ne_new (hlt hwk) ge; have d_b7_b22 := ne_new (hlt hb7) ge; have av_sb_b22 := sb.av_new ge; have av_ou_b22 := ou.av_new ge; have of_ou_b22 := owk_new ouw ge; have ob22 := Nat.le_trans (Nat.le_trans hlo bel.size) ge; have pb22 := Nat.le_trans hsz ge; replace hwk := blk_u hwk bb; replace hb7 := blk_u hb7 bb; replace sb := sb.below bb; replace ou := ou.below bb; replace ouw := owk_under ouw bb; replace lz_ou := Nat.le_trans lz_ou bb.size; replace fz := gk_under fz bb hsz; replace hsz := Nat.le_trans hsz bb.size; replace hqs := hqs.kt (S := []) (kt_below bb) (by simp) (by simp); replace bel := bel.trans (bb.mono (Nat.le_trans hlo bel.size)); have hb22 := hh; clear hh lt ge bb; have l1 : Sle qE 3 w4 (some ⟨g22, 0, none⟩) (1) (1) ([x]) := sle_lit ([x]) (by decide) qE_len hb22 rfl (by simp [maxLen])) | ((with_reducible show wpList _ _ _ (⟨some 23, _, _, _, _, _⟩ :: _) _ _); refine wpList_append_sle rfl (.tmp 20) (.tmp 22) 23 rfl (w.heap.size) 60 iq (.agg #[.slice none 0 0, .int .i64 0, .int .i64 0]) 40 Try.underlying23 hiq hiq0 hiq1 hiq2 rfl qE_one _ (i) (hs) rfl ouw (some ⟨g22, 0, none⟩) (1) (1) ([x]) rfl l1 (by unfold maxLen; omega) (by omega) lz_ou ?_; intro v23 w5 own_ bb gw ofw; have of23_wk := ofw _ (hlt hwk) of_ou_wk; have of23_b7 := ofw _ (hlt hb7) of_ou_b7; have of23_b22 := ofw _ (hlt hb22) of_ou_b22; clear ofw; replace fz := fz_row fz gw ouw hz_ou; replace hqs := hqs.kt (S := [60]) (kt_row gw ouw (by simp)) (by decide) (by decide); replace sb := sb.under BLB bb; replace l1 := Sle.off l1 of_ou_b22 gw; replace hwk := blk_own hwk gw of_ou_wk; replace hb7 := blk_own hb7 gw of_ou_b7; replace hb22 := blk_own hb22 gw of_ou_b22; clear gw; replace hsz := Nat.le_trans hsz bb.size; replace bel := bel.trans (bb.mono oulo); have lz_s23 := Nat.le_trans lz_ou bb.size; clear bb; clear ou ouw lz_ou; replace own_ : w5.ownsRow (w.heap.size) 60 3 v23 (i + 1) ((hs ++ [x] : List Qh).flatMap qE) := own_; obtain ⟨A23, c23, rfl⟩ := owk_val own_; have s23w := own_; have s23 := (owk_sle (by decide) qE_len own_).1; have fr_s23 := (owk_sle (by decide) qE_len own_).2; clear own_; have av_s23_wk := owk_av s23w of23_wk; have av_s23_b7 := owk_av s23w of23_b7; have av_s23_b22 := owk_av s23w of23_b22))
  try clear R21
  go_roundg (k - (i + 1))
  case measure => have := HGK_.out; omega
  case rel => exact ⟨i + 1, a1, hs ++ [x], L1 ++ [q], A23, c23, rfl, hik, Lib.hid (by rw [← HG.out, HR.out, goL_yes HQ.out, show k - (i + 1) = r by have h_ := HR.out; omega]), Lib.hid (by have h_ := (qAt_ok HQ.out).2; have h1_ := HBL.out; omega), fz, hsz, hqs, rfl, by go_num, s23w, of23_wk, lz_s23, hwk, sb, bel⟩
set_option linter.unusedVariables false in
set_option linter.unusedSimpArgs false in
set_option maxRecDepth 100000 in
set_option maxHeartbeats 16000000 in
theorem dlistq_no {gx n c : Nat} {A : Option Addr} {b : List UInt8} {a : Nat} (w : World) (hwk : w.heap[gx]? = some (.cells #[.slice A n c, .int .i64 (a : Int)] 53 (0, 0))) (sb : Sl w A n c b) (av_sb_wk : Av A n gx) (hn : n ≤ 100000) (ha : a ≤ 100000) (han : a ≤ n) (k : Nat) (hk : k ≤ 100) {er : Nat} (hno : goL (qAt b) k a [] = .error er) (y : Int) (hy : (er : Int) = y) : Calls Try.prog 46 #[.int .i64 (k : Int), .func (.func 47) #[.pointer (some ⟨gx, 0, none⟩)] #[]] w fun e w' => e = .returned (.tuple #[.slice none 0 0, .int .i64 y]) ∧ w.grownBy w' (some gx) := by
 have hlo := Nat.zero_le w.heap.size
 have owk := Nat.zero_le gx
 have HBL := Lib.hid sb.1
 have a0 : (0 : Int) ≤ a := by omega
 have a1 : (a : Int) ≤ 100000 := by omega
 have n0 : (0 : Int) ≤ n := by omega
 have n1 : (n : Int) ≤ 100000 := by omega
 have hsz := Nat.le_refl w.heap.size
 have fz := fz_refl w (some gx)
 have BLB := sb.bl_new
 have hqs : Qws w.heap.size w [] [] := All2.nil
 have k0 : (0 : Int) ≤ k := by omega
 have k1 : (k : Int) ≤ 100 := by omega
 obtain ⟨iq, hiq, hiq0, hiq1, hiq2⟩ := info_parts Try.info_qn
 have HOK := Lib.hid hno
 clear hno
 have HY0 := Lib.hid hy
 clear hy
 have bel := Below.refl 0 w
 go_enter Try.func46, Try.ntmps46
 go_wp2_with fail
 go_loopg [6, 10] (k) (fun gk s6 s10 wr => ∃ i : Nat, ∃ p : Nat, ∃ hs : List Qh, ∃ L1 : List Qn, ∃ (Aou : Option Addr) (cou : Nat), gk = k - i ∧ i ≤ k ∧ Hid (goL (qAt b) (k - i) p L1 = goL (qAt b) k a []) ∧ Hid (p ≤ n) ∧ w.grownBy wr (some gx) ∧ w.heap.size ≤ wr.heap.size ∧ Qws w.heap.size wr hs L1 ∧ s6 = .slice Aou i cou ∧ s10 = .int .i64 (i : Int) ∧ wr.ownsRow (w.heap.size) 60 3 (.slice Aou (i) cou) (i) ((hs : List Qh).flatMap qE) ∧ Ofs (.slice Aou (i) cou) gx ∧ w.heap.size ≤ wr.heap.size ∧ wr.heap[gx]? = some (.cells #[.slice A n c, .int .i64 (p : Int)] 53 (0, 0)) ∧ Sl wr (A) (n) (c) (b) ∧ Below 0 w wr)
 case atStart => exact ⟨0, a, [], [], none, 0, Nat.sub_zero _, Nat.zero_le _, Lib.hid rfl, Lib.hid han, fz, hsz, hqs, rfl, rfl, owk_nil _ _ _, (fun g h => by simp [Value.ownBlock] at h), hsz, hwk, sb, bel⟩
 case round =>
  clear fz hsz hqs hwk sb bel
  obtain ⟨i, p, hs, L1, Aou, cou, HGK, hi, HG, HP, fz, hsz, hqs, rfl, rfl, ouw, of_ou_wk, lz_ou, hwk, sb, bel⟩ := hrel
  have HGK_ := Lib.hid HGK
  clear HGK
  have ou := (owk_sle (by decide) qE_len ouw).1
  have fr_ou := (owk_sle (by decide) qE_len ouw).2
  have av_ou_wk := owk_av ouw of_ou_wk
  have hz_ou := Nat.le_refl w.heap.size
  have i0 : (0 : Int) ≤ i := by omega
  have p0 : (0 : Int) ≤ p := by omega
  have PL : p ≤ 100000 := by have h_ := HP.out; omega
  have oulo := Nat.zero_le w.heap.size
  by_cases hik : i < k
  rotate_left
  ·have hh := Lib.hid hik
   obtain rfl : i = k := by omega
   replace hik : decide (i < i) = false := decide_eq_false (by omega)
   have HGE : Hid (goL (qAt b) i a [] = .ok (L1, p)) := Lib.hid (by rw [← HG.out, Nat.sub_self]; rfl)
   have h_ := HGE.out.symm.trans HOK.out
   cases h_
  obtain ⟨r, hr_⟩ : ∃ r, k - i = r + 1 := ⟨k - i - 1, by omega⟩
  have HR := Lib.hid hr_
  clear hr_
  have GNO : ∀ er, qAt b p = .error er → goL (qAt b) k a [] = .error er := fun er h_ => by rw [← HG.out, HR.out]; exact goL_no h_ _ _
  rcases hq : qAt b p with er2 | ⟨q, a1⟩
  ·have HQ := Lib.hid hq
   have HEE : Hid (er2 = er) := Lib.hid (by have h_ := (GNO er2 hq).symm.trans HOK.out; injection h_)
   have HY : Hid ((er2 : Int) = y) := Lib.hid (by rw [HEE.out]; exact HY0.out)
   have y0 : y ≠ 0 := by have h_ := HY.out; have h1_ := qAt_err hq; omega
   have y1 : (y != 0) = true := by simpa using y0
   clear hq GNO y0
   go_wp2_with fail
   with_reducible refine (dquest_no _ hwk sb av_sb_wk hn PL HQ.out y HY.out).mono ?_
   rintro e w1 ⟨rfl, b1⟩
   replace sb := sb.away av_sb_wk b1
   replace ou := ou.away av_ou_wk b1
   replace ouw := owk_off ouw of_ou_wk b1
   replace lz_ou := Nat.le_trans lz_ou b1.size
   replace fz := fz_self fz b1
   replace hsz := Nat.le_trans hsz b1.size
   replace hqs := hqs.kt (S := [53]) (kt_grown b1 hwk (by simp)) (by decide) (by decide)
   replace bel := below_grown bel b1 owk (Nat.le_trans hlo bel.size)
   clear b1
   clear hwk
   go_wp2_with (first | ((with_reducible show wpList _ _ _ (⟨some 7, _, _, _, _, _⟩ :: _) _ _); refine wpList_new_a rfl 60 rfl #[.slice none 0 0, .int .i64 0, .int .i64 0] (by kernel_rfl) ?_; intro g7 w2 ge hh bb; have av_sb_b7 := sb.av_new ge; have av_ou_b7 := ou.av_new ge; have of_ou_b7 := owk_new ouw ge; have ob7 := Nat.le_trans (Nat.le_trans hlo bel.size) ge; have pb7 := Nat.le_trans hsz ge; replace sb := sb.below bb; replace ou := ou.below bb; replace ouw := owk_under ouw bb; replace lz_ou := Nat.le_trans lz_ou bb.size; replace fz := gk_under fz bb hsz; replace hsz := Nat.le_trans hsz bb.size; replace hqs := hqs.kt (S := []) (kt_below bb) (by simp) (by simp); replace bel := bel.trans (bb.mono (Nat.le_trans hlo bel.size)); have hb7 := hh; clear hh ge bb) | ((with_reducible show wpList _ _ _ (⟨none, Op.store _ (.tmp 7) _, _, _, _, _⟩ :: _) _ _); refine wpList_store_blk rfl 60 (.tmp 7) (.tmp 15) rfl g7 rfl _ rfl _ 60 hb7 (by rfl) (by kernel_rfl) (by kernel_rfl) ?_; intro w3 hq gr; replace sb := sb.away av_sb_b7 gr; replace ou := ou.away av_ou_b7 gr; replace ouw := owk_off ouw of_ou_b7 gr; replace lz_ou := Nat.le_trans lz_ou gr.size; replace fz := fz_new fz gr pb7; replace hsz := Nat.le_trans hsz gr.size; replace hqs := hqs.kt (S := [60]) (kt_grown gr hb7 (by simp)) (by decide) (by decide); replace bel := below_grown bel gr ob7 (Nat.le_trans hlo bel.size); clear hb7; have hb7 := hq; clear hq gr))
   exact bodyPost_ret (v := .tuple #[.slice none 0 0, .int .i64 y]) (by simp [results, Try.results46, go_sem]) rfl ⟨rfl, fz⟩
  have HQ := Lib.hid hq
  clear hq GNO
  go_wp2_with fail
  have HSQ := hsz
  with_reducible refine (dquest_ok _ hwk sb av_sb_wk hn PL HQ.out).mono ?_
  rintro e w1 ⟨x, rfl, hq_, hx, b1⟩
  replace sb := sb.away av_sb_wk b1
  replace ou := ou.away av_ou_wk b1
  replace ouw := owk_off ouw of_ou_wk b1
  replace lz_ou := Nat.le_trans lz_ou b1.size
  replace fz := fz_self fz b1
  replace hsz := Nat.le_trans hsz b1.size
  replace hqs := hqs.kt (S := [53]) (kt_grown b1 hwk (by simp)) (by decide) (by decide)
  replace bel := below_grown bel b1 owk (Nat.le_trans hlo bel.size)
  clear b1
  clear hwk
  have hwk := hq_
  clear hq_
  replace hx := hx.lower HSQ
  go_wp2_with (first | ((with_reducible show wpList _ _ _ (⟨some 7, _, _, _, _, _⟩ :: _) _ _); refine wpList_new_a rfl 60 rfl #[.slice none 0 0, .int .i64 0, .int .i64 0] (by kernel_rfl) ?_; intro g7 w2 ge hh bb; have d_wk_b7 := ne_new (hlt hwk) ge; have av_sb_b7 := sb.av_new ge; have av_ou_b7 := ou.av_new ge; have of_ou_b7 := owk_new ouw ge; have ob7 := Nat.le_trans (Nat.le_trans hlo bel.size) ge; have pb7 := Nat.le_trans hsz ge; replace hwk := blk_u hwk bb; replace sb := sb.below bb; replace ou := ou.below bb; replace ouw := owk_under ouw bb; replace lz_ou := Nat.le_trans lz_ou bb.size; replace fz := gk_under fz bb hsz; replace hsz := Nat.le_trans hsz bb.size; replace hqs := hqs.kt (S := []) (kt_below bb) (by simp) (by simp); replace hx := hx.kt (S := []) (kt_below bb) (by simp) (by simp); replace bel := bel.trans (bb.mono (Nat.le_trans hlo bel.size)); have hb7 := hh; clear hh ge bb) | ((with_reducible show wpList _ _ _ (⟨none, Op.store _ (.tmp 7) _, _, _, _, _⟩ :: _) _ _); refine wpList_store_blk rfl 60 (.tmp 7) (.tmp 15) rfl g7 rfl _ rfl _ 60 hb7 (by rfl) (by kernel_rfl) (by kernel_rfl) ?_; intro w3 hq gr; replace sb := sb.away av_sb_b7 gr; replace ou := ou.away av_ou_b7 gr; replace ouw := owk_off ouw of_ou_b7 gr; replace lz_ou := Nat.le_trans lz_ou gr.size; replace hwk := blk_a hwk gr d_wk_b7; replace fz := fz_new fz gr pb7; replace hsz := Nat.le_trans hsz gr.size; replace hqs := hqs.kt (S := [60]) (kt_grown gr hb7 (by simp)) (by decide) (by decide); replace hx := hx.kt (S := [60]) (kt_grown gr hb7 (by simp)) (by decide) (by decide); replace bel := below_grown bel gr ob7 (Nat.le_trans hlo bel.size); clear hb7; have hb7 := hq; clear hq gr; replace hqs := hqs.snoc hx; clear hx; have R21 := Lib.hid (range_lit hb7 0 3 [.slice x.A x.n x.c, .int .i64 x.t, .int .i64 x.k] rfl)) | ((with_reducible show wpList _ _ _ (⟨some 21, _, _, _, _, _⟩ :: _) _ _); refine wpList_load_rng 60 (.tmp 7) rfl (by kernel_rfl) _ _ rfl _ R21.out _ Try.underlying60 rfl (by kernel_rfl) ?_) | ((with_reducible show wpList _ _ _ (⟨some 22, _, _, _, _, _⟩ :: _) _ _); refine wpList_lit_n rfl 23 60 1 _ rfl #[.slice x.A x.n x.c, .int .i64 x.t, .int .i64 x.k] (.agg #[.slice none 0 0, .int .i64 0, .int .i64 0]) Try.underlying23 (by kernel_rfl) 3 (by kernel_rfl) (by decide) (by kernel_rfl) ?_; intro g22 w4 ge lt hh bb; have d_wk_b22 := ne_new (hlt hwk) ge; have d_b7_b22 := ne_new (hlt hb7) ge; have av_sb_b22 := sb.av_new ge; have av_ou_b22 := ou.av_new ge; have of_ou_b22 := owk_new ouw ge; have ob22 := Nat.le_trans (Nat.le_trans hlo bel.size) ge; have pb22 := Nat.le_trans hsz ge; replace hwk := blk_u hwk bb; replace hb7 := blk_u hb7 bb; replace sb := sb.below bb; replace ou := ou.below bb; replace ouw := owk_under ouw bb; replace lz_ou := Nat.le_trans lz_ou bb.size; replace fz := gk_under fz bb hsz; replace hsz := Nat.le_trans hsz bb.size; replace hqs := hqs.kt (S := []) (kt_below bb) (by simp) (by simp); replace bel := bel.trans (bb.mono (Nat.le_trans hlo bel.size)); have hb22 := hh; clear hh lt ge bb; have l1 : Sle qE 3 w4 (some ⟨g22, 0, none⟩) (1) (1) ([x]) := sle_lit ([x]) (by decide) qE_len hb22 rfl (by simp [maxLen])) | ((with_reducible show wpList _ _ _ (⟨some 23, _, _, _, _, _⟩ :: _) _ _); refine wpList_append_sle rfl (.tmp 20) (.tmp 22) 23 rfl (w.heap.size) 60 iq (.agg #[.slice none 0 0, .int .i64 0, .int .i64 0]) 40 Try.underlying23 hiq hiq0 hiq1 hiq2 rfl qE_one _ (i) (hs) rfl ouw (some ⟨g22, 0, none⟩) (1) (1) ([x]) rfl l1 (by unfold maxLen; omega) (by omega) lz_ou ?_; intro v23 w5 own_ bb gw ofw; have of23_wk := ofw _ (hlt hwk) of_ou_wk; have of23_b7 := ofw _ (hlt hb7) of_ou_b7; have of23_b22 := ofw _ (hlt hb22) of_ou_b22; clear ofw; replace fz := fz_row fz gw ouw hz_ou; replace hqs := hqs.kt (S := [60]) (kt_row gw ouw (by simp)) (by decide) (by decide); replace sb := sb.under BLB bb; replace l1 := Sle.off l1 of_ou_b22 gw; replace hwk := blk_own hwk gw of_ou_wk; replace hb7 := blk_own hb7 gw of_ou_b7; replace hb22 := blk_own hb22 gw of_ou_b22; clear gw; replace hsz := Nat.le_trans hsz bb.size; replace bel := bel.trans (bb.mono oulo); have lz_s23 := Nat.le_trans lz_ou bb.size; clear bb; clear ou ouw lz_ou; replace own_ : w5.ownsRow (w.heap.size) 60 3 v23 (i + 1) ((hs ++ [x] : List Qh).flatMap qE) := own_; obtain ⟨A23, c23, rfl⟩ := owk_val own_; have s23w := own_; have s23 := (owk_sle (by decide) qE_len own_).1; have fr_s23 := (owk_sle (by decide) qE_len own_).2; clear own_; have av_s23_wk := owk_av s23w of23_wk; have av_s23_b7 := owk_av s23w of23_b7; have av_s23_b22 := owk_av s23w of23_b22))
  try clear R21
  go_roundg (k - (i + 1))
  case measure => have := HGK_.out; omega
  case rel => exact ⟨i + 1, a1, hs ++ [x], L1 ++ [q], A23, c23, rfl, hik, Lib.hid (by rw [← HG.out, HR.out, goL_yes HQ.out, show k - (i + 1) = r by have h_ := HR.out; omega]), Lib.hid (by have h_ := (qAt_ok HQ.out).2; have h1_ := HBL.out; omega), fz, hsz, hqs, rfl, by go_num, s23w, of23_wk, lz_s23, hwk, sb, bel⟩
set_option linter.unusedVariables false in
set_option linter.unusedSimpArgs false in
set_option maxRecDepth 100000 in
set_option maxHeartbeats 16000000 in
theorem dlistr_ok {gx n c : Nat} {A : Option Addr} {b : List UInt8} {a : Nat} (w : World) (hwk : w.heap[gx]? = some (.cells #[.slice A n c, .int .i64 (a : Int)] 53 (0, 0))) (sb : Sl w A n c b) (av_sb_wk : Av A n gx) (hn : n ≤ 100000) (ha : a ≤ 100000) (han : a ≤ n) (k : Nat) (hk : k ≤ 100) {L : List Rn} {a2 : Nat} (hok : goL (rAt b) k a [] = .ok (L, a2)) : Calls Try.prog 48 #[.int .i64 (k : Int), .func (.func 49) #[.pointer (some ⟨gx, 0, none⟩)] #[]] w fun e w' => ∃ Q cq, e = .returned (.tuple #[.slice Q k cq, .int .i64 0]) ∧ LR w.heap.size w' 36 Q k cq L ∧ w'.heap[gx]? = some (.cells #[.slice A n c, .int .i64 (a2 : Int)] 53 (0, 0)) ∧ w.grownBy w' (some gx) := by
 have hlo := Nat.zero_le w.heap.size
 have owk := Nat.zero_le gx
 have HBL := Lib.hid sb.1
 have a0 : (0 : Int) ≤ a := by omega
 have a1 : (a : Int) ≤ 100000 := by omega
 have n0 : (0 : Int) ≤ n := by omega
 have n1 : (n : Int) ≤ 100000 := by omega
 have hsz := Nat.le_refl w.heap.size
 have fz := fz_refl w (some gx)
 have BLB := sb.bl_new
 have hqs : Rws w.heap.size w [] [] := All2.nil
 have k0 : (0 : Int) ≤ k := by omega
 have k1 : (k : Int) ≤ 100 := by omega
 obtain ⟨ir, hir, hir0, hir1, hir2⟩ := info_parts Try.info_rn
 have HOK := Lib.hid hok
 clear hok
 have bel := Below.refl 0 w
 go_enter Try.func48, Try.ntmps48
 go_wp2_with fail
 go_loopg [6, 10] (k) (fun gk s6 s10 wr => ∃ i : Nat, ∃ p : Nat, ∃ hs : List Rh, ∃ L1 : List Rn, ∃ (Aou : Option Addr) (cou : Nat), gk = k - i ∧ i ≤ k ∧ Hid (goL (rAt b) (k - i) p L1 = goL (rAt b) k a []) ∧ Hid (p ≤ n) ∧ w.grownBy wr (some gx) ∧ w.heap.size ≤ wr.heap.size ∧ Rws w.heap.size wr hs L1 ∧ s6 = .slice Aou i cou ∧ s10 = .int .i64 (i : Int) ∧ wr.ownsRow (w.heap.size) 36 5 (.slice Aou (i) cou) (i) ((hs : List Rh).flatMap rE) ∧ Ofs (.slice Aou (i) cou) gx ∧ w.heap.size ≤ wr.heap.size ∧ wr.heap[gx]? = some (.cells #[.slice A n c, .int .i64 (p : Int)] 53 (0, 0)) ∧ Sl wr (A) (n) (c) (b) ∧ Below 0 w wr)
 case atStart => exact ⟨0, a, [], [], none, 0, Nat.sub_zero _, Nat.zero_le _, Lib.hid rfl, Lib.hid han, fz, hsz, hqs, rfl, rfl, owk_nil _ _ _, (fun g h => by simp [Value.ownBlock] at h), hsz, hwk, sb, bel⟩
 case round =>
  clear fz hsz hqs hwk sb bel
  obtain ⟨i, p, hs, L1, Aou, cou, HGK, hi, HG, HP, fz, hsz, hqs, rfl, rfl, ouw, of_ou_wk, lz_ou, hwk, sb, bel⟩ := hrel
  have HGK_ := Lib.hid HGK
  clear HGK
  have ou := (owk_sle (by decide) rE_len ouw).1
  have fr_ou := (owk_sle (by decide) rE_len ouw).2
  have av_ou_wk := owk_av ouw of_ou_wk
  have hz_ou := Nat.le_refl w.heap.size
  have i0 : (0 : Int) ≤ i := by omega
  have p0 : (0 : Int) ≤ p := by omega
  have PL : p ≤ 100000 := by have h_ := HP.out; omega
  have oulo := Nat.zero_le w.heap.size
  by_cases hik : i < k
  rotate_left
  ·have hh := Lib.hid hik
   obtain rfl : i = k := by omega
   replace hik : decide (i < i) = false := decide_eq_false (by omega)
   have HGE : Hid (goL (rAt b) i a [] = .ok (L1, p)) := Lib.hid (by rw [← HG.out, Nat.sub_self]; rfl)
   have HE2 : Hid (L1 = L ∧ p = a2) := Lib.hid (by have h_ := HGE.out.symm.trans HOK.out; injection h_ with h_; injection h_ with h1_ h2_; exact ⟨h1_, h2_⟩)
   go_wp2_with fail
   exact bodyPost_ret (v := .tuple #[.slice Aou i cou, .int .i64 0]) (by simp [results, Try.results48, go_sem]) rfl ⟨_, _, rfl, by rw [← HE2.out.1]; exact ⟨hs, ouw, hqs⟩, by rw [← HE2.out.2]; exact hwk, fz⟩
  obtain ⟨r, hr_⟩ : ∃ r, k - i = r + 1 := ⟨k - i - 1, by omega⟩
  have HR := Lib.hid hr_
  clear hr_
  have GNO : ∀ er, rAt b p = .error er → goL (rAt b) k a [] = .error er := fun er h_ => by rw [← HG.out, HR.out]; exact goL_no h_ _ _
  rcases hq : rAt b p with er | ⟨q, a1⟩
  ·have h_ := (GNO er hq).symm.trans HOK.out
   cases h_
  have HQ := Lib.hid hq
  clear hq GNO
  go_wp2_with fail
  have HSQ := hsz
  with_reducible refine (drec_ok _ hwk sb av_sb_wk hn PL HQ.out).mono ?_
  rintro e w1 ⟨x, rfl, hq_, hx, b1⟩
  replace sb := sb.away av_sb_wk b1
  replace ou := ou.away av_ou_wk b1
  replace ouw := owk_off ouw of_ou_wk b1
  replace lz_ou := Nat.le_trans lz_ou b1.size
  replace fz := fz_self fz b1
  replace hsz := Nat.le_trans hsz b1.size
  replace hqs := hqs.kt (S := [53]) (kt_grown b1 hwk (by simp)) (by decide) (by decide)
  replace bel := below_grown bel b1 owk (Nat.le_trans hlo bel.size)
  clear b1
  clear hwk
  have hwk := hq_
  clear hq_
  replace hx := hx.lower HSQ
  go_wp2_with (first | ((with_reducible show wpList _ _ _ (⟨some 7, _, _, _, _, _⟩ :: _) _ _); refine wpList_new_a rfl 36 rfl #[.slice none 0 0, .int .i64 0, .int .i64 0, .int .u32 0, .slice none 0 0] (by kernel_rfl) ?_; intro g7 w2 ge hh bb; have d_wk_b7 := ne_new (hlt hwk) ge; have av_sb_b7 := sb.av_new ge; have av_ou_b7 := ou.av_new ge; have of_ou_b7 := owk_new ouw ge; have ob7 := Nat.le_trans (Nat.le_trans hlo bel.size) ge; have pb7 := Nat.le_trans hsz ge; replace hwk := blk_u hwk bb; replace sb := sb.below bb; replace ou := ou.below bb; replace ouw := owk_under ouw bb; replace lz_ou := Nat.le_trans lz_ou bb.size; replace fz := gk_under fz bb hsz; replace hsz := Nat.le_trans hsz bb.size; replace hqs := hqs.kt (S := []) (kt_below bb) (by simp) (by simp); replace hx := hx.kt (S := []) (kt_below bb) (by simp) (by simp); replace bel := bel.trans (bb.mono (Nat.le_trans hlo bel.size)); have hb7 := hh; clear hh ge bb) | ((with_reducible show wpList _ _ _ (⟨none, Op.store _ (.tmp 7) _, _, _, _, _⟩ :: _) _ _); refine wpList_store_blk rfl 36 (.tmp 7) (.tmp 15) rfl g7 rfl _ rfl _ 36 hb7 (by rfl) (by kernel_rfl) (by kernel_rfl) ?_; intro w3 hq gr; replace sb := sb.away av_sb_b7 gr; replace ou := ou.away av_ou_b7 gr; replace ouw := owk_off ouw of_ou_b7 gr; replace lz_ou := Nat.le_trans lz_ou gr.size; replace hwk := blk_a hwk gr d_wk_b7; replace fz := fz_new fz gr pb7; replace hsz := Nat.le_trans hsz gr.size; replace hqs := hqs.kt (S := [36]) (kt_grown gr hb7 (by simp)) (by decide) (by decide); replace hx := hx.kt (S := [36]) (kt_grown gr hb7 (by simp)) (by decide) (by decide); replace bel := below_grown bel gr ob7 (Nat.le_trans hlo bel.size); clear hb7; have hb7 := hq; clear hq gr; replace hqs := hqs.snoc hx; clear hx; have R21 := Lib.hid (range_lit hb7 0 5 [.slice x.A x.n x.c, .int .i64 x.t, .int .i64 x.k, .int .u32 x.u, .slice x.B x.d x.e] rfl)) | ((with_reducible show wpList _ _ _ (⟨some 21, _, _, _, _, _⟩ :: _) _ _); refine wpList_load_rng 36 (.tmp 7) rfl (by kernel_rfl) _ _ rfl _ R21.out _ Try.underlying36 rfl (by kernel_rfl) ?_) | ((with_reducible show wpList _ _ _ (⟨some 22, _, _, _, _, _⟩ :: _) _ _); refine wpList_lit_n rfl 24 36 1 _ rfl #[.slice x.A x.n x.c, .int .i64 x.t, .int .i64 x.k, .int .u32 x.u, .slice x.B x.d x.e] (.agg #[.slice none 0 0, .int .i64 0, .int .i64 0, .int .u32 0, .slice none 0 0]) Try.underlying24 (by kernel_rfl) 5 (by kernel_rfl) (by decide) (by kernel_rfl) ?_; intro g22 w4 ge lt hh bb; have d_wk_b22 := ne_new (hlt hwk) ge; have d_b7_b22 := ne_new (hlt hb7) ge; have av_sb_b22 := sb.av_new ge; have av_ou_b22 := ou.av_new ge; have of_ou_b22 := owk_new ouw ge; have ob22 := Nat.le_trans (Nat.le_trans hlo bel.size) ge; have pb22 := Nat.le_trans hsz ge; replace hwk := blk_u hwk bb; replace hb7 := blk_u hb7 bb; replace sb := sb.below bb; replace ou := ou.below bb; replace ouw := owk_under ouw bb; replace lz_ou := Nat.le_trans lz_ou bb.size; replace fz := gk_under fz bb hsz; replace hsz := Nat.le_trans hsz bb.size; replace hqs := hqs.kt (S := []) (kt_below bb) (by simp) (by simp); replace bel := bel.trans (bb.mono (Nat.le_trans hlo bel.size)); have hb22 := hh; clear hh lt ge bb; have l1 : Sle rE 5 w4 (some ⟨g22, 0, none⟩) (1) (1) ([x]) := sle_lit ([x]) (by decide) rE_len hb22 rfl (by simp [maxLen])) | ((with_reducible show wpList _ _ _ (⟨some 23, _, _, _, _, _⟩ :: _) _ _); refine wpList_append_sle rfl (.tmp 20) (.tmp 22) 24 rfl (w.heap.size) 36 ir (.agg #[.slice none 0 0, .int .i64 0, .int .i64 0, .int .u32 0, .slice none 0 0]) 72 Try.underlying24 hir hir0 hir1 hir2 rfl rE_one _ (i) (hs) rfl ouw (some ⟨g22, 0, none⟩) (1) (1) ([x]) rfl l1 (by unfold maxLen; omega) (by omega) lz_ou ?_; intro v23 w5 own_ bb gw ofw; have of23_wk := ofw _ (hlt hwk) of_ou_wk; have of23_b7 := ofw _ (hlt hb7) of_ou_b7; have of23_b22 := ofw _ (hlt hb22) of_ou_b22; clear ofw; replace fz := fz_row fz gw ouw hz_ou; replace hqs := hqs.kt (S := [36]) (kt_row gw ouw (by simp)) (by decide) (by decide); replace sb := sb.under BLB bb; replace l1 := Sle.off l1 of_ou_b22 gw; replace hwk := blk_own hwk gw of_ou_wk; replace hb7 := blk_own hb7 gw of_ou_b7; replace hb22 := blk_own hb22 gw of_ou_b22; clear gw; replace hsz := Nat.le_trans hsz bb.size; replace bel := bel.trans (bb.mono oulo); have lz_s23 := Nat.le_trans lz_ou bb.size; clear bb; clear ou ouw lz_ou; replace own_ : w5.ownsRow (w.heap.size) 36 5 v23 (i + 1) ((hs ++ [x] : List Rh).flatMap rE) := own_; obtain ⟨A23, c23, rfl⟩ := owk_val own_; have s23w := own_; have s23 := (owk_sle (by decide) rE_len own_).1; have fr_s23 := (owk_sle (by decide) rE_len own_).2; clear own_; have av_s23_wk := owk_av s23w of23_wk; have av_s23_b7 := owk_av s23w of23_b7; have av_s23_b22 := owk_av s23w of23_b22))
  try clear R21
  go_roundg (k - (i + 1))
  case measure => have := HGK_.out; omega
  case rel => exact ⟨i + 1, a1, hs ++ [x], L1 ++ [q], A23, c23, rfl, hik, Lib.hid (by rw [← HG.out, HR.out, goL_yes HQ.out, show k - (i + 1) = r by have h_ := HR.out; omega]), Lib.hid (by have h_ := rAt_le HQ.out; have h1_ := HBL.out; omega), fz, hsz, hqs, rfl, by go_num, s23w, of23_wk, lz_s23, hwk, sb, bel⟩
set_option linter.unusedVariables false in
set_option linter.unusedSimpArgs false in
set_option maxRecDepth 100000 in
set_option maxHeartbeats 16000000 in
theorem dlistr_no {gx n c : Nat} {A : Option Addr} {b : List UInt8} {a : Nat} (w : World) (hwk : w.heap[gx]? = some (.cells #[.slice A n c, .int .i64 (a : Int)] 53 (0, 0))) (sb : Sl w A n c b) (av_sb_wk : Av A n gx) (hn : n ≤ 100000) (ha : a ≤ 100000) (han : a ≤ n) (k : Nat) (hk : k ≤ 100) {er : Nat} (hno : goL (rAt b) k a [] = .error er) (y : Int) (hy : (er : Int) = y) : Calls Try.prog 48 #[.int .i64 (k : Int), .func (.func 49) #[.pointer (some ⟨gx, 0, none⟩)] #[]] w fun e w' => e = .returned (.tuple #[.slice none 0 0, .int .i64 y]) ∧ w.grownBy w' (some gx) := by
 have hlo := Nat.zero_le w.heap.size
 have owk := Nat.zero_le gx
 have HBL := Lib.hid sb.1
 have a0 : (0 : Int) ≤ a := by omega
 have a1 : (a : Int) ≤ 100000 := by omega
 have n0 : (0 : Int) ≤ n := by omega
 have n1 : (n : Int) ≤ 100000 := by omega
 have hsz := Nat.le_refl w.heap.size
 have fz := fz_refl w (some gx)
 have BLB := sb.bl_new
 have hqs : Rws w.heap.size w [] [] := All2.nil
 have k0 : (0 : Int) ≤ k := by omega
 have k1 : (k : Int) ≤ 100 := by omega
 obtain ⟨ir, hir, hir0, hir1, hir2⟩ := info_parts Try.info_rn
 have HOK := Lib.hid hno
 clear hno
 have HY0 := Lib.hid hy
 clear hy
 have bel := Below.refl 0 w
 go_enter Try.func48, Try.ntmps48
 go_wp2_with fail
 go_loopg [6, 10] (k) (fun gk s6 s10 wr => ∃ i : Nat, ∃ p : Nat, ∃ hs : List Rh, ∃ L1 : List Rn, ∃ (Aou : Option Addr) (cou : Nat), gk = k - i ∧ i ≤ k ∧ Hid (goL (rAt b) (k - i) p L1 = goL (rAt b) k a []) ∧ Hid (p ≤ n) ∧ w.grownBy wr (some gx) ∧ w.heap.size ≤ wr.heap.size ∧ Rws w.heap.size wr hs L1 ∧ s6 = .slice Aou i cou ∧ s10 = .int .i64 (i : Int) ∧ wr.ownsRow (w.heap.size) 36 5 (.slice Aou (i) cou) (i) ((hs : List Rh).flatMap rE) ∧ Ofs (.slice Aou (i) cou) gx ∧ w.heap.size ≤ wr.heap.size ∧ wr.heap[gx]? = some (.cells #[.slice A n c, .int .i64 (p : Int)] 53 (0, 0)) ∧ Sl wr (A) (n) (c) (b) ∧ Below 0 w wr)
 case atStart => exact ⟨0, a, [], [], none, 0, Nat.sub_zero _, Nat.zero_le _, Lib.hid rfl, Lib.hid han, fz, hsz, hqs, rfl, rfl, owk_nil _ _ _, (fun g h => by simp [Value.ownBlock] at h), hsz, hwk, sb, bel⟩
 case round =>
  clear fz hsz hqs hwk sb bel
  obtain ⟨i, p, hs, L1, Aou, cou, HGK, hi, HG, HP, fz, hsz, hqs, rfl, rfl, ouw, of_ou_wk, lz_ou, hwk, sb, bel⟩ := hrel
  have HGK_ := Lib.hid HGK
  clear HGK
  have ou := (owk_sle (by decide) rE_len ouw).1
  have fr_ou := (owk_sle (by decide) rE_len ouw).2
  have av_ou_wk := owk_av ouw of_ou_wk
  have hz_ou := Nat.le_refl w.heap.size
  have i0 : (0 : Int) ≤ i := by omega
  have p0 : (0 : Int) ≤ p := by omega
  have PL : p ≤ 100000 := by have h_ := HP.out; omega
  have oulo := Nat.zero_le w.heap.size
  by_cases hik : i < k
  rotate_left
  ·have hh := Lib.hid hik
   obtain rfl : i = k := by omega
   replace hik : decide (i < i) = false := decide_eq_false (by omega)
   have HGE : Hid (goL (rAt b) i a [] = .ok (L1, p)) := Lib.hid (by rw [← HG.out, Nat.sub_self]; rfl)
   have h_ := HGE.out.symm.trans HOK.out
   cases h_
  obtain ⟨r, hr_⟩ : ∃ r, k - i = r + 1 := ⟨k - i - 1, by omega⟩
  have HR := Lib.hid hr_
  clear hr_
  have GNO : ∀ er, rAt b p = .error er → goL (rAt b) k a [] = .error er := fun er h_ => by rw [← HG.out, HR.out]; exact goL_no h_ _ _
  rcases hq : rAt b p with er2 | ⟨q, a1⟩
  ·have HQ := Lib.hid hq
   have HEE : Hid (er2 = er) := Lib.hid (by have h_ := (GNO er2 hq).symm.trans HOK.out; injection h_)
   have HY : Hid ((er2 : Int) = y) := Lib.hid (by rw [HEE.out]; exact HY0.out)
   have y0 : y ≠ 0 := by have h_ := HY.out; have h1_ := rAt_err hq; omega
   have y1 : (y != 0) = true := by simpa using y0
   clear hq GNO y0
   go_wp2_with fail
   with_reducible refine (drec_no _ hwk sb av_sb_wk hn PL HQ.out y HY.out).mono ?_
   rintro e w1 ⟨rfl, b1⟩
   replace sb := sb.away av_sb_wk b1
   replace ou := ou.away av_ou_wk b1
   replace ouw := owk_off ouw of_ou_wk b1
   replace lz_ou := Nat.le_trans lz_ou b1.size
   replace fz := fz_self fz b1
   replace hsz := Nat.le_trans hsz b1.size
   replace hqs := hqs.kt (S := [53]) (kt_grown b1 hwk (by simp)) (by decide) (by decide)
   replace bel := below_grown bel b1 owk (Nat.le_trans hlo bel.size)
   clear b1
   clear hwk
   go_wp2_with (first | ((with_reducible show wpList _ _ _ (⟨some 7, _, _, _, _, _⟩ :: _) _ _); refine wpList_new_a rfl 36 rfl #[.slice none 0 0, .int .i64 0, .int .i64 0, .int .u32 0, .slice none 0 0] (by kernel_rfl) ?_; intro g7 w2 ge hh bb; have av_sb_b7 := sb.av_new ge; have av_ou_b7 := ou.av_new ge; have of_ou_b7 := owk_new ouw ge; have ob7 := Nat.le_trans (Nat.le_trans hlo bel.size) ge; have pb7 := Nat.le_trans hsz ge; replace sb := sb.below bb; replace ou := ou.below bb; replace ouw := owk_under ouw bb; replace lz_ou := Nat.le_trans lz_ou bb.size; replace fz := gk_under fz bb hsz; replace hsz := Nat.le_trans hsz bb.size; replace hqs := hqs.kt (S := []) (kt_below bb) (by simp) (by simp); replace bel := bel.trans (bb.mono (Nat.le_trans hlo bel.size)); have hb7 := hh; clear hh ge bb) | ((with_reducible show wpList _ _ _ (⟨none, Op.store _ (.tmp 7) _, _, _, _, _⟩ :: _) _ _); refine wpList_store_blk rfl 36 (.tmp 7) (.tmp 15) rfl g7 rfl _ rfl _ 36 hb7 (by rfl) (by kernel_rfl) (by kernel_rfl) ?_; intro w3 hq gr; replace sb := sb.away av_sb_b7 gr; replace ou := ou.away av_ou_b7 gr; replace ouw := owk_off ouw of_ou_b7 gr; replace lz_ou := Nat.le_trans lz_ou gr.size; replace fz := fz_new fz gr pb7; replace hsz := Nat.le_trans hsz gr.size; replace hqs := hqs.kt (S := [36]) (kt_grown gr hb7 (by simp)) (by decide) (by decide); replace bel := below_grown bel gr ob7 (Nat.le_trans hlo bel.size); clear hb7; have hb7 := hq; clear hq gr))
   exact bodyPost_ret (v := .tuple #[.slice none 0 0, .int .i64 y]) (by simp [results, Try.results48, go_sem]) rfl ⟨rfl, fz⟩
  have HQ := Lib.hid hq
  clear hq GNO
  go_wp2_with fail
  have HSQ := hsz
  with_reducible refine (drec_ok _ hwk sb av_sb_wk hn PL HQ.out).mono ?_
  rintro e w1 ⟨x, rfl, hq_, hx, b1⟩
  replace sb := sb.away av_sb_wk b1
  replace ou := ou.away av_ou_wk b1
  replace ouw := owk_off ouw of_ou_wk b1
  replace lz_ou := Nat.le_trans lz_ou b1.size
  replace fz := fz_self fz b1
  replace hsz := Nat.le_trans hsz b1.size
  replace hqs := hqs.kt (S := [53]) (kt_grown b1 hwk (by simp)) (by decide) (by decide)
  replace bel := below_grown bel b1 owk (Nat.le_trans hlo bel.size)
  clear b1
  clear hwk
  have hwk := hq_
  clear hq_
  replace hx := hx.lower HSQ
  go_wp2_with (first | ((with_reducible show wpList _ _ _ (⟨some 7, _, _, _, _, _⟩ :: _) _ _); refine wpList_new_a rfl 36 rfl #[.slice none 0 0, .int .i64 0, .int .i64 0, .int .u32 0, .slice none 0 0] (by kernel_rfl) ?_; intro g7 w2 ge hh bb; have d_wk_b7 := ne_new (hlt hwk) ge; have av_sb_b7 := sb.av_new ge; have av_ou_b7 := ou.av_new ge; have of_ou_b7 := owk_new ouw ge; have ob7 := Nat.le_trans (Nat.le_trans hlo bel.size) ge; have pb7 := Nat.le_trans hsz ge; replace hwk := blk_u hwk bb; replace sb := sb.below bb; replace ou := ou.below bb; replace ouw := owk_under ouw bb; replace lz_ou := Nat.le_trans lz_ou bb.size; replace fz := gk_under fz bb hsz; replace hsz := Nat.le_trans hsz bb.size; replace hqs := hqs.kt (S := []) (kt_below bb) (by simp) (by simp); replace hx := hx.kt (S := []) (kt_below bb) (by simp) (by simp); replace bel := bel.trans (bb.mono (Nat.le_trans hlo bel.size)); have hb7 := hh; clear hh ge bb) | ((with_reducible show wpList _ _ _ (⟨none, Op.store _ (.tmp 7) _, _, _, _, _⟩ :: _) _ _); refine wpList_store_blk rfl 36 (.tmp 7) (.tmp 15) rfl g7 rfl _ rfl _ 36 hb7 (by rfl) (by kernel_rfl) (by kernel_rfl) ?_; intro w3 hq gr; replace sb := sb.away av_sb_b7 gr; replace ou := ou.away av_ou_b7 gr; replace ouw := owk_off ouw of_ou_b7 gr; replace lz_ou := Nat.le_trans lz_ou gr.size; replace hwk := blk_a hwk gr d_wk_b7; replace fz := fz_new fz gr pb7; replace hsz := Nat.le_trans hsz gr.size; replace hqs := hqs.kt (S := [36]) (kt_grown gr hb7 (by simp)) (by decide) (by decide); replace hx := hx.kt (S := [36]) (kt_grown gr hb7 (by simp)) (by decide) (by decide); replace bel := below_grown bel gr ob7 (Nat.le_trans hlo bel.size); clear hb7; have hb7 := hq; clear hq gr; replace hqs := hqs.snoc hx; clear hx; have R21 := Lib.hid (range_lit hb7 0 5 [.slice x.A x.n x.c, .int .i64 x.t, .int .i64 x.k, .int .u32 x.u, .slice x.B x.d x.e] rfl)) | ((with_reducible show wpList _ _ _ (⟨some 21, _, _, _, _, _⟩ :: _) _ _); refine wpList_load_rng 36 (.tmp 7) rfl (by kernel_rfl) _ _ rfl _ R21.out _ Try.underlying36 rfl (by kernel_rfl) ?_) | ((with_reducible show wpList _ _ _ (⟨some 22, _, _, _, _, _⟩ :: _) _ _); refine wpList_lit_n rfl 24 36 1 _ rfl #[.slice x.A x.n x.c, .int .i64 x.t, .int .i64 x.k, .int .u32 x.u, .slice x.B x.d x.e] (.agg #[.slice none 0 0, .int .i64 0, .int .i64 0, .int .u32 0, .slice none 0 0]) Try.underlying24 (by kernel_rfl) 5 (by kernel_rfl) (by decide) (by kernel_rfl) ?_; intro g22 w4 ge lt hh bb; have d_wk_b22 := ne_new (hlt hwk) ge; have d_b7_b22 := ne_new (hlt hb7) ge; have av_sb_b22 := sb.av_new ge; have av_ou_b22 := ou.av_new ge; have of_ou_b22 := owk_new ouw ge; have ob22 := Nat.le_trans (Nat.le_trans hlo bel.size) ge; have pb22 := Nat.le_trans hsz ge; replace hwk := blk_u hwk bb; replace hb7 := blk_u hb7 bb; replace sb := sb.below bb; replace ou := ou.below bb; replace ouw := owk_under ouw bb; replace lz_ou := Nat.le_trans lz_ou bb.size; replace fz := gk_under fz bb hsz; replace hsz := Nat.le_trans hsz bb.size; replace hqs := hqs.kt (S := []) (kt_below bb) (by simp) (by simp); replace bel := bel.trans (bb.mono (Nat.le_trans hlo bel.size)); have hb22 := hh; clear hh lt ge bb; have l1 : Sle rE 5 w4 (some ⟨g22, 0, none⟩) (1) (1) ([x]) := sle_lit ([x]) (by decide) rE_len hb22 rfl (by simp [maxLen])) | ((with_reducible show wpList _ _ _ (⟨some 23, _, _, _, _, _⟩ :: _) _ _); refine wpList_append_sle rfl (.tmp 20) (.tmp 22) 24 rfl (w.heap.size) 36 ir (.agg #[.slice none 0 0, .int .i64 0, .int .i64 0, .int .u32 0, .slice none 0 0]) 72 Try.underlying24 hir hir0 hir1 hir2 rfl rE_one _ (i) (hs) rfl ouw (some ⟨g22, 0, none⟩) (1) (1) ([x]) rfl l1 (by unfold maxLen; omega) (by omega) lz_ou ?_; intro v23 w5 own_ bb gw ofw; have of23_wk := ofw _ (hlt hwk) of_ou_wk; have of23_b7 := ofw _ (hlt hb7) of_ou_b7; have of23_b22 := ofw _ (hlt hb22) of_ou_b22; clear ofw; replace fz := fz_row fz gw ouw hz_ou; replace hqs := hqs.kt (S := [36]) (kt_row gw ouw (by simp)) (by decide) (by decide); replace sb := sb.under BLB bb; replace l1 := Sle.off l1 of_ou_b22 gw; replace hwk := blk_own hwk gw of_ou_wk; replace hb7 := blk_own hb7 gw of_ou_b7; replace hb22 := blk_own hb22 gw of_ou_b22; clear gw; replace hsz := Nat.le_trans hsz bb.size; replace bel := bel.trans (bb.mono oulo); have lz_s23 := Nat.le_trans lz_ou bb.size; clear bb; clear ou ouw lz_ou; replace own_ : w5.ownsRow (w.heap.size) 36 5 v23 (i + 1) ((hs ++ [x] : List Rh).flatMap rE) := own_; obtain ⟨A23, c23, rfl⟩ := owk_val own_; have s23w := own_; have s23 := (owk_sle (by decide) rE_len own_).1; have fr_s23 := (owk_sle (by decide) rE_len own_).2; clear own_; have av_s23_wk := owk_av s23w of23_wk; have av_s23_b7 := owk_av s23w of23_b7; have av_s23_b22 := owk_av s23w of23_b22))
  try clear R21
  go_roundg (k - (i + 1))
  case measure => have := HGK_.out; omega
  case rel => exact ⟨i + 1, a1, hs ++ [x], L1 ++ [q], A23, c23, rfl, hik, Lib.hid (by rw [← HG.out, HR.out, goL_yes HQ.out, show k - (i + 1) = r by have h_ := HR.out; omega]), Lib.hid (by have h_ := rAt_le HQ.out; have h1_ := HBL.out; omega), fz, hsz, hqs, rfl, by go_num, s23w, of23_wk, lz_s23, hwk, sb, bel⟩
theorem goLq_le {b : List UInt8} {k a a2 : Nat} {L M : List Qn} (ha : a ≤ b.length) (h : goL (qAt b) k a L = .ok (M, a2)) : a2 ≤ b.length := by
 refine (goL_all (P := fun _ => True) (n := b.length) (fun _ _ _ h => ⟨trivial, (qAt_ok h).2⟩) k a L M a2 (fun _ _ => trivial) ha h).2.1
theorem goLr_le {b : List UInt8} {k a a2 : Nat} {L M : List Rn} (ha : a ≤ b.length) (h : goL (rAt b) k a L = .ok (M, a2)) : a2 ≤ b.length := by
 refine (goL_all (P := fun _ => True) (n := b.length) (fun _ _ _ h => ⟨trivial, rAt_le h⟩) k a L M a2 (fun _ _ => trivial) ha h).2.1
/-- What the walk reads behind the head: the lists, the place behind them. -/
def bodyM (b : List UInt8) : Except Nat (Mn × Nat) :=
 if 64 < nAt b 4 2 + nAt b 6 2 + nAt b 8 2 + nAt b 10 2 then .error 2 else
 match goL (qAt b) (nAt b 4 2) 12 [] with
 | .error e => .error e
 | .ok (q, a1) => match goL (rAt b) (nAt b 6 2) a1 [] with
  | .error e => .error e
  | .ok (a, a2) => match goL (rAt b) (nAt b 8 2) a2 [] with
   | .error e => .error e
   | .ok (o, a3) => match goL (rAt b) (nAt b 10 2) a3 [] with
    | .error e => .error e
    | .ok (m, a4) => .ok (⟨nAt b 0 2, nAt b 2 2, q, a, o, m⟩, a4)
theorem getM_body {b : List UInt8} (h1 : ¬ 1472 < b.length) (h2 : ¬ b.length < 12) : getM b = match bodyM b with | .error e => .error e | .ok (m, a) => if a = b.length then .ok m else .error 4 := by
 unfold getM bodyM
 rw [if_neg h1, if_neg h2]
 split
 ·rfl
 ·rcases goL (qAt b) (nAt b 4 2) 12 [] with e | ⟨q, a1⟩
  ·rfl
  ·dsimp only
   rcases goL (rAt b) (nAt b 6 2) a1 [] with e | ⟨a, a2⟩
   ·rfl
   ·dsimp only
    rcases goL (rAt b) (nAt b 8 2) a2 [] with e | ⟨o, a3⟩
    ·rfl
    ·dsimp only
     rcases goL (rAt b) (nAt b 10 2) a3 [] with e | ⟨m, a4⟩ <;> rfl
theorem bodyM_le {b : List UInt8} {m : Mn} {a : Nat} (h2 : 12 ≤ b.length) (h : bodyM b = .ok (m, a)) : a ≤ b.length := by
 unfold bodyM at h
 split at h
 ·cases h
 ·split at h
  ·cases h
  ·rename_i hq
   split at h
   ·cases h
   ·rename_i ha
    split at h
    ·cases h
    ·rename_i ho
     split at h
     ·cases h
     ·rename_i hm
      injection h with h; injection h with h3 h4; subst h4
      exact goLr_le (goLr_le (goLr_le (goLq_le h2 hq) ha) ho) hm
theorem bodyM_err {b : List UInt8} {e : Nat} (h : bodyM b = .error e) : e ≠ 0 := by
 have k1 : ∀ k a L e, goL (qAt b) k a L = .error e → e ≠ 0 := fun k a L e h => by have := goL_err (f := qAt b) (fun _ _ h => qAt_err h) k a L e h; omega
 have k2 : ∀ k a L e, goL (rAt b) k a L = .error e → e ≠ 0 := fun k a L e h => by have := goL_err (f := rAt b) (fun _ _ h => rAt_err h) k a L e h; omega
 unfold bodyM at h
 split at h
 ·injection h with h; omega
 ·split at h
  ·rename_i hq; injection h with h; subst h; exact k1 _ _ _ _ hq
  ·split at h
   ·rename_i hq; injection h with h; subst h; exact k2 _ _ _ _ hq
   ·split at h
    ·rename_i hq; injection h with h; subst h; exact k2 _ _ _ _ hq
    ·split at h
     ·rename_i hq; injection h with h; subst h; exact k2 _ _ _ _ hq
     ·cases h
theorem bodyM_yes {b : List UInt8} {nq na no nm : Nat} {q : List Qn} {a o m : List Rn} {a1 a2 a3 a4 : Nat} (h1 : nAt b 4 2 = nq) (h2 : nAt b 6 2 = na) (h3 : nAt b 8 2 = no) (h4 : nAt b 10 2 = nm) (hs : ¬ 64 < nq + na + no + nm) (hq : goL (qAt b) nq 12 [] = .ok (q, a1)) (ha : goL (rAt b) na a1 [] = .ok (a, a2)) (ho : goL (rAt b) no a2 [] = .ok (o, a3)) (hm : goL (rAt b) nm a3 [] = .ok (m, a4)) : bodyM b = .ok (⟨nAt b 0 2, nAt b 2 2, q, a, o, m⟩, a4) := by
 unfold bodyM
 rw [h1, h2, h3, h4, if_neg hs, hq]
 dsimp only
 rw [ha]
 dsimp only
 rw [ho]
 dsimp only
 rw [hm]
theorem bodyM_q {b : List UInt8} {nq na no nm e : Nat} (h1 : nAt b 4 2 = nq) (h2 : nAt b 6 2 = na) (h3 : nAt b 8 2 = no) (h4 : nAt b 10 2 = nm) (hs : ¬ 64 < nq + na + no + nm) (hq : goL (qAt b) nq 12 [] = .error e) : bodyM b = .error e := by
 unfold bodyM
 rw [h1, h2, h3, h4, if_neg hs, hq]
theorem bodyM_a {b : List UInt8} {nq na no nm e : Nat} {q : List Qn} {a1 : Nat} (h1 : nAt b 4 2 = nq) (h2 : nAt b 6 2 = na) (h3 : nAt b 8 2 = no) (h4 : nAt b 10 2 = nm) (hs : ¬ 64 < nq + na + no + nm) (hq : goL (qAt b) nq 12 [] = .ok (q, a1)) (ha : goL (rAt b) na a1 [] = .error e) : bodyM b = .error e := by
 unfold bodyM
 rw [h1, h2, h3, h4, if_neg hs, hq]
 dsimp only
 rw [ha]
theorem bodyM_o {b : List UInt8} {nq na no nm e : Nat} {q : List Qn} {a : List Rn} {a1 a2 : Nat} (h1 : nAt b 4 2 = nq) (h2 : nAt b 6 2 = na) (h3 : nAt b 8 2 = no) (h4 : nAt b 10 2 = nm) (hs : ¬ 64 < nq + na + no + nm) (hq : goL (qAt b) nq 12 [] = .ok (q, a1)) (ha : goL (rAt b) na a1 [] = .ok (a, a2)) (ho : goL (rAt b) no a2 [] = .error e) : bodyM b = .error e := by
 unfold bodyM
 rw [h1, h2, h3, h4, if_neg hs, hq]
 dsimp only
 rw [ha]
 dsimp only
 rw [ho]
theorem bodyM_m {b : List UInt8} {nq na no nm e : Nat} {q : List Qn} {a o : List Rn} {a1 a2 a3 : Nat} (h1 : nAt b 4 2 = nq) (h2 : nAt b 6 2 = na) (h3 : nAt b 8 2 = no) (h4 : nAt b 10 2 = nm) (hs : ¬ 64 < nq + na + no + nm) (hq : goL (qAt b) nq 12 [] = .ok (q, a1)) (ha : goL (rAt b) na a1 [] = .ok (a, a2)) (ho : goL (rAt b) no a2 [] = .ok (o, a3)) (hm : goL (rAt b) nm a3 [] = .error e) : bodyM b = .error e := by
 unfold bodyM
 rw [h1, h2, h3, h4, if_neg hs, hq]
 dsimp only
 rw [ha]
 dsimp only
 rw [ho]
 dsimp only
 rw [hm]
theorem bodyM_many {b : List UInt8} {nq na no nm : Nat} (h1 : nAt b 4 2 = nq) (h2 : nAt b 6 2 = na) (h3 : nAt b 8 2 = no) (h4 : nAt b 10 2 = nm) (hs : 64 < nq + na + no + nm) : bodyM b = .error 2 := by
 unfold bodyM
 rw [h1, h2, h3, h4, if_pos hs]
open Go.RowKit

theorem made2 (v : Int) (w : World) : Sl (w.alloc (.cells #[.int .u8 (v / 256 % 256), .int .u8 (v % 256)] 5)) (some ⟨w.heap.size, 0, none⟩) 2 2 (two v) := by
 have h := Sl.made w 5 (two v) (by simp [two, maxLen])
 simpa [two, u8v, byteOf_val] using h
theorem made4 (v : Int) (w : World) (h0 : 0 ≤ v) (h1 : v < 4294967296) :
  Sl (w.alloc (.cells #[.int .u8 (v / 16777216), .int .u8 (v / 65536 % 256), .int .u8 (v / 256 % 256), .int .u8 (v % 256)] 5)) (some ⟨w.heap.size, 0, none⟩) 4 4 (four v) := by
 have h := Sl.made w 5 (four v) (by simp [four, maxLen])
 have e : v / 16777216 % 256 = v / 16777216 := by omega
 simpa [four, u8v, byteOf_val, e] using h

theorem at16_any (A : Option Addr) (n c k : Nat) (l : List UInt8) (w : World) (hl : Sl w A n c l) (hk : k + 2 ≤ n) (hm : k + 2 ≤ 100000) :
  Calls Try.prog 55 #[.slice A n c, .int .i64 k] w fun e w' => e = .returned (.int .i64 (be ((l.drop k).take 2))) ∧ ∃ q, w' = w.drewN q := by
 obtain ⟨h1, h2, h3, h4⟩ := hl
 obtain ⟨d, o, rfl, hc⟩ := h4 (by omega)
 have k1 : k < l.length := by omega
 have k2 : k + 1 < l.length := by omega
 have c1 := hc k _ (List.getElem?_eq_getElem k1)
 have c2 := hc (k + 1) _ (List.getElem?_eq_getElem k2)
 have HB : Hid (be ((l.drop k).take 2) = l[k].toNat * 256 + l[k + 1].toNat) := by
  unfold Hid
  rw [List.drop_eq_getElem_cons k1, List.drop_eq_getElem_cons k2]
  exact be_two _ _
 have u1 := l[k].toNat_lt
 have u2 := l[k + 1].toNat_lt
 unfold u8v at c1 c2
 generalize l[k].toNat = x at *
 generalize l[k + 1].toNat = y at *
 have b1 : (0 : Int) ≤ k := by omega
 have b2 : (k : Int) < n := by omega
 have b3 : (k : Int) + 1 < n := by omega
 have b4 : (x : Int) < 256 := by omega
 have b5 : (y : Int) < 256 := by omega
 have b6 : (0 : Int) ≤ x := by omega
 have b7 : (0 : Int) ≤ y := by omega
 have b8 : (k : Int) ≤ 100000 := by omega
 clear hc h1 h4 u1 u2
 go_enter Try.func55, Try.ntmps55
 go_wp2
 go_quiet (fail)
 go_wp2
 have hor := or_i64 x y (by omega) (by omega)
 refine bodyPost_ret (v := .int .i64 (be ((l.drop k).take 2))) (by simp [results, Try.results55, go_sem, hor, HB.out]) rfl ⟨rfl, nq, rfl⟩

theorem Sl.drewN {w : World} {A : Option Addr} {n c : Nat} {l : List UInt8} (h : Sl w A n c l) (q : Nat) : Sl (w.drewN q) A n c l := h.keep fun _ _ _ hc => hc

/-- The ones' complement reading of a plain sum: what is left of it by 65535, where only 0 is 0. -/
def nrm (n : Nat) : Nat := if n = 0 then 0 else (n - 1) % 65535 + 1
/-- The sum behind a turn: from b on, each old pair out, each new one in. -/
def ts : Nat → List UInt8 → List UInt8 → Nat
 | s, a :: b :: o, c :: d :: n => ts (s + (65535 - (a.toNat * 256 + b.toNat)) + (c.toNat * 256 + d.toNat)) o n
 | s, _, _ => s
def tk (s : Int) (o n : List UInt8) : Int := if o.length ≠ n.length ∨ o.length % 2 = 1 then s else 65535 - (nrm (ts (65535 - (s % 65536).toNat) o n) : Int)

open Go.RowKit

/-- A slice of slices of bytes. -/
def Sls (w : World) (A : Option Addr) (m : Nat) (ls : List (List UInt8)) : Prop :=
 ls.length = m ∧ (0 < m → ∃ g o, A = some ⟨g, o, none⟩ ∧ ∀ j l, ls[j]? = some l → ∃ B n d, w.cell? ⟨g, o + j, none⟩ = some (.slice B n d) ∧ Sl w B n d l)

theorem Sls.one {w : World} {A : Option Addr} {n c : Nat} {l : List UInt8} (h : Sl w A n c l) :
  Sls (w.alloc (.cells #[.slice A n c] 30)) (some ⟨w.heap.size, 0, none⟩) 1 [l] := by
 refine ⟨rfl, fun _ => ⟨_, _, rfl, fun j x hj => ?_⟩⟩
 match j, hj with
 | 0, hj =>
  obtain rfl : l = x := by simpa using hj
  refine ⟨A, n, c, ?_, h.below ((Below.refl _ _).alloc (Nat.le_refl _) _)⟩
  have h1 := heap_alloc_new w (.cells #[.slice A n c] 30)
  simp only [World.cell?, h1]; simp
 | j + 1, hj => simp at hj
theorem Sls.two {w : World} {A B : Option Addr} {n c m d : Nat} {l t : List UInt8} (h : Sl w A n c l) (h2 : Sl w B m d t) :
  Sls (w.alloc (.cells #[.slice A n c, .slice B m d] 30)) (some ⟨w.heap.size, 0, none⟩) 2 [l, t] := by
 have h1 := heap_alloc_new w (.cells #[.slice A n c, .slice B m d] 30)
 have bel := (Below.refl w.heap.size w).alloc (Nat.le_refl _) (.cells #[.slice A n c, .slice B m d] 30)
 refine ⟨rfl, fun _ => ⟨_, _, rfl, fun j x hj => ?_⟩⟩
 match j, hj with
 | 0, hj =>
  obtain rfl : l = x := by simpa using hj
  exact ⟨A, n, c, by simp only [World.cell?, h1]; simp, h.below bel⟩
 | 1, hj =>
  obtain rfl : t = x := by simpa using hj
  exact ⟨B, m, d, by simp only [World.cell?, h1]; simp, h2.below bel⟩
 | j + 2, hj => simp at hj

open Go.RowKit

open Go.RowKit

theorem belowN {B : Nat} {a w : World} (h : Below B a w) (q : Nat) : Below B a (w.drewN q) := ⟨h.os, h.tape, h.output, h.size, h.block⟩

theorem at16_b (A : Option Addr) (n c k : Nat) (l : List UInt8) (w : World) (hl : Sl w A n c l) (hk : k + 2 ≤ n) (hm : k + 2 ≤ 100000) :
  Calls Try.prog 55 #[.slice A n c, .int .i64 k] w fun e w' => e = .returned (.int .i64 (be ((l.drop k).take 2))) ∧ Below w.heap.size w w' := by
 refine (at16_any A n c k l w hl hk hm).mono ?_
 rintro e w1 ⟨rfl, q, rfl⟩
 exact ⟨rfl, belowN (Below.refl _ _) q⟩
open Go.RowKit

open Go.RowKit

open Go.RowKit
open Go.RowKit
open Go.RowKit

/-- A packet of zeros. -/
abbrev packz : Value := .agg #[.int .i64 0, .int .i64 0, .int .i64 0, .int .i64 0, .int .i64 0, .int .i64 0, .int .u8 0, .int .u8 0, .int .u8 0, .int .u8 0, .int .u8 0, .int .u8 0, .int .u8 0, .int .u8 0, .slice none 0 0, .slice none 0 0]
/-- The length of the header that the first byte tells. -/
def hlen (x : UInt8) : Nat := x.toNat % 16 * 4
open Go.RowKit

open Go.RowKit

open Go.RowKit

open Go.RowKit

open Go.RowKit

open Go.RowKit

set_option maxHeartbeats 400000 in
theorem join_o (A B : Option Addr) (n c m d : Nat) (l t : List UInt8) (w : World) (hl : Sl w A n c l) (ht : Sl w B m d t) (hs : n + m ≤ 140737488355328) :
  Calls Try.prog 60 #[.slice A n c, .slice B m d] w fun e w' => ∃ v, e = .returned v ∧ w'.ownsRow w.heap.size 5 1 v (n + m) ((l ++ t).map u8v) ∧ Below w.heap.size w w' := by
 obtain ⟨i, hi, hz0, hz1, hz2⟩ := info_parts Try.info5
 have hb1 : (0 : Int) ≤ n := by omega
 have hb2 : (0 : Int) ≤ m := by omega
 have hb3 : (n : Int) + m ≤ 140737488355328 := by omega
 go_enter Try.func60, Try.ntmps60
 go_wp2_with (at_make; refine wpList_make_own _ rfl _ _ 30 rfl w.heap.size 5 i (.int .u8 0) 1 Try.underlying30 hi hz0 hz1 _ _ _ (n + m) rfl rfl ?b1 ?b2 ?b3 (Nat.le_refl _) ?_)
 case b1 => simp
 case b2 => rw [hz2]; omega
 case b3 => unfold maxLen; omega
 intro w1 hown hg1
 have bel1 : Below w.heap.size w w1 := (Below.refl _ _).grown hg1 (Nat.le_refl _) (fun k h => by cases h)
 have hsz : w.heap.size ≤ w1.heap.size := bel1.size
 go_wp2_with (at_builtin; refine wpList_append_bytes w1 rfl (.tmp 12) (.tmp 13) 30 rfl w.heap.size 5 i (.int .u8 0) Try.underlying30 hi hz0 hz1 hz2 rfl _ 0 [] rfl hown A n c l rfl (hl.below bel1) ?c1 ?c2 ?_)
 case c1 => omega
 case c2 => exact hsz
 intro v2 w2 hown2 hg2 hat2
 have bel2 : Below w.heap.size w w2 := bel1.grown hg2 hsz (fun k h => by simp [Value.ownBlock] at h; omega)
 have hv2 : ∀ k, v2.ownBlock = some k → w.heap.size ≤ k := by
  intro k hk
  rcases hat2 with h | h
  ·rw [h] at hk; simp [Value.ownBlock] at hk; omega
  ·rw [h] at hk; simp at hk; omega
 clear hat2
 go_wp2_with (at_builtin; refine wpList_append_bytes w2 rfl (.tmp 15) (.tmp 16) 30 rfl w.heap.size 5 i (.int .u8 0) Try.underlying30 hi hz0 hz1 hz2 rfl _ n l rfl hown2 B m d t rfl (ht.below bel2) ?c1 ?c2 ?_)
 case c1 => omega
 case c2 => exact bel2.size
 intro v3 w3 hown3 hg3 hat3
 have bel3 : Below w.heap.size w w3 := bel2.grown hg3 bel2.size hv2
 clear hat3 hv2
 rw [← List.map_append] at hown3
 go_wp2
 go_ret
 exact ⟨v3, rfl, hown3, bel3⟩

theorem w16_o (A : Option Addr) (n c : Nat) (l : List UInt8) (v0 : Int) (w : World) (hl : Sl w A n c l) (hs : n + 2 ≤ 140737488355328) :
  Calls Try.prog 50 #[.slice A n c, .int .i64 v0] w fun e w' => ∃ v, e = .returned v ∧ w'.ownsRow w.heap.size 5 1 v (n + 2) ((l ++ two v0).map u8v) ∧ Below w.heap.size w w' := by
 have hm := made2 v0 w
 have bel := (Below.refl w.heap.size w).alloc (Nat.le_refl _) (.cells #[.int .u8 (v0 / 256 % 256), .int .u8 (v0 % 256)] 5)
 have hl1 := hl.below bel
 go_enter Try.func50, Try.ntmps50
 go_wp2_with (go_at_call 60; refine (join_o A _ n c 2 2 l (two v0) _ hl1 hm hs).mono ?_; rintro e w1 ⟨v, rfl, hown, bel1⟩)
 go_ret
 exact ⟨v, rfl, ⟨hown.1, by rcases hown.2 with h | ⟨g, cap, cur, e, hb, h⟩; exact .inl h; exact .inr ⟨g, cap, cur, e, Nat.le_trans bel.size hb, h⟩⟩, bel.trans (bel1.mono bel.size)⟩
open Go.RowKit

theorem w32_o (A : Option Addr) (n c : Nat) (l : List UInt8) (v0 : Int) (w : World) (h0 : 0 ≤ v0) (h1 : v0 < 4294967296) (hl : Sl w A n c l) (hs : n + 4 ≤ 140737488355328) :
  Calls Try.prog 53 #[.slice A n c, .int .u32 v0] w fun e w' => ∃ v, e = .returned v ∧ w'.ownsRow w.heap.size 5 1 v (n + 4) ((l ++ four v0).map u8v) ∧ Below w.heap.size w w' := by
 have hm := made4 v0 w h0 h1
 have bel := (Below.refl w.heap.size w).alloc (Nat.le_refl _) (.cells #[.int .u8 (v0 / 16777216), .int .u8 (v0 / 65536 % 256), .int .u8 (v0 / 256 % 256), .int .u8 (v0 % 256)] 5)
 have hl1 := hl.below bel
 go_enter Try.func53, Try.ntmps53
 go_wp2_with (go_at_call 60; refine (join_o A _ n c 4 4 l (four v0) _ hl1 hm hs).mono ?_; rintro e w1 ⟨v, rfl, hown, bel1⟩)
 go_ret
 exact ⟨v, rfl, ownsRow_mono hown bel.size, bel.trans (bel1.mono bel.size)⟩
open Go.RowKit

theorem w16_oto (A : Option Addr) (n m c : Nat) (l : List UInt8) (v0 : Int) (w : World) (hm : n + 2 = m) (hl : Sl w A n c l) (hs : n + 2 ≤ 140737488355328) :
  Calls Try.prog 50 #[.slice A n c, .int .i64 v0] w fun e w' => ∃ v, e = .returned v ∧ w'.ownsRow w.heap.size 5 1 v m ((l ++ two v0).map u8v) ∧ Below w.heap.size w w' := by
 subst hm; exact w16_o A n c l v0 w hl hs
open Go.RowKit

/-- A packet in lists: its numbers, its addresses, its options and body; an error. -/
abbrev PkL := (List Int × List UInt8) × (List UInt8 × List UInt8) × Int
def pkNone (er : Int) : PkL := (([0, 0, 0, 0, 0, 0], [0, 0, 0, 0, 0, 0, 0, 0]), ([], []), er)
/-- What Get and Put answer. -/
def UdPost (R : (Int × Int) × List UInt8 × Int) (w : World) (e : Ending) (w' : World) : Prop :=
 ∃ (df dt : Int) (lb : List UInt8) (A : Option Addr) (c : Nat) (er : Int), e = .returned (.tuple #[.agg #[.int .i64 df, .int .i64 dt, .slice A lb.length c], .int .i64 er]) ∧ Sl w' A lb.length c lb ∧ Fr w.heap.size A lb.length ∧ Below w.heap.size w w' ∧ ((df, dt), lb, er) = R
def PkPost (R : PkL) (w : World) (e : Ending) (w' : World) : Prop :=
 ∃ (f0 f1 f2 f3 f4 f5 : Int) (a0 a1 a2 a3 a4 a5 a6 a7 : UInt8) (lo lb : List UInt8) (Ao Ab : Option Addr) (co cb : Nat) (er : Int), e = .returned (.tuple #[.agg #[.int .i64 f0, .int .i64 f1, .int .i64 f2, .int .i64 f3, .int .i64 f4, .int .i64 f5, .int .u8 (a0.toNat : Int), .int .u8 (a1.toNat : Int), .int .u8 (a2.toNat : Int), .int .u8 (a3.toNat : Int), .int .u8 (a4.toNat : Int), .int .u8 (a5.toNat : Int), .int .u8 (a6.toNat : Int), .int .u8 (a7.toNat : Int), .slice Ao lo.length co, .slice Ab lb.length cb], .int .i64 er]) ∧ Sl w' Ao lo.length co lo ∧ Sl w' Ab lb.length cb lb ∧ Fr w.heap.size Ao lo.length ∧ Fr w.heap.size Ab lb.length ∧ Below w.heap.size w w' ∧ (([f0, f1, f2, f3, f4, f5], [a0, a1, a2, a3, a4, a5, a6, a7]), (lo, lb), er) = R
theorem PkPost.none {er : Int} {w w' : World} (b : Below w.heap.size w w') : PkPost (pkNone er) w (.returned (.tuple #[packz, .int .i64 er])) w' :=
 ⟨0, 0, 0, 0, 0, 0, 0, 0, 0, 0, 0, 0, 0, 0, [], [], Option.none, Option.none, 0, 0, er, rfl, Sl.nil _, Sl.nil _, fun h => absurd h (by simp), fun h => absurd h (by simp), b, rfl⟩
theorem UdPost.none {er : Int} {R : (Int × Int) × List UInt8 × Int} {w w' : World} (h : ((0, 0), [], er) = R) (b : Below w.heap.size w w') : UdPost R w (.returned (.tuple #[.agg #[.int .i64 0, .int .i64 0, .slice Option.none 0 0], .int .i64 er])) w' :=
 ⟨0, 0, [], Option.none, 0, er, rfl, Sl.nil _, fun h => absurd h (by simp), b, h⟩
open Go.RowKit

set_option maxRecDepth 100000 in
set_option maxHeartbeats 16000000 in
theorem r16_oto (A : Option Addr) (n m c : Nat) (l : List UInt8) (v0 : Int) (w : World) (hm : n + 2 = m) (hl : Sl w A n c l) (hs : n + 2 ≤ 140737488355328) :
  Calls Try.prog 38 #[.slice A n c, .int .i64 v0] w fun e w' => ∃ v, e = .returned v ∧ w'.ownsRow w.heap.size 5 1 v m ((l ++ two v0).map u8v) ∧ Below w.heap.size w w' := by
 subst hm
 obtain ⟨ii, hii, hz0, hz1, hz2⟩ := info_parts Try.info5
 have bel := Below.refl w.heap.size w
 go_enter Try.func38, Try.ntmps38
 go_wp2_with (first | ((with_reducible show wpList _ _ _ (⟨some 5, _, _, _, _, _⟩ :: _) _ _); refine wpList_lit_n rfl 30 5 0 _ rfl #[] (.int .u8 0) Try.underlying30 (by kernel_rfl) 1 (by kernel_rfl) (by decide) (by kernel_rfl) ?_; intro g5 w1 ge lt hh bb; have hl : w1.heap[g5]? = some (.cells (([] : List UInt8).map u8v).toArray 5 (0, 0)) := (by simpa [u8v, byteOf_val] using hh); have e0w := own_lit (B := w.heap.size) ([]) hl ge 0 rfl (by simp [maxLen]); have e0 := (own_sl e0w).1; have e0lo := bel.size; clear hl; have e0ge := ge; have lz_e0 := bb.size; have bl_hl_e0 := hl.bl_new; replace hl := hl.below bb; replace bel := bel.trans (bb.mono bel.size); clear hh lt ge bb) | ((with_reducible show wpList _ _ _ (⟨some 7, _, _, _, _, _⟩ :: _) _ _); refine wpList_append_bb _ rfl (.tmp 5) (.tmp 6) 30 rfl (w.heap.size) 5 ii (.int .u8 0) Try.underlying30 hii hz0 hz1 hz2 rfl _ (0) ([]) rfl e0w (A) (n) (c) (l) rfl hl (by omega) lz_e0 ?_; intro v7 w2 own_ bb; replace hl := hl.under bl_hl_e0 bb; replace bel := bel.trans (bb.mono e0lo); have lz_b1 := Nat.le_trans lz_e0 bb.size; clear bb; clear e0 e0w lz_e0; replace own_ : w2.ownsRow (w.heap.size) 5 1 v7 (n) ((l : List UInt8).map u8v) := (by simpa using own_); obtain ⟨A7, c7, rfl⟩ := own_val own_; have b1w := own_; have b1 := (own_sl own_).1; have fr_b1 := (own_sl own_).2; clear own_) | ((with_reducible show wpList _ _ _ (⟨some 13, _, _, _, _, _⟩ :: _) _ _); refine wpList_lit_n rfl 30 5 2 _ rfl #[.int .u8 (v0 / 256 % 256), .int .u8 (v0 % 256)] (.int .u8 0) Try.underlying30 (by kernel_rfl) 1 (by kernel_rfl) (by decide) (by kernel_rfl) ?_; intro g13 w3 ge lt hh bb; have hl : w3.heap[g13]? = some (.cells (([byteOf (v0 / 256), byteOf v0] : List UInt8).map u8v).toArray 5 (0, 0)) := (by simpa [u8v, byteOf_val] using hh); have tww := own_lit (B := w2.heap.size) ([byteOf (v0 / 256), byteOf v0]) hl ge 2 rfl (by simp [maxLen]); have tw := (own_sl tww).1; have twlo := bel.size; clear hl; have twge := ge; have lz_tw := bb.size; have bl_hl_tw := hl.bl_new; have bl_b1_tw := b1.bl_new; have av_hl_b13 := hl.av_new ge; have av_b1_b13 := b1.av_new ge; have of_b1_b13 := own_new b1w ge; have ob13 := Nat.le_trans bel.size ge; replace hl := hl.below bb; replace b1 := b1.below bb; replace b1w := own_under b1w bb; replace lz_b1 := Nat.le_trans lz_b1 bb.size; replace bel := bel.trans (bb.mono bel.size); have hb13 := hh; clear hh lt ge bb) | ((with_reducible show wpList _ _ _ (⟨some 14, _, _, _, _, _⟩ :: _) _ _); refine wpList_append_bb _ rfl (.tmp 7) (.tmp 13) 30 rfl (w.heap.size) 5 ii (.int .u8 0) Try.underlying30 hii hz0 hz1 hz2 rfl _ (n) (l) rfl b1w (some ⟨g13, 0, none⟩) (2) (2) ([byteOf (v0 / 256), byteOf v0]) rfl tw (by omega) lz_b1 ?_; intro v14 w4 own_ bb; replace hl := hl.under bl_hl_e0 bb; clear tw tww lz_tw; clear hb13; replace bel := bel.trans (bb.mono e0lo); have lz_b2 := Nat.le_trans lz_b1 bb.size; clear bb; clear b1 b1w lz_b1; replace own_ : w4.ownsRow (w.heap.size) 5 1 v14 (n + 2) ((l ++ [byteOf (v0 / 256), byteOf v0] : List UInt8).map u8v) := own_; obtain ⟨A14, c14, rfl⟩ := own_val own_; have b2w := own_; have b2 := (own_sl own_).1; have fr_b2 := (own_sl own_).2; clear own_))
 go_ret
 exact ⟨_, rfl, ownsRow_mono b2w e0lo, bel⟩
open Go.RowKit

theorem w32_oto (A : Option Addr) (n m c : Nat) (l : List UInt8) (v0 : Int) (w : World) (h0 : 0 ≤ v0) (h1 : v0 < 4294967296) (hm : n + 4 = m) (hl : Sl w A n c l) (hs : n + 4 ≤ 140737488355328) :
  Calls Try.prog 53 #[.slice A n c, .int .u32 v0] w fun e w' => ∃ v, e = .returned v ∧ w'.ownsRow w.heap.size 5 1 v m ((l ++ four v0).map u8v) ∧ Below w.heap.size w w' := by
 subst hm; exact w32_o A n c l v0 w h0 h1 hl hs
set_option maxRecDepth 100000 in
set_option maxHeartbeats 16000000 in
theorem r32_oto (A : Option Addr) (n m c : Nat) (l : List UInt8) (v0 : Int) (w : World) (h0 : 0 ≤ v0) (h1 : v0 < 4294967296) (hm : n + 4 = m) (hl : Sl w A n c l) (hs : n + 4 ≤ 140737488355328) :
  Calls Try.prog 59 #[.slice A n c, .int .u32 v0] w fun e w' => ∃ v, e = .returned v ∧ w'.ownsRow w.heap.size 5 1 v m ((l ++ four v0).map u8v) ∧ Below w.heap.size w w' := by
 subst hm
 have ha := and_u32 v0 h0 h1
 have x1 : 0 ≤ v0 % 65536 := by omega
 have x2 : v0 % 65536 < 65536 := by omega
 have bel := Below.refl w.heap.size w
 go_enter Try.func59, Try.ntmps59
 go_wp2_with fail
 with_reducible refine (r16_oto _ _ (n + 2) _ _ _ _ rfl hl (by omega)).mono ?_
 rintro e w1 ⟨v, rfl, e1w, b1⟩
 have bl_hl_e1 := hl.bl_new
 have e1lo := bel.size
 have lz_e1 := b1.size
 replace hl := hl.below b1
 replace bel := bel.trans (b1.mono bel.size)
 clear b1
 obtain ⟨Ae1, ce1, rfl⟩ := own_val e1w
 have e1 := (own_sl e1w).1
 have fr_e1 := (own_sl e1w).2
 go_wp2_with fail
 with_reducible refine (r16_oto _ _ (n + 4) _ _ _ _ rfl e1 (by omega)).mono ?_
 rintro e w2 ⟨v, rfl, e2w, b2⟩
 have bl_hl_e2 := hl.bl_new
 have bl_e1_e2 := e1.bl_new
 have e2lo := bel.size
 have lz_e2 := b2.size
 replace hl := hl.below b2
 replace e1 := e1.below b2
 replace e1w := own_under e1w b2
 replace lz_e1 := Nat.le_trans lz_e1 b2.size
 replace bel := bel.trans (b2.mono bel.size)
 clear b2
 obtain ⟨Ae2, ce2, rfl⟩ := own_val e2w
 have e2 := (own_sl e2w).1
 have fr_e2 := (own_sl e2w).2
 go_wp2_with fail
 go_ret
 exact ⟨_, rfl, by rw [← four_two, ← List.append_assoc]; exact ownsRow_mono e2w e2lo, bel⟩
open Go.RowKit

set_option linter.unusedVariables false in
set_option linter.unusedSimpArgs false in
set_option maxRecDepth 100000 in
set_option maxHeartbeats 16000000 in
theorem dparts_any (id fl : Int) (Q : Option Addr) (qn qc : Nat) (A : Option Addr) (an ac : Nat) (O : Option Addr) (on oc : Nat) (M : Option Addr) (mn mc : Nat) (w : World) (hb : qn + an + on + mn ≤ 100000) : Calls Try.prog 22 #[.agg #[.int .i64 id, .int .i64 fl, .slice Q qn qc, .slice A an ac, .slice O on oc, .slice M mn mc]] w fun e w' => e = .returned (.int .i64 ((qn : Int) + an + on + mn)) ∧ Below w.heap.size w w' := by
 have qn0 : (0 : Int) ≤ qn := by omega
 have qn1 : (qn : Int) ≤ 100000 := by omega
 have an0 : (0 : Int) ≤ an := by omega
 have an1 : (an : Int) ≤ 100000 := by omega
 have on0 : (0 : Int) ≤ on := by omega
 have on1 : (on : Int) ≤ 100000 := by omega
 have mn0 : (0 : Int) ≤ mn := by omega
 have mn1 : (mn : Int) ≤ 100000 := by omega
 have bel := Below.refl w.heap.size w
 go_enter Try.func22, Try.ntmps22
 go_wp2_with (first | ((with_reducible show wpList _ _ _ (⟨some 1, _, _, _, _, _⟩ :: _) _ _); refine wpList_box_n rfl 26 (.tmp 0) rfl #[.int .i64 id, .int .i64 fl, .slice Q qn qc, .slice A an ac, .slice O on oc, .slice M mn mc] rfl ?_; intro g1 w1 ge lt hh bb; have op := Nat.le_trans bel.size ge; replace bel := bel.trans (bb.mono bel.size); have hp := hh; clear hh lt ge bb; have R4 := cell_lit hp 2 _ rfl; have R7 := cell_lit hp 3 _ rfl; have R11 := cell_lit hp 4 _ rfl; have R15 := cell_lit hp 5 _ rfl))
 try clear R4
 try clear R7
 try clear R11
 try clear R15
 go_ret
 exact ⟨rfl, bel⟩
set_option linter.unusedVariables false in
set_option linter.unusedSimpArgs false in
set_option maxRecDepth 100000 in
set_option maxHeartbeats 16000000 in
theorem dwhead_any (id fl : Int) (Q : Option Addr) (qn qc : Nat) (A : Option Addr) (an ac : Nat) (O : Option Addr) (on oc : Nat) (M : Option Addr) (mn mc : Nat) (w : World) (hb : qn + an + on + mn ≤ 100000) : Calls Try.prog 23 #[.agg #[.int .i64 id, .int .i64 fl, .slice Q qn qc, .slice A an ac, .slice O on oc, .slice M mn mc]] w fun e w' => ∃ v, e = .returned v ∧ w'.ownsRow w.heap.size 5 1 v 12 ((two id ++ two fl ++ two (qn : Int) ++ two (an : Int) ++ two (on : Int) ++ two (mn : Int)).map u8v) ∧ Below w.heap.size w w' := by
 have qn0 : (0 : Int) ≤ qn := by omega
 have qn1 : (qn : Int) ≤ 100000 := by omega
 have an0 : (0 : Int) ≤ an := by omega
 have an1 : (an : Int) ≤ 100000 := by omega
 have on0 : (0 : Int) ≤ on := by omega
 have on1 : (on : Int) ≤ 100000 := by omega
 have mn0 : (0 : Int) ≤ mn := by omega
 have mn1 : (mn : Int) ≤ 100000 := by omega
 have nl := Sl.nil w
 have bel := Below.refl w.heap.size w
 go_enter Try.func23, Try.ntmps23
 go_wp2_with (first | ((with_reducible show wpList _ _ _ (⟨some 1, _, _, _, _, _⟩ :: _) _ _); refine wpList_box_n rfl 26 (.tmp 0) rfl #[.int .i64 id, .int .i64 fl, .slice Q qn qc, .slice A an ac, .slice O on oc, .slice M mn mc] rfl ?_; intro g1 w1 ge lt hh bb; have av_nl_p := nl.av_new ge; have op := Nat.le_trans bel.size ge; replace nl := nl.below bb; replace bel := bel.trans (bb.mono bel.size); have hp := hh; clear hh lt ge bb; have R7 := cell_lit hp 0 _ rfl; have R9 := cell_lit hp 1 _ rfl; have R11 := cell_lit hp 2 _ rfl; have R14 := cell_lit hp 3 _ rfl; have R17 := cell_lit hp 4 _ rfl; have R20 := cell_lit hp 5 _ rfl))
 try clear R7
 try clear R9
 try clear R11
 try clear R14
 try clear R17
 try clear R20
 refine wp_loop_rounds 7 ?_
 rw [rounds_succ]
 have R25 : ∀ W, (Instr.index 92 (.agg #[.int .i64 id, .int .i64 fl, .int .i64 (qn : Int), .int .i64 (an : Int), .int .i64 (on : Int), .int .i64 (mn : Int)]) (.int .i64 0)).run Try.prog W = .ok (.int .i64 id) W := (fun W => (by kernel_rfl))
 go_wp2_with fail
 clear R25
 with_reducible refine (w16_oto _ 0 2 _ _ _ _ rfl nl (by decide)).mono ?_
 rintro e w2 ⟨v_s0, rfl, s0w, b2⟩
 have y_s0_p := Lib.hid (hlt hp)
 have bl_nl_s0 := nl.bl_new
 have s0lo := bel.size
 have lz_s0 := b2.size
 replace hp := blk_u hp b2
 replace nl := nl.below b2
 replace bel := bel.trans (b2.mono bel.size)
 clear b2
 obtain ⟨As0, cs0, rfl⟩ := own_val s0w
 have s0 := (own_sl s0w).1
 have fr_s0 := (own_sl s0w).2
 have av_s0_p := fr_s0.av y_s0_p.out
 clear nl
 go_wp2_with fail
 rw [rounds_succ]
 have R25 : ∀ W, (Instr.index 92 (.agg #[.int .i64 id, .int .i64 fl, .int .i64 (qn : Int), .int .i64 (an : Int), .int .i64 (on : Int), .int .i64 (mn : Int)]) (.int .i64 1)).run Try.prog W = .ok (.int .i64 fl) W := (fun W => (by kernel_rfl))
 go_wp2_with fail
 clear R25
 with_reducible refine (w16_oto _ 2 4 _ _ _ _ rfl s0 (by decide)).mono ?_
 rintro e w3 ⟨v_s1, rfl, s1w, b3⟩
 have y_s1_p := Lib.hid (hlt hp)
 have bl_s0_s1 := s0.bl_new
 have s1lo := bel.size
 have lz_s1 := b3.size
 replace hp := blk_u hp b3
 replace s0 := s0.below b3
 replace s0w := own_under s0w b3
 replace lz_s0 := Nat.le_trans lz_s0 b3.size
 replace bel := bel.trans (b3.mono bel.size)
 clear b3
 obtain ⟨As1, cs1, rfl⟩ := own_val s1w
 have s1 := (own_sl s1w).1
 have fr_s1 := (own_sl s1w).2
 have av_s1_p := fr_s1.av y_s1_p.out
 clear s0 s0w lz_s0
 go_wp2_with fail
 rw [rounds_succ]
 have R25 : ∀ W, (Instr.index 92 (.agg #[.int .i64 id, .int .i64 fl, .int .i64 (qn : Int), .int .i64 (an : Int), .int .i64 (on : Int), .int .i64 (mn : Int)]) (.int .i64 2)).run Try.prog W = .ok (.int .i64 (qn : Int)) W := (fun W => (by kernel_rfl))
 go_wp2_with fail
 clear R25
 with_reducible refine (w16_oto _ 4 6 _ _ _ _ rfl s1 (by decide)).mono ?_
 rintro e w4 ⟨v_s2, rfl, s2w, b4⟩
 have y_s2_p := Lib.hid (hlt hp)
 have bl_s1_s2 := s1.bl_new
 have s2lo := bel.size
 have lz_s2 := b4.size
 replace hp := blk_u hp b4
 replace s1 := s1.below b4
 replace s1w := own_under s1w b4
 replace lz_s1 := Nat.le_trans lz_s1 b4.size
 replace bel := bel.trans (b4.mono bel.size)
 clear b4
 obtain ⟨As2, cs2, rfl⟩ := own_val s2w
 have s2 := (own_sl s2w).1
 have fr_s2 := (own_sl s2w).2
 have av_s2_p := fr_s2.av y_s2_p.out
 clear s1 s1w lz_s1
 go_wp2_with fail
 rw [rounds_succ]
 have R25 : ∀ W, (Instr.index 92 (.agg #[.int .i64 id, .int .i64 fl, .int .i64 (qn : Int), .int .i64 (an : Int), .int .i64 (on : Int), .int .i64 (mn : Int)]) (.int .i64 3)).run Try.prog W = .ok (.int .i64 (an : Int)) W := (fun W => (by kernel_rfl))
 go_wp2_with fail
 clear R25
 with_reducible refine (w16_oto _ 6 8 _ _ _ _ rfl s2 (by decide)).mono ?_
 rintro e w5 ⟨v_s3, rfl, s3w, b5⟩
 have y_s3_p := Lib.hid (hlt hp)
 have bl_s2_s3 := s2.bl_new
 have s3lo := bel.size
 have lz_s3 := b5.size
 replace hp := blk_u hp b5
 replace s2 := s2.below b5
 replace s2w := own_under s2w b5
 replace lz_s2 := Nat.le_trans lz_s2 b5.size
 replace bel := bel.trans (b5.mono bel.size)
 clear b5
 obtain ⟨As3, cs3, rfl⟩ := own_val s3w
 have s3 := (own_sl s3w).1
 have fr_s3 := (own_sl s3w).2
 have av_s3_p := fr_s3.av y_s3_p.out
 clear s2 s2w lz_s2
 go_wp2_with fail
 rw [rounds_succ]
 have R25 : ∀ W, (Instr.index 92 (.agg #[.int .i64 id, .int .i64 fl, .int .i64 (qn : Int), .int .i64 (an : Int), .int .i64 (on : Int), .int .i64 (mn : Int)]) (.int .i64 4)).run Try.prog W = .ok (.int .i64 (on : Int)) W := (fun W => (by kernel_rfl))
 go_wp2_with fail
 clear R25
 with_reducible refine (w16_oto _ 8 10 _ _ _ _ rfl s3 (by decide)).mono ?_
 rintro e w6 ⟨v_s4, rfl, s4w, b6⟩
 have y_s4_p := Lib.hid (hlt hp)
 have bl_s3_s4 := s3.bl_new
 have s4lo := bel.size
 have lz_s4 := b6.size
 replace hp := blk_u hp b6
 replace s3 := s3.below b6
 replace s3w := own_under s3w b6
 replace lz_s3 := Nat.le_trans lz_s3 b6.size
 replace bel := bel.trans (b6.mono bel.size)
 clear b6
 obtain ⟨As4, cs4, rfl⟩ := own_val s4w
 have s4 := (own_sl s4w).1
 have fr_s4 := (own_sl s4w).2
 have av_s4_p := fr_s4.av y_s4_p.out
 clear s3 s3w lz_s3
 go_wp2_with fail
 rw [rounds_succ]
 have R25 : ∀ W, (Instr.index 92 (.agg #[.int .i64 id, .int .i64 fl, .int .i64 (qn : Int), .int .i64 (an : Int), .int .i64 (on : Int), .int .i64 (mn : Int)]) (.int .i64 5)).run Try.prog W = .ok (.int .i64 (mn : Int)) W := (fun W => (by kernel_rfl))
 go_wp2_with fail
 clear R25
 with_reducible refine (w16_oto _ 10 12 _ _ _ _ rfl s4 (by decide)).mono ?_
 rintro e w7 ⟨v_s5, rfl, s5w, b7⟩
 have y_s5_p := Lib.hid (hlt hp)
 have bl_s4_s5 := s4.bl_new
 have s5lo := bel.size
 have lz_s5 := b7.size
 replace hp := blk_u hp b7
 replace s4 := s4.below b7
 replace s4w := own_under s4w b7
 replace lz_s4 := Nat.le_trans lz_s4 b7.size
 replace bel := bel.trans (b7.mono bel.size)
 clear b7
 obtain ⟨As5, cs5, rfl⟩ := own_val s5w
 have s5 := (own_sl s5w).1
 have fr_s5 := (own_sl s5w).2
 have av_s5_p := fr_s5.av y_s5_p.out
 clear s4 s4w lz_s4
 go_wp2_with fail
 rw [rounds_succ]
 go_wp2_with fail
 go_ret
 exact ⟨_, rfl, owk_lo (own_to s5w rfl (by simp)) s5lo, bel⟩
theorem dupto_is {x : Int} {b : Bool} (w : World) (h : h16 x = b) : Calls Try.prog 21 #[.int .i64 65535, .int .i64 x] w fun e w' => e = .returned (.bool b) ∧ w = w' := by
 subst h
 exact dupto_16 x w
theorem okQ_of {nm : List (List UInt8)} {t k : Int} (h1 : goodN nm = true) (h2 : h16 t = true) (h3 : h16 k = true) : okQ ⟨nm, t, k⟩ = true := by unfold okQ; rw [h1, h2, h3]; rfl
theorem okQ_is {nm : List (List UInt8)} {t k : Int} (h : okQ ⟨nm, t, k⟩ = true) : goodN nm = true ∧ h16 t = true ∧ h16 k = true := by
 unfold okQ at h
 rw [Bool.and_eq_true, Bool.and_eq_true] at h
 exact ⟨h.1.1, h.1.2, h.2⟩
theorem encQ_len {q : Qn} (h : okQ q = true) : (encQ q).length ≤ 259 := by
 have h1 := good_size (okQ_is h).1
 rw [encQ, List.length_append, List.length_append, put_len]
 simp only [two_len]
 omega
theorem own_cut {w : World} {B n n2 : Nat} {T : TypeId} {A : Option Addr} {c : Nat} {xs : List Value} (h : w.ownsRow B T 1 (.slice A n c) n2 xs) : w.ownsRow B T 1 (.slice A n c) n xs := by
 have e : n = n2 := by
  rcases h.2 with ⟨h1, rfl⟩ | ⟨g, cap, cur, e, _⟩
  ·injection h1
  ·injection e
 rw [e]
 exact e ▸ h
set_option linter.unusedVariables false in
set_option linter.unusedSimpArgs false in
set_option maxRecDepth 100000 in
set_option maxHeartbeats 16000000 in
theorem dwq_ok (A : Option Addr) (n c : Nat) (t k : Int) (nm : List (List UInt8)) (w : World) (la : Sle stf 1 w A n c nm) (hq : okQ ⟨nm, t, k⟩ = true) : Calls Try.prog 24 #[.agg #[.slice A n c, .int .i64 t, .int .i64 k]] w fun e w' => ∃ B m cB, e = .returned (.tuple #[.slice B m cB, .int .i64 0]) ∧ w'.ownsRow w.heap.size 5 1 (.slice B m cB) m ((encQ ⟨nm, t, k⟩).map u8v) ∧ Below w.heap.size w w' := by
 have HQ := Lib.hid (okQ_is hq)
 have HG := Lib.hid HQ.out.1
 have HT := Lib.hid HQ.out.2.1
 have HK := Lib.hid HQ.out.2.2
 clear hq
 obtain ⟨z, hz_⟩ : ∃ u_, ([] ++ putN nm).length = u_ := ⟨_, rfl⟩
 have HL := Lib.hid hz_
 have HZ : z ≤ 255 := by rw [← hz_, List.nil_append, put_len]; have h_ := good_size HG.out; omega
 have z0 : (0 : Int) ≤ z := by omega
 clear hz_
 have nl := Sl.nil w
 obtain ⟨ii, hii, hz0, hz1, hz2⟩ := info_parts Try.info5
 have bel := Below.refl w.heap.size w
 go_enter Try.func24, Try.ntmps24
 go_wp2_with (first | ((with_reducible show wpList _ _ _ (⟨some 1, _, _, _, _, _⟩ :: _) _ _); refine wpList_box_n rfl 60 (.tmp 0) rfl #[.slice A n c, .int .i64 t, .int .i64 k] rfl ?_; intro g1 w1 ge lt hh bb; have av_la_p := la.av_new ge; have av_nl_p := nl.av_new ge; have op := Nat.le_trans bel.size ge; replace la := la.below bb; replace nl := nl.below bb; replace bel := bel.trans (bb.mono bel.size); have hp := hh; clear hh lt ge bb; have R7 := cell_lit hp 1 _ rfl))
 try clear R7
 with_reducible refine (dupto_is _ HT.out).mono ?_
 rintro e _ ⟨rfl, rfl⟩
 have R12 := cell_lit hp 2 _ rfl
 go_wp2_with fail
 clear R12
 with_reducible refine (dupto_is _ HK.out).mono ?_
 rintro e _ ⟨rfl, rfl⟩
 have R18 := cell_lit hp 0 _ rfl
 go_wp2_with fail
 clear R18
 with_reducible refine (nput_lit _ nl la (by decide) HG.out rfl HL.out).mono ?_
 rintro e w2 ⟨v_pt, rfl, ptw, b2⟩
 have y_pt_p := Lib.hid (hlt hp)
 have bl_la_pt := la.bl_new
 have bl_nl_pt := nl.bl_new
 have ptlo := bel.size
 have lz_pt := b2.size
 replace hp := blk_u hp b2
 replace la := la.below b2
 replace nl := nl.below b2
 replace bel := bel.trans (b2.mono bel.size)
 clear b2
 obtain ⟨Apt, cpt, rfl⟩ := own_val ptw
 have pt := (own_sl ptw).1
 have fr_pt := (own_sl ptw).2
 have av_pt_p := fr_pt.av y_pt_p.out
 go_wp2_with fail
 replace bel := bel.drew
 replace hp : w2.drew.heap[g1]? = _ := hp
 replace la := la.drew
 replace nl := nl.drew
 replace pt := pt.drew
 replace ptw : w2.drew.ownsRow _ _ _ _ _ _ := ptw
 replace lz_pt : _ ≤ w2.drew.heap.size := lz_pt
 refine wp_region_held_drew (S := fun W => W.heap[g1]? = some (.cells #[.slice A n c, .int .i64 t, .int .i64 k] 60 (0, 0))) (by kernel_rfl) hp (fun hH => ?_)
 generalize w2.drew = w3 at bel hp la nl pt ptw lz_pt hH ⊢
 refine wpAnyH_take (i := 0) (v := ?_) rfl (by kernel_rfl) (by kernel_rfl) (by kernel_rfl) (fun _ _ _ h => h) (Or.inl ⟨by rfl, ?_⟩) hH ?_
 rotate_left
 ·((intro W hW; clear hW; go_simp) <;> with_reducible rfl)
 simp only [Act.put, List.getElem_toArray, List.getElem_cons_zero, List.setIfInBounds_toArray, List.set_cons_zero, List.set_cons_succ]
 refine wpAnyH_take (i := 1) (v := ?_) rfl (by kernel_rfl) (by kernel_rfl) (by kernel_rfl) (fun _ _ _ h => h) (Or.inl ⟨by rfl, ?_⟩) hH ?_
 rotate_left
 ·((intro W hW; clear hW; go_simp) <;> with_reducible rfl)
 simp only [sq3, sq4]
 refine wpAnyH_take (i := 2) (v := ?_) rfl (by kernel_rfl) (by kernel_rfl) (by kernel_rfl) (fun _ _ _ h => h) (Or.inl ⟨by rfl, ?_⟩) hH ?_
 rotate_left
 ·((intro W hW; have hk := cell_lit (hW) 1 _ rfl; clear hW; go_simp) <;> with_reducible rfl)
 simp only [sq3, sq4]
 refine wpAnyH_take (i := 4) (v := ?_) rfl (by kernel_rfl) (by kernel_rfl) (by kernel_rfl) (fun _ _ _ h => h) (Or.inl ⟨by rfl, ?_⟩) hH ?_
 rotate_left
 ·((intro W hW; clear hW; go_simp) <;> with_reducible rfl)
 simp only [sq3, sq4]
 refine wpAnyH_take (i := 5) (v := ?_) rfl (by kernel_rfl) (by kernel_rfl) (by kernel_rfl) (fun _ _ _ h => h) (Or.inl ⟨by rfl, ?_⟩) hH ?_
 rotate_left
 ·((intro W hW; have hk := cell_lit (hW) 2 _ rfl; clear hW; go_simp) <;> with_reducible rfl)
 simp only [sq3, sq4]
 refine wpAnyH_ready (rs := [3]) (by kernel_rfl) (by simp) ?_
 refine AllReadyH.cons (o := _) rfl (fun K hK => ?_) AllReadyH.nil
 simp only [sq3]
 go_simp
 with_reducible refine (w16_oto _ (z) (z + 2) _ _ _ _ rfl pt (by omega)).mono ?_
 rintro e w4 ⟨v_qa, rfl, qaw, b4⟩
 dsimp only
 have y_qa_p := Lib.hid (hlt hp)
 have bl_la_qa := la.bl_new
 have bl_nl_qa := nl.bl_new
 have bl_pt_qa := pt.bl_new
 have qalo := bel.size
 have lz_qa := b4.size
 replace hp := blk_u hp b4
 replace la := la.below b4
 replace nl := nl.below b4
 replace pt := pt.below b4
 replace ptw := own_under ptw b4
 replace lz_pt := Nat.le_trans lz_pt b4.size
 replace bel := bel.trans (b4.mono bel.size)
 clear b4
 obtain ⟨Aqa, cqa, rfl⟩ := own_val qaw
 have qa := (own_sl qaw).1
 have fr_qa := (own_sl qaw).2
 have av_qa_p := fr_qa.av y_qa_p.out
 clear pt ptw lz_pt
 refine hK.out _ _ hp (fun hH5 => ?_)
 clear hK K
 refine wpAnyH_ready (rs := [6]) (by kernel_rfl) (by simp) ?_
 refine AllReadyH.cons (o := _) rfl (fun K hK => ?_) AllReadyH.nil
 simp only [sq3]
 go_simp
 with_reducible refine (w16_oto _ (z + 2) (z + 2 + 2) _ _ _ _ rfl qa (by omega)).mono ?_
 rintro e w6 ⟨v_qb, rfl, qbw, b6⟩
 dsimp only
 have y_qb_p := Lib.hid (hlt hp)
 have bl_la_qb := la.bl_new
 have bl_nl_qb := nl.bl_new
 have bl_qa_qb := qa.bl_new
 have qblo := bel.size
 have lz_qb := b6.size
 replace hp := blk_u hp b6
 replace la := la.below b6
 replace nl := nl.below b6
 replace qa := qa.below b6
 replace qaw := own_under qaw b6
 replace lz_qa := Nat.le_trans lz_qa b6.size
 replace bel := bel.trans (b6.mono bel.size)
 clear b6
 obtain ⟨Aqb, cqb, rfl⟩ := own_val qbw
 have qb := (own_sl qbw).1
 have fr_qb := (own_sl qbw).2
 have av_qb_p := fr_qb.av y_qb_p.out
 clear qa qaw lz_qa
 refine hK.out _ _ hp (fun hH7 => ?_)
 clear hK K
 refine wpAnyH_take (i := 7) (v := ?_) rfl (by kernel_rfl) (by kernel_rfl) (by kernel_rfl) (fun _ _ _ h => h) (Or.inl ⟨by rfl, ?_⟩) hH7 ?_
 rotate_left
 ·((intro W hW; clear hW; go_simp) <;> with_reducible rfl)
 simp only [sq3, sq4]
 refine wpAnyH_take (i := 8) (v := ?_) rfl (by kernel_rfl) (by kernel_rfl) (by kernel_rfl) (fun _ _ _ h => h) (Or.inl ⟨by rfl, ?_⟩) hH7 ?_
 rotate_left
 ·((intro W hW; clear hW; go_simp) <;> with_reducible rfl)
 simp only [sq3, sq4]
 refine wpAnyH_done (by kernel_rfl) ?_ _
 go_wp2_with fail
 exact bodyPost_ret (v := .tuple #[.slice Aqb (z + 2 + 2) cqb, .int .i64 0]) (by simp [results, Try.results24, go_sem]) rfl ⟨_, _, _, rfl, own_cut (owk_lo (own_to qbw rfl (by simp [encQ])) qblo), bel⟩
set_option linter.unusedVariables false in
set_option linter.unusedSimpArgs false in
set_option maxRecDepth 100000 in
set_option maxHeartbeats 16000000 in
theorem dwq_no (A : Option Addr) (n c : Nat) (t k : Int) (nm : List (List UInt8)) (w : World) (la : Sle stf 1 w A n c nm) (hm : n ≤ 100000) (hq : okQ ⟨nm, t, k⟩ = false) : Calls Try.prog 24 #[.agg #[.slice A n c, .int .i64 t, .int .i64 k]] w fun e w' => e = .returned (.tuple #[.slice none 0 0, .int .i64 1]) ∧ Below w.heap.size w w' := by
 have bel := Below.refl w.heap.size w
 go_enter Try.func24, Try.ntmps24
 rcases (by decide : ∀ b : Bool, b = true ∨ b = false) (h16 t) with ht | ht
 rotate_left
 ·have HT := Lib.hid ht
  clear ht hq
  go_wp2_with (first | ((with_reducible show wpList _ _ _ (⟨some 1, _, _, _, _, _⟩ :: _) _ _); refine wpList_box_n rfl 60 (.tmp 0) rfl #[.slice A n c, .int .i64 t, .int .i64 k] rfl ?_; intro g1 w1 ge lt hh bb; have av_la_p := la.av_new ge; have op := Nat.le_trans bel.size ge; replace la := la.below bb; replace bel := bel.trans (bb.mono bel.size); have hp := hh; clear hh lt ge bb; have R7 := cell_lit hp 1 _ rfl))
  try clear R7
  with_reducible refine (dupto_is _ HT.out).mono ?_
  rintro e _ ⟨rfl, rfl⟩
  go_wp2_with fail
  exact bodyPost_ret (v := .tuple #[.slice none 0 0, .int .i64 1]) (by simp [results, Try.results24, go_sem]) rfl ⟨rfl, bel⟩
 have HT := Lib.hid ht
 clear ht
 go_wp2_with (first | ((with_reducible show wpList _ _ _ (⟨some 1, _, _, _, _, _⟩ :: _) _ _); refine wpList_box_n rfl 60 (.tmp 0) rfl #[.slice A n c, .int .i64 t, .int .i64 k] rfl ?_; intro g1 w1 ge lt hh bb; have av_la_p := la.av_new ge; have op := Nat.le_trans bel.size ge; replace la := la.below bb; replace bel := bel.trans (bb.mono bel.size); have hp := hh; clear hh lt ge bb; have R7 := cell_lit hp 1 _ rfl))
 try clear R7
 with_reducible refine (dupto_is _ HT.out).mono ?_
 rintro e _ ⟨rfl, rfl⟩
 rcases (by decide : ∀ b : Bool, b = true ∨ b = false) (h16 k) with hk | hk
 rotate_left
 ·have HK := Lib.hid hk
  clear hk hq
  have R12 := cell_lit hp 2 _ rfl
  go_wp2_with fail
  clear R12
  with_reducible refine (dupto_is _ HK.out).mono ?_
  rintro e _ ⟨rfl, rfl⟩
  go_wp2_with fail
  exact bodyPost_ret (v := .tuple #[.slice none 0 0, .int .i64 1]) (by simp [results, Try.results24, go_sem]) rfl ⟨rfl, bel⟩
 have HG : Hid (goodN nm = false) := Lib.hid (by rcases (by decide : ∀ b : Bool, b = true ∨ b = false) (goodN nm) with h_ | h_; rw [okQ_of h_ HT.out hk] at hq; cases hq; exact h_)
 have HK := Lib.hid hk
 clear hk hq
 have R12 := cell_lit hp 2 _ rfl
 go_wp2_with fail
 clear R12
 with_reducible refine (dupto_is _ HK.out).mono ?_
 rintro e _ ⟨rfl, rfl⟩
 have R18 := cell_lit hp 0 _ rfl
 go_wp2_with fail
 clear R18
 with_reducible refine (nput_bad _ _ _ _ _ _ _ _ la hm HG.out).mono ?_
 rintro e w2 ⟨rfl, b2⟩
 replace hp := blk_u hp b2
 replace la := la.below b2
 replace bel := bel.trans (b2.mono bel.size)
 clear b2
 go_wp2_with fail
 exact bodyPost_ret (v := .tuple #[.slice none 0 0, .int .i64 1]) (by simp [results, Try.results24, go_sem]) rfl ⟨rfl, bel⟩
theorem okR_of {nm : List (List UInt8)} {t k u : Int} {dl : List UInt8} (h1 : okQ ⟨nm, t, k⟩ = true) (h2 : dl.length ≤ 65535) : okR ⟨nm, t, k, u, dl⟩ = true := by
 unfold okR
 obtain ⟨g1, g2, g3⟩ := okQ_is h1
 rw [g1, g2, g3, decide_eq_true h2]
 rfl
theorem okR_no {nm : List (List UInt8)} {t k u : Int} {dl : List UInt8} (h : okR ⟨nm, t, k, u, dl⟩ = false) : okQ ⟨nm, t, k⟩ = false ∨ (okQ ⟨nm, t, k⟩ = true ∧ 65535 < dl.length) := by
 rcases (by decide : ∀ b : Bool, b = true ∨ b = false) (okQ ⟨nm, t, k⟩) with h1 | h1
 ·right
  refine ⟨h1, ?_⟩
  rcases Nat.lt_or_ge 65535 dl.length with h2 | h2
  ·exact h2
  ·rw [okR_of h1 h2] at h; cases h
 ·exact .inl h1
theorem encR_len {r : Rn} (h : okR r = true) : (encR r).length ≤ 265 + r.data.length := by
 have h1 := encQ_len (okR_is h).1
 rw [encR_q, List.length_append, List.length_append, List.length_append, four_len, two_len]
 omega
set_option linter.unusedVariables false in
set_option linter.unusedSimpArgs false in
set_option maxRecDepth 100000 in
set_option maxHeartbeats 16000000 in
theorem dwr_ok (A : Option Addr) (n c : Nat) (t k u : Int) (B : Option Addr) (d e : Nat) (nm : List (List UInt8)) (dl : List UInt8) (w : World) (la : Sle stf 1 w A n c nm) (ld : Sl w B d e dl) (hu0 : 0 ≤ u) (hu1 : u < 4294967296) (hr : okR ⟨nm, t, k, u, dl⟩ = true) : Calls Try.prog 26 #[.agg #[.slice A n c, .int .i64 t, .int .i64 k, .int .u32 u, .slice B d e]] w fun e w' => ∃ B m cB, e = .returned (.tuple #[.slice B m cB, .int .i64 0]) ∧ w'.ownsRow w.heap.size 5 1 (.slice B m cB) m ((encR ⟨nm, t, k, u, dl⟩).map u8v) ∧ Below w.heap.size w w' := by
 have HU0 := Lib.hid hu0
 have HU1 := Lib.hid hu1
 have HDL := Lib.hid ld.1
 have d0 : (0 : Int) ≤ d := by omega
 obtain ⟨ii, hii, hz0, hz1, hz2⟩ := info_parts Try.info5
 have HQ := Lib.hid (okR_is hr).1
 have HD : d ≤ 65535 := by have h_ := (okR_is hr).2; have h1_ := HDL.out; dsimp only at h_; omega
 have H16 : Hid (h16 (d : Int) = true) := Lib.hid (h16_of (by omega) (by omega))
 clear hr
 have bel := Below.refl w.heap.size w
 go_enter Try.func26, Try.ntmps26
 go_wp2_with (first | ((with_reducible show wpList _ _ _ (⟨some 1, _, _, _, _, _⟩ :: _) _ _); refine wpList_box_n rfl 36 (.tmp 0) rfl #[.slice A n c, .int .i64 t, .int .i64 k, .int .u32 u, .slice B d e] rfl ?_; intro g1 w1 ge lt hh bb; have av_la_p := la.av_new ge; have av_ld_p := ld.av_new ge; have op := Nat.le_trans bel.size ge; replace la := la.below bb; replace ld := ld.below bb; replace bel := bel.trans (bb.mono bel.size); have hp := hh; clear hh lt ge bb; have R8 := cell_lit hp 0 _ rfl; have R10 := cell_lit hp 1 _ rfl; have R12 := cell_lit hp 2 _ rfl))
 try clear R8
 try clear R10
 try clear R12
 have HSQ := bel.size
 with_reducible refine (dwq_ok _ _ _ _ _ _ _ la HQ.out).mono ?_
 rintro e w2 ⟨Bq, mq, cq, rfl, qqw, b2⟩
 replace hp := blk_u hp b2
 replace la := la.below b2
 replace ld := ld.below b2
 replace bel := bel.trans (b2.mono bel.size)
 clear b2
 replace qqw := owk_lo qqw HSQ
 have qq := (own_sl qqw).1
 have HQL : Hid (mq ≤ 259) := Lib.hid (by have h_ := qq.1; have h1_ := encQ_len HQ.out; omega)
 have HQM := HQL.out
 have mq0 : (0 : Int) ≤ mq := by omega
 have R21 := cell_lit hp 4 _ rfl
 go_wp2_with fail
 clear R21
 with_reducible refine (dupto_is _ H16.out).mono ?_
 rintro e _ ⟨rfl, rfl⟩
 have R27 := cell_lit hp 3 _ rfl
 go_wp2_with fail
 clear R27
 with_reducible refine (w32_oto _ mq (mq + 4) _ _ _ _ HU0.out HU1.out rfl qq (by omega)).mono ?_
 rintro e w3 ⟨v_ra, rfl, raw, b3⟩
 have y_ra_p := Lib.hid (hlt hp)
 have bl_la_ra := la.bl_new
 have bl_ld_ra := ld.bl_new
 have bl_qq_ra := qq.bl_new
 have ralo := bel.size
 have lz_ra := b3.size
 replace hp := blk_u hp b3
 replace la := la.below b3
 replace ld := ld.below b3
 replace qq := qq.below b3
 replace bel := bel.trans (b3.mono bel.size)
 clear b3
 obtain ⟨Ara, cra, rfl⟩ := own_val raw
 have ra := (own_sl raw).1
 have fr_ra := (own_sl raw).2
 have av_ra_p := fr_ra.av y_ra_p.out
 clear qq
 have R31 := cell_lit hp 4 _ rfl
 go_wp2_with fail
 clear R31
 with_reducible refine (w16_oto _ (mq + 4) (mq + 4 + 2) _ _ _ _ rfl ra (by omega)).mono ?_
 rintro e w4 ⟨v_rb, rfl, rbw, b4⟩
 have y_rb_p := Lib.hid (hlt hp)
 have bl_la_rb := la.bl_new
 have bl_ld_rb := ld.bl_new
 have bl_ra_rb := ra.bl_new
 have rblo := bel.size
 have lz_rb := b4.size
 replace hp := blk_u hp b4
 replace la := la.below b4
 replace ld := ld.below b4
 replace ra := ra.below b4
 replace raw := own_under raw b4
 replace lz_ra := Nat.le_trans lz_ra b4.size
 replace bel := bel.trans (b4.mono bel.size)
 clear b4
 obtain ⟨Arb, crb, rfl⟩ := own_val rbw
 have rb := (own_sl rbw).1
 have fr_rb := (own_sl rbw).2
 have av_rb_p := fr_rb.av y_rb_p.out
 clear ra raw lz_ra
 have R36 := cell_lit hp 4 _ rfl
 go_wp2_with (first | ((with_reducible show wpList _ _ _ (⟨some 37, _, _, _, _, _⟩ :: _) _ _); refine wpList_append_bb _ rfl (.tmp 34) (.tmp 36) 30 rfl (w3.heap.size) 5 ii (.int .u8 0) Try.underlying30 hii hz0 hz1 hz2 rfl _ (mq + 4 + 2) (encQ ⟨nm, t, k⟩ ++ four u ++ two (d : Int)) rfl rbw (B) (d) (e) (dl) rfl ld (by omega) lz_rb ?_; intro v37 w5 own_ bb; replace la := la.under bl_la_rb bb; replace ld := ld.under bl_ld_rb bb; replace hp := blk_under hp bb y_rb_p.out; replace bel := bel.trans (bb.mono rblo); have lz_rc := Nat.le_trans lz_rb bb.size; clear bb; clear rb rbw lz_rb; replace own_ : w5.ownsRow (w3.heap.size) 5 1 v37 (mq + 4 + 2 + d) ((encQ ⟨nm, t, k⟩ ++ four u ++ two (d : Int) ++ dl : List UInt8).map u8v) := own_; obtain ⟨A37, c37, rfl⟩ := own_val own_; have rcw := own_; have rc := (own_sl own_).1; have fr_rc := (own_sl own_).2; clear own_; have av_rc_p := fr_rc.av y_rb_p.out))
 try clear R36
 exact bodyPost_ret (v := .tuple #[.slice A37 (mq + 4 + 2 + d) c37, .int .i64 0]) (by simp [results, Try.results26, go_sem]) rfl ⟨_, _, _, rfl, own_cut (owk_lo (own_to rcw rfl (by rw [encR_q, HDL.out]; simp)) rblo), bel⟩
set_option linter.unusedVariables false in
set_option linter.unusedSimpArgs false in
set_option maxRecDepth 100000 in
set_option maxHeartbeats 16000000 in
theorem dwr_no (A : Option Addr) (n c : Nat) (t k u : Int) (B : Option Addr) (d e : Nat) (nm : List (List UInt8)) (dl : List UInt8) (w : World) (la : Sle stf 1 w A n c nm) (ld : Sl w B d e dl) (hu0 : 0 ≤ u) (hu1 : u < 4294967296) (hm : n ≤ 100000) (hr : okR ⟨nm, t, k, u, dl⟩ = false) : Calls Try.prog 26 #[.agg #[.slice A n c, .int .i64 t, .int .i64 k, .int .u32 u, .slice B d e]] w fun e w' => e = .returned (.tuple #[.slice none 0 0, .int .i64 1]) ∧ Below w.heap.size w w' := by
 have HU0 := Lib.hid hu0
 have HU1 := Lib.hid hu1
 have HDL := Lib.hid ld.1
 have d0 : (0 : Int) ≤ d := by omega
 obtain ⟨ii, hii, hz0, hz1, hz2⟩ := info_parts Try.info5
 have bel := Below.refl w.heap.size w
 go_enter Try.func26, Try.ntmps26
 rcases okR_no hr with hq_ | ⟨hq_, hd_⟩
 ·have HQ := Lib.hid hq_
  clear hq_ hr
  go_wp2_with (first | ((with_reducible show wpList _ _ _ (⟨some 1, _, _, _, _, _⟩ :: _) _ _); refine wpList_box_n rfl 36 (.tmp 0) rfl #[.slice A n c, .int .i64 t, .int .i64 k, .int .u32 u, .slice B d e] rfl ?_; intro g1 w1 ge lt hh bb; have av_la_p := la.av_new ge; have av_ld_p := ld.av_new ge; have op := Nat.le_trans bel.size ge; replace la := la.below bb; replace ld := ld.below bb; replace bel := bel.trans (bb.mono bel.size); have hp := hh; clear hh lt ge bb; have R8 := cell_lit hp 0 _ rfl; have R10 := cell_lit hp 1 _ rfl; have R12 := cell_lit hp 2 _ rfl))
  try clear R8
  try clear R10
  try clear R12
  with_reducible refine (dwq_no _ _ _ _ _ _ _ la hm HQ.out).mono ?_
  rintro e w2 ⟨rfl, b2⟩
  replace hp := blk_u hp b2
  replace la := la.below b2
  replace ld := ld.below b2
  replace bel := bel.trans (b2.mono bel.size)
  clear b2
  go_wp2_with fail
  exact bodyPost_ret (v := .tuple #[.slice none 0 0, .int .i64 1]) (by simp [results, Try.results26, go_sem]) rfl ⟨rfl, bel⟩
 have HQ := Lib.hid hq_
 have H16 : Hid (h16 (d : Int) = false) := Lib.hid (by unfold h16; rw [decide_eq_false (show ¬ (d : Int) ≤ 65535 by have h1_ := HDL.out; omega), Bool.and_false])
 clear hq_ hd_ hr
 go_wp2_with (first | ((with_reducible show wpList _ _ _ (⟨some 1, _, _, _, _, _⟩ :: _) _ _); refine wpList_box_n rfl 36 (.tmp 0) rfl #[.slice A n c, .int .i64 t, .int .i64 k, .int .u32 u, .slice B d e] rfl ?_; intro g1 w1 ge lt hh bb; have av_la_p := la.av_new ge; have av_ld_p := ld.av_new ge; have op := Nat.le_trans bel.size ge; replace la := la.below bb; replace ld := ld.below bb; replace bel := bel.trans (bb.mono bel.size); have hp := hh; clear hh lt ge bb; have R8 := cell_lit hp 0 _ rfl; have R10 := cell_lit hp 1 _ rfl; have R12 := cell_lit hp 2 _ rfl))
 try clear R8
 try clear R10
 try clear R12
 have HSQ := bel.size
 with_reducible refine (dwq_ok _ _ _ _ _ _ _ la HQ.out).mono ?_
 rintro e w2 ⟨Bq, mq, cq, rfl, qqw, b2⟩
 replace hp := blk_u hp b2
 replace la := la.below b2
 replace ld := ld.below b2
 replace bel := bel.trans (b2.mono bel.size)
 clear b2
 replace qqw := owk_lo qqw HSQ
 have qq := (own_sl qqw).1
 have HQL : Hid (mq ≤ 259) := Lib.hid (by have h_ := qq.1; have h1_ := encQ_len HQ.out; omega)
 have HQM := HQL.out
 have mq0 : (0 : Int) ≤ mq := by omega
 have R21 := cell_lit hp 4 _ rfl
 go_wp2_with fail
 clear R21
 with_reducible refine (dupto_is _ H16.out).mono ?_
 rintro e _ ⟨rfl, rfl⟩
 go_wp2_with fail
 exact bodyPost_ret (v := .tuple #[.slice none 0 0, .int .i64 1]) (by simp [results, Try.results26, go_sem]) rfl ⟨rfl, bel⟩
end Go.Proofs.Ytjedknjlpeccbaa
