/- Texts put together: Dw4, Open, Opens, Slo, Sts, Dmo. -/
import Derived.Test.YtjedknjlpeccbaaQ1
import Derived.Test.YtjedknjlpeccbaaQ2
import Derived.Test.YtjedknjlpeccbaaQ17
import Derived.ProofKit
import Derived.OpenShut
import Derived.ChangeArms
import Derived.Deep.Slices
namespace Go.Proofs.Ytjedknjlpeccbaa
open Go.RowKit

theorem Sle.lit {α : Type} {f : α → List Value} {k : Nat} {w : World} {g o n c i : Nat} {l : List α} {x : α} (h : Sle f k w (some ⟨g, o, none⟩) n c l) (hx : l[i]? = some x) (a : Nat) (v : Value) (hv : (f x)[a]? = some v) (q : Nat) (hq : i * k + a = q) : w.cell? ⟨g, o + q, none⟩ = some v := by
  have := h.cellk hx a v hv
  rw [Nat.add_assoc, hq] at this
  exact this
def kM : Mn := ⟨1, 0, [], [⟨[[97]], 5, 1, 9, [1, 97, 0]⟩], [], []⟩
def negM : Mn := ⟨-1, 0, [], [], [], []⟩
def oneM (L : List UInt8) : Mn := ⟨0, 0, [], [⟨[], 0, 0, 0, L⟩], [], []⟩
theorem kg1 : getM (List.replicate 11 0) = .error 3 := by kernel_rfl
theorem kg2 : getM (List.replicate 13 0) = .error 4 := by kernel_rfl
theorem kg3 : getM [0, 0, 0, 0, 0, 65, 0, 0, 0, 0, 0, 0] = .error 2 := by kernel_rfl
theorem kg4 : getM (List.replicate 1473 0) = .error 2 := getM_far (by rw [List.length_replicate]; decide)
theorem kg5 : getM [0, 1, 0, 0, 0, 0, 0, 1, 0, 0, 0, 0, 1, 97, 0, 0, 5, 0, 1, 0, 0, 0, 9, 0, 2, 192, 12] = .ok kM := by kernel_rfl
theorem kp1 : putM negM = ([], 1) := by kernel_rfl
theorem kp2' (L : List UInt8) (hL : L.length = 1500) : putM (oneM L) = ([], 2) := by
  have h : (encM (oneM L)).length = 1523 := by
    show ((headM (oneM L) ++ ([] : List UInt8)) ++ (([0] ++ [0, 0] ++ [0, 0] ++ [0, 0, 0, 0] ++ two (L.length : Int) ++ L) ++ [])).length = 1523
    simp only [List.length_append, hL]
    rfl
  have hk : okM (oneM L) = true := okM_of rfl rfl (show 1 ≤ 64 by decide) (fun q hq => by simp [oneM] at hq) (fun r hr => by
    obtain rfl : r = ⟨[], 0, 0, 0, L⟩ := by simpa [oneM, allR] using hr
    unfold okR
    rw [Bool.and_eq_true, Bool.and_eq_true, Bool.and_eq_true]
    exact ⟨⟨⟨rfl, rfl⟩, rfl⟩, decide_eq_true (show L.length ≤ 65535 by omega)⟩)
  unfold putM
  rw [if_pos hk, if_neg (by rw [h]; decide)]
theorem kp2 : putM (oneM (List.replicate 1500 0)) = ([], 2) := kp2' _ List.length_replicate
theorem neg_b : Bm negM := ⟨⟨by decide, by decide⟩, fun q hq => by simp [negM] at hq, fun r hr => by simp [negM, allR] at hr⟩
theorem neg_mr (w : World) : Mr w none 0 0 none 0 0 none 0 0 none 0 0 negM := ⟨[], [], [], [], Sle.nil (by decide) qE_len _, All2.nil, Sle.nil (by decide) rE_len _, All2.nil, Sle.nil (by decide) rE_len _, All2.nil, Sle.nil (by decide) rE_len _, All2.nil⟩
theorem big_b' (L : List UInt8) (hL : L.length = 1500) : Bm (oneM L) := ⟨⟨show 1 ≤ 300 by decide, show 0 ≤ 100 by decide⟩, fun q hq => by simp [oneM] at hq, fun r hr => by
  obtain rfl : r = ⟨[], 0, 0, 0, L⟩ := by simpa [oneM, allR] using hr
  exact ⟨by simp, by simp [sizeN], by show L.length ≤ 2100; omega, by show (0 : Int) ≤ 0; omega, by show (0 : Int) < _; omega⟩⟩
theorem big_b : Bm (oneM (List.replicate 1500 0)) := big_b' _ List.length_replicate
theorem big_mr {w : World} {A B : Option Addr} {c d e : Nat} {L : List UInt8} (sr : Sle rE 5 w A 1 c [⟨none, 0, 0, 0, 0, 0, B, d, e⟩]) (sb : Sl w B d e L) : Mr w none 0 0 A 1 c none 0 0 none 0 0 (oneM L) :=
  ⟨[], [⟨none, 0, 0, 0, 0, 0, B, d, e⟩], [], [], Sle.nil (by decide) qE_len _, All2.nil, sr, All2.nil.snoc (x := (⟨none, 0, 0, 0, 0, 0, B, d, e⟩ : Rh)) (y := (⟨[], 0, 0, 0, L⟩ : Rn)) ⟨rfl, rfl, rfl, Sle.nil (by decide) stf_len _, sb⟩, Sle.nil (by decide) rE_len _, All2.nil, Sle.nil (by decide) rE_len _, All2.nil⟩
theorem dget_one {A0 : Option Addr} {n c : Nat} (w : World) (sb : Sl w A0 n c [0, 1, 0, 0, 0, 0, 0, 1, 0, 0, 0, 0, 1, 97, 0, 0, 5, 0, 1, 0, 0, 0, 9, 0, 2, 192, 12]) : Calls Try.prog 9 #[.slice A0 n c] w fun e w' => ∃ (Q : Option Addr) (qc : Nat) (A : Option Addr) (ac : Nat) (O : Option Addr) (oc : Nat) (M : Option Addr) (mc : Nat) (x : Rh), e = .returned (.tuple #[.agg #[.int .i64 1, .int .i64 0, .slice Q 0 qc, .slice A 1 ac, .slice O 0 oc, .slice M 0 mc], .int .i64 0]) ∧ Sle rE 5 w' A 1 ac [x] ∧ Sl w' x.B x.d x.e [1, 97, 0] ∧ (x.u == 9) = true ∧ Below w.heap.size w w' := by
  refine (dget_is (id := 1) (fl := 0) (qn := 0) (an := 1) (on := 0) (mn := 0) w sb kg5 rfl rfl rfl rfl rfl rfl).mono ?_
  rintro e w' ⟨Q, qc, A, ac, O, oc, M, mc, rfl, ⟨hq, ha, ho, hm, h1, h2, h3, h4, h5, h6, h7, h8⟩, hb⟩
  obtain ⟨x, rfl⟩ : ∃ x, ha = [x] := by
    have h := h3.1
    match ha, h with
    | [x], _ => exact ⟨x, rfl⟩
  have hr := h4.2 0 x _ rfl rfl
  exact ⟨Q, qc, A, ac, O, oc, M, mc, x, rfl, h3, hr.2.2.2.2, by rw [hr.2.2.1]; rfl, hb⟩
set_option linter.unusedVariables false in
set_option linter.unusedSimpArgs false in
set_option maxRecDepth 100000 in
set_option maxHeartbeats 16000000 in
theorem dnsKnown_walk (w : World) : Calls Try.prog 3 #[] w fun e w' => e = .returned (.bool true) ∧ Below w.heap.size w w' := by
  obtain ⟨ii, hii, hz0, hz1, hz2⟩ := info_parts Try.info5
  have bel := Below.refl w.heap.size w
  go_enter Try.func3, Try.ntmps3
  go_wp2_with fail
  with_reducible refine (awake21_any _).mono ?_
  rintro e w1 ⟨rfl, b1⟩
  replace bel := bel.trans (b1.mono bel.size)
  clear b1
  go_wp2_with (first | ((with_reducible show wpList _ _ _ (⟨some 18, _, _, _, _, _⟩ :: _) _ _); refine wpList_make_g rfl (.const (.int .i64 11)) (.const (.int .i64 11)) 30 rfl 5 ii Try.underlying30 hii hz0 hz1 hz2 .i64 .i64 _ _ (11) rfl rfl rfl rfl (by omega) ?_; intro g18 w2 ge sm bb; replace bel := bel.trans (bb.mono bel.size); have z1 := sm; clear sm ge bb))
  with_reducible refine (dget_no _ z1 (by decide) kg1 3 rfl).mono ?_
  rintro e w3 ⟨rfl, b3⟩
  replace z1 := z1.below b3
  replace bel := bel.trans (b3.mono bel.size)
  clear b3
  go_wp2_with (first | ((with_reducible show wpList _ _ _ (⟨some 1, _, _, _, _, _⟩ :: _) _ _); refine wpList_new_a rfl 26 rfl #[.int .i64 0, .int .i64 0, .slice none 0 0, .slice none 0 0, .slice none 0 0, .slice none 0 0] (by kernel_rfl) ?_; intro g1 w4 ge hh bb; have av_z1_b1 := z1.av_new ge; have ob1 := Nat.le_trans bel.size ge; replace z1 := z1.below bb; replace bel := bel.trans (bb.mono bel.size); have hb1 := hh; clear hh ge bb) | ((with_reducible show wpList _ _ _ (⟨none, Op.store _ (.tmp 1) _, _, _, _, _⟩ :: _) _ _); refine wpList_store_blk rfl 26 (.tmp 1) (.tmp 20) rfl g1 rfl _ rfl _ 26 hb1 (by rfl) (by kernel_rfl) (by kernel_rfl) ?_; intro w5 hq gr; replace z1 := z1.away av_z1_b1 gr; replace bel := below_grown bel gr ob1 bel.size; clear hb1; have hb1 := hq; clear hq gr) | ((with_reducible show wpList _ _ _ (⟨some 23, _, _, _, _, _⟩ :: _) _ _); refine wpList_make_g rfl (.const (.int .i64 13)) (.const (.int .i64 13)) 30 rfl 5 ii Try.underlying30 hii hz0 hz1 hz2 .i64 .i64 _ _ (13) rfl rfl rfl rfl (by omega) ?_; intro g23 w6 ge sm bb; replace hb1 := blk_u hb1 bb; replace z1 := z1.below bb; replace bel := bel.trans (bb.mono bel.size); have z2 := sm; clear sm ge bb))
  with_reducible refine (dget_no _ z2 (by decide) kg2 4 rfl).mono ?_
  rintro e w7 ⟨rfl, b7⟩
  replace hb1 := blk_u hb1 b7
  replace z1 := z1.below b7
  replace z2 := z2.below b7
  replace bel := bel.trans (b7.mono bel.size)
  clear b7
  go_wp2_with (first | ((with_reducible show wpList _ _ _ (⟨some 3, _, _, _, _, _⟩ :: _) _ _); refine wpList_new_a rfl 26 rfl #[.int .i64 0, .int .i64 0, .slice none 0 0, .slice none 0 0, .slice none 0 0, .slice none 0 0] (by kernel_rfl) ?_; intro g3 w8 ge hh bb; have d_b1_b3 := ne_new (hlt hb1) ge; have av_z1_b3 := z1.av_new ge; have av_z2_b3 := z2.av_new ge; have ob3 := Nat.le_trans bel.size ge; replace hb1 := blk_u hb1 bb; replace z1 := z1.below bb; replace z2 := z2.below bb; replace bel := bel.trans (bb.mono bel.size); have hb3 := hh; clear hh ge bb) | ((with_reducible show wpList _ _ _ (⟨none, Op.store _ (.tmp 3) _, _, _, _, _⟩ :: _) _ _); refine wpList_store_blk rfl 26 (.tmp 3) (.tmp 25) rfl g3 rfl _ rfl _ 26 hb3 (by rfl) (by kernel_rfl) (by kernel_rfl) ?_; intro w9 hq gr; replace z1 := z1.away av_z1_b3 gr; replace z2 := z2.away av_z2_b3 gr; replace hb1 := blk_a hb1 gr d_b1_b3; replace bel := below_grown bel gr ob3 bel.size; clear hb3; have hb3 := hq; clear hq gr) | ((with_reducible show wpList _ _ _ (⟨some 28, _, _, _, _, _⟩ :: _) _ _); refine wpList_lit_n rfl 30 5 12 _ rfl #[.int .u8 0, .int .u8 0, .int .u8 0, .int .u8 0, .int .u8 0, .int .u8 65, .int .u8 0, .int .u8 0, .int .u8 0, .int .u8 0, .int .u8 0, .int .u8 0] (.int .u8 0) Try.underlying30 (by kernel_rfl) 1 (by kernel_rfl) (by decide) (by kernel_rfl) ?_; intro g28 w10 ge lt hh bb; have hl : w10.heap[g28]? = some (.cells (([0, 0, 0, 0, 0, 65, 0, 0, 0, 0, 0, 0] : List UInt8).map u8v).toArray 5 (0, 0)) := (by simpa [u8v, byteOf_val] using hh); have z3w := own_lit (B := w9.heap.size) ([0, 0, 0, 0, 0, 65, 0, 0, 0, 0, 0, 0]) hl ge 12 rfl (by simp [maxLen]); have z3 := (own_sl z3w).1; have z3lo := bel.size; clear hl; have z3ge := ge; have lz_z3 := bb.size; have y_z3_b1 := Lib.hid (hlt hb1); have y_z3_b3 := Lib.hid (hlt hb3); have bl_z1_z3 := z1.bl_new; have bl_z2_z3 := z2.bl_new; have d_b1_b28 := ne_new (hlt hb1) ge; have d_b3_b28 := ne_new (hlt hb3) ge; have av_z1_b28 := z1.av_new ge; have av_z2_b28 := z2.av_new ge; have ob28 := Nat.le_trans bel.size ge; replace hb1 := blk_u hb1 bb; replace hb3 := blk_u hb3 bb; replace z1 := z1.below bb; replace z2 := z2.below bb; replace bel := bel.trans (bb.mono bel.size); have hb28 := hh; clear hh lt ge bb; have av_z3_b1 := (own_sl z3w).2.av y_z3_b1.out; have av_z3_b3 := (own_sl z3w).2.av y_z3_b3.out))
  with_reducible refine (dget_no _ z3 (by decide) kg3 2 rfl).mono ?_
  rintro e w11 ⟨rfl, b11⟩
  replace hb1 := blk_u hb1 b11
  replace hb3 := blk_u hb3 b11
  replace hb28 := blk_u hb28 b11
  replace z1 := z1.below b11
  replace z2 := z2.below b11
  replace z3 := z3.below b11
  replace z3w := own_under z3w b11
  replace lz_z3 := Nat.le_trans lz_z3 b11.size
  replace bel := bel.trans (b11.mono bel.size)
  clear b11
  go_wp2_with (first | ((with_reducible show wpList _ _ _ (⟨some 5, _, _, _, _, _⟩ :: _) _ _); refine wpList_new_a rfl 26 rfl #[.int .i64 0, .int .i64 0, .slice none 0 0, .slice none 0 0, .slice none 0 0, .slice none 0 0] (by kernel_rfl) ?_; intro g5 w12 ge hh bb; have d_b1_b5 := ne_new (hlt hb1) ge; have d_b3_b5 := ne_new (hlt hb3) ge; have d_b28_b5 := ne_new (hlt hb28) ge; have av_z1_b5 := z1.av_new ge; have av_z2_b5 := z2.av_new ge; have av_z3_b5 := z3.av_new ge; have of_z3_b5 := own_new z3w ge; have ob5 := Nat.le_trans bel.size ge; replace hb1 := blk_u hb1 bb; replace hb3 := blk_u hb3 bb; replace hb28 := blk_u hb28 bb; replace z1 := z1.below bb; replace z2 := z2.below bb; replace z3 := z3.below bb; replace z3w := own_under z3w bb; replace lz_z3 := Nat.le_trans lz_z3 bb.size; replace bel := bel.trans (bb.mono bel.size); have hb5 := hh; clear hh ge bb) | ((with_reducible show wpList _ _ _ (⟨none, Op.store _ (.tmp 5) _, _, _, _, _⟩ :: _) _ _); refine wpList_store_blk rfl 26 (.tmp 5) (.tmp 30) rfl g5 rfl _ rfl _ 26 hb5 (by rfl) (by kernel_rfl) (by kernel_rfl) ?_; intro w13 hq gr; replace z1 := z1.away av_z1_b5 gr; replace z2 := z2.away av_z2_b5 gr; replace z3 := z3.away av_z3_b5 gr; replace z3w := own_off z3w of_z3_b5 gr; replace lz_z3 := Nat.le_trans lz_z3 gr.size; replace hb1 := blk_a hb1 gr d_b1_b5; replace hb3 := blk_a hb3 gr d_b3_b5; replace hb28 := blk_a hb28 gr d_b28_b5; replace bel := below_grown bel gr ob5 bel.size; clear hb5; have hb5 := hq; clear hq gr) | ((with_reducible show wpList _ _ _ (⟨some 33, _, _, _, _, _⟩ :: _) _ _); refine wpList_make_g rfl (.const (.int .i64 1473)) (.const (.int .i64 1473)) 30 rfl 5 ii Try.underlying30 hii hz0 hz1 hz2 .i64 .i64 _ _ (1473) rfl rfl rfl rfl (by omega) ?_; intro g33 w14 ge sm bb; replace hb1 := blk_u hb1 bb; replace hb3 := blk_u hb3 bb; replace hb28 := blk_u hb28 bb; replace hb5 := blk_u hb5 bb; replace z1 := z1.below bb; replace z2 := z2.below bb; replace z3 := z3.below bb; replace z3w := own_under z3w bb; replace lz_z3 := Nat.le_trans lz_z3 bb.size; replace bel := bel.trans (bb.mono bel.size); have z4 := sm; clear sm ge bb))
  with_reducible refine (dget_no _ z4 (by decide) kg4 2 rfl).mono ?_
  rintro e w15 ⟨rfl, b15⟩
  replace hb1 := blk_u hb1 b15
  replace hb3 := blk_u hb3 b15
  replace hb28 := blk_u hb28 b15
  replace hb5 := blk_u hb5 b15
  replace z1 := z1.below b15
  replace z2 := z2.below b15
  replace z3 := z3.below b15
  replace z3w := own_under z3w b15
  replace z4 := z4.below b15
  replace lz_z3 := Nat.le_trans lz_z3 b15.size
  replace bel := bel.trans (b15.mono bel.size)
  clear b15
  go_wp2_with (first | ((with_reducible show wpList _ _ _ (⟨some 7, _, _, _, _, _⟩ :: _) _ _); refine wpList_new_a rfl 26 rfl #[.int .i64 0, .int .i64 0, .slice none 0 0, .slice none 0 0, .slice none 0 0, .slice none 0 0] (by kernel_rfl) ?_; intro g7 w16 ge hh bb; have d_b1_b7 := ne_new (hlt hb1) ge; have d_b3_b7 := ne_new (hlt hb3) ge; have d_b28_b7 := ne_new (hlt hb28) ge; have d_b5_b7 := ne_new (hlt hb5) ge; have av_z1_b7 := z1.av_new ge; have av_z2_b7 := z2.av_new ge; have av_z3_b7 := z3.av_new ge; have of_z3_b7 := own_new z3w ge; have av_z4_b7 := z4.av_new ge; have ob7 := Nat.le_trans bel.size ge; replace hb1 := blk_u hb1 bb; replace hb3 := blk_u hb3 bb; replace hb28 := blk_u hb28 bb; replace hb5 := blk_u hb5 bb; replace z1 := z1.below bb; replace z2 := z2.below bb; replace z3 := z3.below bb; replace z3w := own_under z3w bb; replace z4 := z4.below bb; replace lz_z3 := Nat.le_trans lz_z3 bb.size; replace bel := bel.trans (bb.mono bel.size); have hb7 := hh; clear hh ge bb) | ((with_reducible show wpList _ _ _ (⟨none, Op.store _ (.tmp 7) _, _, _, _, _⟩ :: _) _ _); refine wpList_store_blk rfl 26 (.tmp 7) (.tmp 35) rfl g7 rfl _ rfl _ 26 hb7 (by rfl) (by kernel_rfl) (by kernel_rfl) ?_; intro w17 hq gr; replace z1 := z1.away av_z1_b7 gr; replace z2 := z2.away av_z2_b7 gr; replace z3 := z3.away av_z3_b7 gr; replace z3w := own_off z3w of_z3_b7 gr; replace z4 := z4.away av_z4_b7 gr; replace lz_z3 := Nat.le_trans lz_z3 gr.size; replace hb1 := blk_a hb1 gr d_b1_b7; replace hb3 := blk_a hb3 gr d_b3_b7; replace hb28 := blk_a hb28 gr d_b28_b7; replace hb5 := blk_a hb5 gr d_b5_b7; replace bel := below_grown bel gr ob7 bel.size; clear hb7; have hb7 := hq; clear hq gr))
  with_reducible refine (dput_sl (id := -1) (fl := 0) (k := 0) _ (neg_mr _) rfl rfl neg_b kp1 rfl).mono ?_
  rintro e w18 ⟨A5, c5, rfl, z5, b18⟩
  replace hb1 := blk_u hb1 b18
  replace hb3 := blk_u hb3 b18
  replace hb28 := blk_u hb28 b18
  replace hb5 := blk_u hb5 b18
  replace hb7 := blk_u hb7 b18
  replace z1 := z1.below b18
  replace z2 := z2.below b18
  replace z3 := z3.below b18
  replace z3w := own_under z3w b18
  replace z4 := z4.below b18
  replace lz_z3 := Nat.le_trans lz_z3 b18.size
  replace bel := bel.trans (b18.mono bel.size)
  clear b18
  go_wp2_with (first | ((with_reducible show wpList _ _ _ (⟨some 43, _, _, _, _, _⟩ :: _) _ _); refine wpList_make_g rfl (.const (.int .i64 1500)) (.const (.int .i64 1500)) 30 rfl 5 ii Try.underlying30 hii hz0 hz1 hz2 .i64 .i64 _ _ (1500) rfl rfl rfl rfl (by omega) ?_; intro g43 w19 ge sm bb; replace hb1 := blk_u hb1 bb; replace hb3 := blk_u hb3 bb; replace hb28 := blk_u hb28 bb; replace hb5 := blk_u hb5 bb; replace hb7 := blk_u hb7 bb; replace z1 := z1.below bb; replace z2 := z2.below bb; replace z3 := z3.below bb; replace z3w := own_under z3w bb; replace z4 := z4.below bb; replace lz_z3 := Nat.le_trans lz_z3 bb.size; replace bel := bel.trans (bb.mono bel.size); have z6 := sm; clear sm ge bb) | ((with_reducible show wpList _ _ _ (⟨some 45, _, _, _, _, _⟩ :: _) _ _); refine wpList_lit_n rfl 24 36 1 _ rfl #[.slice none 0 0, .int .i64 0, .int .i64 0, .int .u32 0, .slice (some ⟨g43, 0, none⟩) 1500 1500] (.agg #[.slice none 0 0, .int .i64 0, .int .i64 0, .int .u32 0, .slice none 0 0]) Try.underlying24 (by kernel_rfl) 5 (by kernel_rfl) (by decide) (by kernel_rfl) ?_; intro g45 w20 ge lt hh bb; have d_b1_b45 := ne_new (hlt hb1) ge; have d_b3_b45 := ne_new (hlt hb3) ge; have d_b28_b45 := ne_new (hlt hb28) ge; have d_b5_b45 := ne_new (hlt hb5) ge; have d_b7_b45 := ne_new (hlt hb7) ge; have av_z1_b45 := z1.av_new ge; have av_z2_b45 := z2.av_new ge; have av_z3_b45 := z3.av_new ge; have of_z3_b45 := own_new z3w ge; have av_z4_b45 := z4.av_new ge; have av_z6_b45 := z6.av_new ge; have ob45 := Nat.le_trans bel.size ge; replace hb1 := blk_u hb1 bb; replace hb3 := blk_u hb3 bb; replace hb28 := blk_u hb28 bb; replace hb5 := blk_u hb5 bb; replace hb7 := blk_u hb7 bb; replace z1 := z1.below bb; replace z2 := z2.below bb; replace z3 := z3.below bb; replace z3w := own_under z3w bb; replace z4 := z4.below bb; replace z6 := z6.below bb; replace lz_z3 := Nat.le_trans lz_z3 bb.size; replace bel := bel.trans (bb.mono bel.size); have hb45 := hh; clear hh lt ge bb; have sr : Sle rE 5 w20 (some ⟨g45, 0, none⟩) (1) (1) ([(⟨none, 0, 0, 0, 0, 0, some ⟨g43, 0, none⟩, 1500, 1500⟩ : Rh)]) := sle_lit ([(⟨none, 0, 0, 0, 0, 0, some ⟨g43, 0, none⟩, 1500, 1500⟩ : Rh)]) (by decide) rE_len hb45 rfl (by simp [maxLen])))
  with_reducible refine (dput_sl (id := 0) (fl := 0) (k := 0) _ (big_mr sr z6) rfl rfl big_b kp2 rfl).mono ?_
  rintro e w21 ⟨A6, c6, rfl, z7, b21⟩
  replace hb1 := blk_u hb1 b21
  replace hb3 := blk_u hb3 b21
  replace hb28 := blk_u hb28 b21
  replace hb5 := blk_u hb5 b21
  replace hb7 := blk_u hb7 b21
  replace hb45 := blk_u hb45 b21
  replace z1 := z1.below b21
  replace z2 := z2.below b21
  replace z3 := z3.below b21
  replace z3w := own_under z3w b21
  replace z4 := z4.below b21
  replace z6 := z6.below b21
  replace sr := sr.below b21
  replace lz_z3 := Nat.le_trans lz_z3 b21.size
  replace bel := bel.trans (b21.mono bel.size)
  clear b21
  go_wp2_with (first | ((with_reducible show wpList _ _ _ (⟨some 51, _, _, _, _, _⟩ :: _) _ _); refine wpList_lit_n rfl 30 5 27 _ rfl #[.int .u8 0, .int .u8 1, .int .u8 0, .int .u8 0, .int .u8 0, .int .u8 0, .int .u8 0, .int .u8 1, .int .u8 0, .int .u8 0, .int .u8 0, .int .u8 0, .int .u8 1, .int .u8 97, .int .u8 0, .int .u8 0, .int .u8 5, .int .u8 0, .int .u8 1, .int .u8 0, .int .u8 0, .int .u8 0, .int .u8 9, .int .u8 0, .int .u8 2, .int .u8 192, .int .u8 12] (.int .u8 0) Try.underlying30 (by kernel_rfl) 1 (by kernel_rfl) (by decide) (by kernel_rfl) ?_; intro g51 w22 ge lt hh bb; have hl : w22.heap[g51]? = some (.cells (([0, 1, 0, 0, 0, 0, 0, 1, 0, 0, 0, 0, 1, 97, 0, 0, 5, 0, 1, 0, 0, 0, 9, 0, 2, 192, 12] : List UInt8).map u8v).toArray 5 (0, 0)) := (by simpa [u8v, byteOf_val] using hh); have z8w := own_lit (B := w21.heap.size) ([0, 1, 0, 0, 0, 0, 0, 1, 0, 0, 0, 0, 1, 97, 0, 0, 5, 0, 1, 0, 0, 0, 9, 0, 2, 192, 12]) hl ge 27 rfl (by simp [maxLen]); have z8 := (own_sl z8w).1; have z8lo := bel.size; clear hl; have z8ge := ge; have lz_z8 := bb.size; have y_z8_b1 := Lib.hid (hlt hb1); have y_z8_b3 := Lib.hid (hlt hb3); have y_z8_b28 := Lib.hid (hlt hb28); have y_z8_b5 := Lib.hid (hlt hb5); have y_z8_b7 := Lib.hid (hlt hb7); have y_z8_b45 := Lib.hid (hlt hb45); have bl_z1_z8 := z1.bl_new; have bl_z2_z8 := z2.bl_new; have bl_z3_z8 := z3.bl_new; have bl_z4_z8 := z4.bl_new; have bl_z6_z8 := z6.bl_new; have bl_sr_z8 := sr.bl_new; have d_b1_b51 := ne_new (hlt hb1) ge; have d_b3_b51 := ne_new (hlt hb3) ge; have d_b28_b51 := ne_new (hlt hb28) ge; have d_b5_b51 := ne_new (hlt hb5) ge; have d_b7_b51 := ne_new (hlt hb7) ge; have d_b45_b51 := ne_new (hlt hb45) ge; have av_z1_b51 := z1.av_new ge; have av_z2_b51 := z2.av_new ge; have av_z3_b51 := z3.av_new ge; have of_z3_b51 := own_new z3w ge; have av_z4_b51 := z4.av_new ge; have av_z6_b51 := z6.av_new ge; have av_sr_b51 := sr.av_new ge; have ob51 := Nat.le_trans bel.size ge; replace hb1 := blk_u hb1 bb; replace hb3 := blk_u hb3 bb; replace hb28 := blk_u hb28 bb; replace hb5 := blk_u hb5 bb; replace hb7 := blk_u hb7 bb; replace hb45 := blk_u hb45 bb; replace z1 := z1.below bb; replace z2 := z2.below bb; replace z3 := z3.below bb; replace z3w := own_under z3w bb; replace z4 := z4.below bb; replace z6 := z6.below bb; replace sr := sr.below bb; replace lz_z3 := Nat.le_trans lz_z3 bb.size; replace bel := bel.trans (bb.mono bel.size); have hb51 := hh; clear hh lt ge bb; have av_z8_b1 := (own_sl z8w).2.av y_z8_b1.out; have av_z8_b3 := (own_sl z8w).2.av y_z8_b3.out; have av_z8_b28 := (own_sl z8w).2.av y_z8_b28.out; have av_z8_b5 := (own_sl z8w).2.av y_z8_b5.out; have av_z8_b7 := (own_sl z8w).2.av y_z8_b7.out; have av_z8_b45 := (own_sl z8w).2.av y_z8_b45.out))
  with_reducible refine (dget_one _ z8).mono ?_
  rintro e w23 ⟨Qm, qcm, Am, acm, Om, ocm, Mm, mcm, x, rfl, ra, rd, hu, b23⟩
  replace hb1 := blk_u hb1 b23
  replace hb3 := blk_u hb3 b23
  replace hb28 := blk_u hb28 b23
  replace hb5 := blk_u hb5 b23
  replace hb7 := blk_u hb7 b23
  replace hb45 := blk_u hb45 b23
  replace hb51 := blk_u hb51 b23
  replace z1 := z1.below b23
  replace z2 := z2.below b23
  replace z3 := z3.below b23
  replace z3w := own_under z3w b23
  replace z4 := z4.below b23
  replace z6 := z6.below b23
  replace sr := sr.below b23
  replace z8 := z8.below b23
  replace z8w := own_under z8w b23
  replace lz_z3 := Nat.le_trans lz_z3 b23.size
  replace lz_z8 := Nat.le_trans lz_z8 b23.size
  replace bel := bel.trans (b23.mono bel.size)
  clear b23
  replace ra : Sle rE 5 w23 (Am) (1) (acm) ([x]) := ra
  replace rd : Sl w23 (x.B) (x.d) (x.e) ([1, 97, 0]) := rd
  obtain ⟨gE, oE, hp_⟩ := ra.place (by decide)
  subst hp_
  go_wp2_with (first | ((with_reducible show wpList _ _ _ (⟨some 13, _, _, _, _, _⟩ :: _) _ _); refine wpList_new_a rfl 26 rfl #[.int .i64 0, .int .i64 0, .slice none 0 0, .slice none 0 0, .slice none 0 0, .slice none 0 0] (by kernel_rfl) ?_; intro g13 w24 ge hh bb; have d_b1_bd := ne_new (hlt hb1) ge; have d_b3_bd := ne_new (hlt hb3) ge; have d_b28_bd := ne_new (hlt hb28) ge; have d_b5_bd := ne_new (hlt hb5) ge; have d_b7_bd := ne_new (hlt hb7) ge; have d_b45_bd := ne_new (hlt hb45) ge; have d_b51_bd := ne_new (hlt hb51) ge; have av_z1_bd := z1.av_new ge; have av_z2_bd := z2.av_new ge; have av_z3_bd := z3.av_new ge; have of_z3_bd := own_new z3w ge; have av_z4_bd := z4.av_new ge; have av_z6_bd := z6.av_new ge; have av_sr_bd := sr.av_new ge; have av_z8_bd := z8.av_new ge; have of_z8_bd := own_new z8w ge; have av_ra_bd := ra.av_new ge; have av_rd_bd := rd.av_new ge; have obd := Nat.le_trans bel.size ge; replace hb1 := blk_u hb1 bb; replace hb3 := blk_u hb3 bb; replace hb28 := blk_u hb28 bb; replace hb5 := blk_u hb5 bb; replace hb7 := blk_u hb7 bb; replace hb45 := blk_u hb45 bb; replace hb51 := blk_u hb51 bb; replace z1 := z1.below bb; replace z2 := z2.below bb; replace z3 := z3.below bb; replace z3w := own_under z3w bb; replace z4 := z4.below bb; replace z6 := z6.below bb; replace sr := sr.below bb; replace z8 := z8.below bb; replace z8w := own_under z8w bb; replace ra := ra.below bb; replace rd := rd.below bb; replace lz_z3 := Nat.le_trans lz_z3 bb.size; replace lz_z8 := Nat.le_trans lz_z8 bb.size; replace bel := bel.trans (bb.mono bel.size); have hbd := hh; clear hh ge bb) | ((with_reducible show wpList _ _ _ (⟨none, Op.store _ (.tmp 13) _, _, _, _, _⟩ :: _) _ _); refine wpList_store_blk rfl 26 (.tmp 13) (.tmp 53) rfl g13 rfl _ rfl _ 26 hbd (by rfl) (by kernel_rfl) (by kernel_rfl) ?_; intro w25 hq gr; replace z1 := z1.away av_z1_bd gr; replace z2 := z2.away av_z2_bd gr; replace z3 := z3.away av_z3_bd gr; replace z3w := own_off z3w of_z3_bd gr; replace z4 := z4.away av_z4_bd gr; replace z6 := z6.away av_z6_bd gr; replace sr := sr.away av_sr_bd gr; replace z8 := z8.away av_z8_bd gr; replace z8w := own_off z8w of_z8_bd gr; replace ra := ra.away av_ra_bd gr; replace rd := rd.away av_rd_bd gr; replace lz_z3 := Nat.le_trans lz_z3 gr.size; replace lz_z8 := Nat.le_trans lz_z8 gr.size; replace hb1 := blk_a hb1 gr d_b1_bd; replace hb3 := blk_a hb3 gr d_b3_bd; replace hb28 := blk_a hb28 gr d_b28_bd; replace hb5 := blk_a hb5 gr d_b5_bd; replace hb7 := blk_a hb7 gr d_b7_bd; replace hb45 := blk_a hb45 gr d_b45_bd; replace hb51 := blk_a hb51 gr d_b51_bd; replace bel := below_grown bel gr obd bel.size; clear hbd; have hbd := hq; clear hq gr; have R83 := cell_lit hbd 3 _ rfl; have R89 := cell_lit hbd 3 _ rfl; have R92 := Sle.lit ra (show ([x] : List Rh)[0]? = some x from rfl) 4 _ rfl 4 rfl; have st93 := rd.str (P := Try.prog) 30 5 9 Try.underlying30 Try.underlying5 Try.underlying9; have R98 := cell_lit hbd 3 _ rfl; have R101 := Sle.lit ra (show ([x] : List Rh)[0]? = some x from rfl) 3 _ rfl 3 rfl))
  try clear R83
  try clear R89
  try clear R92
  try clear st93
  try clear R98
  try clear R101
  go_ret
  exact ⟨rfl, bel⟩
open Go.RowKit Go.ChangeShapes Go.WideShapes

open Go.RowKit Go.ChangeShapes Go.WideShapes

theorem open_struct {H : Type} {enc : TypeId × Value → H} {P : Program} {w : World} {base : Nat} {sp : Nat → Bool} {held : Bool} {r : Reach} {b0 : Nat} {t : TypeId} {fs : Array Field} {v : Value} {d : DataW H} {p : List MemPlace}
    (ht : P.underlying t = some (.struct fs)) (hv : Value.okWide P w r b0 t v) (h : DataW.Trod enc P w base sp held t v d p) :
    ∃ cs : List Value, v = .agg cs.toArray ∧ cs.length = P.cellsOf t ∧ ∀ (i : Nat) (f : Field), fs[i]? = some f → ∃ y n, DataW.trod enc P w base sp held n f.type (List.take (P.cellsOf f.type) (List.drop f.offset cs)) = some y := by
  obtain ⟨xs, rfl, _⟩ := okWide_struct ht hv
  obtain ⟨fuel, hf⟩ := h
  obtain ⟨ys, n, _, _, hl, hlen, hx⟩ := DataW.trod_struct ht hf
  refine ⟨xs.toList, by simp, by simpa [Value.cells] using hl, fun i f hi => ?_⟩
  have h1 := hx i f hi
  have hi' : i < ys.length := by
    have := (Array.getElem?_eq_some_iff.1 hi).1
    omega
  rw [List.getElem?_eq_getElem hi'] at h1
  exact ⟨_, n, by simpa [Value.cells] using h1⟩
theorem fld_slice {H : Type} {enc : TypeId × Value → H} {P : Program} {w : World} {base : Nat} {held : Bool} {fuel : Nat} {t e : TypeId} {cs : List Value} {x : DataW H × List MemPlace}
    (ht : P.underlying t = some (.slice e)) (he : P.underlying e = some (.int .u8)) (hc : P.cellsOf e = 1) (h : DataW.trod enc P w base (fun _ => true) held fuel t cs = some x) :
    ∃ (A : Option Addr) (n c : Nat) (l : List UInt8), cs = [.slice A n c] ∧ Sl w A n c l := by
  rcases open_ints ht he hc h with ⟨hcs, _⟩ | ⟨a, n, c, zs, hcs, _, hl, hm, hz, _, hcell, hwz⟩
  · exact ⟨none, 0, 0, [], hcs, Sl.nil w⟩
  · obtain ⟨l, hs⟩ := sl_of_row (w := w) (a := some a) (len := n) (cap := c) (zs := zs) (.inr ⟨a, rfl, hl, hm, by simpa using hz, hcell, hwz⟩)
    exact ⟨some a, n, c, l, hcs, hs⟩
theorem cut_list {α : Type} (cs : List α) (o n : Nat) : cs.drop o = (cs.drop o).take n ++ cs.drop (o + n) := by
  rw [← List.drop_drop, List.take_append_drop]
open Go.RowKit Go.ChangeShapes Go.WideShapes

theorem list_of {α : Type} {p : Nat → α → Prop} : ∀ {n : Nat}, (∀ i, i < n → ∃ x, p i x) → ∃ l : List α, l.length = n ∧ ∀ i x, l[i]? = some x → p i x
  | 0, _ => ⟨[], rfl, fun i x h => by simp at h⟩
  | n + 1, h => by
    obtain ⟨l, hl, hp⟩ := list_of (n := n) fun i hi => h i (by omega)
    obtain ⟨x, hx⟩ := h n (by omega)
    refine ⟨l ++ [x], by simp [hl], fun i y hy => ?_⟩
    by_cases hi : i < l.length
    · rw [List.getElem?_append_left hi] at hy
      exact hp i y hy
    · rw [List.getElem?_append_right (by omega)] at hy
      have h0 := (List.getElem?_eq_some_iff.1 hy).1
      have e : i = n := by simp at h0; omega
      subst e
      rw [hl, Nat.sub_self] at hy
      obtain rfl : x = y := by simpa using hy
      exact hx
theorem fld_sle {H α : Type} {enc : TypeId × Value → H} {P : Program} {w : World} {base : Nat} {sp : Nat → Bool} {held : Bool} {fuel k : Nat} {t e : TypeId} {cs : List Value} {x : DataW H × List MemPlace} {f : α → List Value}
    (ht : P.underlying t = some (.slice e)) (hc : P.cellsOf e = k) (hk : 0 < k) (hf : ∀ x, (f x).length = k)
    (elem : ∀ n cs' y, DataW.trod enc P w base sp held n e cs' = some y → ∃ x : α, cs' = f x) (h : DataW.trod enc P w base sp held fuel t cs = some x) :
    ∃ (A : Option Addr) (n c : Nat) (l : List α), cs = [.slice A n c] ∧ Sle f k w A n c l := by
  rcases Go.Deep.open_slice ht h with ⟨rfl, _⟩ | ⟨a, len, cap, m, n, D, Pl, rfl, hb, hl, hm, hmm, _, hx⟩
  · exact ⟨none, 0, 0, [], rfl, Sle.nil hk hf w⟩
  have hlm : len ≤ m := by rw [hmm]; split <;> omega
  obtain ⟨l, hll, hp⟩ := list_of (p := fun i (x : α) => w.cells? base (a.add (i * k)) k = some (f x)) (n := len) fun i hi => by
    obtain ⟨cs', h1, h2⟩ := hx i (by omega)
    rw [hc] at h1
    obtain ⟨x, rfl⟩ := elem _ _ _ h2
    exact ⟨x, h1⟩
  refine ⟨some a, len, cap, l, rfl, hll, hl, hm, fun hn => ?_, hk, hf⟩
  have cellat : ∀ i j v, i < len → j < k → (l.flatMap f)[i * k + j]? = some v → w.cell? (a.add (i * k + j)) = some v := fun i j v hi hj hv => by
    have hx' := hp i _ (List.getElem?_eq_getElem (by omega))
    rw [flat_at hf l i j _ (List.getElem?_eq_getElem (by omega)) hj] at hv
    have h3 := (World.cells?_some hx').2.2 j hj
    rw [Addr.add_add] at h3
    rw [h3, hv]
  have hlen := flat_len hf l
  obtain ⟨g, o, spot⟩ := a
  have h0 : spot = none := by
    obtain ⟨v, hv⟩ : ∃ v, (l.flatMap f)[0 * k + 0]? = some v := ⟨_, List.getElem?_eq_getElem (by rw [hlen, hll]; have := Nat.mul_pos hn hk; omega)⟩
    simpa [Addr.add] using World.cell?_spot (cellat 0 0 v hn hk hv)
  subst h0
  refine ⟨g, o, rfl, fun j v hj => ?_⟩
  have hjl := (List.getElem?_eq_some_iff.1 hj).1
  rw [hlen, hll] at hjl
  have hd : j / k < len := Nat.div_lt_of_lt_mul (by rw [Nat.mul_comm]; exact hjl)
  have hr := Nat.mod_lt j hk
  have e : j / k * k + j % k = j := by rw [Nat.mul_comm]; exact Nat.div_add_mod j k
  have := cellat (j / k) (j % k) v hd hr (by rw [e]; exact hj)
  rw [e, Addr.add_lit] at this
  exact this
open Go.RowKit Go.ChangeShapes Go.WideShapes

theorem open_strs {H : Type} {enc : TypeId × Value → H} {W : World} {base : Nat} {held : Bool} {fuel : Nat} {cs : List Value} {x : DataW H × List MemPlace} (h : DataW.trod enc Try.prog W base (fun _ => true) held fuel 33 cs = some x) :
    ∃ (A : Option Addr) (n c : Nat) (l : List (List UInt8)), cs = [.slice A n c] ∧ Sle stf 1 W A n c l :=
  fld_sle Try.underlying33 (by kernel_rfl) (by decide) stf_len (fun n cs' y hy => by
    obtain ⟨s, e, _⟩ := DataW.trod_string Try.underlying9 hy
    exact ⟨s.data.toList, by rw [e]; simp [stf]⟩) h
open Go.RowKit Go.ChangeShapes Go.WideShapes Go.ChangeAt

theorem fld_structd {H : Type} {enc : TypeId × Value → H} {P : Program} {w : World} {base : Nat} {sp : Nat → Bool} {held : Bool} {fuel : Nat} {t : TypeId} {fs : Array Field} {cs : List Value} {x : DataW H × List MemPlace}
    (ht : P.underlying t = some (.struct fs)) (h : DataW.trod enc P w base sp held fuel t cs = some x) :
    cs.length = P.cellsOf t ∧ ∀ (i : Nat) (f : Field), fs[i]? = some f → ∃ y n, DataW.trod enc P w base sp held n f.type (List.take (P.cellsOf f.type) (List.drop f.offset cs)) = some y := by
  obtain ⟨ys, n, _, _, hl, hlen, hx⟩ := DataW.trod_struct ht h
  refine ⟨hl, fun i f hi => ?_⟩
  have h1 := hx i f hi
  have hi' : i < ys.length := by
    have := (Array.getElem?_eq_some_iff.1 hi).1
    omega
  rw [List.getElem?_eq_getElem hi'] at h1
  exact ⟨_, n, h1⟩
theorem all2_of {α β : Type} {R : α → β → Prop} : ∀ hs : List { x : α // ∃ q, R x q }, ∃ L, All2 R (hs.map (·.1)) L ∧ ∀ q ∈ L, ∃ x, R x q
  | [] => ⟨[], All2.nil, fun q hq => by simp at hq⟩
  | ⟨x, q, hx⟩ :: hs => by
    obtain ⟨L, h1, h2⟩ := all2_of hs
    exact ⟨q :: L, by simpa using All2.append (All2.nil.snoc (x := x) (y := q) hx) h1, fun p hp => by
      rcases List.mem_cons.1 hp with rfl | hp
      · exact ⟨x, hx⟩
      · exact h2 p hp⟩
theorem sle_sub {α : Type} {p : α → Prop} {f : α → List Value} {k : Nat} {w : World} {A : Option Addr} {n c : Nat} {l : List { x : α // p x }} (h : Sle (fun x : { x : α // p x } => f x.1) k w A n c l) (hf : ∀ x, (f x).length = k) : Sle f k w A n c (l.map (·.1)) := by
  obtain ⟨h1, h2, h3, h4, h5, _⟩ := h
  refine ⟨by simpa using h1, h2, h3, fun hn => ?_, h5, hf⟩
  obtain ⟨g, o, e, hc⟩ := h4 hn
  refine ⟨g, o, e, fun j v hj => hc j v ?_⟩
  rw [List.flatMap_map] at hj
  exact hj
/-- A record as it is read, its seconds a number of 32 bits. -/
def RT (w : World) (h : Rh) (r : Rn) : Prop := RR w h r ∧ 0 ≤ r.ttl ∧ r.ttl < 4294967296
theorem el_qn {H : Type} {enc : TypeId × Value → H} {W : World} {base : Nat} {held : Bool} {n : Nat} {cs : List Value} {y : DataW H × List MemPlace} (h : DataW.trod enc Try.prog W base (fun _ => true) held n 60 cs = some y) : ∃ x : { x : Qh // ∃ q, QR W x q }, cs = qE x.1 := by
  obtain ⟨hlen, hf⟩ := fld_structd Try.underlying60 h
  replace hlen : cs.length = 3 := hlen.trans (by kernel_rfl)
  obtain ⟨y0, n0, g0⟩ := hf 0 _ rfl
  replace g0 : DataW.trod enc Try.prog W base (fun _ => true) held n0 33 (List.take (Try.prog.cellsOf 33) (List.drop 0 cs)) = some y0 := g0
  rw [show Try.prog.cellsOf 33 = 1 by kernel_rfl] at g0
  obtain ⟨A0, m0, c0, l0, e0, sl0⟩ := open_strs g0
  have k0 : cs.drop 0 = [.slice A0 m0 c0] ++ cs.drop 1 := by rw [← e0]; exact cut_list cs 0 1
  obtain ⟨y1, n1, g1⟩ := hf 1 _ rfl
  replace g1 : DataW.trod enc Try.prog W base (fun _ => true) held n1 3 (List.take (Try.prog.cellsOf 3) (List.drop 1 cs)) = some y1 := g1
  rw [show Try.prog.cellsOf 3 = 1 by kernel_rfl] at g1
  obtain ⟨x1, e1, _, wf1⟩ := DataW.trod_int Try.underlying3 g1
  have k1 : cs.drop 1 = [.int .i64 x1] ++ cs.drop 2 := by rw [← e1]; exact cut_list cs 1 1
  obtain ⟨y2, n2, g2⟩ := hf 2 _ rfl
  replace g2 : DataW.trod enc Try.prog W base (fun _ => true) held n2 3 (List.take (Try.prog.cellsOf 3) (List.drop 2 cs)) = some y2 := g2
  rw [show Try.prog.cellsOf 3 = 1 by kernel_rfl] at g2
  obtain ⟨x2, e2, _, wf2⟩ := DataW.trod_int Try.underlying3 g2
  have k2 : cs.drop 2 = [.int .i64 x2] ++ cs.drop 3 := by rw [← e2]; exact cut_list cs 2 1
  have kz : cs.drop 3 = [] := List.drop_eq_nil_of_le (by omega)
  have hcs : cs = [.slice A0 m0 c0] ++ ([.int .i64 x1] ++ ([.int .i64 x2] ++ [])) := by
    have h0 : cs = cs.drop 0 := rfl
    rw [h0, k0, k1, k2, kz]
  subst hcs
  exact ⟨⟨⟨A0, m0, c0, x1, x2⟩, ⟨l0, x1, x2⟩, rfl, rfl, sl0⟩, rfl⟩
theorem el_rn {H : Type} {enc : TypeId × Value → H} {W : World} {base : Nat} {held : Bool} {n : Nat} {cs : List Value} {y : DataW H × List MemPlace} (h : DataW.trod enc Try.prog W base (fun _ => true) held n 36 cs = some y) : ∃ x : { x : Rh // ∃ r, RT W x r }, cs = rE x.1 := by
  obtain ⟨hlen, hf⟩ := fld_structd Try.underlying36 h
  replace hlen : cs.length = 5 := hlen.trans (by kernel_rfl)
  obtain ⟨y0, n0, g0⟩ := hf 0 _ rfl
  replace g0 : DataW.trod enc Try.prog W base (fun _ => true) held n0 33 (List.take (Try.prog.cellsOf 33) (List.drop 0 cs)) = some y0 := g0
  rw [show Try.prog.cellsOf 33 = 1 by kernel_rfl] at g0
  obtain ⟨A0, m0, c0, l0, e0, sl0⟩ := open_strs g0
  have k0 : cs.drop 0 = [.slice A0 m0 c0] ++ cs.drop 1 := by rw [← e0]; exact cut_list cs 0 1
  obtain ⟨y1, n1, g1⟩ := hf 1 _ rfl
  replace g1 : DataW.trod enc Try.prog W base (fun _ => true) held n1 3 (List.take (Try.prog.cellsOf 3) (List.drop 1 cs)) = some y1 := g1
  rw [show Try.prog.cellsOf 3 = 1 by kernel_rfl] at g1
  obtain ⟨x1, e1, _, wf1⟩ := DataW.trod_int Try.underlying3 g1
  have k1 : cs.drop 1 = [.int .i64 x1] ++ cs.drop 2 := by rw [← e1]; exact cut_list cs 1 1
  obtain ⟨y2, n2, g2⟩ := hf 2 _ rfl
  replace g2 : DataW.trod enc Try.prog W base (fun _ => true) held n2 3 (List.take (Try.prog.cellsOf 3) (List.drop 2 cs)) = some y2 := g2
  rw [show Try.prog.cellsOf 3 = 1 by kernel_rfl] at g2
  obtain ⟨x2, e2, _, wf2⟩ := DataW.trod_int Try.underlying3 g2
  have k2 : cs.drop 2 = [.int .i64 x2] ++ cs.drop 3 := by rw [← e2]; exact cut_list cs 2 1
  obtain ⟨y3, n3, g3⟩ := hf 3 _ rfl
  replace g3 : DataW.trod enc Try.prog W base (fun _ => true) held n3 34 (List.take (Try.prog.cellsOf 34) (List.drop 3 cs)) = some y3 := g3
  rw [show Try.prog.cellsOf 34 = 1 by kernel_rfl] at g3
  obtain ⟨x3, e3, _, wf3⟩ := DataW.trod_int Try.underlying34 g3
  have k3 : cs.drop 3 = [.int .u32 x3] ++ cs.drop 4 := by rw [← e3]; exact cut_list cs 3 1
  obtain ⟨y4, n4, g4⟩ := hf 4 _ rfl
  replace g4 : DataW.trod enc Try.prog W base (fun _ => true) held n4 30 (List.take (Try.prog.cellsOf 30) (List.drop 4 cs)) = some y4 := g4
  rw [show Try.prog.cellsOf 30 = 1 by kernel_rfl] at g4
  obtain ⟨A4, m4, c4, l4, e4, sl4⟩ := fld_slice Try.underlying30 Try.underlying5 (by kernel_rfl) g4
  have k4 : cs.drop 4 = [.slice A4 m4 c4] ++ cs.drop 5 := by rw [← e4]; exact cut_list cs 4 1
  have kz : cs.drop 5 = [] := List.drop_eq_nil_of_le (by omega)
  have hcs : cs = [.slice A0 m0 c0] ++ ([.int .i64 x1] ++ ([.int .i64 x2] ++ ([.int .u32 x3] ++ ([.slice A4 m4 c4] ++ [])))) := by
    have h0 : cs = cs.drop 0 := rfl
    rw [h0, k0, k1, k2, k3, k4, kz]
  subst hcs
  exact ⟨⟨⟨A0, m0, c0, x1, x2, x3, A4, m4, c4⟩, ⟨l0, x1, x2, x3, l4⟩, ⟨rfl, rfl, rfl, sl0, sl4⟩, by have := bounds_u32 wf3; exact ⟨this.1, by show x3 < _; omega⟩⟩, rfl⟩
theorem open_qs {H : Type} {enc : TypeId × Value → H} {W : World} {base : Nat} {held : Bool} {n : Nat} {cs : List Value} {y : DataW H × List MemPlace} (h : DataW.trod enc Try.prog W base (fun _ => true) held n 23 cs = some y) :
    ∃ (A : Option Addr) (m c : Nat) (hs : List Qh) (L : List Qn), cs = [.slice A m c] ∧ Sle qE 3 W A m c hs ∧ All2 (QR W) hs L := by
  obtain ⟨A, m, c, l, hcs, h1⟩ := fld_sle (f := fun (x : { x : Qh // ∃ q, QR W x q }) => qE x.1) (k := 3) Try.underlying23 (by kernel_rfl) (by decide) (fun x => rfl) (fun n cs' y hy => el_qn hy) h
  obtain ⟨L, hL, hq⟩ := all2_of l
  exact ⟨A, m, c, l.map (·.1), L, hcs, sle_sub h1 qE_len, hL⟩
theorem open_rs {H : Type} {enc : TypeId × Value → H} {W : World} {base : Nat} {held : Bool} {n : Nat} {cs : List Value} {y : DataW H × List MemPlace} (h : DataW.trod enc Try.prog W base (fun _ => true) held n 24 cs = some y) :
    ∃ (A : Option Addr) (m c : Nat) (hs : List Rh) (L : List Rn), cs = [.slice A m c] ∧ Sle rE 5 W A m c hs ∧ All2 (RT W) hs L ∧ ∀ r ∈ L, 0 ≤ r.ttl ∧ r.ttl < 4294967296 := by
  obtain ⟨A, m, c, l, hcs, h1⟩ := fld_sle (f := fun (x : { x : Rh // ∃ q, RT W x q }) => rE x.1) (k := 5) Try.underlying24 (by kernel_rfl) (by decide) (fun x => rfl) (fun n cs' y hy => el_rn hy) h
  obtain ⟨L, hL, hq⟩ := all2_of l
  exact ⟨A, m, c, l.map (·.1), L, hcs, sle_sub h1 rE_len, hL, fun r hr => by obtain ⟨x, _, h2⟩ := hq r hr; exact h2⟩
set_option maxRecDepth 100000 in
theorem open_msg {H : Type} {enc : TypeId × Value → H} {W : World} {r : Reach} {b0 : Nat} {v : Value} {d : DataW H} {p : List MemPlace} (hv : Value.okWide Try.prog W r b0 26 v) (h : DataW.Trod enc Try.prog W 0 (fun _ => true) true 26 v d p) :
    ∃ (id fl : Int) (Q : Option Addr) (qn qc : Nat) (A : Option Addr) (an ac : Nat) (O : Option Addr) (on oc : Nat) (M : Option Addr) (mn mc : Nat) (m : Mn), v = .agg #[.int .i64 id, .int .i64 fl, .slice Q qn qc, .slice A an ac, .slice O on oc, .slice M mn mc] ∧ Mr W Q qn qc A an ac O on oc M mn mc m ∧ m.id = id ∧ m.fl = fl ∧ ∀ r ∈ allR m, 0 ≤ r.ttl ∧ r.ttl < 4294967296 := by
  obtain ⟨cs, rfl, hlen, hf⟩ := open_struct Try.underlying26 hv h
  replace hlen : cs.length = 6 := hlen.trans (by kernel_rfl)
  obtain ⟨y0, n0, g0⟩ := hf 0 _ rfl
  replace g0 : DataW.trod enc Try.prog W 0 (fun _ => true) true n0 3 (List.take (Try.prog.cellsOf 3) (List.drop 0 cs)) = some y0 := g0
  rw [show Try.prog.cellsOf 3 = 1 by kernel_rfl] at g0
  obtain ⟨x0, e0, _, wf0⟩ := DataW.trod_int Try.underlying3 g0
  have k0 : cs.drop 0 = [.int .i64 x0] ++ cs.drop 1 := by rw [← e0]; exact cut_list cs 0 1
  obtain ⟨y1, n1, g1⟩ := hf 1 _ rfl
  replace g1 : DataW.trod enc Try.prog W 0 (fun _ => true) true n1 3 (List.take (Try.prog.cellsOf 3) (List.drop 1 cs)) = some y1 := g1
  rw [show Try.prog.cellsOf 3 = 1 by kernel_rfl] at g1
  obtain ⟨x1, e1, _, wf1⟩ := DataW.trod_int Try.underlying3 g1
  have k1 : cs.drop 1 = [.int .i64 x1] ++ cs.drop 2 := by rw [← e1]; exact cut_list cs 1 1
  obtain ⟨y2, n2, g2⟩ := hf 2 _ rfl
  replace g2 : DataW.trod enc Try.prog W 0 (fun _ => true) true n2 23 (List.take (Try.prog.cellsOf 23) (List.drop 2 cs)) = some y2 := g2
  rw [show Try.prog.cellsOf 23 = 1 by kernel_rfl] at g2
  obtain ⟨A2, m2, c2, h2, l2, e2, sl2, rl2⟩ := open_qs g2
  have k2 : cs.drop 2 = [.slice A2 m2 c2] ++ cs.drop 3 := by rw [← e2]; exact cut_list cs 2 1
  obtain ⟨y3, n3, g3⟩ := hf 3 _ rfl
  replace g3 : DataW.trod enc Try.prog W 0 (fun _ => true) true n3 24 (List.take (Try.prog.cellsOf 24) (List.drop 3 cs)) = some y3 := g3
  rw [show Try.prog.cellsOf 24 = 1 by kernel_rfl] at g3
  obtain ⟨A3, m3, c3, h3, l3, e3, sl3, rl3, tt3⟩ := open_rs g3
  have k3 : cs.drop 3 = [.slice A3 m3 c3] ++ cs.drop 4 := by rw [← e3]; exact cut_list cs 3 1
  obtain ⟨y4, n4, g4⟩ := hf 4 _ rfl
  replace g4 : DataW.trod enc Try.prog W 0 (fun _ => true) true n4 24 (List.take (Try.prog.cellsOf 24) (List.drop 4 cs)) = some y4 := g4
  rw [show Try.prog.cellsOf 24 = 1 by kernel_rfl] at g4
  obtain ⟨A4, m4, c4, h4, l4, e4, sl4, rl4, tt4⟩ := open_rs g4
  have k4 : cs.drop 4 = [.slice A4 m4 c4] ++ cs.drop 5 := by rw [← e4]; exact cut_list cs 4 1
  obtain ⟨y5, n5, g5⟩ := hf 5 _ rfl
  replace g5 : DataW.trod enc Try.prog W 0 (fun _ => true) true n5 24 (List.take (Try.prog.cellsOf 24) (List.drop 5 cs)) = some y5 := g5
  rw [show Try.prog.cellsOf 24 = 1 by kernel_rfl] at g5
  obtain ⟨A5, m5, c5, h5, l5, e5, sl5, rl5, tt5⟩ := open_rs g5
  have k5 : cs.drop 5 = [.slice A5 m5 c5] ++ cs.drop 6 := by rw [← e5]; exact cut_list cs 5 1
  have kz : cs.drop 6 = [] := List.drop_eq_nil_of_le (by omega)
  have hcs : cs = [.int .i64 x0] ++ ([.int .i64 x1] ++ ([.slice A2 m2 c2] ++ ([.slice A3 m3 c3] ++ ([.slice A4 m4 c4] ++ ([.slice A5 m5 c5] ++ []))))) := by
    have h0 : cs = cs.drop 0 := rfl
    rw [h0, k0, k1, k2, k3, k4, k5, kz]
  subst hcs
  refine ⟨x0, x1, A2, m2, c2, A3, m3, c3, A4, m4, c4, A5, m5, c5, ⟨x0, x1, l2, l3, l4, l5⟩, rfl, ⟨h2, h3, h4, h5, sl2, rl2, sl3, rl3.mono fun _ _ z => z.1, sl4, rl4.mono fun _ _ z => z.1, sl5, rl5.mono fun _ _ z => z.1⟩, rfl, rfl, fun r hr => ?_⟩
  unfold allR at hr
  rcases List.mem_append.1 hr with hr | hr
  · rcases List.mem_append.1 hr with hr | hr
    · exact tt3 r hr
    · exact tt4 r hr
  · exact tt5 r hr
end Go.Proofs.Ytjedknjlpeccbaa
