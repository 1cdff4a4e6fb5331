/- awake, and the statements' walks. -/
import Derived.Test.YtfghmckeogajnaaNr8
import Derived.Deep.Cut
import Derived.Deep.CutRange
namespace Go.Proofs.Ytfghmckeogajnaa
open Go.RowKit

theorem Tb.lo_mono {lo lo' gt : Nat} {w : World} {age now : Int} {l : List En} (h : Tb lo gt w age now l) (hl : lo' ≤ lo) : Tb lo' gt w age now l := by
  obtain ⟨A, n, c, h1, h2, h3, h4⟩ := h
  exact ⟨A, n, c, h1, Nat.le_trans hl h2, owk_lo h3 hl, h4⟩
theorem tb_drew {lo gt : Nat} {w : World} {age now : Int} {l : List En} (h : Tb lo gt w age now l) : Tb lo gt w.drew age now l := h
theorem lit_below {w w1 w2 : World} {q : Nat} (b : Below w.heap.size w w1) (ge : w.heap.size ≤ q) (g : w1.grownBy w2 (some q)) : Below w.heap.size w w2 := b.trans ((Below.refl _ _).grown g b.size (fun k e => by cases e; exact ge))
theorem adv_00 : adv 0 0 = 0 := rfl
theorem addE_nil (e : En) : addE [] e = ([e], true) := rfl
theorem Pk.get {lo n c i : Nat} {w : World} {A : Option Addr} {ps : List (List UInt8)} {p : List UInt8} (h : Pk lo w A n c ps) (hp : ps[i]? = some p) : ∃ (g : Nat) (B : Option Addr) (m k : Nat), A = some ⟨g, 0, none⟩ ∧ w.cell? ⟨g, i, none⟩ = some (.slice B m k) ∧ Sl w B m k p := by
  have hl := h.len
  obtain ⟨hs, h1, h2, h3⟩ := h
  have hi := (List.getElem?_eq_some_iff.1 hp).1
  obtain ⟨g, rfl, _⟩ := row_at h2 (by omega)
  obtain ⟨x, hx⟩ : ∃ x, hs[i]? = some x := ⟨_, List.getElem?_eq_getElem (by omega)⟩
  refine ⟨g, x.1, x.2.1, x.2.2, rfl, ?_, (own_sl (h3 i x p hx hp)).1⟩
  have := el_cell0 (by decide) hdf_len h2 hx (.slice x.1 x.2.1 x.2.2) rfl
  rwa [Nat.mul_one] at this
set_option linter.unusedVariables false in
set_option linter.unusedSimpArgs false in
set_option maxRecDepth 100000 in
set_option maxHeartbeats 16000000 in
theorem awake_any (w : World) : Calls Try.prog 8 #[] w fun e w' => e = .returned (.bool true) ∧ Below w.heap.size w w' := by
  have bel := Below.refl w.heap.size w
  go_enter Try.func8, Try.ntmps8
  go_wp2_with fail
  have HLO_ := bel.size
  with_reducible refine (tnew 600 (by decide) (by decide) _).mono ?_
  rintro e w1 ⟨gt, rfl, hT, b1⟩
  replace bel := bel.trans (b1.mono bel.size)
  clear b1
  replace hT := hT.lo_mono HLO_
  clear HLO_
  go_wp2_with (first | ((with_reducible show wpList _ _ _ (⟨some 3, _, _, _, _, _⟩ :: _) _ _); refine wpList_new_a rfl 30 rfl #[.int .u8 0, .int .u8 0, .int .u8 0, .int .u8 0] (by kernel_rfl) ?_; intro g3 w2 ge hh bb; have oab := Nat.le_trans bel.size ge; replace hT := hT.below bb; replace bel := bel.trans (bb.mono bel.size); have hab := hh; clear hh ge bb) | ((with_reducible show wpList _ _ _ (⟨none, Op.store _ (.tmp 3) _, _, _, _, _⟩ :: _) _ _); refine wpList_store_blk rfl 30 (.tmp 3) (.tmp 19) rfl g3 rfl _ rfl _ 30 hab (by rfl) (by kernel_rfl) (by kernel_rfl) ?_; intro w3 hq gr; replace hT := hT.kt (kt_grown gr hab (by simp) : Kt [30] _ _) (by decide) (by decide); replace bel := below_grown bel gr oab bel.size; clear hab; have hab := hq; clear hq gr; have R21 := Lib.hid (range_lit hab 0 4 [.int .u8 10, .int .u8 0, .int .u8 0, .int .u8 1] rfl)) | ((with_reducible show wpList _ _ _ (⟨some 21, _, _, _, _, _⟩ :: _) _ _); refine wpList_load_rng 30 (.tmp 3) rfl (by kernel_rfl) _ _ rfl _ R21.out _ Try.underlying30 rfl (by kernel_rfl) ?_) | ((with_reducible show wpList _ _ _ (⟨some 22, _, _, _, _, _⟩ :: _) _ _); refine wpList_lit_n rfl 42 5 1 _ rfl #[.int .u8 112] (.int .u8 0) Try.underlying42 (by kernel_rfl) 1 (by kernel_rfl) (by decide) (by kernel_rfl) ?_; intro g22 w4 ge lt hh bb; have hl : w4.heap[g22]? = some (.cells (([112] : List UInt8).map u8v).toArray 5 (0, 0)) := (by simpa [u8v, byteOf_val] using hh); have s22w := own_lit (B := w3.heap.size) ([112]) hl ge 1 rfl (by simp [maxLen]); have s22 := (own_sl s22w).1; have s22lo := bel.size; clear hl; have s22ge := ge; have lz_s22 := bb.size; have y_s22_ab := Lib.hid (hlt hab); have d_ab_b22 := ne_new (hlt hab) ge; have ob22 := Nat.le_trans bel.size ge; replace hab := blk_u hab bb; replace hT := hT.below bb; replace bel := bel.trans (bb.mono bel.size); have hb22 := hh; clear hh lt ge bb; have av_s22_ab := (own_sl s22w).2.av y_s22_ab.out) | ((with_reducible show wpList _ _ _ (⟨some 23, _, _, _, _, _⟩ :: _) _ _); refine wpList_mark_n rfl 42 5 (.tmp 22) rfl Try.underlying42 Try.underlying5 g22 #[.int .u8 112] _ _ rfl hb22 ?_; intro w5 hq gr; replace lz_s22 := Nat.le_trans lz_s22 gr.size; replace hab := blk_a hab gr d_ab_b22; replace hT := hT.kt (kt_grown gr hb22 (by simp) : Kt [5] _ _) (by decide) (by decide); replace bel := below_grown bel gr ob22 bel.size; clear hb22; have hb22 := hq; clear hq gr; replace s22 : Sl w5 (some ⟨g22, 0, none⟩) 1 1 ([112]) := sl_lit ([112]) hb22 rfl (by simp [maxLen]); clear s22w lz_s22; have sb23 : Sb w5 (some ⟨g22, 0, none⟩) 1 1 ([112]) := Sb.lit hb22 rfl (by simp [maxLen]); clear hb22))
  try clear R21
  have cc : Calls Try.prog 11 #[.pointer (some ⟨gt, 0, none⟩), .agg #[.int .u8 10, .int .u8 0, .int .u8 0, .int .u8 1], .slice (some ⟨g22, 0, none⟩) 1 1, .int .i64 0] w5 (fun e w' => ∃ A1 c1, e = .returned (.agg #[.int .u8 0, .int .u8 0, .int .u8 0, .int .u8 0, .int .u8 0, .int .u8 0, .bool false, .bool true]) ∧ Tb w.heap.size gt w' 600 0 [⟨⟨10, 0, 0, 1⟩, 0, false, Mc6.zero, 1, A1, 1, c1⟩] ∧ Pk w.heap.size w' A1 1 c1 [[112]] ∧ Kt [49, 52] w5 w' ∧ Below w.heap.size w5 w') := want_new (y := ⟨10, 0, 0, 1⟩) (t := 0) (lb := [112]) _ hT sb23 (by decide) rfl
  with_reducible refine (cc).mono ?_
  rintro e w6 ⟨A1, c1, rfl, hT_, pk, k_, bb⟩
  clear cc
  replace hab := Kt.blk k_ hab (by decide)
  clear s22
  clear hT
  have hT := hT_
  replace bel := bel.trans bb
  clear bb k_ hT_
  go_wp2_with (first | ((with_reducible show wpList _ _ _ (⟨some 4, _, _, _, _, _⟩ :: _) _ _); refine wpList_new_a rfl 34 rfl #[.int .u8 0, .int .u8 0, .int .u8 0, .int .u8 0, .int .u8 0, .int .u8 0, .bool false, .bool false] (by kernel_rfl) ?_; intro g4 w7 ge hh bb; have d_ab_xb := ne_new (hlt hab) ge; have oxb := Nat.le_trans bel.size ge; replace hab := blk_u hab bb; replace hT := hT.below bb; replace pk := pk.kt (S := []) (kt_below bb) (by decide) (by decide); replace bel := bel.trans (bb.mono bel.size); have hxb := hh; clear hh ge bb) | ((with_reducible show wpList _ _ _ (⟨none, Op.store _ (.tmp 4) _, _, _, _, _⟩ :: _) _ _); refine wpList_store_blk rfl 34 (.tmp 4) (.tmp 24) rfl g4 rfl _ rfl _ 34 hxb (by rfl) (by kernel_rfl) (by kernel_rfl) ?_; intro w8 hq gr; replace hab := blk_a hab gr d_ab_xb; replace hT := hT.kt (kt_grown gr hxb (by simp) : Kt [34] _ _) (by decide) (by decide); replace pk := pk.kt (kt_grown gr hxb (by simp) : Kt [34] _ _) (by decide) (by decide); replace bel := below_grown bel gr oxb bel.size; clear hxb; have hxb := hq; clear hq gr; have R26 := Lib.hid (range_lit hab 0 4 [.int .u8 10, .int .u8 0, .int .u8 0, .int .u8 1] rfl)) | ((with_reducible show wpList _ _ _ (⟨some 26, _, _, _, _, _⟩ :: _) _ _); refine wpList_load_rng 30 (.tmp 3) rfl (by kernel_rfl) _ _ rfl _ R26.out _ Try.underlying30 rfl (by kernel_rfl) ?_))
  try clear R26
  have cc : Calls Try.prog 10 #[.pointer (some ⟨gt, 0, none⟩), .agg #[.int .u8 10, .int .u8 0, .int .u8 0, .int .u8 1], .agg #[.int .u8 2, .int .u8 0, .int .u8 0, .int .u8 0, .int .u8 0, .int .u8 0], .int .i64 0, .bool false] w8 (fun e w' => e = .returned (.slice A1 1 c1) ∧ Tb w.heap.size gt w' 600 0 [⟨⟨10, 0, 0, 1⟩, 0, true, ⟨2, 0, 0, 0, 0, 0⟩, 0, none, 0, 0⟩] ∧ Kt [49, 52] w8 w' ∧ Below w.heap.size w8 w') := learn_at (kn := false) (y := ⟨10, 0, 0, 1⟩) (m := ⟨2, 0, 0, 0, 0, 0⟩) (t := 0) (i := 0) (x := ⟨⟨10, 0, 0, 1⟩, 0, false, Mc6.zero, 1, A1, 1, c1⟩) _ hT rfl rfl
  with_reducible refine (cc).mono ?_
  rintro e w9 ⟨rfl, hT_, k_, bb⟩
  clear cc
  replace hab := Kt.blk k_ hab (by decide)
  replace hxb := Kt.blk k_ hxb (by decide)
  replace pk := pk.kt k_ (by decide) (by decide)
  clear hT
  have hT := hT_
  replace bel := bel.trans bb
  clear bb k_ hT_
  have R30 := Lib.hid (range_lit hab 0 4 [.int .u8 10, .int .u8 0, .int .u8 0, .int .u8 1] rfl)
  go_wp2_with (first | ((with_reducible show wpList _ _ _ (⟨some 30, _, _, _, _, _⟩ :: _) _ _); refine wpList_load_rng 30 (.tmp 3) rfl (by kernel_rfl) _ _ rfl _ R30.out _ Try.underlying30 rfl (by kernel_rfl) ?_) | ((with_reducible show wpList _ _ _ (⟨some 31, _, _, _, _, _⟩ :: _) _ _); refine wpList_lit_n rfl 42 5 1 _ rfl #[.int .u8 113] (.int .u8 0) Try.underlying42 (by kernel_rfl) 1 (by kernel_rfl) (by decide) (by kernel_rfl) ?_; intro g31 w10 ge lt hh bb; have lb_ := bb; have lge_ := ge; have hl : w10.heap[g31]? = some (.cells (([113] : List UInt8).map u8v).toArray 5 (0, 0)) := (by simpa [u8v, byteOf_val] using hh); have s31w := own_lit (B := w9.heap.size) ([113]) hl ge 1 rfl (by simp [maxLen]); have s31 := (own_sl s31w).1; have s31lo := bel.size; clear hl; have s31ge := ge; have lz_s31 := bb.size; have y_s31_ab := Lib.hid (hlt hab); have y_s31_xb := Lib.hid (hlt hxb); have d_ab_b31 := ne_new (hlt hab) ge; have d_xb_b31 := ne_new (hlt hxb) ge; have ob31 := Nat.le_trans bel.size ge; replace hab := blk_u hab bb; replace hxb := blk_u hxb bb; replace hT := hT.below bb; replace bel := bel.trans (bb.mono bel.size); have hb31 := hh; clear hh lt ge bb; have av_s31_ab := (own_sl s31w).2.av y_s31_ab.out; have av_s31_xb := (own_sl s31w).2.av y_s31_xb.out) | ((with_reducible show wpList _ _ _ (⟨some 32, _, _, _, _, _⟩ :: _) _ _); refine wpList_mark_n rfl 42 5 (.tmp 31) rfl Try.underlying42 Try.underlying5 g31 #[.int .u8 113] _ _ rfl hb31 ?_; intro w11 hq gr; have lg_ := gr; replace lz_s31 := Nat.le_trans lz_s31 gr.size; replace hab := blk_a hab gr d_ab_b31; replace hxb := blk_a hxb gr d_xb_b31; replace hT := hT.kt (kt_grown gr hb31 (by simp) : Kt [5] _ _) (by decide) (by decide); replace bel := below_grown bel gr ob31 bel.size; clear hb31; have hb31 := hq; clear hq gr; replace s31 : Sl w11 (some ⟨g31, 0, none⟩) 1 1 ([113]) := sl_lit ([113]) hb31 rfl (by simp [maxLen]); clear s31w lz_s31; have sb32 : Sb w11 (some ⟨g31, 0, none⟩) 1 1 ([113]) := Sb.lit hb31 rfl (by simp [maxLen]); clear hb31; replace pk := pk.kt (S := []) (kt_below (lit_below lb_ lge_ lg_)) (by decide) (by decide); clear lb_ lge_ lg_))
  try clear R30
  have cc : Calls Try.prog 11 #[.pointer (some ⟨gt, 0, none⟩), .agg #[.int .u8 10, .int .u8 0, .int .u8 0, .int .u8 1], .slice (some ⟨g31, 0, none⟩) 1 1, .int .i64 0] w11 (fun e w' => e = .returned (.agg #[.int .u8 2, .int .u8 0, .int .u8 0, .int .u8 0, .int .u8 0, .int .u8 0, .bool true, .bool false]) ∧ Tb w.heap.size gt w' 600 0 [⟨⟨10, 0, 0, 1⟩, 0, true, ⟨2, 0, 0, 0, 0, 0⟩, 0, none, 0, 0⟩] ∧ Kt [49, 52] w11 w' ∧ Below w.heap.size w11 w') := want_known (y := ⟨10, 0, 0, 1⟩) (t := 0) (lb := [113]) (i := 0) (x := ⟨⟨10, 0, 0, 1⟩, 0, true, ⟨2, 0, 0, 0, 0, 0⟩, 0, none, 0, 0⟩) _ hT sb32 (by decide) rfl rfl rfl rfl
  with_reducible refine (cc).mono ?_
  rintro e w12 ⟨rfl, hT_, k_, bb⟩
  clear cc
  replace hab := Kt.blk k_ hab (by decide)
  replace hxb := Kt.blk k_ hxb (by decide)
  clear s31
  replace pk := pk.kt k_ (by decide) (by decide)
  clear hT
  have hT := hT_
  replace bel := bel.trans bb
  clear bb k_ hT_
  go_wp2_with (first | ((with_reducible show wpList _ _ _ (⟨some 6, _, _, _, _, _⟩ :: _) _ _); refine wpList_new_a rfl 34 rfl #[.int .u8 0, .int .u8 0, .int .u8 0, .int .u8 0, .int .u8 0, .int .u8 0, .bool false, .bool false] (by kernel_rfl) ?_; intro g6 w13 ge hh bb; have d_ab_yb := ne_new (hlt hab) ge; have d_xb_yb := ne_new (hlt hxb) ge; have oyb := Nat.le_trans bel.size ge; replace hab := blk_u hab bb; replace hxb := blk_u hxb bb; replace hT := hT.below bb; replace pk := pk.kt (S := []) (kt_below bb) (by decide) (by decide); replace bel := bel.trans (bb.mono bel.size); have hyb := hh; clear hh ge bb) | ((with_reducible show wpList _ _ _ (⟨none, Op.store _ (.tmp 6) _, _, _, _, _⟩ :: _) _ _); refine wpList_store_blk rfl 34 (.tmp 6) (.tmp 33) rfl g6 rfl _ rfl _ 34 hyb (by rfl) (by kernel_rfl) (by kernel_rfl) ?_; intro w14 hq gr; replace hab := blk_a hab gr d_ab_yb; replace hxb := blk_a hxb gr d_xb_yb; replace hT := hT.kt (kt_grown gr hyb (by simp) : Kt [34] _ _) (by decide) (by decide); replace pk := pk.kt (kt_grown gr hyb (by simp) : Kt [34] _ _) (by decide) (by decide); replace bel := below_grown bel gr oyb bel.size; clear hyb; have hyb := hq; clear hq gr; have R36 := Lib.hid (range_lit hab 0 4 [.int .u8 10, .int .u8 0, .int .u8 0, .int .u8 1] rfl)) | ((with_reducible show wpList _ _ _ (⟨some 36, _, _, _, _, _⟩ :: _) _ _); refine wpList_load_rng 30 (.tmp 3) rfl (by kernel_rfl) _ _ rfl _ R36.out _ Try.underlying30 rfl (by kernel_rfl) ?_))
  try clear R36
  have cc : Calls Try.prog 13 #[.pointer (some ⟨gt, 0, none⟩), .agg #[.int .u8 10, .int .u8 0, .int .u8 0, .int .u8 1], .int .i64 5] w14 (fun e w' => e = .returned (.tuple #[.agg #[.int .u8 2, .int .u8 0, .int .u8 0, .int .u8 0, .int .u8 0, .int .u8 0], .bool true]) ∧ Tb w.heap.size gt w' 600 5 [⟨⟨10, 0, 0, 1⟩, 0, true, ⟨2, 0, 0, 0, 0, 0⟩, 0, none, 0, 0⟩] ∧ Kt [49, 52] w14 w' ∧ Below w.heap.size w14 w') := mac_at (y := ⟨10, 0, 0, 1⟩) (t := 5) (i := 0) (x := ⟨⟨10, 0, 0, 1⟩, 0, true, ⟨2, 0, 0, 0, 0, 0⟩, 0, none, 0, 0⟩) _ hT rfl rfl rfl rfl
  with_reducible refine (cc).mono ?_
  rintro e w15 ⟨rfl, hT_, k_, bb⟩
  clear cc
  replace hab := Kt.blk k_ hab (by decide)
  replace hxb := Kt.blk k_ hxb (by decide)
  replace hyb := Kt.blk k_ hyb (by decide)
  replace pk := pk.kt k_ (by decide) (by decide)
  clear hT
  have hT := hT_
  replace bel := bel.trans bb
  clear bb k_ hT_
  go_upto_region 9 with (first | ((with_reducible show wpList _ _ _ (⟨some 7, _, _, _, _, _⟩ :: _) _ _); refine wpList_new_a rfl 32 rfl #[.int .u8 0, .int .u8 0, .int .u8 0, .int .u8 0, .int .u8 0, .int .u8 0] (by kernel_rfl) ?_; intro g7 w16 ge hh bb; have d_ab_mb := ne_new (hlt hab) ge; have d_xb_mb := ne_new (hlt hxb) ge; have d_yb_mb := ne_new (hlt hyb) ge; have omb := Nat.le_trans bel.size ge; replace hab := blk_u hab bb; replace hxb := blk_u hxb bb; replace hyb := blk_u hyb bb; replace hT := hT.below bb; replace pk := pk.kt (S := []) (kt_below bb) (by decide) (by decide); replace bel := bel.trans (bb.mono bel.size); have hmb := hh; clear hh ge bb) | ((with_reducible show wpList _ _ _ (⟨none, Op.store _ (.tmp 7) _, _, _, _, _⟩ :: _) _ _); refine wpList_store_blk rfl 32 (.tmp 7) (.tmp 38) rfl g7 rfl _ rfl _ 32 hmb (by rfl) (by kernel_rfl) (by kernel_rfl) ?_; intro w17 hq gr; replace hab := blk_a hab gr d_ab_mb; replace hxb := blk_a hxb gr d_xb_mb; replace hyb := blk_a hyb gr d_yb_mb; replace hT := hT.kt (kt_grown gr hmb (by simp) : Kt [32] _ _) (by decide) (by decide); replace pk := pk.kt (kt_grown gr hmb (by simp) : Kt [32] _ _) (by decide) (by decide); replace bel := below_grown bel gr omb bel.size; clear hmb; have hmb := hq; clear hq gr))
  obtain ⟨gw, Bw, mw, kw, rfl, hcw, hsw⟩ := pk.get (i := 0) rfl
  have hst := hsw.str (P := Try.prog) 42 5 9 Try.underlying42 Try.underlying5 Try.underlying9
  have r67 : ∀ W, (binOp .eql 32 (.agg #[.int .u8 2, .int .u8 0, .int .u8 0, .int .u8 0, .int .u8 0, .int .u8 0]) (.agg #[.int .u8 2, .int .u8 0, .int .u8 0, .int .u8 0, .int .u8 0, .int .u8 0])).run Try.prog W = .ok (.bool true) W := fun W => by kernel_rfl
  have R41 := cell_lit hxb 7 _ rfl
  have R44 := cell_lit hxb 6 _ rfl
  have R61 := cell_lit hyb 6 _ rfl
  have R65 := Lib.hid (range_lit hyb 0 6 [.int .u8 2, .int .u8 0, .int .u8 0, .int .u8 0, .int .u8 0, .int .u8 0] rfl)
  go_wp2_with (first | ((with_reducible show wpList _ _ _ (⟨some 65, _, _, _, _, _⟩ :: _) _ _); refine wpList_load_rng 32 (.tmp 64) rfl (by kernel_rfl) _ _ rfl _ R65.out _ Try.underlying32 rfl (by kernel_rfl) ?_; have R71 := cell_lit hyb 7 _ rfl; have R78 := Lib.hid (range_lit hmb 0 6 [.int .u8 2, .int .u8 0, .int .u8 0, .int .u8 0, .int .u8 0, .int .u8 0] rfl)) | ((with_reducible show wpList _ _ _ (⟨some 78, _, _, _, _, _⟩ :: _) _ _); refine wpList_load_rng 32 (.tmp 7) rfl (by kernel_rfl) _ _ rfl _ R78.out _ Try.underlying32 rfl (by kernel_rfl) ?_))
  try clear R41
  try clear R44
  try clear R61
  try clear R65
  try clear R71
  try clear R78
  with_reducible refine (tlen _ hT).mono ?_
  rintro e _ ⟨rfl, rfl⟩
  go_wp2_with fail
  go_ret
  exact ⟨rfl, bel⟩
set_option linter.unusedVariables false in
set_option linter.unusedSimpArgs false in
set_option maxRecDepth 100000 in
set_option maxHeartbeats 16000000 in
theorem addr_k (k : Int) (w : World) : Calls Try.prog 15 #[.int .i64 k] w fun e w' => e = .returned (.agg #[.int .u8 10, .int .u8 0, .int .u8 0, .int .u8 ((byteOf k).toNat : Int)]) ∧ Below w.heap.size w w' := by
  have bel := Below.refl w.heap.size w
  go_enter Try.func15, Try.ntmps15
  go_wp2_with (first | ((with_reducible show wpList _ _ _ (⟨some 2, _, _, _, _, _⟩ :: _) _ _); refine wpList_new_a rfl 30 rfl #[.int .u8 0, .int .u8 0, .int .u8 0, .int .u8 0] (by kernel_rfl) ?_; intro g2 w1 ge hh bb; have orb := Nat.le_trans bel.size ge; replace bel := bel.trans (bb.mono bel.size); have hrb := hh; clear hh ge bb) | ((with_reducible show wpList _ _ _ (⟨none, Op.store _ (.tmp 2) _, _, _, _, _⟩ :: _) _ _); refine wpList_store_blk rfl 30 (.tmp 2) (.tmp 5) rfl g2 rfl _ rfl _ 30 hrb (by rfl) (by kernel_rfl) (by kernel_rfl) ?_; intro w2 hq gr; replace bel := below_grown bel gr orb bel.size; clear hrb; have hrb := hq; clear hq gr))
  exact bodyPost_ret (results_cell_row' rfl _ _ _ _ _ _ _ rfl hrb Try.underlying30 rfl (by kernel_rfl)) rfl ⟨by rw [byteOf_val], bel⟩
theorem adv_to {now t : Int} (h : now ≤ t) (h2 : t ≤ 1099511627776) : adv now t = t := by
  unfold adv
  by_cases h3 : now < t
  · rw [if_pos ⟨h3, h2⟩]
  · rw [if_neg (fun hh => h3 hh.1)]; omega
set_option linter.unusedVariables false in
set_option linter.unusedSimpArgs false in
set_option maxRecDepth 100000 in
set_option maxHeartbeats 16000000 in
theorem nearAges_walk (age at0 again now : Int) (w : World) : Calls Try.prog 6 #[.int .i64 age, .int .i64 at0, .int .i64 again, .int .i64 now] w fun e w' => e = .returned (.bool true) ∧ Below w.heap.size w w' := by
  have bel := Below.refl w.heap.size w
  go_enter Try.func6, Try.ntmps6
  go_wp2_with fail
  with_reducible refine (awake_any _).mono ?_
  rintro e w1 ⟨rfl, b1⟩
  replace bel := bel.trans (b1.mono bel.size)
  clear b1
  by_cases c1 : age < 1
  · go_wp2_with fail
    go_ret
    exact ⟨rfl, bel⟩
  have Hc1 : Hid (1 ≤ age) := Lib.hid (by omega)
  replace c1 : decide (age < 1) = false := decide_eq_false c1
  by_cases c2 : 1000 < age
  · go_wp2_with fail
    go_ret
    exact ⟨rfl, bel⟩
  have Hc2 : Hid (age ≤ 1000) := Lib.hid (by omega)
  replace c2 : decide (1000 < age) = false := decide_eq_false c2
  by_cases c3 : at0 < 0
  · go_wp2_with fail
    go_ret
    exact ⟨rfl, bel⟩
  have Hc3 : Hid (0 ≤ at0) := Lib.hid (by omega)
  replace c3 : decide (at0 < 0) = false := decide_eq_false c3
  by_cases c4 : 1073741824 < at0
  · go_wp2_with fail
    go_ret
    exact ⟨rfl, bel⟩
  have Hc4 : Hid (at0 ≤ 1073741824) := Lib.hid (by omega)
  replace c4 : decide (1073741824 < at0) = false := decide_eq_false c4
  by_cases c5 : again < 0
  · go_wp2_with fail
    go_ret
    exact ⟨rfl, bel⟩
  have Hc5 : Hid (0 ≤ again) := Lib.hid (by omega)
  replace c5 : decide (again < 0) = false := decide_eq_false c5
  by_cases c6 : 5000 < again
  · go_wp2_with fail
    go_ret
    exact ⟨rfl, bel⟩
  have Hc6 : Hid (again ≤ 5000) := Lib.hid (by omega)
  replace c6 : decide (5000 < again) = false := decide_eq_false c6
  by_cases c7 : now < again
  · go_wp2_with fail
    go_ret
    exact ⟨rfl, bel⟩
  have Hc7 : Hid (again ≤ now) := Lib.hid (by omega)
  replace c7 : decide (now < again) = false := decide_eq_false c7
  by_cases c8 : 20000 < now
  · go_wp2_with fail
    go_ret
    exact ⟨rfl, bel⟩
  have Hc8 : Hid (now ≤ 20000) := Lib.hid (by omega)
  replace c8 : decide (20000 < now) = false := decide_eq_false c8
  have b1 := Hc1.out
  have b2 := Hc2.out
  have b3 := Hc3.out
  have b4 := Hc4.out
  have b5 := Hc5.out
  have b6 := Hc6.out
  have b7 := Hc7.out
  have b8 := Hc8.out
  have HA0 : Hid (adv 0 at0 = at0) := Lib.hid (adv_to (by omega) (by omega))
  have HA1 : Hid (adv at0 (at0 + again) = at0 + again) := Lib.hid (adv_to (by omega) (by omega))
  have HA2 : Hid (adv (at0 + again) (at0 + now) = at0 + now) := Lib.hid (adv_to (by omega) (by omega))
  have HG1 : Hid (1 ≤ age) := Lib.hid b1
  have HG2 : Hid (age ≤ 86400) := Lib.hid (by omega)
  have hw1 : IntKind.i64.wrap (at0 + again) = at0 + again := IntWalk.i64_in _ (by omega)
  have rq : ∀ W, (binOp .eql 32 (.agg #[.int .u8 2, .int .u8 9, .int .u8 0, .int .u8 0, .int .u8 0, .int .u8 0]) (.agg #[.int .u8 2, .int .u8 9, .int .u8 0, .int .u8 0, .int .u8 0, .int .u8 0])).run Try.prog W = .ok (.bool true) W := fun W => by kernel_rfl
  go_wp2_with fail
  have HLO_ := bel.size
  with_reducible refine (tnew age HG1.out HG2.out _).mono ?_
  rintro e w2 ⟨gt, rfl, hT, b2⟩
  replace bel := bel.trans (b2.mono bel.size)
  clear b2
  replace hT := hT.lo_mono HLO_
  clear HLO_
  go_wp2_with (first | ((with_reducible show wpList _ _ _ (⟨some 11, _, _, _, _, _⟩ :: _) _ _); refine wpList_new_a rfl 31 rfl #[.int .u8 0, .int .u8 0, .int .u8 0, .int .u8 0, .int .u8 0, .int .u8 0] (by kernel_rfl) ?_; intro g11 w3 ge hh bb; have omb := Nat.le_trans bel.size ge; replace hT := hT.below bb; replace bel := bel.trans (bb.mono bel.size); have hmb := hh; clear hh ge bb) | ((with_reducible show wpList _ _ _ (⟨none, Op.store _ (.tmp 11) _, _, _, _, _⟩ :: _) _ _); refine wpList_store_blk rfl 31 (.tmp 11) (.tmp 54) rfl g11 rfl _ rfl _ 31 hmb (by rfl) (by kernel_rfl) (by kernel_rfl) ?_; intro w4 hq gr; replace hT := hT.kt (kt_grown gr hmb (by simp) : Kt [31] _ _) (by decide) (by decide); replace bel := below_grown bel gr omb bel.size; clear hmb; have hmb := hq; clear hq gr))
  replace bel := bel.drew
  replace hmb : w4.drew.heap[g11]? = _ := hmb
  replace hT := tb_drew hT
  refine wp_region_held_drew (S := fun W => W.heap[g11]? = some (.cells #[.int .u8 2, .int .u8 9, .int .u8 0, .int .u8 0, .int .u8 0, .int .u8 0] 31 (0, 0))) (by kernel_rfl) hmb (fun hH => ?_)
  generalize w4.drew = w5 at bel hmb hT hH ⊢
  refine wpAnyH_take (i := 0) (v := ?_) rfl (by kernel_rfl) (by kernel_rfl) (by kernel_rfl) (fun _ _ _ h => h) (Or.inl ⟨by rfl, ?_⟩) hH ?_
  rotate_left
  · ((intro W hW; clear hW; go_simp) <;> with_reducible rfl)
  simp only [Act.put, List.getElem_toArray, List.getElem_cons_zero, List.setIfInBounds_toArray, List.set_cons_zero, List.set_cons_succ]
  refine wpAnyH_take (i := 2) (v := .agg #[.int .u8 2, .int .u8 9, .int .u8 0, .int .u8 0, .int .u8 0, .int .u8 0]) rfl (by kernel_rfl) (by kernel_rfl) (by kernel_rfl) (fun _ _ _ h => h) (yieldsIf_load_part (by kernel_rfl) 31 _ rfl g11 0 6 rfl _ 31 (0, 0) (fun W hW => hW) _ rfl _ Try.underlying31 rfl (by kernel_rfl)) hH ?_
  simp only [Act.put, List.getElem_toArray, List.getElem_cons_zero, List.getElem_cons_succ, List.setIfInBounds_toArray, List.set_cons_zero, List.set_cons_succ]
  refine wpAnyH_take (i := 3) (v := ?_) rfl (by kernel_rfl) (by kernel_rfl) (by kernel_rfl) (fun _ _ _ h => h) (Or.inl ⟨by rfl, ?_⟩) hH ?_
  rotate_left
  · ((intro W hW; clear hW; go_simp) <;> with_reducible rfl)
  simp only [Act.put, List.getElem_toArray, List.getElem_cons_zero, List.getElem_cons_succ, List.setIfInBounds_toArray, List.set_cons_zero, List.set_cons_succ]
  refine wpAnyH_ready (rs := [1]) (by kernel_rfl) (by simp) ?_
  refine AllReadyH.cons (o := _) rfl (fun K hK => ?_) AllReadyH.nil
  simp only [List.getElem_toArray, List.getElem_cons_zero, List.getElem_cons_succ]
  go_simp
  with_reducible refine (addr_k 1 _).mono ?_
  rintro e w6 ⟨rfl, b6⟩
  dsimp only
  replace hmb := blk_u hmb b6
  replace hT := hT.below b6
  replace bel := bel.trans (b6.mono bel.size)
  clear b6
  refine hK.out _ _ hmb (fun hH7 => ?_)
  clear hK K
  refine wpAnyH_ready (rs := [4]) (by kernel_rfl) (by simp) ?_
  refine AllReadyH.cons (o := _) rfl (fun K hK => ?_) AllReadyH.nil
  simp only [List.getElem_toArray, List.getElem_cons_zero, List.getElem_cons_succ]
  go_simp
  have cc : Calls Try.prog 10 #[.pointer (some ⟨gt, 0, none⟩), .agg #[.int .u8 10, .int .u8 0, .int .u8 0, .int .u8 ((byteOf 1).toNat : Int)], .agg #[.int .u8 2, .int .u8 9, .int .u8 0, .int .u8 0, .int .u8 0, .int .u8 0], .int .i64 at0, .bool true] w6 (fun e w' => e = .returned (.slice none 0 0) ∧ Tb w.heap.size gt w' age (adv 0 at0) [⟨⟨10, 0, 0, byteOf 1⟩, adv 0 at0, true, ⟨2, 9, 0, 0, 0, 0⟩, 0, none, 0, 0⟩] ∧ Kt [49, 52] w6 w' ∧ Below w.heap.size w6 w') := learn_new (y := ⟨10, 0, 0, byteOf 1⟩) (m := ⟨2, 9, 0, 0, 0, 0⟩) (t := at0) _ hT rfl
  with_reducible refine (cc).mono ?_
  rintro e w8 ⟨rfl, hT_, k_, bb⟩
  clear cc
  dsimp only
  replace hmb := Kt.blk k_ hmb (by decide)
  clear hT
  have hT := hT_
  replace bel := bel.trans bb
  clear bb k_ hT_
  rw [HA0.out] at hT
  refine hK.out _ _ hmb (fun hH9 => ?_)
  clear hK K
  refine wpAnyH_done (by kernel_rfl) ?_ _
  go_wp2_with fail
  replace bel := bel.drew
  replace hmb : w8.drew.heap[g11]? = _ := hmb
  replace hT := tb_drew hT
  refine wp_region_held_drew (S := fun W => W.heap[g11]? = some (.cells #[.int .u8 2, .int .u8 9, .int .u8 0, .int .u8 0, .int .u8 0, .int .u8 0] 31 (0, 0))) (by kernel_rfl) hmb (fun hH => ?_)
  generalize w8.drew = w10 at bel hmb hT hH ⊢
  refine wpAnyH_take (i := 0) (v := ?_) rfl (by kernel_rfl) (by kernel_rfl) (by kernel_rfl) (fun _ _ _ h => h) (Or.inl ⟨by rfl, ?_⟩) hH ?_
  rotate_left
  · ((intro W hW; clear hW; go_simp) <;> with_reducible rfl)
  simp only [Act.put, List.getElem_toArray, List.getElem_cons_zero, List.setIfInBounds_toArray, List.set_cons_zero, List.set_cons_succ]
  refine wpAnyH_take (i := 2) (v := .agg #[.int .u8 2, .int .u8 9, .int .u8 0, .int .u8 0, .int .u8 0, .int .u8 0]) rfl (by kernel_rfl) (by kernel_rfl) (by kernel_rfl) (fun _ _ _ h => h) (yieldsIf_load_part (by kernel_rfl) 31 _ rfl g11 0 6 rfl _ 31 (0, 0) (fun W hW => hW) _ rfl _ Try.underlying31 rfl (by kernel_rfl)) hH ?_
  simp only [Act.put, List.getElem_toArray, List.getElem_cons_zero, List.getElem_cons_succ, List.setIfInBounds_toArray, List.set_cons_zero, List.set_cons_succ]
  refine wpAnyH_take (i := 3) (v := ?_) rfl (by kernel_rfl) (by kernel_rfl) (by kernel_rfl) (fun _ _ _ h => h) (Or.inl ⟨by rfl, ?_⟩) hH ?_
  rotate_left
  · ((intro W hW; clear hW; go_simp) <;> with_reducible rfl)
  simp only [Act.put, List.getElem_toArray, List.getElem_cons_zero, List.getElem_cons_succ, List.setIfInBounds_toArray, List.set_cons_zero, List.set_cons_succ]
  refine wpAnyH_take (i := 4) (v := ?_) rfl (by kernel_rfl) (by kernel_rfl) (by kernel_rfl) (fun _ _ _ h => h) (Or.inl ⟨by rfl, ?_⟩) hH ?_
  rotate_left
  · ((intro W hW; clear hW; go_simp) <;> with_reducible rfl)
  simp only [Act.put, List.getElem_toArray, List.getElem_cons_zero, List.getElem_cons_succ, List.setIfInBounds_toArray, List.set_cons_zero, List.set_cons_succ]
  refine wpAnyH_take (i := 5) (v := ?_) rfl (by kernel_rfl) (by kernel_rfl) (by kernel_rfl) (fun _ _ _ h => h) (Or.inl ⟨by rfl, ?_⟩) hH ?_
  rotate_left
  · ((intro W hW; clear hW; go_simp) <;> with_reducible rfl)
  simp only [Act.put, List.getElem_toArray, List.getElem_cons_zero, List.getElem_cons_succ, List.setIfInBounds_toArray, List.set_cons_zero, List.set_cons_succ]
  refine wpAnyH_ready (rs := [1]) (by kernel_rfl) (by simp) ?_
  refine AllReadyH.cons (o := _) rfl (fun K hK => ?_) AllReadyH.nil
  simp only [List.getElem_toArray, List.getElem_cons_zero, List.getElem_cons_succ]
  go_simp
  with_reducible refine (addr_k 1 _).mono ?_
  rintro e w11 ⟨rfl, b11⟩
  dsimp only
  replace hmb := blk_u hmb b11
  replace hT := hT.below b11
  replace bel := bel.trans (b11.mono bel.size)
  clear b11
  refine hK.out _ _ hmb (fun hH12 => ?_)
  clear hK K
  refine wpAnyH_ready (rs := [6]) (by kernel_rfl) (by simp) ?_
  refine AllReadyH.cons (o := _) rfl (fun K hK => ?_) AllReadyH.nil
  simp only [List.getElem_toArray, List.getElem_cons_zero, List.getElem_cons_succ]
  go_simp
  have cc : Calls Try.prog 10 #[.pointer (some ⟨gt, 0, none⟩), .agg #[.int .u8 10, .int .u8 0, .int .u8 0, .int .u8 ((byteOf 1).toNat : Int)], .agg #[.int .u8 2, .int .u8 9, .int .u8 0, .int .u8 0, .int .u8 0, .int .u8 0], .int .i64 (at0 + again), .bool true] w11 (fun e w' => e = .returned (.slice none 0 0) ∧ Tb w.heap.size gt w' age (adv at0 (at0 + again)) [⟨⟨10, 0, 0, byteOf 1⟩, adv at0 (at0 + again), true, ⟨2, 9, 0, 0, 0, 0⟩, 0, none, 0, 0⟩] ∧ Kt [49, 52] w11 w' ∧ Below w.heap.size w11 w') := learn_at (kn := true) (y := ⟨10, 0, 0, byteOf 1⟩) (m := ⟨2, 9, 0, 0, 0, 0⟩) (t := at0 + again) (i := 0) (x := ⟨⟨10, 0, 0, byteOf 1⟩, at0, true, ⟨2, 9, 0, 0, 0, 0⟩, 0, none, 0, 0⟩) _ hT rfl rfl
  with_reducible refine (cc).mono ?_
  rintro e w13 ⟨rfl, hT_, k_, bb⟩
  clear cc
  dsimp only
  replace hmb := Kt.blk k_ hmb (by decide)
  clear hT
  have hT := hT_
  replace bel := bel.trans bb
  clear bb k_ hT_
  rw [HA1.out] at hT
  refine hK.out _ _ hmb (fun hH14 => ?_)
  clear hK K
  refine wpAnyH_done (by kernel_rfl) ?_ _
  by_cases hs : now - again < age
  rotate_left
  · have HOA : Hid (tooOldB age (adv (at0 + again) (at0 + now)) ⟨⟨10, 0, 0, byteOf 1⟩, at0 + again, true, ⟨2, 9, 0, 0, 0, 0⟩, 0, none, 0, 0⟩ = true) := Lib.hid (by rw [HA2.out]; unfold tooOldB; simp; omega)
    replace hs : decide (now - again < age) = false := decide_eq_false hs
    go_wp2_with fail
    with_reducible refine (addr_k 1 _).mono ?_
    rintro e w15 ⟨rfl, b15⟩
    replace hmb := blk_u hmb b15
    replace hT := hT.below b15
    replace bel := bel.trans (b15.mono bel.size)
    clear b15
    go_wp2_with fail
    have cc : Calls Try.prog 13 #[.pointer (some ⟨gt, 0, none⟩), .agg #[.int .u8 10, .int .u8 0, .int .u8 0, .int .u8 ((byteOf 1).toNat : Int)], .int .i64 (at0 + now)] w15 (fun e w' => e = .returned (.tuple #[.agg #[.int .u8 0, .int .u8 0, .int .u8 0, .int .u8 0, .int .u8 0, .int .u8 0], .bool false]) ∧ Tb w.heap.size gt w' age (adv (at0 + again) (at0 + now)) [⟨⟨10, 0, 0, byteOf 1⟩, at0 + again, true, ⟨2, 9, 0, 0, 0, 0⟩, 0, none, 0, 0⟩] ∧ Kt [49, 52] w15 w' ∧ Below w.heap.size w15 w') := mac_old (y := ⟨10, 0, 0, byteOf 1⟩) (t := at0 + now) (i := 0) (x := ⟨⟨10, 0, 0, byteOf 1⟩, at0 + again, true, ⟨2, 9, 0, 0, 0, 0⟩, 0, none, 0, 0⟩) _ hT rfl rfl rfl HOA.out
    with_reducible refine (cc).mono ?_
    rintro e w16 ⟨rfl, hT_, k_, bb⟩
    clear cc
    replace hmb := Kt.blk k_ hmb (by decide)
    clear hT
    have hT := hT_
    replace bel := bel.trans bb
    clear bb k_ hT_
    go_wp2_with (first | ((with_reducible show wpList _ _ _ (⟨some 12, _, _, _, _, _⟩ :: _) _ _); refine wpList_new_a rfl 32 rfl #[.int .u8 0, .int .u8 0, .int .u8 0, .int .u8 0, .int .u8 0, .int .u8 0] (by kernel_rfl) ?_; intro g12 w17 ge hh bb; have d_mb_xb := ne_new (hlt hmb) ge; have oxb := Nat.le_trans bel.size ge; replace hmb := blk_u hmb bb; replace hT := hT.below bb; replace bel := bel.trans (bb.mono bel.size); have hxb := hh; clear hh ge bb) | ((with_reducible show wpList _ _ _ (⟨none, Op.store _ (.tmp 12) _, _, _, _, _⟩ :: _) _ _); refine wpList_store_blk rfl 32 (.tmp 12) (.tmp 74) rfl g12 rfl _ rfl _ 32 hxb (by rfl) (by kernel_rfl) (by kernel_rfl) ?_; intro w18 hq gr; replace hmb := blk_a hmb gr d_mb_xb; replace hT := hT.kt (kt_grown gr hxb (by simp) : Kt [32] _ _) (by decide) (by decide); replace bel := below_grown bel gr oxb bel.size; clear hxb; have hxb := hq; clear hq gr))
    go_ret
    exact ⟨rfl, bel⟩
  have HOA : Hid (tooOldB age (adv (at0 + again) (at0 + now)) ⟨⟨10, 0, 0, byteOf 1⟩, at0 + again, true, ⟨2, 9, 0, 0, 0, 0⟩, 0, none, 0, 0⟩ = false) := Lib.hid (by rw [HA2.out]; unfold tooOldB; simp; omega)
  go_wp2_with fail
  with_reducible refine (addr_k 1 _).mono ?_
  rintro e w15 ⟨rfl, b15⟩
  replace hmb := blk_u hmb b15
  replace hT := hT.below b15
  replace bel := bel.trans (b15.mono bel.size)
  clear b15
  go_wp2_with fail
  have cc : Calls Try.prog 13 #[.pointer (some ⟨gt, 0, none⟩), .agg #[.int .u8 10, .int .u8 0, .int .u8 0, .int .u8 ((byteOf 1).toNat : Int)], .int .i64 (at0 + now)] w15 (fun e w' => e = .returned (.tuple #[.agg #[.int .u8 2, .int .u8 9, .int .u8 0, .int .u8 0, .int .u8 0, .int .u8 0], .bool true]) ∧ Tb w.heap.size gt w' age (adv (at0 + again) (at0 + now)) [⟨⟨10, 0, 0, byteOf 1⟩, at0 + again, true, ⟨2, 9, 0, 0, 0, 0⟩, 0, none, 0, 0⟩] ∧ Kt [49, 52] w15 w' ∧ Below w.heap.size w15 w') := mac_at (y := ⟨10, 0, 0, byteOf 1⟩) (t := at0 + now) (i := 0) (x := ⟨⟨10, 0, 0, byteOf 1⟩, at0 + again, true, ⟨2, 9, 0, 0, 0, 0⟩, 0, none, 0, 0⟩) _ hT rfl rfl rfl HOA.out
  with_reducible refine (cc).mono ?_
  rintro e w16 ⟨rfl, hT_, k_, bb⟩
  clear cc
  replace hmb := Kt.blk k_ hmb (by decide)
  clear hT
  have hT := hT_
  replace bel := bel.trans bb
  clear bb k_ hT_
  go_wp2_with (first | ((with_reducible show wpList _ _ _ (⟨some 12, _, _, _, _, _⟩ :: _) _ _); refine wpList_new_a rfl 32 rfl #[.int .u8 0, .int .u8 0, .int .u8 0, .int .u8 0, .int .u8 0, .int .u8 0] (by kernel_rfl) ?_; intro g12 w17 ge hh bb; have d_mb_xb := ne_new (hlt hmb) ge; have oxb := Nat.le_trans bel.size ge; replace hmb := blk_u hmb bb; replace hT := hT.below bb; replace bel := bel.trans (bb.mono bel.size); have hxb := hh; clear hh ge bb) | ((with_reducible show wpList _ _ _ (⟨none, Op.store _ (.tmp 12) _, _, _, _, _⟩ :: _) _ _); refine wpList_store_blk rfl 32 (.tmp 12) (.tmp 74) rfl g12 rfl _ rfl _ 32 hxb (by rfl) (by kernel_rfl) (by kernel_rfl) ?_; intro w18 hq gr; replace hmb := blk_a hmb gr d_mb_xb; replace hT := hT.kt (kt_grown gr hxb (by simp) : Kt [32] _ _) (by decide) (by decide); replace bel := below_grown bel gr oxb bel.size; clear hxb; have hxb := hq; clear hq gr; have R87 := Lib.hid (range_lit hxb 0 6 [.int .u8 2, .int .u8 9, .int .u8 0, .int .u8 0, .int .u8 0, .int .u8 0] rfl)) | ((with_reducible show wpList _ _ _ (⟨some 87, _, _, _, _, _⟩ :: _) _ _); refine wpList_load_rng 32 (.tmp 12) rfl (by kernel_rfl) _ _ rfl _ R87.out _ Try.underlying32 rfl (by kernel_rfl) ?_; have R88 := Lib.hid (range_lit hmb 0 6 [.int .u8 2, .int .u8 9, .int .u8 0, .int .u8 0, .int .u8 0, .int .u8 0] rfl)) | ((with_reducible show wpList _ _ _ (⟨some 88, _, _, _, _, _⟩ :: _) _ _); refine wpList_load_rng 31 (.tmp 11) rfl (by kernel_rfl) _ _ rfl _ R88.out _ Try.underlying31 rfl (by kernel_rfl) ?_))
  try clear R87
  try clear R88
  go_ret
  exact ⟨rfl, bel⟩
end Go.Proofs.Ytfghmckeogajnaa
