/- DhcpKnown. -/
import Derived.Test.YtmljgpefbbifmaaDh8
import Derived.Test.YtmljgpefbbifmaaMak
namespace Go.Proofs.Ytmljgpefbbifmaa
open Go.RowKit

theorem kd1 : dGet (List.replicate 239 0) = ((Mh.zero, []), 3) := dget_short (by rw [List.length_replicate]; decide)
theorem kd2 : dGet (List.replicate 300 0) = ((Mh.zero, []), 4) := dget_bad (by rw [List.length_replicate]; decide) (by
  have e : g8 (List.replicate 300 0) 0 = 0 := rfl
  unfold okH
  rw [e]
  rfl)
theorem kput1 {A : Option Addr} {n c : Nat} {hs : List Oh} {L : OptL} (w : World) (en : Sle opE 2 w A n c hs) (hbd : Bd w hs L) (hn : n ≤ 100000) (hb : ∀ x ∈ hs, x.n ≤ 100000) (h : typeL L = 0) : Calls Try.prog 9 #[.agg #[.int .i64 1, .int .i64 0, .int .u32 0, .int .i64 0, .int .i64 0, .int .u8 0, .int .u8 0, .int .u8 0, .int .u8 0, .int .u8 0, .int .u8 0, .int .u8 0, .int .u8 0, .int .u8 0, .int .u8 0, .int .u8 0, .int .u8 0, .int .u8 0, .int .u8 0, .int .u8 0, .int .u8 0, .int .u8 0, .int .u8 0, .int .u8 0, .int .u8 0, .int .u8 0, .int .u8 0, .slice A n c]] w fun e w' => ∃ A' c', e = .returned (.tuple #[.slice A' 0 c', .int .i64 1]) ∧ Below w.heap.size w w' := by
  refine Calls.mono (show Calls Try.prog 9 #[.agg #[.int .i64 1, .int .i64 0, .int .u32 0, .int .i64 0, .int .i64 0, .int .u8 0, .int .u8 0, .int .u8 0, .int .u8 0, .int .u8 0, .int .u8 0, .int .u8 0, .int .u8 0, .int .u8 0, .int .u8 0, .int .u8 0, .int .u8 0, .int .u8 0, .int .u8 0, .int .u8 0, .int .u8 0, .int .u8 0, .int .u8 0, .int .u8 0, .int .u8 0, .int .u8 0, .int .u8 0, .slice A n c]] w _ from dput_any (h := ⟨1, 0, 0, 0, 0, 0, 0, 0, 0, 0, 0, 0, 0, 0, 0, 0, 0, 0, 0, 0, 0, 0, 0, 0, 0, 0, 0⟩) w en hbd hn hb (by decide) (by decide)) ?_
  rintro e w' ⟨A', n', c', rfl, pb, bel⟩
  rw [dput_bad (.inr h)] at pb ⊢
  obtain rfl : n' = 0 := pb.1.symm
  exact ⟨A', c', rfl, bel⟩
theorem kput3 {A : Option Addr} {n c : Nat} {hs : List Oh} {L : OptL} (w : World) (en : Sle opE 2 w A n c hs) (hbd : Bd w hs L) (hn : n ≤ 100000) (hb : ∀ x ∈ hs, x.n ≤ 100000) : Calls Try.prog 9 #[.agg #[.int .i64 3, .int .i64 0, .int .u32 0, .int .i64 0, .int .i64 0, .int .u8 0, .int .u8 0, .int .u8 0, .int .u8 0, .int .u8 0, .int .u8 0, .int .u8 0, .int .u8 0, .int .u8 0, .int .u8 0, .int .u8 0, .int .u8 0, .int .u8 0, .int .u8 0, .int .u8 0, .int .u8 0, .int .u8 0, .int .u8 0, .int .u8 0, .int .u8 0, .int .u8 0, .int .u8 0, .slice A n c]] w fun e w' => ∃ A' c', e = .returned (.tuple #[.slice A' 0 c', .int .i64 1]) ∧ Below w.heap.size w w' := by
  refine Calls.mono (show Calls Try.prog 9 #[.agg #[.int .i64 3, .int .i64 0, .int .u32 0, .int .i64 0, .int .i64 0, .int .u8 0, .int .u8 0, .int .u8 0, .int .u8 0, .int .u8 0, .int .u8 0, .int .u8 0, .int .u8 0, .int .u8 0, .int .u8 0, .int .u8 0, .int .u8 0, .int .u8 0, .int .u8 0, .int .u8 0, .int .u8 0, .int .u8 0, .int .u8 0, .int .u8 0, .int .u8 0, .int .u8 0, .int .u8 0, .slice A n c]] w _ from dput_any (h := ⟨3, 0, 0, 0, 0, 0, 0, 0, 0, 0, 0, 0, 0, 0, 0, 0, 0, 0, 0, 0, 0, 0, 0, 0, 0, 0, 0⟩) w en hbd hn hb (by decide) (by decide)) ?_
  rintro e w' ⟨A', n', c', rfl, pb, bel⟩
  rw [dput_bad (.inl rfl)] at pb ⊢
  obtain rfl : n' = 0 := pb.1.symm
  exact ⟨A', c', rfl, bel⟩
theorem ktype0 {A : Option Addr} {n c : Nat} {hs : List Oh} {L : OptL} (w : World) (en : Sle opE 2 w A n c hs) (hbd : Bd w hs L) (hn : n ≤ 100000) (hb : ∀ x ∈ hs, x.n ≤ 100000) (h : typeL L = 0) : Calls Try.prog 10 #[.agg #[.int .i64 0, .int .i64 0, .int .u32 0, .int .i64 0, .int .i64 0, .int .u8 0, .int .u8 0, .int .u8 0, .int .u8 0, .int .u8 0, .int .u8 0, .int .u8 0, .int .u8 0, .int .u8 0, .int .u8 0, .int .u8 0, .int .u8 0, .int .u8 0, .int .u8 0, .int .u8 0, .int .u8 0, .int .u8 0, .int .u8 0, .int .u8 0, .int .u8 0, .int .u8 0, .int .u8 0, .slice A n c]] w fun e w' => e = .returned (.int .i64 0) ∧ Below w.heap.size w w' := by
  refine Calls.mono (show Calls Try.prog 10 #[.agg #[.int .i64 0, .int .i64 0, .int .u32 0, .int .i64 0, .int .i64 0, .int .u8 0, .int .u8 0, .int .u8 0, .int .u8 0, .int .u8 0, .int .u8 0, .int .u8 0, .int .u8 0, .int .u8 0, .int .u8 0, .int .u8 0, .int .u8 0, .int .u8 0, .int .u8 0, .int .u8 0, .int .u8 0, .int .u8 0, .int .u8 0, .int .u8 0, .int .u8 0, .int .u8 0, .int .u8 0, .slice A n c]] w _ from dtype_any (h := ⟨0, 0, 0, 0, 0, 0, 0, 0, 0, 0, 0, 0, 0, 0, 0, 0, 0, 0, 0, 0, 0, 0, 0, 0, 0, 0, 0⟩) w en hbd hn hb) ?_
  rintro e w' ⟨rfl, bel⟩
  exact ⟨by rw [h]; rfl, bel⟩
theorem no_opts : ∀ x ∈ ([] : List Oh), x.n ≤ 100000 := fun x h => by cases h
set_option linter.unusedVariables false in
set_option linter.unusedSimpArgs false in
set_option maxRecDepth 100000 in
set_option maxHeartbeats 16000000 in
theorem dhcpKnown_walk (w : World) : Calls Try.prog 3 #[] w fun e w' => e = .returned (.bool true) ∧ Below w.heap.size w w' := by
  obtain ⟨ii, hii, hz0, hz1, hz2⟩ := info_parts Try.info_u8
  have bel := Below.refl w.heap.size w
  go_enter Try.func3, Try.ntmps3
  go_wp2_with fail
  with_reducible refine (awake13_any _).mono ?_
  rintro e w1 ⟨rfl, b1⟩
  replace bel := bel.trans (b1.mono bel.size)
  clear b1
  go_wp2_with (first | ((with_reducible show wpList _ _ _ (⟨some 12, _, _, _, _, _⟩ :: _) _ _); refine wpList_make_g rfl (.const (.int .i64 239)) (.const (.int .i64 239)) 34 rfl 5 ii Try.underlying34 hii hz0 hz1 hz2 .i64 .i64 _ _ (239) rfl rfl rfl rfl (by omega) ?_; intro g12 w2 ge sm bb; replace bel := bel.trans (bb.mono bel.size); have mk1 := sm; clear sm ge bb))
  with_reducible refine (dget_any _ mk1 (by decide)).mono ?_
  rintro e w3 ⟨h2, A2, n2, c2, hs2, rfl, _, _, _, _, b3⟩
  replace mk1 := mk1.below b3
  replace bel := bel.trans (b3.mono bel.size)
  clear b3
  rw [kd1]
  go_wp2_with (first | ((with_reducible show wpList _ _ _ (⟨some 1, _, _, _, _, _⟩ :: _) _ _); refine wpList_new_a rfl 30 rfl #[.int .i64 0, .int .i64 0, .int .u32 0, .int .i64 0, .int .i64 0, .int .u8 0, .int .u8 0, .int .u8 0, .int .u8 0, .int .u8 0, .int .u8 0, .int .u8 0, .int .u8 0, .int .u8 0, .int .u8 0, .int .u8 0, .int .u8 0, .int .u8 0, .int .u8 0, .int .u8 0, .int .u8 0, .int .u8 0, .int .u8 0, .int .u8 0, .int .u8 0, .int .u8 0, .int .u8 0, .slice none 0 0] (by kernel_rfl) ?_; intro g1 w4 ge hh bb; have av_mk1_ma := mk1.av_new ge; have oma := Nat.le_trans bel.size ge; replace mk1 := mk1.below bb; replace bel := bel.trans (bb.mono bel.size); have hma := hh; clear hh ge bb) | ((with_reducible show wpList _ _ _ (⟨none, Op.store _ (.tmp 1) _, _, _, _, _⟩ :: _) _ _); refine wpList_store_blk rfl 30 (.tmp 1) (.tmp 14) rfl g1 rfl _ rfl _ 30 hma (by rfl) (by kernel_rfl) (by kernel_rfl) ?_; intro w5 hq gr; replace mk1 := mk1.away av_mk1_ma gr; replace bel := below_grown bel gr oma bel.size; clear hma; have hma := hq; clear hq gr) | ((with_reducible show wpList _ _ _ (⟨some 17, _, _, _, _, _⟩ :: _) _ _); refine wpList_make_g rfl (.const (.int .i64 300)) (.const (.int .i64 300)) 34 rfl 5 ii Try.underlying34 hii hz0 hz1 hz2 .i64 .i64 _ _ (300) rfl rfl rfl rfl (by omega) ?_; intro g17 w6 ge sm bb; replace hma := blk_u hma bb; replace mk1 := mk1.below bb; replace bel := bel.trans (bb.mono bel.size); have mk2 := sm; clear sm ge bb))
  with_reducible refine (dget_any _ mk2 (by decide)).mono ?_
  rintro e w7 ⟨h3, A3, n3, c3, hs3, rfl, _, _, _, _, b7⟩
  replace hma := blk_u hma b7
  replace mk1 := mk1.below b7
  replace mk2 := mk2.below b7
  replace bel := bel.trans (b7.mono bel.size)
  clear b7
  rw [kd2]
  go_wp2_with (first | ((with_reducible show wpList _ _ _ (⟨some 3, _, _, _, _, _⟩ :: _) _ _); refine wpList_new_a rfl 30 rfl #[.int .i64 0, .int .i64 0, .int .u32 0, .int .i64 0, .int .i64 0, .int .u8 0, .int .u8 0, .int .u8 0, .int .u8 0, .int .u8 0, .int .u8 0, .int .u8 0, .int .u8 0, .int .u8 0, .int .u8 0, .int .u8 0, .int .u8 0, .int .u8 0, .int .u8 0, .int .u8 0, .int .u8 0, .int .u8 0, .int .u8 0, .int .u8 0, .int .u8 0, .int .u8 0, .int .u8 0, .slice none 0 0] (by kernel_rfl) ?_; intro g3 w8 ge hh bb; have d_ma_mb := ne_new (hlt hma) ge; have av_mk1_mb := mk1.av_new ge; have av_mk2_mb := mk2.av_new ge; have omb := Nat.le_trans bel.size ge; replace hma := blk_u hma bb; replace mk1 := mk1.below bb; replace mk2 := mk2.below bb; replace bel := bel.trans (bb.mono bel.size); have hmb := hh; clear hh ge bb) | ((with_reducible show wpList _ _ _ (⟨none, Op.store _ (.tmp 3) _, _, _, _, _⟩ :: _) _ _); refine wpList_store_blk rfl 30 (.tmp 3) (.tmp 19) rfl g3 rfl _ rfl _ 30 hmb (by rfl) (by kernel_rfl) (by kernel_rfl) ?_; intro w9 hq gr; replace mk1 := mk1.away av_mk1_mb gr; replace mk2 := mk2.away av_mk2_mb gr; replace hma := blk_a hma gr d_ma_mb; replace bel := below_grown bel gr omb bel.size; clear hmb; have hmb := hq; clear hq gr))
  with_reducible refine (kput1 (hs := []) (L := []) _ (Sle.nil (by decide) opE_len _) (Bd.nil _) (by decide) no_opts rfl).mono ?_
  rintro e w10 ⟨A4, c4, rfl, b10⟩
  replace hma := blk_u hma b10
  replace hmb := blk_u hmb b10
  replace mk1 := mk1.below b10
  replace mk2 := mk2.below b10
  replace bel := bel.trans (b10.mono bel.size)
  clear b10
  go_wp2_with (first | ((with_reducible show wpList _ _ _ (⟨some 27, _, _, _, _, _⟩ :: _) _ _); refine wpList_lit_n rfl 34 5 1 _ rfl #[.int .u8 1] (.int .u8 0) Try.underlying34 (by kernel_rfl) 1 (by kernel_rfl) (by decide) (by kernel_rfl) ?_; intro g27 w11 ge lt hh bb; have hl : w11.heap[g27]? = some (.cells (([1] : List UInt8).map u8v).toArray 5 (0, 0)) := (by simpa [u8v, byteOf_val] using hh); have ebw := own_lit (B := w10.heap.size) ([1]) hl ge 1 rfl (by simp [maxLen]); have eb := (own_sl ebw).1; have eblo := bel.size; clear hl; have ebge := ge; have lz_eb := bb.size; have y_eb_ma := Lib.hid (hlt hma); have y_eb_mb := Lib.hid (hlt hmb); have bl_mk1_eb := mk1.bl_new; have bl_mk2_eb := mk2.bl_new; have d_ma_b27 := ne_new (hlt hma) ge; have d_mb_b27 := ne_new (hlt hmb) ge; have av_mk1_b27 := mk1.av_new ge; have av_mk2_b27 := mk2.av_new ge; have ob27 := Nat.le_trans bel.size ge; replace hma := blk_u hma bb; replace hmb := blk_u hmb bb; replace mk1 := mk1.below bb; replace mk2 := mk2.below bb; replace bel := bel.trans (bb.mono bel.size); have hb27 := hh; clear hh lt ge bb; have av_eb_ma := (own_sl ebw).2.av y_eb_ma.out; have av_eb_mb := (own_sl ebw).2.av y_eb_mb.out) | ((with_reducible show wpList _ _ _ (⟨some 29, _, _, _, _, _⟩ :: _) _ _); refine wpList_lit_n rfl 28 38 1 _ rfl #[.int .i64 53, .slice (some ⟨g27, 0, none⟩) 1 1] (.agg #[.int .i64 0, .slice none 0 0]) Try.underlying28 (by kernel_rfl) 2 (by kernel_rfl) (by decide) (by kernel_rfl) ?_; intro g29 w12 ge lt hh bb; have d_ma_b29 := ne_new (hlt hma) ge; have d_mb_b29 := ne_new (hlt hmb) ge; have d_b27_b29 := ne_new (hlt hb27) ge; have av_mk1_b29 := mk1.av_new ge; have av_mk2_b29 := mk2.av_new ge; have av_eb_b29 := eb.av_new ge; have of_eb_b29 := own_new ebw ge; have ob29 := Nat.le_trans bel.size ge; replace hma := blk_u hma bb; replace hmb := blk_u hmb bb; replace hb27 := blk_u hb27 bb; replace mk1 := mk1.below bb; replace mk2 := mk2.below bb; replace eb := eb.below bb; replace ebw := own_under ebw bb; replace lz_eb := Nat.le_trans lz_eb bb.size; replace bel := bel.trans (bb.mono bel.size); have hb29 := hh; clear hh lt ge bb; have en : Sle opE 2 w12 (some ⟨g29, 0, none⟩) (1) (1) ([⟨53, some ⟨g27, 0, none⟩, 1, 1⟩]) := sle_lit ([⟨53, some ⟨g27, 0, none⟩, 1, 1⟩]) (by decide) opE_len hb29 rfl (by simp [maxLen])))
  with_reducible refine (kput3 _ en (Bd.mk1 53 eb) (by decide) (hb1 (by decide))).mono ?_
  rintro e w13 ⟨A5, c5, rfl, b13⟩
  replace hma := blk_u hma b13
  replace hmb := blk_u hmb b13
  replace hb27 := blk_u hb27 b13
  replace hb29 := blk_u hb29 b13
  replace mk1 := mk1.below b13
  replace mk2 := mk2.below b13
  replace eb := eb.below b13
  replace ebw := own_under ebw b13
  replace en := en.below b13
  replace lz_eb := Nat.le_trans lz_eb b13.size
  replace bel := bel.trans (b13.mono bel.size)
  clear b13
  go_wp2_with (first | ((with_reducible show wpList _ _ _ (⟨some 49, _, _, _, _, _⟩ :: _) _ _); refine wpList_wanted (by rfl) (fun K hK => ?_); refine wp_lit_n 34 5 1 _ rfl #[.int .u8 9] (.int .u8 0) Try.underlying34 (by kernel_rfl) 1 (by kernel_rfl) (by decide) (by kernel_rfl) ?_; intro g49 w14 ge lt hh bb; have hl : w14.heap[g49]? = some (.cells (([9] : List UInt8).map u8v).toArray 5 (0, 0)) := (by simpa [u8v, byteOf_val] using hh); have ecw := own_lit (B := w13.heap.size) ([9]) hl ge 1 rfl (by simp [maxLen]); have ec := (own_sl ecw).1; have eclo := bel.size; clear hl; have ecge := ge; have lz_ec := bb.size; have y_ec_ma := Lib.hid (hlt hma); have y_ec_mb := Lib.hid (hlt hmb); have y_ec_b27 := Lib.hid (hlt hb27); have y_ec_b29 := Lib.hid (hlt hb29); have bl_mk1_ec := mk1.bl_new; have bl_mk2_ec := mk2.bl_new; have bl_eb_ec := eb.bl_new; have bl_en_ec := en.bl_new; have d_ma_b49 := ne_new (hlt hma) ge; have d_mb_b49 := ne_new (hlt hmb) ge; have d_b27_b49 := ne_new (hlt hb27) ge; have d_b29_b49 := ne_new (hlt hb29) ge; have av_mk1_b49 := mk1.av_new ge; have av_mk2_b49 := mk2.av_new ge; have av_eb_b49 := eb.av_new ge; have of_eb_b49 := own_new ebw ge; have av_en_b49 := en.av_new ge; have ob49 := Nat.le_trans bel.size ge; replace hma := blk_u hma bb; replace hmb := blk_u hmb bb; replace hb27 := blk_u hb27 bb; replace hb29 := blk_u hb29 bb; replace mk1 := mk1.below bb; replace mk2 := mk2.below bb; replace eb := eb.below bb; replace ebw := own_under ebw bb; replace en := en.below bb; replace lz_eb := Nat.le_trans lz_eb bb.size; replace bel := bel.trans (bb.mono bel.size); have hb49 := hh; clear hh lt ge bb; have av_ec_ma := (own_sl ecw).2.av y_ec_ma.out; have av_ec_mb := (own_sl ecw).2.av y_ec_mb.out; have av_ec_b27 := (own_sl ecw).2.av y_ec_b27.out; have av_ec_b29 := (own_sl ecw).2.av y_ec_b29.out; refine hK _ _ ?_; clear hK K) | ((with_reducible show wpList _ _ _ (⟨some 51, _, _, _, _, _⟩ :: _) _ _); refine wpList_wanted (by rfl) (fun K hK => ?_); refine wp_lit_n 28 38 1 _ rfl #[.int .i64 53, .slice (some ⟨g49, 0, none⟩) 1 1] (.agg #[.int .i64 0, .slice none 0 0]) Try.underlying28 (by kernel_rfl) 2 (by kernel_rfl) (by decide) (by kernel_rfl) ?_; intro g51 w15 ge lt hh bb; have d_ma_b51 := ne_new (hlt hma) ge; have d_mb_b51 := ne_new (hlt hmb) ge; have d_b27_b51 := ne_new (hlt hb27) ge; have d_b29_b51 := ne_new (hlt hb29) ge; have d_b49_b51 := ne_new (hlt hb49) ge; have av_mk1_b51 := mk1.av_new ge; have av_mk2_b51 := mk2.av_new ge; have av_eb_b51 := eb.av_new ge; have of_eb_b51 := own_new ebw ge; have av_en_b51 := en.av_new ge; have av_ec_b51 := ec.av_new ge; have of_ec_b51 := own_new ecw ge; have ob51 := Nat.le_trans bel.size ge; replace hma := blk_u hma bb; replace hmb := blk_u hmb bb; replace hb27 := blk_u hb27 bb; replace hb29 := blk_u hb29 bb; replace hb49 := blk_u hb49 bb; replace mk1 := mk1.below bb; replace mk2 := mk2.below bb; replace eb := eb.below bb; replace ebw := own_under ebw bb; replace en := en.below bb; replace ec := ec.below bb; replace ecw := own_under ecw bb; replace lz_eb := Nat.le_trans lz_eb bb.size; replace lz_ec := Nat.le_trans lz_ec bb.size; replace bel := bel.trans (bb.mono bel.size); have hb51 := hh; clear hh lt ge bb; have ek : Sle opE 2 w15 (some ⟨g51, 0, none⟩) (1) (1) ([⟨53, some ⟨g49, 0, none⟩, 1, 1⟩]) := sle_lit ([⟨53, some ⟨g49, 0, none⟩, 1, 1⟩]) (by decide) opE_len hb51 rfl (by simp [maxLen]); refine hK _ _ ?_; clear hK K))
  with_reducible refine (ktype0 _ ek (Bd.mk1 53 ec) (by decide) (hb1 (by decide)) rfl).mono ?_
  rintro e w16 ⟨rfl, b16⟩
  replace hma := blk_u hma b16
  replace hmb := blk_u hmb b16
  replace hb27 := blk_u hb27 b16
  replace hb29 := blk_u hb29 b16
  replace hb49 := blk_u hb49 b16
  replace hb51 := blk_u hb51 b16
  replace mk1 := mk1.below b16
  replace mk2 := mk2.below b16
  replace eb := eb.below b16
  replace ebw := own_under ebw b16
  replace en := en.below b16
  replace ec := ec.below b16
  replace ecw := own_under ecw b16
  replace ek := ek.below b16
  replace lz_eb := Nat.le_trans lz_eb b16.size
  replace lz_ec := Nat.le_trans lz_ec b16.size
  replace bel := bel.trans (b16.mono bel.size)
  clear b16
  go_wp2_with fail
  go_ret
  exact ⟨rfl, bel⟩
end Go.Proofs.Ytmljgpefbbifmaa
