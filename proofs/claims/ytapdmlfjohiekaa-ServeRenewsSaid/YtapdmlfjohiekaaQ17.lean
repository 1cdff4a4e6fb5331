/- Texts put together: Law15r. -/
import Derived.Test.YtapdmlfjohiekaaQ16
namespace Go.Proofs.Ytapdmlfjohiekaa
open Go.RowKit

set_option maxRecDepth 100000 in
theorem lg_want9 {lo gs gp : Nat} {A : Option Addr} {c : Nat} {hs : List Oh} {z : Int} {i : Nat} (hz : z = ((100 + i : Nat) : Int)) (hi : i < 32) (w : World) (hT : Sv lo gs gp w ⟨⟨192, 168, 1, 1⟩, 4294967040, 3600⟩ uS0) (hO : Opv w A 2 c hs [(53, [3]), (50, [192, 168, 1, byteOf z])])  : Calls Try.prog 10 #[.pointer (some ⟨gs, 0, none⟩), .agg #[.int .i64 1, .int .i64 0, .int .u32 8, .int .i64 0, .int .i64 0, .int .u8 0, .int .u8 0, .int .u8 0, .int .u8 0, .int .u8 0, .int .u8 0, .int .u8 0, .int .u8 0, .int .u8 0, .int .u8 0, .int .u8 0, .int .u8 0, .int .u8 0, .int .u8 0, .int .u8 0, .int .u8 0, .int .u8 2, .int .u8 9, .int .u8 0, .int .u8 0, .int .u8 0, .int .u8 0, .slice A 2 c], .int .i64 0] w fun e w' => ∃ A2 c2 hs2, e = .returned (.tuple #[.agg #[.int .i64 2, .int .i64 0, .int .u32 8, .int .i64 0, .int .i64 0, .int .u8 0, .int .u8 0, .int .u8 0, .int .u8 0, .int .u8 192, .int .u8 168, .int .u8 1, .int .u8 z, .int .u8 192, .int .u8 168, .int .u8 1, .int .u8 1, .int .u8 0, .int .u8 0, .int .u8 0, .int .u8 0, .int .u8 2, .int .u8 9, .int .u8 0, .int .u8 0, .int .u8 0, .int .u8 0, .slice A2 6 c2, .int .u8 2, .int .u8 9, .int .u8 0, .int .u8 0, .int .u8 0, .int .u8 0, .int .u8 192, .int .u8 168, .int .u8 1, .int .u8 z], .bool true]) ∧ Opv w' A2 6 c2 hs2 [(53, [5]), (54, (⟨192, 168, 1, 1⟩ : Ad4).l), (51, four 3600), (1, four 4294967040), (3, (⟨192, 168, 1, 1⟩ : Ad4).l), (6, (⟨192, 168, 1, 1⟩ : Ad4).l)] ∧ (∀ q, q < w.heap.size → Oa A2 6 hs2 q) ∧ Sv lo gs gp w' ⟨⟨192, 168, 1, 1⟩, 4294967040, 3600⟩ (reS i 3600 0) ∧ Kt [84, 101] w w' ∧ Below lo w w' := by
  have h_ := sget_opt_your (sa := Ad4.zero) (a := ⟨192, 168, 1, byteOf z⟩) (h := ⟨1, 0, 8, 0, 0, 0, 0, 0, 0, 0, 0, 0, 0, 0, 0, 0, 0, 0, 0, 0, 0, 2, 9, 0, 0, 0, 0⟩) w hT hO (by kernel_rfl) (by omega) (by omega) (by kernel_rfl) (by kernel_rfl) (by kernel_rfl) (by kernel_rfl) (by subst hz; exact re_take hi) (by kernel_rfl) (by kernel_rfl)
  subst hz
  dsimp only at h_
  rw [byteOf_small (show 100 + i < 256 by omega)] at h_
  exact h_
set_option maxRecDepth 100000 in
theorem lg_renew9 {lo gs gp : Nat} {A : Option Addr} {c : Nat} {hs : List Oh} {z : Int} {i : Nat} (hz : z = ((100 + i : Nat) : Int)) (hi : i < 32) {t : Int} (w : World) (hT : Sv lo gs gp w ⟨⟨192, 168, 1, 1⟩, 4294967040, 3600⟩ (reS i 3600 0)) (hO : Opv w A 1 c hs [(53, [3])]) (h0 : 0 ≤ t) (h1 : t < 3600) : Calls Try.prog 10 #[.pointer (some ⟨gs, 0, none⟩), .agg #[.int .i64 1, .int .i64 0, .int .u32 0, .int .i64 0, .int .i64 0, .int .u8 192, .int .u8 168, .int .u8 1, .int .u8 z, .int .u8 0, .int .u8 0, .int .u8 0, .int .u8 0, .int .u8 0, .int .u8 0, .int .u8 0, .int .u8 0, .int .u8 0, .int .u8 0, .int .u8 0, .int .u8 0, .int .u8 2, .int .u8 9, .int .u8 0, .int .u8 0, .int .u8 0, .int .u8 0, .slice A 1 c], .int .i64 t] w fun e w' => ∃ A2 c2 hs2, e = .returned (.tuple #[.agg #[.int .i64 2, .int .i64 0, .int .u32 0, .int .i64 0, .int .i64 0, .int .u8 192, .int .u8 168, .int .u8 1, .int .u8 z, .int .u8 192, .int .u8 168, .int .u8 1, .int .u8 z, .int .u8 192, .int .u8 168, .int .u8 1, .int .u8 1, .int .u8 0, .int .u8 0, .int .u8 0, .int .u8 0, .int .u8 2, .int .u8 9, .int .u8 0, .int .u8 0, .int .u8 0, .int .u8 0, .slice A2 6 c2, .int .u8 2, .int .u8 9, .int .u8 0, .int .u8 0, .int .u8 0, .int .u8 0, .int .u8 192, .int .u8 168, .int .u8 1, .int .u8 z], .bool true]) ∧ Opv w' A2 6 c2 hs2 [(53, [5]), (54, (⟨192, 168, 1, 1⟩ : Ad4).l), (51, four 3600), (1, four 4294967040), (3, (⟨192, 168, 1, 1⟩ : Ad4).l), (6, (⟨192, 168, 1, 1⟩ : Ad4).l)] ∧ (∀ q, q < w.heap.size → Oa A2 6 hs2 q) ∧ Sv lo gs gp w' ⟨⟨192, 168, 1, 1⟩, 4294967040, 3600⟩ (reS i (t + 3600) t) ∧ Kt [84, 101] w w' ∧ Below lo w w' := by
  have h_ := sget_cli_client (sa := Ad4.zero) (x := Ad4.zero) (h := ⟨1, 0, 0, 0, 0, 192, 168, 1, byteOf z, 0, 0, 0, 0, 0, 0, 0, 0, 0, 0, 0, 0, 2, 9, 0, 0, 0, 0⟩) w hT hO (by kernel_rfl) (by omega) (by omega) (by kernel_rfl) (by kernel_rfl) (by kernel_rfl) (by subst hz; exact re_again hi h0 h1) (by kernel_rfl)
  subst hz
  dsimp only at h_
  rw [byteOf_small (show 100 + i < 256 by omega)] at h_
  exact h_
theorem lh_z {lo gs gp : Nat} {s : St} {t : Int} {b : Bool} {z : Int} {i : Nat} (hz : z = ((100 + i : Nat) : Int)) (hi : i < 32) (w : World) (hT : Sv lo gs gp w ⟨⟨192, 168, 1, 1⟩, 4294967040, 3600⟩ s) (hb : (allO (s.adv t).now s.l).any (fun e => e.ad.eqB (nA i)) = b) : Calls Try.prog 13 #[.pointer (some ⟨gs, 0, none⟩), .agg #[.int .u8 192, .int .u8 168, .int .u8 1, .int .u8 z], .int .i64 t] w fun e w' => e = .returned (.bool b) ∧ Sv lo gs gp w' ⟨⟨192, 168, 1, 1⟩, 4294967040, 3600⟩ (s.adv t) ∧ Kt [84, 101] w w' ∧ Below lo w w' := by
  have h_ := sholds_any (a := nA i) w hT hb
  have hd : ((nA i).d.toNat : Int) = z := by
    subst hz
    show ((byteOf ((100 + i : Nat) : Int)).toNat : Int) = _
    rw [byteOf_small (by omega)]
  rw [hd] at h_
  exact h_
set_option linter.unusedVariables false in
set_option linter.unusedSimpArgs false in
set_option maxRecDepth 100000 in
set_option maxHeartbeats 16000000 in
theorem serveRenews_walk (later z : Int) (w : World) : Calls Try.prog 5 #[.int .i64 later, .int .i64 z] w fun e w' => e = .returned (.bool true) ∧ Below w.heap.size w w' := by
  have bel := Below.refl w.heap.size w
  go_enter Try.func5, Try.ntmps5
  go_wp2_with fail
  with_reducible refine (sawake_any _).mono ?_
  rintro e w1 ⟨rfl, b1⟩
  replace bel := bel.trans (b1.mono bel.size)
  clear b1
  by_cases c0 : later < 0
  · go_wp2_with fail
    go_ret
    exact ⟨rfl, bel⟩
  have Hc0 : Hid (0 ≤ later) := Lib.hid (by omega)
  replace c0 : decide (later < 0) = false := decide_eq_false c0
  by_cases c1 : 3599 < later
  · go_wp2_with fail
    go_ret
    exact ⟨rfl, bel⟩
  have Hc1 : Hid (later ≤ 3599) := Lib.hid (by omega)
  replace c1 : decide (3599 < later) = false := decide_eq_false c1
  by_cases c2 : z < 100
  · go_wp2_with fail
    go_ret
    exact ⟨rfl, bel⟩
  have Hc2 : Hid (100 ≤ z) := Lib.hid (by omega)
  replace c2 : decide (z < 100) = false := decide_eq_false c2
  by_cases c3 : 131 < z
  · go_wp2_with fail
    go_ret
    exact ⟨rfl, bel⟩
  have Hc3 : Hid (z ≤ 131) := Lib.hid (by omega)
  replace c3 : decide (131 < z) = false := decide_eq_false c3
  have := Hc0.out
  have := Hc1.out
  have := Hc2.out
  have := Hc3.out
  obtain ⟨i, hi_, hz_⟩ : ∃ i : Nat, i < 32 ∧ z = ((100 + i : Nat) : Int) := ⟨(z - 100).toNat, by omega, by omega⟩
  have HI := Lib.hid hi_
  have HZ := Lib.hid hz_
  have HBZ : Hid (((byteOf z).toNat : Int) = z) := Lib.hid (by rw [byteOf_val]; omega)
  have HU : Hid ((.int .u8 z : Value) = u8v (byteOf z)) := Lib.hid (by show _ = Value.int .u8 ((byteOf z).toNat : Int); rw [HBZ.out])
  have HL0 : Hid (0 ≤ later) := Lib.hid (by omega)
  have HL1 : Hid (later < 3600) := Lib.hid (by omega)
  have wz : IntKind.u8.wrap z = z := by show z % 256 = z; omega
  have wl1 : IntKind.i64.wrap (later + 3599) = later + 3599 := IntWalk.i64_in _ (by omega)
  have wl2 : IntKind.i64.wrap (later + 3600) = later + 3600 := IntWalk.i64_in _ (by omega)
  clear hi_ hz_
  try clear c0
  try clear c1
  try clear c2
  try clear c3
  have e74 : ∀ W, (binOp .eql 28 (.agg #[.int .u8 192, .int .u8 168, .int .u8 1, .int .u8 z]) (.agg #[.int .u8 192, .int .u8 168, .int .u8 1, .int .u8 z])).run Try.prog W = .ok (.bool true) W := fun W => by
    have h_ := eqa_b (⟨192, 168, 1, byteOf z⟩ : Ad4) ⟨192, 168, 1, byteOf z⟩ W
    rw [Ad4.eqB_self] at h_
    unfold adV at h_
    dsimp only at h_
    rw [HBZ.out] at h_
    exact h_
  have e80 : ∀ W, (binOp .eql 32 (.agg #[.int .u8 2, .int .u8 9, .int .u8 0, .int .u8 0, .int .u8 0, .int .u8 0]) (.agg #[.int .u8 2, .int .u8 9, .int .u8 0, .int .u8 0, .int .u8 0, .int .u8 0])).run Try.prog W = .ok (.bool true) W := fun W => by kernel_rfl
  go_wp2_with fail
  with_reducible refine (cusual_any _).mono ?_
  rintro e w2 ⟨rfl, b2⟩
  replace bel := bel.trans (b2.mono bel.size)
  clear b2
  go_wp2_with fail
  have HLO_ := bel.size
  with_reducible refine (snew_us _).mono ?_
  rintro e w3 ⟨gs, gp, rfl, hT, b3⟩
  replace bel := bel.trans (b3.mono bel.size)
  clear b3
  replace hT : Sv w.heap.size gs gp w3 ⟨⟨192, 168, 1, 1⟩, 4294967040, 3600⟩ uS0 := hT.lo_mono HLO_
  clear HLO_
  go_wp2_with (first | ((with_reducible show wpList _ _ _ (⟨some 7, _, _, _, _, _⟩ :: _) _ _); refine wpList_new_a rfl 32 rfl #[.int .u8 0, .int .u8 0, .int .u8 0, .int .u8 0, .int .u8 0, .int .u8 0] (by kernel_rfl) ?_; intro g7 w4 ge hh bb; have omb := Nat.le_trans bel.size ge; replace hT := hT.below bb; replace bel := bel.trans (bb.mono bel.size); have hmb := hh; clear hh ge bb) | ((with_reducible show wpList _ _ _ (⟨some 8, _, _, _, _, _⟩ :: _) _ _); refine wpList_new_a rfl 28 rfl #[.int .u8 0, .int .u8 0, .int .u8 0, .int .u8 0] (by kernel_rfl) ?_; intro g8 w5 ge hh bb; have d_mb_xb := ne_new (hlt hmb) ge; have oxb := Nat.le_trans bel.size ge; replace hmb := blk_u hmb bb; replace hT := hT.below bb; replace bel := bel.trans (bb.mono bel.size); have hxb := hh; clear hh ge bb) | ((with_reducible show wpList _ _ _ (⟨none, Op.store _ (.tmp 7) _, _, _, _, _⟩ :: _) _ _); refine wpList_store_blk rfl 32 (.tmp 7) (.tmp 35) rfl g7 rfl _ rfl _ 32 hmb (by rfl) (by kernel_rfl) (by kernel_rfl) ?_; intro w6 hq gr; replace hxb := blk_a hxb gr (ne_symm d_mb_xb); replace hT := hT.grown gr hmb (by decide); replace bel := below_grown bel gr omb bel.size; clear hmb; have hmb := hq; clear hq gr) | ((with_reducible show wpList _ _ _ (⟨none, Op.store _ (.tmp 8) _, _, _, _, _⟩ :: _) _ _); refine wpList_store_blk rfl 28 (.tmp 8) (.tmp 38) rfl g8 rfl _ rfl _ 28 hxb (by rfl) (by kernel_rfl) (by kernel_rfl) ?_; intro w7 hq gr; replace hmb := blk_a hmb gr d_mb_xb; replace hT := hT.grown gr hxb (by decide); replace bel := below_grown bel gr oxb bel.size; clear hxb; have hxb := hq; clear hq gr; have R41 := Lib.hid (range_lit hmb 0 6 [.int .u8 2, .int .u8 9, .int .u8 0, .int .u8 0, .int .u8 0, .int .u8 0] rfl)) | ((with_reducible show wpList _ _ _ (⟨some 41, _, _, _, _, _⟩ :: _) _ _); refine wpList_load_rng 32 (.tmp 7) rfl (by kernel_rfl) _ _ rfl _ R41.out _ Try.underlying32 rfl (by kernel_rfl) ?_; have R42 := Lib.hid (range_lit hxb 0 4 [.int .u8 192, .int .u8 168, .int .u8 1, .int .u8 z] rfl)) | ((with_reducible show wpList _ _ _ (⟨some 42, _, _, _, _, _⟩ :: _) _ _); refine wpList_load_rng 28 (.tmp 8) rfl (by kernel_rfl) _ _ rfl _ R42.out _ Try.underlying28 rfl (by kernel_rfl) ?_))
  try clear R41
  try clear R42
  have sp_mb := hlt hmb
  have sp_xb := hlt hxb
  have hwz := bel.size
  with_reducible refine (lwant_o (b0 := 192) (b1 := 168) (b2 := 1) (b3 := byteOf z) _ rfl rfl rfl HU.out).mono ?_
  rintro e w8 ⟨Aw, cw, hw, rfl, hO, fP, b8⟩
  replace hmb := blk_u hmb b8
  replace hxb := blk_u hxb b8
  replace hT := hT.below b8
  replace bel := bel.trans (b8.mono bel.size)
  clear b8
  have fO : ∀ q, q < w.heap.size → Oa Aw 2 hw q := fun q_ hq_ => fP q_ (Nat.lt_of_lt_of_le hq_ hwz)
  clear hwz
  have oa_mb := fP _ sp_mb
  have oa_xb := fP _ sp_xb
  clear sp_mb sp_xb
  clear fP
  go_wp2_with fail
  go_wp2_with fail
  have sp_mb := hlt hmb
  have sp_xb := hlt hxb
  have hwz := bel.size
  with_reducible refine (lg_want9 HZ.out HI.out _ hT hO).mono ?_
  rintro e w9 ⟨A2a, c2a, hs2a, rfl, hPa, fP, hT_, k_, bb⟩
  replace hmb := Kt.blk k_ hmb (by decide)
  replace hxb := Kt.blk k_ hxb (by decide)
  replace hO := hO.kt k_
  clear hT
  have hT := hT_
  replace bel := bel.trans bb
  clear bb k_ hT_
  have fAa : ∀ q, q < w.heap.size → Oa A2a 6 hs2a q := fun q_ hq_ => fP q_ (Nat.lt_of_lt_of_le hq_ hwz)
  clear hwz
  have oba_mb := fP _ sp_mb
  have oba_xb := fP _ sp_xb
  clear sp_mb sp_xb
  clear fP
  clear hO
  clear hPa
  go_wp2_with (first | ((with_reducible show wpList _ _ _ (⟨some 9, _, _, _, _, _⟩ :: _) _ _); refine wpList_new_a rfl 43 rfl #[.int .i64 0, .int .i64 0, .int .u32 0, .int .i64 0, .int .i64 0, .int .u8 0, .int .u8 0, .int .u8 0, .int .u8 0, .int .u8 0, .int .u8 0, .int .u8 0, .int .u8 0, .int .u8 0, .int .u8 0, .int .u8 0, .int .u8 0, .int .u8 0, .int .u8 0, .int .u8 0, .int .u8 0, .int .u8 0, .int .u8 0, .int .u8 0, .int .u8 0, .int .u8 0, .int .u8 0, .slice none 0 0, .int .u8 0, .int .u8 0, .int .u8 0, .int .u8 0, .int .u8 0, .int .u8 0, .int .u8 0, .int .u8 0, .int .u8 0, .int .u8 0] (by kernel_rfl) ?_; intro g9 w10 ge hh bb; have d_mb_ya := ne_new (hlt hmb) ge; have d_xb_ya := ne_new (hlt hxb) ge; have oya := Nat.le_trans bel.size ge; replace hmb := blk_u hmb bb; replace hxb := blk_u hxb bb; replace hT := hT.below bb; replace bel := bel.trans (bb.mono bel.size); have hya := hh; clear hh ge bb) | ((with_reducible show wpList _ _ _ (⟨none, Op.store _ (.tmp 9) _, _, _, _, _⟩ :: _) _ _); refine wpList_store_blk rfl 43 (.tmp 9) (.tmp 45) rfl g9 rfl _ rfl _ 43 hya (by rfl) (by kernel_rfl) (by kernel_rfl) ?_; intro w11 hq gr; replace hmb := blk_a hmb gr d_mb_ya; replace hxb := blk_a hxb gr d_xb_ya; replace hT := hT.grown gr hya (by decide); replace bel := below_grown bel gr oya bel.size; clear hya; have hya := hq; clear hq gr; have R47 := Lib.hid (range_lit hmb 0 6 [.int .u8 2, .int .u8 9, .int .u8 0, .int .u8 0, .int .u8 0, .int .u8 0] rfl)) | ((with_reducible show wpList _ _ _ (⟨some 47, _, _, _, _, _⟩ :: _) _ _); refine wpList_load_rng 32 (.tmp 7) rfl (by kernel_rfl) _ _ rfl _ R47.out _ Try.underlying32 rfl (by kernel_rfl) ?_; have R48 := Lib.hid (range_lit hxb 0 4 [.int .u8 192, .int .u8 168, .int .u8 1, .int .u8 z] rfl)) | ((with_reducible show wpList _ _ _ (⟨some 48, _, _, _, _, _⟩ :: _) _ _); refine wpList_load_rng 28 (.tmp 8) rfl (by kernel_rfl) _ _ rfl _ R48.out _ Try.underlying28 rfl (by kernel_rfl) ?_) | ((with_reducible show wpList _ _ _ (⟨some 49, _, _, _, _, _⟩ :: _) _ _); refine wpList_lit_n rfl 47 5 1 _ rfl #[.int .u8 3] (.int .u8 0) Try.underlying47 (by kernel_rfl) 1 (by kernel_rfl) (by decide) (by kernel_rfl) ?_; intro g49 w12 ge lt hh bb; have hl : w12.heap[g49]? = some (.cells (([3] : List UInt8).map u8v).toArray 5 (0, 0)) := (by simpa [u8v, byteOf_val] using hh); have skw := own_lit (B := w11.heap.size) ([3]) hl ge 1 rfl (by simp [maxLen]); have sk := (own_sl skw).1; have sklo := bel.size; clear hl; have skge := ge; have lz_sk := bb.size; have y_sk_mb := Lib.hid (hlt hmb); have y_sk_xb := Lib.hid (hlt hxb); have y_sk_ya := Lib.hid (hlt hya); have d_mb_bk := ne_new (hlt hmb) ge; have d_xb_bk := ne_new (hlt hxb) ge; have d_ya_bk := ne_new (hlt hya) ge; have obk := Nat.le_trans bel.size ge; replace hmb := blk_u hmb bb; replace hxb := blk_u hxb bb; replace hya := blk_u hya bb; replace hT := hT.below bb; replace bel := bel.trans (bb.mono bel.size); have hbk := hh; clear hh lt ge bb; have av_sk_mb := (own_sl skw).2.av y_sk_mb.out; have av_sk_xb := (own_sl skw).2.av y_sk_xb.out; have av_sk_ya := (own_sl skw).2.av y_sk_ya.out) | ((with_reducible show wpList _ _ _ (⟨some 51, _, _, _, _, _⟩ :: _) _ _); refine wpList_lit_n rfl 39 49 1 _ rfl #[.int .i64 53, .slice (some ⟨g49, 0, none⟩) 1 1] (.agg #[.int .i64 0, .slice none 0 0]) Try.underlying39 (by kernel_rfl) 2 (by kernel_rfl) (by decide) (by kernel_rfl) ?_; intro g51 w13 ge lt hh bb; have d_mb_rw := ne_new (hlt hmb) ge; have d_xb_rw := ne_new (hlt hxb) ge; have d_ya_rw := ne_new (hlt hya) ge; have d_bk_rw := ne_new (hlt hbk) ge; have av_sk_rw := sk.av_new ge; have of_sk_rw := own_new skw ge; have orw := Nat.le_trans bel.size ge; replace hmb := blk_u hmb bb; replace hxb := blk_u hxb bb; replace hya := blk_u hya bb; replace hbk := blk_u hbk bb; replace sk := sk.below bb; replace skw := own_under skw bb; replace lz_sk := Nat.le_trans lz_sk bb.size; replace hT := hT.below bb; replace bel := bel.trans (bb.mono bel.size); have hrw := hh; clear hh lt ge bb) | ((with_reducible show wpList _ _ _ (⟨some 11, _, _, _, _, _⟩ :: _) _ _); refine wpList_new_a rfl 41 rfl #[.int .i64 0, .int .i64 0, .int .u32 0, .int .i64 0, .int .i64 0, .int .u8 0, .int .u8 0, .int .u8 0, .int .u8 0, .int .u8 0, .int .u8 0, .int .u8 0, .int .u8 0, .int .u8 0, .int .u8 0, .int .u8 0, .int .u8 0, .int .u8 0, .int .u8 0, .int .u8 0, .int .u8 0, .int .u8 0, .int .u8 0, .int .u8 0, .int .u8 0, .int .u8 0, .int .u8 0, .slice none 0 0] (by kernel_rfl) ?_; intro g11 w14 ge hh bb; have d_mb_rm := ne_new (hlt hmb) ge; have d_xb_rm := ne_new (hlt hxb) ge; have d_ya_rm := ne_new (hlt hya) ge; have d_bk_rm := ne_new (hlt hbk) ge; have d_rw_rm := ne_new (hlt hrw) ge; have av_sk_rm := sk.av_new ge; have of_sk_rm := own_new skw ge; have orm := Nat.le_trans bel.size ge; replace hmb := blk_u hmb bb; replace hxb := blk_u hxb bb; replace hya := blk_u hya bb; replace hbk := blk_u hbk bb; replace hrw := blk_u hrw bb; replace sk := sk.below bb; replace skw := own_under skw bb; replace lz_sk := Nat.le_trans lz_sk bb.size; replace hT := hT.below bb; replace bel := bel.trans (bb.mono bel.size); have hrm := hh; clear hh ge bb) | ((with_reducible show wpList _ _ _ (⟨none, Op.store _ (.tmp 11) _, _, _, _, _⟩ :: _) _ _); refine wpList_store_blk rfl 41 (.tmp 11) (.tmp 52) rfl g11 rfl _ rfl _ 41 hrm (by rfl) (by kernel_rfl) (by kernel_rfl) ?_; intro w15 hq gr; replace sk := sk.away av_sk_rm gr; replace skw := own_off skw of_sk_rm gr; replace lz_sk := Nat.le_trans lz_sk gr.size; replace hmb := blk_a hmb gr d_mb_rm; replace hxb := blk_a hxb gr d_xb_rm; replace hya := blk_a hya gr d_ya_rm; replace hbk := blk_a hbk gr d_bk_rm; replace hrw := blk_a hrw gr d_rw_rm; replace hT := hT.grown gr hrm (by decide); replace bel := below_grown bel gr orm bel.size; clear hrm; have hrm := hq; clear hq gr; have R55 := Lib.hid (range_lit hrm 0 28 [.int .i64 1, .int .i64 0, .int .u32 0, .int .i64 0, .int .i64 0, .int .u8 192, .int .u8 168, .int .u8 1, .int .u8 z, .int .u8 0, .int .u8 0, .int .u8 0, .int .u8 0, .int .u8 0, .int .u8 0, .int .u8 0, .int .u8 0, .int .u8 0, .int .u8 0, .int .u8 0, .int .u8 0, .int .u8 2, .int .u8 9, .int .u8 0, .int .u8 0, .int .u8 0, .int .u8 0, .slice (some ⟨g51, 0, none⟩) 1 1] rfl)) | ((with_reducible show wpList _ _ _ (⟨some 55, _, _, _, _, _⟩ :: _) _ _); refine wpList_load_rng 41 (.tmp 11) rfl (by kernel_rfl) _ _ rfl _ R55.out _ Try.underlying41 rfl (by kernel_rfl) ?_))
  try clear R47
  try clear R48
  try clear R55
  go_wp2_with fail
  have hO := os_one (x := ⟨53, some ⟨g49, 0, none⟩, 1, 1⟩) hrw (ob_one (x := 3) 53 hbk rfl (by decide))
  have sp_mb := hlt hmb
  have sp_xb := hlt hxb
  have sp_ya := hlt hya
  have sp_bk := hlt hbk
  have sp_rw := hlt hrw
  have sp_rm := hlt hrm
  have hwz := bel.size
  with_reducible refine (lg_renew9 HZ.out HI.out _ hT hO HL0.out HL1.out).mono ?_
  rintro e w16 ⟨A2, c2, hs2, rfl, hP, fP, hT_, k_, bb⟩
  replace hmb := Kt.blk k_ hmb (by decide)
  replace hxb := Kt.blk k_ hxb (by decide)
  replace hya := Kt.blk k_ hya (by decide)
  replace hbk := Kt.blk k_ hbk (by decide)
  replace hrw := Kt.blk k_ hrw (by decide)
  replace hrm := Kt.blk k_ hrm (by decide)
  clear sk skw lz_sk
  clear hT
  have hT := hT_
  replace bel := bel.trans bb
  clear bb k_ hT_
  clear hO
  have fA : ∀ q, q < w.heap.size → Oa A2 6 hs2 q := fun q_ hq_ => fP q_ (Nat.lt_of_lt_of_le hq_ hwz)
  clear hwz
  have ob_mb := fP _ sp_mb
  have ob_xb := fP _ sp_xb
  have ob_ya := fP _ sp_ya
  have ob_bk := fP _ sp_bk
  have ob_rw := fP _ sp_rw
  have ob_rm := fP _ sp_rm
  clear sp_mb sp_xb sp_ya sp_bk sp_rw sp_rm
  clear fP
  go_wp2_with (first | ((with_reducible show wpList _ _ _ (⟨some 12, _, _, _, _, _⟩ :: _) _ _); refine wpList_new_a rfl 43 rfl #[.int .i64 0, .int .i64 0, .int .u32 0, .int .i64 0, .int .i64 0, .int .u8 0, .int .u8 0, .int .u8 0, .int .u8 0, .int .u8 0, .int .u8 0, .int .u8 0, .int .u8 0, .int .u8 0, .int .u8 0, .int .u8 0, .int .u8 0, .int .u8 0, .int .u8 0, .int .u8 0, .int .u8 0, .int .u8 0, .int .u8 0, .int .u8 0, .int .u8 0, .int .u8 0, .int .u8 0, .slice none 0 0, .int .u8 0, .int .u8 0, .int .u8 0, .int .u8 0, .int .u8 0, .int .u8 0, .int .u8 0, .int .u8 0, .int .u8 0, .int .u8 0] (by kernel_rfl) ?_; intro g12 w17 ge hh bb; have d_mb_yb := ne_new (hlt hmb) ge; have d_xb_yb := ne_new (hlt hxb) ge; have d_ya_yb := ne_new (hlt hya) ge; have d_bk_yb := ne_new (hlt hbk) ge; have d_rw_yb := ne_new (hlt hrw) ge; have d_rm_yb := ne_new (hlt hrm) ge; have oyb := Nat.le_trans bel.size ge; have ob_yb := hP.oa ge; replace hmb := blk_u hmb bb; replace hxb := blk_u hxb bb; replace hya := blk_u hya bb; replace hbk := blk_u hbk bb; replace hrw := blk_u hrw bb; replace hrm := blk_u hrm bb; replace hT := hT.below bb; replace hP := hP.below bb; replace bel := bel.trans (bb.mono bel.size); have hyb := hh; clear hh ge bb) | ((with_reducible show wpList _ _ _ (⟨none, Op.store _ (.tmp 12) _, _, _, _, _⟩ :: _) _ _); refine wpList_store_blk rfl 43 (.tmp 12) (.tmp 58) rfl g12 rfl _ rfl _ 43 hyb (by rfl) (by kernel_rfl) (by kernel_rfl) ?_; intro w18 hq gr; replace hmb := blk_a hmb gr d_mb_yb; replace hxb := blk_a hxb gr d_xb_yb; replace hya := blk_a hya gr d_ya_yb; replace hbk := blk_a hbk gr d_bk_yb; replace hrw := blk_a hrw gr d_rw_yb; replace hrm := blk_a hrm gr d_rm_yb; replace hT := hT.grown gr hyb (by decide); replace hP := hP.away ob_yb gr; replace bel := below_grown bel gr oyb bel.size; clear hyb; have hyb := hq; clear hq gr; have R66 := Lib.hid (range_lit hyb 0 28 [.int .i64 2, .int .i64 0, .int .u32 0, .int .i64 0, .int .i64 0, .int .u8 192, .int .u8 168, .int .u8 1, .int .u8 z, .int .u8 192, .int .u8 168, .int .u8 1, .int .u8 z, .int .u8 192, .int .u8 168, .int .u8 1, .int .u8 1, .int .u8 0, .int .u8 0, .int .u8 0, .int .u8 0, .int .u8 2, .int .u8 9, .int .u8 0, .int .u8 0, .int .u8 0, .int .u8 0, .slice A2 6 c2] rfl)) | ((with_reducible show wpList _ _ _ (⟨some 66, _, _, _, _, _⟩ :: _) _ _); refine wpList_load_rng 41 (.tmp 65) rfl (by kernel_rfl) _ _ rfl _ R66.out _ Try.underlying41 rfl (by kernel_rfl) ?_))
  try clear R66
  with_reducible refine (ltype_a (k := 5) _ hP (by kernel_rfl)).mono ?_
  rintro e w19 ⟨rfl, b19⟩
  replace hmb := blk_u hmb b19
  replace hxb := blk_u hxb b19
  replace hya := blk_u hya b19
  replace hbk := blk_u hbk b19
  replace hrw := blk_u hrw b19
  replace hrm := blk_u hrm b19
  replace hyb := blk_u hyb b19
  replace hT := hT.below b19
  replace hP := hP.below b19
  replace bel := bel.trans (b19.mono bel.size)
  clear b19
  have R72 := Lib.hid (range_lit hyb 34 4 [.int .u8 192, .int .u8 168, .int .u8 1, .int .u8 z] rfl)
  go_wp2_with (first | ((with_reducible show wpList _ _ _ (⟨some 72, _, _, _, _, _⟩ :: _) _ _); refine wpList_load_rng 28 (.tmp 71) rfl (by kernel_rfl) _ _ rfl _ R72.out _ Try.underlying28 rfl (by kernel_rfl) ?_; have R73 := Lib.hid (range_lit hxb 0 4 [.int .u8 192, .int .u8 168, .int .u8 1, .int .u8 z] rfl)) | ((with_reducible show wpList _ _ _ (⟨some 73, _, _, _, _, _⟩ :: _) _ _); refine wpList_load_rng 28 (.tmp 8) rfl (by kernel_rfl) _ _ rfl _ R73.out _ Try.underlying28 rfl (by kernel_rfl) ?_; have R78 := Lib.hid (range_lit hyb 28 6 [.int .u8 2, .int .u8 9, .int .u8 0, .int .u8 0, .int .u8 0, .int .u8 0] rfl)) | ((with_reducible show wpList _ _ _ (⟨some 78, _, _, _, _, _⟩ :: _) _ _); refine wpList_load_rng 32 (.tmp 77) rfl (by kernel_rfl) _ _ rfl _ R78.out _ Try.underlying32 rfl (by kernel_rfl) ?_; have R79 := Lib.hid (range_lit hmb 0 6 [.int .u8 2, .int .u8 9, .int .u8 0, .int .u8 0, .int .u8 0, .int .u8 0] rfl)) | ((with_reducible show wpList _ _ _ (⟨some 79, _, _, _, _, _⟩ :: _) _ _); refine wpList_load_rng 32 (.tmp 7) rfl (by kernel_rfl) _ _ rfl _ R79.out _ Try.underlying32 rfl (by kernel_rfl) ?_; have R85 := Lib.hid (range_lit hyb 5 4 [.int .u8 192, .int .u8 168, .int .u8 1, .int .u8 z] rfl)) | ((with_reducible show wpList _ _ _ (⟨some 85, _, _, _, _, _⟩ :: _) _ _); refine wpList_load_rng 28 (.tmp 84) rfl (by kernel_rfl) _ _ rfl _ R85.out _ Try.underlying28 rfl (by kernel_rfl) ?_; have R86 := Lib.hid (range_lit hxb 0 4 [.int .u8 192, .int .u8 168, .int .u8 1, .int .u8 z] rfl)) | ((with_reducible show wpList _ _ _ (⟨some 86, _, _, _, _, _⟩ :: _) _ _); refine wpList_load_rng 28 (.tmp 8) rfl (by kernel_rfl) _ _ rfl _ R86.out _ Try.underlying28 rfl (by kernel_rfl) ?_; have R91 := Lib.hid (range_lit hxb 0 4 [.int .u8 192, .int .u8 168, .int .u8 1, .int .u8 z] rfl)) | ((with_reducible show wpList _ _ _ (⟨some 91, _, _, _, _, _⟩ :: _) _ _); refine wpList_load_rng 28 (.tmp 8) rfl (by kernel_rfl) _ _ rfl _ R91.out _ Try.underlying28 rfl (by kernel_rfl) ?_))
  try clear R72
  try clear R73
  try clear R78
  try clear R79
  try clear R85
  try clear R86
  try clear R91
  go_wp2_with fail
  with_reducible refine (lh_z HZ.out HI.out _ hT (re_yes HI.out HL0.out HL1.out)).mono ?_
  rintro e w20 ⟨rfl, hT_, k_, bb⟩
  replace hmb := Kt.blk k_ hmb (by decide)
  replace hxb := Kt.blk k_ hxb (by decide)
  replace hya := Kt.blk k_ hya (by decide)
  replace hbk := Kt.blk k_ hbk (by decide)
  replace hrw := Kt.blk k_ hrw (by decide)
  replace hrm := Kt.blk k_ hrm (by decide)
  replace hyb := Kt.blk k_ hyb (by decide)
  replace hP := hP.kt k_
  clear hT
  have hT := hT_
  replace bel := bel.trans bb
  clear bb k_ hT_
  have R98 := Lib.hid (range_lit hxb 0 4 [.int .u8 192, .int .u8 168, .int .u8 1, .int .u8 z] rfl)
  go_wp2_with (first | ((with_reducible show wpList _ _ _ (⟨some 98, _, _, _, _, _⟩ :: _) _ _); refine wpList_load_rng 28 (.tmp 8) rfl (by kernel_rfl) _ _ rfl _ R98.out _ Try.underlying28 rfl (by kernel_rfl) ?_))
  try clear R98
  go_wp2_with fail
  with_reducible refine (lh_z HZ.out HI.out _ hT (re_no HL0.out HL1.out)).mono ?_
  rintro e w21 ⟨rfl, hT_, k_, bb⟩
  replace hmb := Kt.blk k_ hmb (by decide)
  replace hxb := Kt.blk k_ hxb (by decide)
  replace hya := Kt.blk k_ hya (by decide)
  replace hbk := Kt.blk k_ hbk (by decide)
  replace hrw := Kt.blk k_ hrw (by decide)
  replace hrm := Kt.blk k_ hrm (by decide)
  replace hyb := Kt.blk k_ hyb (by decide)
  replace hP := hP.kt k_
  clear hT
  have hT := hT_
  replace bel := bel.trans bb
  clear bb k_ hT_
  go_wp2_with fail
  go_ret
  exact ⟨rfl, bel⟩
end Go.Proofs.Ytapdmlfjohiekaa
