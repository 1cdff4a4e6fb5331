/- Texts put together: Law15k. -/
import Derived.Test.YtapdmlfjohiekaaK1
import Derived.Test.YtapdmlfjohiekaaK16
namespace Go.Proofs.Ytapdmlfjohiekaa
open Go.RowKit

set_option maxRecDepth 100000 in
theorem lg_kn1 {lo gs gp : Nat} {A : Option Addr} {c : Nat} {hs : List Oh} (w : World) (hT : Sv lo gs gp w ⟨⟨192, 168, 1, 1⟩, 4294967040, 3600⟩ uS0) (hO : Opv w A 2 c hs [(53, [3]), (50, [192, 168, 1, 105])])  : Calls Try.prog 10 #[.pointer (some ⟨gs, 0, none⟩), .agg #[.int .i64 1, .int .i64 0, .int .u32 8, .int .i64 0, .int .i64 0, .int .u8 0, .int .u8 0, .int .u8 0, .int .u8 0, .int .u8 0, .int .u8 0, .int .u8 0, .int .u8 0, .int .u8 0, .int .u8 0, .int .u8 0, .int .u8 0, .int .u8 0, .int .u8 0, .int .u8 0, .int .u8 0, .int .u8 2, .int .u8 9, .int .u8 0, .int .u8 0, .int .u8 0, .int .u8 0, .slice A 2 c], .int .i64 0] w fun e w' => ∃ A2 c2 hs2, e = .returned (.tuple #[.agg #[.int .i64 2, .int .i64 0, .int .u32 8, .int .i64 0, .int .i64 0, .int .u8 0, .int .u8 0, .int .u8 0, .int .u8 0, .int .u8 192, .int .u8 168, .int .u8 1, .int .u8 105, .int .u8 192, .int .u8 168, .int .u8 1, .int .u8 1, .int .u8 0, .int .u8 0, .int .u8 0, .int .u8 0, .int .u8 2, .int .u8 9, .int .u8 0, .int .u8 0, .int .u8 0, .int .u8 0, .slice A2 6 c2, .int .u8 2, .int .u8 9, .int .u8 0, .int .u8 0, .int .u8 0, .int .u8 0, .int .u8 192, .int .u8 168, .int .u8 1, .int .u8 105], .bool true]) ∧ Opv w' A2 6 c2 hs2 [(53, [5]), (54, (⟨192, 168, 1, 1⟩ : Ad4).l), (51, four 3600), (1, four 4294967040), (3, (⟨192, 168, 1, 1⟩ : Ad4).l), (6, (⟨192, 168, 1, 1⟩ : Ad4).l)] ∧ (∀ q, q < w.heap.size → Oa A2 6 hs2 q) ∧ Sv lo gs gp w' ⟨⟨192, 168, 1, 1⟩, 4294967040, 3600⟩ knS1 ∧ Kt [84, 101] w w' ∧ Below lo w w' := by
  have h_ := sget_opt_your (sa := Ad4.zero) (a := lA 105) (h := ⟨1, 0, 8, 0, 0, 0, 0, 0, 0, 0, 0, 0, 0, 0, 0, 0, 0, 0, 0, 0, 0, 2, 9, 0, 0, 0, 0⟩) w hT hO (by kernel_rfl) (by omega) (by omega) (by kernel_rfl) (by kernel_rfl) (by kernel_rfl) (by kernel_rfl) kn_1 (by kernel_rfl) (by kernel_rfl)
  exact h_
set_option maxRecDepth 100000 in
theorem lg_kn2 {lo gs gp : Nat} {A : Option Addr} {c : Nat} {hs : List Oh} (w : World) (hT : Sv lo gs gp w ⟨⟨192, 168, 1, 1⟩, 4294967040, 3600⟩ knS1) (hO : Opv w A 2 c hs [(53, [3]), (50, [192, 168, 1, 105])])  : Calls Try.prog 10 #[.pointer (some ⟨gs, 0, none⟩), .agg #[.int .i64 1, .int .i64 0, .int .u32 8, .int .i64 0, .int .i64 0, .int .u8 0, .int .u8 0, .int .u8 0, .int .u8 0, .int .u8 0, .int .u8 0, .int .u8 0, .int .u8 0, .int .u8 0, .int .u8 0, .int .u8 0, .int .u8 0, .int .u8 0, .int .u8 0, .int .u8 0, .int .u8 0, .int .u8 2, .int .u8 8, .int .u8 0, .int .u8 0, .int .u8 0, .int .u8 0, .slice A 2 c], .int .i64 0] w fun e w' => ∃ A2 c2 hs2, e = .returned (.tuple #[.agg #[.int .i64 2, .int .i64 0, .int .u32 8, .int .i64 0, .int .i64 0, .int .u8 0, .int .u8 0, .int .u8 0, .int .u8 0, .int .u8 0, .int .u8 0, .int .u8 0, .int .u8 0, .int .u8 192, .int .u8 168, .int .u8 1, .int .u8 1, .int .u8 0, .int .u8 0, .int .u8 0, .int .u8 0, .int .u8 2, .int .u8 8, .int .u8 0, .int .u8 0, .int .u8 0, .int .u8 0, .slice A2 2 c2, .int .u8 255, .int .u8 255, .int .u8 255, .int .u8 255, .int .u8 255, .int .u8 255, .int .u8 255, .int .u8 255, .int .u8 255, .int .u8 255], .bool true]) ∧ Opv w' A2 2 c2 hs2 [(53, [6]), (54, (⟨192, 168, 1, 1⟩ : Ad4).l)] ∧ (∀ q, q < w.heap.size → Oa A2 2 hs2 q) ∧ Sv lo gs gp w' ⟨⟨192, 168, 1, 1⟩, 4294967040, 3600⟩ knS2 ∧ Kt [84, 101] w w' ∧ Below lo w w' := by
  have h_ := sget_opt_nak (sa := Ad4.zero) (a := lA 105) (r := 8) (h := ⟨1, 0, 8, 0, 0, 0, 0, 0, 0, 0, 0, 0, 0, 0, 0, 0, 0, 0, 0, 0, 0, 2, 8, 0, 0, 0, 0⟩) w hT hO (by kernel_rfl) (by omega) (by omega) (by kernel_rfl) (by kernel_rfl) (by kernel_rfl) (by kernel_rfl) kn_2 (by kernel_rfl)
  exact h_
set_option maxRecDepth 100000 in
theorem lg_kn3 {lo gs gp : Nat} {A : Option Addr} {c : Nat} {hs : List Oh} (w : World) (hT : Sv lo gs gp w ⟨⟨192, 168, 1, 1⟩, 4294967040, 3600⟩ knS2) (hO : Opv w A 3 c hs [(53, [3]), (50, [192, 168, 1, 105]), (54, [1, 2, 3, 4])])  : Calls Try.prog 10 #[.pointer (some ⟨gs, 0, none⟩), .agg #[.int .i64 1, .int .i64 0, .int .u32 8, .int .i64 0, .int .i64 0, .int .u8 0, .int .u8 0, .int .u8 0, .int .u8 0, .int .u8 0, .int .u8 0, .int .u8 0, .int .u8 0, .int .u8 0, .int .u8 0, .int .u8 0, .int .u8 0, .int .u8 0, .int .u8 0, .int .u8 0, .int .u8 0, .int .u8 2, .int .u8 9, .int .u8 0, .int .u8 0, .int .u8 0, .int .u8 0, .slice A 3 c], .int .i64 0] w fun e w' => e = .returned (.tuple #[.agg #[.int .i64 0, .int .i64 0, .int .u32 0, .int .i64 0, .int .i64 0, .int .u8 0, .int .u8 0, .int .u8 0, .int .u8 0, .int .u8 0, .int .u8 0, .int .u8 0, .int .u8 0, .int .u8 0, .int .u8 0, .int .u8 0, .int .u8 0, .int .u8 0, .int .u8 0, .int .u8 0, .int .u8 0, .int .u8 0, .int .u8 0, .int .u8 0, .int .u8 0, .int .u8 0, .int .u8 0, .slice none 0 0, .int .u8 0, .int .u8 0, .int .u8 0, .int .u8 0, .int .u8 0, .int .u8 0, .int .u8 0, .int .u8 0, .int .u8 0, .int .u8 0], .bool false]) ∧ Sv lo gs gp w' ⟨⟨192, 168, 1, 1⟩, 4294967040, 3600⟩ knS2 ∧ Kt [84, 101] w w' ∧ Below lo w w' := by
  have h_ := sget_other (t := 0) (sa := ⟨1, 2, 3, 4⟩) (h := ⟨1, 0, 8, 0, 0, 0, 0, 0, 0, 0, 0, 0, 0, 0, 0, 0, 0, 0, 0, 0, 0, 2, 9, 0, 0, 0, 0⟩) w hT hO (by kernel_rfl) (by kernel_rfl) (by kernel_rfl) (by kernel_rfl)
  exact h_
set_option maxRecDepth 100000 in
theorem lg_kn4 {lo gs gp : Nat} {A : Option Addr} {c : Nat} (w : World) (hT : Sv lo gs gp w ⟨⟨192, 168, 1, 1⟩, 4294967040, 3600⟩ knS2)  : Calls Try.prog 10 #[.pointer (some ⟨gs, 0, none⟩), .agg #[.int .i64 2, .int .i64 0, .int .u32 7, .int .i64 0, .int .i64 0, .int .u8 0, .int .u8 0, .int .u8 0, .int .u8 0, .int .u8 0, .int .u8 0, .int .u8 0, .int .u8 0, .int .u8 0, .int .u8 0, .int .u8 0, .int .u8 0, .int .u8 0, .int .u8 0, .int .u8 0, .int .u8 0, .int .u8 2, .int .u8 9, .int .u8 0, .int .u8 0, .int .u8 0, .int .u8 0, .slice A 1 c], .int .i64 0] w fun e w' => e = .returned (.tuple #[.agg #[.int .i64 0, .int .i64 0, .int .u32 0, .int .i64 0, .int .i64 0, .int .u8 0, .int .u8 0, .int .u8 0, .int .u8 0, .int .u8 0, .int .u8 0, .int .u8 0, .int .u8 0, .int .u8 0, .int .u8 0, .int .u8 0, .int .u8 0, .int .u8 0, .int .u8 0, .int .u8 0, .int .u8 0, .int .u8 0, .int .u8 0, .int .u8 0, .int .u8 0, .int .u8 0, .int .u8 0, .slice none 0 0, .int .u8 0, .int .u8 0, .int .u8 0, .int .u8 0, .int .u8 0, .int .u8 0, .int .u8 0, .int .u8 0, .int .u8 0, .int .u8 0], .bool false]) ∧ Sv lo gs gp w' ⟨⟨192, 168, 1, 1⟩, 4294967040, 3600⟩ knS2 ∧ Kt [84, 101] w w' ∧ Below lo w w' := by
  have h_ := sget_op (A := A) (n := 1) (c := c) (t := 0) (h := ⟨2, 0, 7, 0, 0, 0, 0, 0, 0, 0, 0, 0, 0, 0, 0, 0, 0, 0, 0, 0, 0, 2, 9, 0, 0, 0, 0⟩) w hT (by kernel_rfl)
  exact h_
set_option maxRecDepth 100000 in
theorem lg_kn5 {lo gs gp : Nat} {A : Option Addr} {c : Nat} {hs : List Oh} (w : World) (hT : Sv lo gs gp w ⟨⟨192, 168, 1, 1⟩, 4294967040, 3600⟩ knS3) (hO : Opv w A 1 c hs [(53, [7])])  : Calls Try.prog 10 #[.pointer (some ⟨gs, 0, none⟩), .agg #[.int .i64 1, .int .i64 0, .int .u32 0, .int .i64 0, .int .i64 0, .int .u8 192, .int .u8 168, .int .u8 1, .int .u8 105, .int .u8 0, .int .u8 0, .int .u8 0, .int .u8 0, .int .u8 0, .int .u8 0, .int .u8 0, .int .u8 0, .int .u8 0, .int .u8 0, .int .u8 0, .int .u8 0, .int .u8 2, .int .u8 9, .int .u8 0, .int .u8 0, .int .u8 0, .int .u8 0, .slice A 1 c], .int .i64 0] w fun e w' => e = .returned (.tuple #[.agg #[.int .i64 0, .int .i64 0, .int .u32 0, .int .i64 0, .int .i64 0, .int .u8 0, .int .u8 0, .int .u8 0, .int .u8 0, .int .u8 0, .int .u8 0, .int .u8 0, .int .u8 0, .int .u8 0, .int .u8 0, .int .u8 0, .int .u8 0, .int .u8 0, .int .u8 0, .int .u8 0, .int .u8 0, .int .u8 0, .int .u8 0, .int .u8 0, .int .u8 0, .int .u8 0, .int .u8 0, .slice none 0 0, .int .u8 0, .int .u8 0, .int .u8 0, .int .u8 0, .int .u8 0, .int .u8 0, .int .u8 0, .int .u8 0, .int .u8 0, .int .u8 0], .bool false]) ∧ Sv lo gs gp w' ⟨⟨192, 168, 1, 1⟩, 4294967040, 3600⟩ knS4 ∧ Kt [84, 101] w w' ∧ Below lo w w' := by
  have h_ := sget_end (t := 0) (b := true) (h := ⟨1, 0, 0, 0, 0, 192, 168, 1, 105, 0, 0, 0, 0, 0, 0, 0, 0, 0, 0, 0, 0, 2, 9, 0, 0, 0, 0⟩) w hT hO (by kernel_rfl) (by kernel_rfl) kn_4
  exact h_
theorem lh_105 {lo gs gp : Nat} {s : St} {t : Int} {b : Bool} (w : World) (hT : Sv lo gs gp w ⟨⟨192, 168, 1, 1⟩, 4294967040, 3600⟩ s) (hb : (allO (s.adv t).now s.l).any (fun e => e.ad.eqB (lA 105)) = b) : Calls Try.prog 13 #[.pointer (some ⟨gs, 0, none⟩), .agg #[.int .u8 192, .int .u8 168, .int .u8 1, .int .u8 105], .int .i64 t] w fun e w' => e = .returned (.bool b) ∧ Sv lo gs gp w' ⟨⟨192, 168, 1, 1⟩, 4294967040, 3600⟩ (s.adv t) ∧ Kt [84, 101] w w' ∧ Below lo w w' := by
  have h_ := sholds_any (a := lA 105) w hT hb
  exact h_
set_option linter.unusedVariables false in
set_option linter.unusedSimpArgs false in
set_option maxRecDepth 100000 in
set_option maxHeartbeats 16000000 in
theorem serveKnown_walk (w : World) : Calls Try.prog 3 #[] w fun e w' => e = .returned (.bool true) ∧ Below w.heap.size w w' := by
  have e123 : ∀ W, (binOp .eql 28 (.agg #[.int .u8 255, .int .u8 255, .int .u8 255, .int .u8 255]) (.agg #[.int .u8 255, .int .u8 255, .int .u8 255, .int .u8 255])).run Try.prog W = .ok (.bool true) W := fun W => by kernel_rfl
  have e151 : ∀ W, (binOp .eql 32 (.agg #[.int .u8 2, .int .u8 9, .int .u8 0, .int .u8 0, .int .u8 0, .int .u8 0]) (.agg #[.int .u8 2, .int .u8 9, .int .u8 0, .int .u8 0, .int .u8 0, .int .u8 0])).run Try.prog W = .ok (.bool true) W := fun W => by kernel_rfl
  obtain ⟨io, hio, hio0, hio1, hio2⟩ := info_parts Try.info_opt
  have bel := Below.refl w.heap.size w
  go_enter Try.func3, Try.ntmps3
  go_wp2_with fail
  with_reducible refine (sawake_any _).mono ?_
  rintro e w1 ⟨rfl, b1⟩
  replace bel := bel.trans (b1.mono bel.size)
  clear b1
  go_wp2_with fail
  with_reducible refine (snew_zero _).mono ?_
  rintro e w2 ⟨rfl, b2⟩
  replace bel := bel.trans (b2.mono bel.size)
  clear b2
  go_wp2_with fail
  with_reducible refine (cusual_any _).mono ?_
  rintro e w3 ⟨rfl, b3⟩
  replace bel := bel.trans (b3.mono bel.size)
  clear b3
  go_wp2_with fail
  have HLO_ := bel.size
  with_reducible refine (snew_us _).mono ?_
  rintro e w4 ⟨gs, gp, rfl, hT, b4⟩
  replace bel := bel.trans (b4.mono bel.size)
  clear b4
  replace hT : Sv w.heap.size gs gp w4 ⟨⟨192, 168, 1, 1⟩, 4294967040, 3600⟩ uS0 := hT.lo_mono HLO_
  clear HLO_
  go_wp2_with (first | ((with_reducible show wpList _ _ _ (⟨some 5, _, _, _, _, _⟩ :: _) _ _); refine wpList_new_a rfl 32 rfl #[.int .u8 0, .int .u8 0, .int .u8 0, .int .u8 0, .int .u8 0, .int .u8 0] (by kernel_rfl) ?_; intro g5 w5 ge hh bb; have omb := Nat.le_trans bel.size ge; replace hT := hT.below bb; replace bel := bel.trans (bb.mono bel.size); have hmb := hh; clear hh ge bb) | ((with_reducible show wpList _ _ _ (⟨none, Op.store _ (.tmp 5) _, _, _, _, _⟩ :: _) _ _); refine wpList_store_blk rfl 32 (.tmp 5) (.tmp 33) rfl g5 rfl _ rfl _ 32 hmb (by rfl) (by kernel_rfl) (by kernel_rfl) ?_; intro w6 hq gr; replace hT := hT.grown gr hmb (by decide); replace bel := below_grown bel gr omb bel.size; clear hmb; have hmb := hq; clear hq gr; have R36 := Lib.hid (range_lit hmb 0 6 [.int .u8 2, .int .u8 9, .int .u8 0, .int .u8 0, .int .u8 0, .int .u8 0] rfl)) | ((with_reducible show wpList _ _ _ (⟨some 36, _, _, _, _, _⟩ :: _) _ _); refine wpList_load_rng 32 (.tmp 5) rfl (by kernel_rfl) _ _ rfl _ R36.out _ Try.underlying32 rfl (by kernel_rfl) ?_))
  try clear R36
  have sp_mb := hlt hmb
  have hwz := bel.size
  with_reducible refine (lwant_o (b0 := 192) (b1 := 168) (b2 := 1) (b3 := 105) _ rfl rfl rfl rfl).mono ?_
  rintro e w7 ⟨Awa, cwa, hwa, rfl, hO, fP, b7⟩
  replace hmb := blk_u hmb b7
  replace hT := hT.below b7
  replace bel := bel.trans (b7.mono bel.size)
  clear b7
  have fOa : ∀ q, q < w.heap.size → Oa Awa 2 hwa q := fun q_ hq_ => fP q_ (Nat.lt_of_lt_of_le hq_ hwz)
  clear hwz
  have oa_mb := fP _ sp_mb
  clear sp_mb
  clear fP
  go_wp2_with fail
  go_wp2_with fail
  have sp_mb := hlt hmb
  have hwz := bel.size
  with_reducible refine (lg_kn1 _ hT hO).mono ?_
  rintro e w8 ⟨A2a, c2a, hs2a, rfl, hPa, fP, hT_, k_, bb⟩
  replace hmb := Kt.blk k_ hmb (by decide)
  replace hO := hO.kt k_
  clear hT
  have hT := hT_
  replace bel := bel.trans bb
  clear bb k_ hT_
  have fAa : ∀ q, q < w.heap.size → Oa A2a 6 hs2a q := fun q_ hq_ => fP q_ (Nat.lt_of_lt_of_le hq_ hwz)
  clear hwz
  have oba_mb := fP _ sp_mb
  clear sp_mb
  clear fP
  clear hO
  go_wp2_with (first | ((with_reducible show wpList _ _ _ (⟨some 6, _, _, _, _, _⟩ :: _) _ _); refine wpList_new_a rfl 43 rfl #[.int .i64 0, .int .i64 0, .int .u32 0, .int .i64 0, .int .i64 0, .int .u8 0, .int .u8 0, .int .u8 0, .int .u8 0, .int .u8 0, .int .u8 0, .int .u8 0, .int .u8 0, .int .u8 0, .int .u8 0, .int .u8 0, .int .u8 0, .int .u8 0, .int .u8 0, .int .u8 0, .int .u8 0, .int .u8 0, .int .u8 0, .int .u8 0, .int .u8 0, .int .u8 0, .int .u8 0, .slice none 0 0, .int .u8 0, .int .u8 0, .int .u8 0, .int .u8 0, .int .u8 0, .int .u8 0, .int .u8 0, .int .u8 0, .int .u8 0, .int .u8 0] (by kernel_rfl) ?_; intro g6 w9 ge hh bb; have d_mb_ya := ne_new (hlt hmb) ge; have oya := Nat.le_trans bel.size ge; have oba_ya := hPa.oa ge; replace hmb := blk_u hmb bb; replace hT := hT.below bb; replace hPa := hPa.below bb; replace bel := bel.trans (bb.mono bel.size); have hya := hh; clear hh ge bb) | ((with_reducible show wpList _ _ _ (⟨none, Op.store _ (.tmp 6) _, _, _, _, _⟩ :: _) _ _); refine wpList_store_blk rfl 43 (.tmp 6) (.tmp 40) rfl g6 rfl _ rfl _ 43 hya (by rfl) (by kernel_rfl) (by kernel_rfl) ?_; intro w10 hq gr; replace hmb := blk_a hmb gr d_mb_ya; replace hT := hT.grown gr hya (by decide); replace hPa := hPa.away oba_ya gr; replace bel := below_grown bel gr oya bel.size; clear hya; have hya := hq; clear hq gr))
  have sp_mb := hlt hmb
  have sp_ya := hlt hya
  have hwz := bel.size
  with_reducible refine (lwant_o (b0 := 192) (b1 := 168) (b2 := 1) (b3 := 105) _ rfl rfl rfl rfl).mono ?_
  rintro e w11 ⟨Awb, cwb, hwb, rfl, hO, fP, b11⟩
  replace hmb := blk_u hmb b11
  replace hya := blk_u hya b11
  replace hT := hT.below b11
  replace hPa := hPa.below b11
  replace bel := bel.trans (b11.mono bel.size)
  clear b11
  have fOb : ∀ q, q < w.heap.size → Oa Awb 2 hwb q := fun q_ hq_ => fP q_ (Nat.lt_of_lt_of_le hq_ hwz)
  clear hwz
  have oa_mb := fP _ sp_mb
  have oa_ya := fP _ sp_ya
  clear sp_mb sp_ya
  clear fP
  go_wp2_with fail
  go_wp2_with fail
  have sp_mb := hlt hmb
  have sp_ya := hlt hya
  have hwz := bel.size
  with_reducible refine (lg_kn2 _ hT hO).mono ?_
  rintro e w12 ⟨A2b, c2b, hs2b, rfl, hPb, fP, hT_, k_, bb⟩
  replace hmb := Kt.blk k_ hmb (by decide)
  replace hya := Kt.blk k_ hya (by decide)
  replace hPa := hPa.kt k_
  replace hO := hO.kt k_
  clear hT
  have hT := hT_
  replace bel := bel.trans bb
  clear bb k_ hT_
  have fAb : ∀ q, q < w.heap.size → Oa A2b 2 hs2b q := fun q_ hq_ => fP q_ (Nat.lt_of_lt_of_le hq_ hwz)
  clear hwz
  have obb_mb := fP _ sp_mb
  have obb_ya := fP _ sp_ya
  clear sp_mb sp_ya
  clear fP
  clear hO
  go_wp2_with (first | ((with_reducible show wpList _ _ _ (⟨some 8, _, _, _, _, _⟩ :: _) _ _); refine wpList_new_a rfl 43 rfl #[.int .i64 0, .int .i64 0, .int .u32 0, .int .i64 0, .int .i64 0, .int .u8 0, .int .u8 0, .int .u8 0, .int .u8 0, .int .u8 0, .int .u8 0, .int .u8 0, .int .u8 0, .int .u8 0, .int .u8 0, .int .u8 0, .int .u8 0, .int .u8 0, .int .u8 0, .int .u8 0, .int .u8 0, .int .u8 0, .int .u8 0, .int .u8 0, .int .u8 0, .int .u8 0, .int .u8 0, .slice none 0 0, .int .u8 0, .int .u8 0, .int .u8 0, .int .u8 0, .int .u8 0, .int .u8 0, .int .u8 0, .int .u8 0, .int .u8 0, .int .u8 0] (by kernel_rfl) ?_; intro g8 w13 ge hh bb; have d_mb_yb := ne_new (hlt hmb) ge; have d_ya_yb := ne_new (hlt hya) ge; have oyb := Nat.le_trans bel.size ge; have oba_yb := hPa.oa ge; have obb_yb := hPb.oa ge; replace hmb := blk_u hmb bb; replace hya := blk_u hya bb; replace hT := hT.below bb; replace hPa := hPa.below bb; replace hPb := hPb.below bb; replace bel := bel.trans (bb.mono bel.size); have hyb := hh; clear hh ge bb) | ((with_reducible show wpList _ _ _ (⟨none, Op.store _ (.tmp 8) _, _, _, _, _⟩ :: _) _ _); refine wpList_store_blk rfl 43 (.tmp 8) (.tmp 48) rfl g8 rfl _ rfl _ 43 hyb (by rfl) (by kernel_rfl) (by kernel_rfl) ?_; intro w14 hq gr; replace hmb := blk_a hmb gr d_mb_yb; replace hya := blk_a hya gr d_ya_yb; replace hT := hT.grown gr hyb (by decide); replace hPa := hPa.away oba_yb gr; replace hPb := hPb.away obb_yb gr; replace bel := below_grown bel gr oyb bel.size; clear hyb; have hyb := hq; clear hq gr; have R50 := Lib.hid (range_lit hmb 0 6 [.int .u8 2, .int .u8 9, .int .u8 0, .int .u8 0, .int .u8 0, .int .u8 0] rfl)) | ((with_reducible show wpList _ _ _ (⟨some 50, _, _, _, _, _⟩ :: _) _ _); refine wpList_load_rng 32 (.tmp 5) rfl (by kernel_rfl) _ _ rfl _ R50.out _ Try.underlying32 rfl (by kernel_rfl) ?_))
  try clear R50
  have hwz := bel.size
  have sp_mb := hlt hmb
  have sp_ya := hlt hya
  have sp_yb := hlt hyb
  have hPa0_ := hPa
  have hPb0_ := hPb
  with_reducible refine (lwant_b _).mono ?_
  rintro e w15 ⟨g_vr, g_vk, g_vx, rfl, l0_, l1_, l2_, hvr, hvk, hvx, d_vk_vr, d_vx_vr, d_vx_vk, b15⟩
  replace hmb := blk_u hmb b15
  replace hya := blk_u hya b15
  replace hyb := blk_u hyb b15
  replace hT := hT.below b15
  replace hPa := hPa.below b15
  replace hPb := hPb.below b15
  replace bel := bel.trans (b15.mono bel.size)
  clear b15
  have d_mb_vr := ne_new sp_mb l0_
  have d_mb_vk := ne_new sp_mb l1_
  have d_mb_vx := ne_new sp_mb l2_
  have d_ya_vr := ne_new sp_ya l0_
  have d_ya_vk := ne_new sp_ya l1_
  have d_ya_vx := ne_new sp_ya l2_
  have d_yb_vr := ne_new sp_yb l0_
  have d_yb_vk := ne_new sp_yb l1_
  have d_yb_vx := ne_new sp_yb l2_
  have oba_vr := hPa0_.oa l0_
  have oba_vk := hPa0_.oa l1_
  have oba_vx := hPa0_.oa l2_
  have obb_vr := hPb0_.oa l0_
  have obb_vk := hPb0_.oa l1_
  have obb_vx := hPb0_.oa l2_
  have ovr := Nat.le_trans hwz l0_
  have ovk := Nat.le_trans hwz l1_
  have ovx := Nat.le_trans hwz l2_
  clear hwz l0_ l1_ l2_ sp_mb sp_ya sp_yb hPa0_ hPb0_
  go_wp2_with (first | ((with_reducible show wpList _ _ _ (⟨some 10, _, _, _, _, _⟩ :: _) _ _); refine wpList_new_a rfl 41 rfl #[.int .i64 0, .int .i64 0, .int .u32 0, .int .i64 0, .int .i64 0, .int .u8 0, .int .u8 0, .int .u8 0, .int .u8 0, .int .u8 0, .int .u8 0, .int .u8 0, .int .u8 0, .int .u8 0, .int .u8 0, .int .u8 0, .int .u8 0, .int .u8 0, .int .u8 0, .int .u8 0, .int .u8 0, .int .u8 0, .int .u8 0, .int .u8 0, .int .u8 0, .int .u8 0, .int .u8 0, .slice none 0 0] (by kernel_rfl) ?_; intro g10 w16 ge hh bb; have d_mb_xm := ne_new (hlt hmb) ge; have d_ya_xm := ne_new (hlt hya) ge; have d_yb_xm := ne_new (hlt hyb) ge; have d_vr_xm := ne_new (hlt hvr) ge; have d_vk_xm := ne_new (hlt hvk) ge; have d_vx_xm := ne_new (hlt hvx) ge; have oxm := Nat.le_trans bel.size ge; have oba_xm := hPa.oa ge; have obb_xm := hPb.oa ge; replace hmb := blk_u hmb bb; replace hya := blk_u hya bb; replace hyb := blk_u hyb bb; replace hvr := blk_u hvr bb; replace hvk := blk_u hvk bb; replace hvx := blk_u hvx bb; replace hT := hT.below bb; replace hPa := hPa.below bb; replace hPb := hPb.below bb; replace bel := bel.trans (bb.mono bel.size); have hxm := hh; clear hh ge bb) | ((with_reducible show wpList _ _ _ (⟨none, Op.store _ (.tmp 10) _, _, _, _, _⟩ :: _) _ _); refine wpList_store_blk rfl 41 (.tmp 10) (.tmp 52) rfl g10 rfl _ rfl _ 41 hxm (by rfl) (by kernel_rfl) (by kernel_rfl) ?_; intro w17 hq gr; replace hmb := blk_a hmb gr d_mb_xm; replace hya := blk_a hya gr d_ya_xm; replace hyb := blk_a hyb gr d_yb_xm; replace hvr := blk_a hvr gr d_vr_xm; replace hvk := blk_a hvk gr d_vk_xm; replace hvx := blk_a hvx gr d_vx_xm; replace hT := hT.grown gr hxm (by decide); replace hPa := hPa.away oba_xm gr; replace hPb := hPb.away obb_xm gr; replace bel := below_grown bel gr oxm bel.size; clear hxm; have hxm := hq; clear hq gr; have R54 := cell_lit hxm 27 _ rfl) | ((with_reducible show wpList _ _ _ (⟨some 55, _, _, _, _, _⟩ :: _) _ _); refine wpList_lit_n rfl 47 5 4 _ rfl #[.int .u8 1, .int .u8 2, .int .u8 3, .int .u8 4] (.int .u8 0) Try.underlying47 (by kernel_rfl) 1 (by kernel_rfl) (by decide) (by kernel_rfl) ?_; intro g55 w18 ge lt hh bb; have hl : w18.heap[g55]? = some (.cells (([1, 2, 3, 4] : List UInt8).map u8v).toArray 5 (0, 0)) := (by simpa [u8v, byteOf_val] using hh); have s4w := own_lit (B := w17.heap.size) ([1, 2, 3, 4]) hl ge 4 rfl (by simp [maxLen]); have s4 := (own_sl s4w).1; have s4lo := bel.size; clear hl; have s4ge := ge; have lz_s4 := bb.size; have y_s4_mb := Lib.hid (hlt hmb); have y_s4_ya := Lib.hid (hlt hya); have y_s4_yb := Lib.hid (hlt hyb); have y_s4_vr := Lib.hid (hlt hvr); have y_s4_vk := Lib.hid (hlt hvk); have y_s4_vx := Lib.hid (hlt hvx); have y_s4_xm := Lib.hid (hlt hxm); have d_mb_b4 := ne_new (hlt hmb) ge; have d_ya_b4 := ne_new (hlt hya) ge; have d_yb_b4 := ne_new (hlt hyb) ge; have d_vr_b4 := ne_new (hlt hvr) ge; have d_vk_b4 := ne_new (hlt hvk) ge; have d_vx_b4 := ne_new (hlt hvx) ge; have d_xm_b4 := ne_new (hlt hxm) ge; have ob4 := Nat.le_trans bel.size ge; have oba_b4 := hPa.oa ge; have obb_b4 := hPb.oa ge; replace hmb := blk_u hmb bb; replace hya := blk_u hya bb; replace hyb := blk_u hyb bb; replace hvr := blk_u hvr bb; replace hvk := blk_u hvk bb; replace hvx := blk_u hvx bb; replace hxm := blk_u hxm bb; replace hT := hT.below bb; replace hPa := hPa.below bb; replace hPb := hPb.below bb; replace bel := bel.trans (bb.mono bel.size); have hb4 := hh; clear hh lt ge bb; have av_s4_mb := (own_sl s4w).2.av y_s4_mb.out; have av_s4_ya := (own_sl s4w).2.av y_s4_ya.out; have av_s4_yb := (own_sl s4w).2.av y_s4_yb.out; have av_s4_vr := (own_sl s4w).2.av y_s4_vr.out; have av_s4_vk := (own_sl s4w).2.av y_s4_vk.out; have av_s4_vx := (own_sl s4w).2.av y_s4_vx.out; have av_s4_xm := (own_sl s4w).2.av y_s4_xm.out) | ((with_reducible show wpList _ _ _ (⟨some 57, _, _, _, _, _⟩ :: _) _ _); refine wpList_lit_n rfl 39 49 1 _ rfl #[.int .i64 54, .slice (some ⟨g55, 0, none⟩) 4 4] (.agg #[.int .i64 0, .slice none 0 0]) Try.underlying39 (by kernel_rfl) 2 (by kernel_rfl) (by decide) (by kernel_rfl) ?_; intro g57 w19 ge lt hh bb; have d_mb_b57 := ne_new (hlt hmb) ge; have d_ya_b57 := ne_new (hlt hya) ge; have d_yb_b57 := ne_new (hlt hyb) ge; have d_vr_b57 := ne_new (hlt hvr) ge; have d_vk_b57 := ne_new (hlt hvk) ge; have d_vx_b57 := ne_new (hlt hvx) ge; have d_xm_b57 := ne_new (hlt hxm) ge; have d_b4_b57 := ne_new (hlt hb4) ge; have av_s4_b57 := s4.av_new ge; have of_s4_b57 := own_new s4w ge; have ob57 := Nat.le_trans bel.size ge; have oba_b57 := hPa.oa ge; have obb_b57 := hPb.oa ge; replace hmb := blk_u hmb bb; replace hya := blk_u hya bb; replace hyb := blk_u hyb bb; replace hvr := blk_u hvr bb; replace hvk := blk_u hvk bb; replace hvx := blk_u hvx bb; replace hxm := blk_u hxm bb; replace hb4 := blk_u hb4 bb; replace s4 := s4.below bb; replace s4w := own_under s4w bb; replace lz_s4 := Nat.le_trans lz_s4 bb.size; replace hT := hT.below bb; replace hPa := hPa.below bb; replace hPb := hPb.below bb; replace bel := bel.trans (bb.mono bel.size); have hb57 := hh; clear hh lt ge bb; have li : Sle opE 2 w19 (some ⟨g57, 0, none⟩) (1) (1) ([Oh.mk 54 (some ⟨g55, 0, none⟩) 4 4]) := sle_lit ([Oh.mk 54 (some ⟨g55, 0, none⟩) 4 4]) (by decide) opE_len hb57 rfl (by simp [maxLen]); have ofx_mb : Ofs (.slice (some ⟨g_vr, 0, none⟩) 2 2) g5 := ne_off (Ne.symm (d_mb_vr).out); have ofx_ya : Ofs (.slice (some ⟨g_vr, 0, none⟩) 2 2) g6 := ne_off (Ne.symm (d_ya_vr).out); have ofx_yb : Ofs (.slice (some ⟨g_vr, 0, none⟩) 2 2) g8 := ne_off (Ne.symm (d_yb_vr).out); have ofx_vk : Ofs (.slice (some ⟨g_vr, 0, none⟩) 2 2) g_vk := ne_off (Ne.symm (d_vk_vr).out); have ofx_vx : Ofs (.slice (some ⟨g_vr, 0, none⟩) 2 2) g_vx := ne_off (Ne.symm (d_vx_vr).out); have ofx_xm : Ofs (.slice (some ⟨g_vr, 0, none⟩) 2 2) g10 := ne_off (Ne.symm ((ne_symm d_vr_xm)).out); have ofx_b4 : Ofs (.slice (some ⟨g_vr, 0, none⟩) 2 2) g55 := ne_off (Ne.symm ((ne_symm d_vr_b4)).out); have ofx_b57 : Ofs (.slice (some ⟨g_vr, 0, none⟩) 2 2) g57 := ne_off (Ne.symm ((ne_symm d_vr_b57)).out); have xow := owk_lit (B := w.heap.size) ([Oh.mk 53 (some ⟨g_vk, 0, none⟩) 1 1, Oh.mk 50 (some ⟨g_vx, 0, none⟩) 4 4] : List Oh) opE_len (show w19.heap[g_vr]? = some (Obj.cells (([Oh.mk 53 (some ⟨g_vk, 0, none⟩) 1 1, Oh.mk 50 (some ⟨g_vx, 0, none⟩) 4 4] : List Oh).flatMap opE).toArray 49 (0, 0)) from hvr) ovr 2 rfl (by simp [maxLen]); have xo := (owk_sle (by decide) opE_len xow).1; have xolo := Nat.le_refl w.heap.size; have lz_xo := bel.size) | ((with_reducible show wpList _ _ _ (⟨some 58, _, _, _, _, _⟩ :: _) _ _); refine wpList_append_sle rfl (.tmp 54) (.tmp 57) 39 rfl (w.heap.size) 49 io (.agg #[.int .i64 0, .slice none 0 0]) 32 Try.underlying39 hio hio0 hio1 hio2 rfl opE_one _ (2) ([Oh.mk 53 (some ⟨g_vk, 0, none⟩) 1 1, Oh.mk 50 (some ⟨g_vx, 0, none⟩) 4 4]) rfl xow (some ⟨g57, 0, none⟩) (1) (1) ([Oh.mk 54 (some ⟨g55, 0, none⟩) 4 4]) rfl li (by unfold maxLen; omega) (by omega) lz_xo ?_; intro v58 w20 own_ bb gw ofw; have of58_mb := ofw _ (hlt hmb) ofx_mb; have of58_ya := ofw _ (hlt hya) ofx_ya; have of58_yb := ofw _ (hlt hyb) ofx_yb; have of58_vk := ofw _ (hlt hvk) ofx_vk; have of58_vx := ofw _ (hlt hvx) ofx_vx; have of58_xm := ofw _ (hlt hxm) ofx_xm; have of58_b4 := ofw _ (hlt hb4) ofx_b4; have of58_b57 := ofw _ (hlt hb57) ofx_b57; clear ofw; replace hT := hT.grown gw hvr (by decide); replace hPa := hPa.away oba_vr gw; replace hPb := hPb.away obb_vr gw; clear s4 s4w lz_s4; replace li := Sle.off li ofx_b57 gw; replace hmb := blk_own hmb gw ofx_mb; replace hya := blk_own hya gw ofx_ya; replace hyb := blk_own hyb gw ofx_yb; clear hvr; replace hvk := blk_own hvk gw ofx_vk; replace hvx := blk_own hvx gw ofx_vx; replace hxm := blk_own hxm gw ofx_xm; replace hb4 := blk_own hb4 gw ofx_b4; replace hb57 := blk_own hb57 gw ofx_b57; clear gw; replace bel := bel.trans (bb.mono xolo); have lz_xr := Nat.le_trans lz_xo bb.size; clear bb; clear xo xow lz_xo; replace own_ : w20.ownsRow (w.heap.size) 49 2 v58 (3) (([Oh.mk 53 (some ⟨g_vk, 0, none⟩) 1 1, Oh.mk 50 (some ⟨g_vx, 0, none⟩) 4 4] ++ [Oh.mk 54 (some ⟨g55, 0, none⟩) 4 4] : List Oh).flatMap opE) := own_; obtain ⟨A58, c58, rfl⟩ := owk_val own_; have xrw := own_; have xr := (owk_sle (by decide) opE_len own_).1; have fr_xr := (owk_sle (by decide) opE_len own_).2; clear own_; have av_xr_mb := owk_av xrw of58_mb; have av_xr_ya := owk_av xrw of58_ya; have av_xr_yb := owk_av xrw of58_yb; have av_xr_vk := owk_av xrw of58_vk; have av_xr_vx := owk_av xrw of58_vx; have av_xr_xm := owk_av xrw of58_xm; have av_xr_b4 := owk_av xrw of58_b4; have av_xr_b57 := owk_av xrw of58_b57) | ((with_reducible show wpList _ _ _ (⟨none, Op.store _ (.tmp 59) _, _, _, _, _⟩ :: _) _ _); refine wpList_store_part rfl 39 (.tmp 59) (.tmp 58) rfl g10 27 rfl [.slice A58 3 c58] rfl [.int .i64 1, .int .i64 0, .int .u32 8, .int .i64 0, .int .i64 0, .int .u8 0, .int .u8 0, .int .u8 0, .int .u8 0, .int .u8 0, .int .u8 0, .int .u8 0, .int .u8 0, .int .u8 0, .int .u8 0, .int .u8 0, .int .u8 0, .int .u8 0, .int .u8 0, .int .u8 0, .int .u8 0, .int .u8 2, .int .u8 9, .int .u8 0, .int .u8 0, .int .u8 0, .int .u8 0, .slice (some ⟨g_vr, 0, none⟩) 2 2] 41 hxm (by simp) [.int .i64 1, .int .i64 0, .int .u32 8, .int .i64 0, .int .i64 0, .int .u8 0, .int .u8 0, .int .u8 0, .int .u8 0, .int .u8 0, .int .u8 0, .int .u8 0, .int .u8 0, .int .u8 0, .int .u8 0, .int .u8 0, .int .u8 0, .int .u8 0, .int .u8 0, .int .u8 0, .int .u8 0, .int .u8 2, .int .u8 9, .int .u8 0, .int .u8 0, .int .u8 0, .int .u8 0, .slice A58 3 c58] rfl (by kernel_rfl) (by rfl) ?_; intro w21 hq gr; clear li; replace xr := xr.away av_xr_xm gr; replace xrw := owk_off xrw of58_xm gr; replace lz_xr := Nat.le_trans lz_xr gr.size; replace hmb := blk_a hmb gr d_mb_xm; replace hya := blk_a hya gr d_ya_xm; replace hyb := blk_a hyb gr d_yb_xm; replace hvk := blk_a hvk gr d_vk_xm; replace hvx := blk_a hvx gr d_vx_xm; replace hb4 := blk_a hb4 gr (ne_symm d_xm_b4); replace hb57 := blk_a hb57 gr (ne_symm d_xm_b57); replace hT := hT.grown gr hxm (by decide); replace hPa := hPa.away oba_xm gr; replace hPb := hPb.away obb_xm gr; replace bel := below_grown bel gr oxm bel.size; clear hxm; have hxm := hq; clear hq gr; have R62 := Lib.hid (range_lit hxm 0 28 [.int .i64 1, .int .i64 0, .int .u32 8, .int .i64 0, .int .i64 0, .int .u8 0, .int .u8 0, .int .u8 0, .int .u8 0, .int .u8 0, .int .u8 0, .int .u8 0, .int .u8 0, .int .u8 0, .int .u8 0, .int .u8 0, .int .u8 0, .int .u8 0, .int .u8 0, .int .u8 0, .int .u8 0, .int .u8 2, .int .u8 9, .int .u8 0, .int .u8 0, .int .u8 0, .int .u8 0, .slice A58 3 c58] rfl)) | ((with_reducible show wpList _ _ _ (⟨some 62, _, _, _, _, _⟩ :: _) _ _); refine wpList_load_rng 41 (.tmp 10) rfl (by kernel_rfl) _ _ rfl _ R62.out _ Try.underlying41 rfl (by kernel_rfl) ?_))
  try clear R54
  try clear R62
  have hO : Opv w21 A58 3 c58 ([Oh.mk 53 (some ⟨g_vk, 0, none⟩) 1 1, Oh.mk 50 (some ⟨g_vx, 0, none⟩) 4 4] ++ [Oh.mk 54 (some ⟨g55, 0, none⟩) 4 4]) [(53, [3]), (50, [192, 168, 1, 105]), (54, [1, 2, 3, 4])] := ⟨xr, Nt.row xrw (by decide), Nat.le_of_ble_eq_true rfl, ob_one (x := 3) 53 hvk rfl (by decide), ob_four (x0 := 192) (x1 := 168) (x2 := 1) (x3 := 105) 50 hvx rfl rfl rfl rfl (by decide), ob_four (x0 := 1) (x1 := 2) (x2 := 3) (x3 := 4) 54 hb4 rfl rfl rfl rfl (by decide), trivial⟩
  go_wp2_with fail
  with_reducible refine (lg_kn3 _ hT hO).mono ?_
  rintro e w22 ⟨rfl, hT_, k_, bb⟩
  replace hmb := Kt.blk k_ hmb (by decide)
  replace hya := Kt.blk k_ hya (by decide)
  replace hyb := Kt.blk k_ hyb (by decide)
  replace hvk := Kt.blk k_ hvk (by decide)
  replace hvx := Kt.blk k_ hvx (by decide)
  replace hxm := Kt.blk k_ hxm (by decide)
  replace hb4 := Kt.blk k_ hb4 (by decide)
  replace hb57 := Kt.blk k_ hb57 (by decide)
  clear xr xrw lz_xr
  replace hPa := hPa.kt k_
  replace hPb := hPb.kt k_
  clear hT
  have hT := hT_
  replace bel := bel.trans bb
  clear bb k_ hT_
  clear hO
  go_wp2_with (first | ((with_reducible show wpList _ _ _ (⟨some 11, _, _, _, _, _⟩ :: _) _ _); refine wpList_new_a rfl 43 rfl #[.int .i64 0, .int .i64 0, .int .u32 0, .int .i64 0, .int .i64 0, .int .u8 0, .int .u8 0, .int .u8 0, .int .u8 0, .int .u8 0, .int .u8 0, .int .u8 0, .int .u8 0, .int .u8 0, .int .u8 0, .int .u8 0, .int .u8 0, .int .u8 0, .int .u8 0, .int .u8 0, .int .u8 0, .int .u8 0, .int .u8 0, .int .u8 0, .int .u8 0, .int .u8 0, .int .u8 0, .slice none 0 0, .int .u8 0, .int .u8 0, .int .u8 0, .int .u8 0, .int .u8 0, .int .u8 0, .int .u8 0, .int .u8 0, .int .u8 0, .int .u8 0] (by kernel_rfl) ?_; intro g11 w23 ge hh bb; have d_mb_yc := ne_new (hlt hmb) ge; have d_ya_yc := ne_new (hlt hya) ge; have d_yb_yc := ne_new (hlt hyb) ge; have d_vk_yc := ne_new (hlt hvk) ge; have d_vx_yc := ne_new (hlt hvx) ge; have d_xm_yc := ne_new (hlt hxm) ge; have d_b4_yc := ne_new (hlt hb4) ge; have d_b57_yc := ne_new (hlt hb57) ge; have oyc := Nat.le_trans bel.size ge; have oba_yc := hPa.oa ge; have obb_yc := hPb.oa ge; replace hmb := blk_u hmb bb; replace hya := blk_u hya bb; replace hyb := blk_u hyb bb; replace hvk := blk_u hvk bb; replace hvx := blk_u hvx bb; replace hxm := blk_u hxm bb; replace hb4 := blk_u hb4 bb; replace hb57 := blk_u hb57 bb; replace hT := hT.below bb; replace hPa := hPa.below bb; replace hPb := hPb.below bb; replace bel := bel.trans (bb.mono bel.size); have hyc := hh; clear hh ge bb) | ((with_reducible show wpList _ _ _ (⟨none, Op.store _ (.tmp 11) _, _, _, _, _⟩ :: _) _ _); refine wpList_store_blk rfl 43 (.tmp 11) (.tmp 64) rfl g11 rfl _ rfl _ 43 hyc (by rfl) (by kernel_rfl) (by kernel_rfl) ?_; intro w24 hq gr; replace hmb := blk_a hmb gr d_mb_yc; replace hya := blk_a hya gr d_ya_yc; replace hyb := blk_a hyb gr d_yb_yc; replace hvk := blk_a hvk gr d_vk_yc; replace hvx := blk_a hvx gr d_vx_yc; replace hxm := blk_a hxm gr d_xm_yc; replace hb4 := blk_a hb4 gr d_b4_yc; replace hb57 := blk_a hb57 gr d_b57_yc; replace hT := hT.grown gr hyc (by decide); replace hPa := hPa.away oba_yc gr; replace hPb := hPb.away obb_yc gr; replace bel := below_grown bel gr oyc bel.size; clear hyc; have hyc := hq; clear hq gr; have R66 := Lib.hid (range_lit hmb 0 6 [.int .u8 2, .int .u8 9, .int .u8 0, .int .u8 0, .int .u8 0, .int .u8 0] rfl)) | ((with_reducible show wpList _ _ _ (⟨some 66, _, _, _, _, _⟩ :: _) _ _); refine wpList_load_rng 32 (.tmp 5) rfl (by kernel_rfl) _ _ rfl _ R66.out _ Try.underlying32 rfl (by kernel_rfl) ?_))
  try clear R66
  have sp_mb := hlt hmb
  have sp_ya := hlt hya
  have sp_yb := hlt hyb
  have sp_vk := hlt hvk
  have sp_vx := hlt hvx
  have sp_xm := hlt hxm
  have sp_b4 := hlt hb4
  have sp_b57 := hlt hb57
  have sp_yc := hlt hyc
  have hwz := bel.size
  with_reducible refine (ldisc_o _).mono ?_
  rintro e w25 ⟨Awy, cwy, hwy, rfl, hO, fP, b25⟩
  replace hmb := blk_u hmb b25
  replace hya := blk_u hya b25
  replace hyb := blk_u hyb b25
  replace hvk := blk_u hvk b25
  replace hvx := blk_u hvx b25
  replace hxm := blk_u hxm b25
  replace hb4 := blk_u hb4 b25
  replace hb57 := blk_u hb57 b25
  replace hyc := blk_u hyc b25
  replace hT := hT.below b25
  replace hPa := hPa.below b25
  replace hPb := hPb.below b25
  replace bel := bel.trans (b25.mono bel.size)
  clear b25
  have fOy : ∀ q, q < w.heap.size → Oa Awy 1 hwy q := fun q_ hq_ => fP q_ (Nat.lt_of_lt_of_le hq_ hwz)
  clear hwz
  have oa_mb := fP _ sp_mb
  have oa_ya := fP _ sp_ya
  have oa_yb := fP _ sp_yb
  have oa_vk := fP _ sp_vk
  have oa_vx := fP _ sp_vx
  have oa_xm := fP _ sp_xm
  have oa_b4 := fP _ sp_b4
  have oa_b57 := fP _ sp_b57
  have oa_yc := fP _ sp_yc
  clear sp_mb sp_ya sp_yb sp_vk sp_vx sp_xm sp_b4 sp_b57 sp_yc
  clear fP
  clear hO
  go_wp2_with (first | ((with_reducible show wpList _ _ _ (⟨some 13, _, _, _, _, _⟩ :: _) _ _); refine wpList_new_a rfl 41 rfl #[.int .i64 0, .int .i64 0, .int .u32 0, .int .i64 0, .int .i64 0, .int .u8 0, .int .u8 0, .int .u8 0, .int .u8 0, .int .u8 0, .int .u8 0, .int .u8 0, .int .u8 0, .int .u8 0, .int .u8 0, .int .u8 0, .int .u8 0, .int .u8 0, .int .u8 0, .int .u8 0, .int .u8 0, .int .u8 0, .int .u8 0, .int .u8 0, .int .u8 0, .int .u8 0, .int .u8 0, .slice none 0 0] (by kernel_rfl) ?_; intro g13 w26 ge hh bb; have d_mb_ym := ne_new (hlt hmb) ge; have d_ya_ym := ne_new (hlt hya) ge; have d_yb_ym := ne_new (hlt hyb) ge; have d_vk_ym := ne_new (hlt hvk) ge; have d_vx_ym := ne_new (hlt hvx) ge; have d_xm_ym := ne_new (hlt hxm) ge; have d_b4_ym := ne_new (hlt hb4) ge; have d_b57_ym := ne_new (hlt hb57) ge; have d_yc_ym := ne_new (hlt hyc) ge; have oym := Nat.le_trans bel.size ge; have oba_ym := hPa.oa ge; have obb_ym := hPb.oa ge; replace hmb := blk_u hmb bb; replace hya := blk_u hya bb; replace hyb := blk_u hyb bb; replace hvk := blk_u hvk bb; replace hvx := blk_u hvx bb; replace hxm := blk_u hxm bb; replace hb4 := blk_u hb4 bb; replace hb57 := blk_u hb57 bb; replace hyc := blk_u hyc bb; replace hT := hT.below bb; replace hPa := hPa.below bb; replace hPb := hPb.below bb; replace bel := bel.trans (bb.mono bel.size); have hym := hh; clear hh ge bb) | ((with_reducible show wpList _ _ _ (⟨none, Op.store _ (.tmp 13) _, _, _, _, _⟩ :: _) _ _); refine wpList_store_blk rfl 41 (.tmp 13) (.tmp 67) rfl g13 rfl _ rfl _ 41 hym (by rfl) (by kernel_rfl) (by kernel_rfl) ?_; intro w27 hq gr; replace hmb := blk_a hmb gr d_mb_ym; replace hya := blk_a hya gr d_ya_ym; replace hyb := blk_a hyb gr d_yb_ym; replace hvk := blk_a hvk gr d_vk_ym; replace hvx := blk_a hvx gr d_vx_ym; replace hxm := blk_a hxm gr d_xm_ym; replace hb4 := blk_a hb4 gr d_b4_ym; replace hb57 := blk_a hb57 gr d_b57_ym; replace hyc := blk_a hyc gr d_yc_ym; replace hT := hT.grown gr hym (by decide); replace hPa := hPa.away oba_ym gr; replace hPb := hPb.away obb_ym gr; replace bel := below_grown bel gr oym bel.size; clear hym; have hym := hq; clear hq gr) | ((with_reducible show wpList _ _ _ (⟨none, Op.store _ (.tmp 68) _, _, _, _, _⟩ :: _) _ _); refine wpList_store_part rfl 3 (.tmp 68) (.const (.int .i64 2)) rfl g13 0 rfl [.int .i64 2] rfl [.int .i64 1, .int .i64 0, .int .u32 7, .int .i64 0, .int .i64 0, .int .u8 0, .int .u8 0, .int .u8 0, .int .u8 0, .int .u8 0, .int .u8 0, .int .u8 0, .int .u8 0, .int .u8 0, .int .u8 0, .int .u8 0, .int .u8 0, .int .u8 0, .int .u8 0, .int .u8 0, .int .u8 0, .int .u8 2, .int .u8 9, .int .u8 0, .int .u8 0, .int .u8 0, .int .u8 0, .slice Awy 1 cwy] 41 hym (by simp) [.int .i64 2, .int .i64 0, .int .u32 7, .int .i64 0, .int .i64 0, .int .u8 0, .int .u8 0, .int .u8 0, .int .u8 0, .int .u8 0, .int .u8 0, .int .u8 0, .int .u8 0, .int .u8 0, .int .u8 0, .int .u8 0, .int .u8 0, .int .u8 0, .int .u8 0, .int .u8 0, .int .u8 0, .int .u8 2, .int .u8 9, .int .u8 0, .int .u8 0, .int .u8 0, .int .u8 0, .slice Awy 1 cwy] rfl (by kernel_rfl) (by rfl) ?_; intro w28 hq gr; replace hmb := blk_a hmb gr d_mb_ym; replace hya := blk_a hya gr d_ya_ym; replace hyb := blk_a hyb gr d_yb_ym; replace hvk := blk_a hvk gr d_vk_ym; replace hvx := blk_a hvx gr d_vx_ym; replace hxm := blk_a hxm gr d_xm_ym; replace hb4 := blk_a hb4 gr d_b4_ym; replace hb57 := blk_a hb57 gr d_b57_ym; replace hyc := blk_a hyc gr d_yc_ym; replace hT := hT.grown gr hym (by decide); replace hPa := hPa.away oba_ym gr; replace hPb := hPb.away obb_ym gr; replace bel := below_grown bel gr oym bel.size; clear hym; have hym := hq; clear hq gr; have R71 := Lib.hid (range_lit hym 0 28 [.int .i64 2, .int .i64 0, .int .u32 7, .int .i64 0, .int .i64 0, .int .u8 0, .int .u8 0, .int .u8 0, .int .u8 0, .int .u8 0, .int .u8 0, .int .u8 0, .int .u8 0, .int .u8 0, .int .u8 0, .int .u8 0, .int .u8 0, .int .u8 0, .int .u8 0, .int .u8 0, .int .u8 0, .int .u8 2, .int .u8 9, .int .u8 0, .int .u8 0, .int .u8 0, .int .u8 0, .slice Awy 1 cwy] rfl)) | ((with_reducible show wpList _ _ _ (⟨some 71, _, _, _, _, _⟩ :: _) _ _); refine wpList_load_rng 41 (.tmp 13) rfl (by kernel_rfl) _ _ rfl _ R71.out _ Try.underlying41 rfl (by kernel_rfl) ?_))
  try clear R71
  go_wp2_with fail
  with_reducible refine (lg_kn4 _ hT).mono ?_
  rintro e w29 ⟨rfl, hT_, k_, bb⟩
  replace hmb := Kt.blk k_ hmb (by decide)
  replace hya := Kt.blk k_ hya (by decide)
  replace hyb := Kt.blk k_ hyb (by decide)
  replace hvk := Kt.blk k_ hvk (by decide)
  replace hvx := Kt.blk k_ hvx (by decide)
  replace hxm := Kt.blk k_ hxm (by decide)
  replace hb4 := Kt.blk k_ hb4 (by decide)
  replace hb57 := Kt.blk k_ hb57 (by decide)
  replace hyc := Kt.blk k_ hyc (by decide)
  replace hym := Kt.blk k_ hym (by decide)
  replace hPa := hPa.kt k_
  replace hPb := hPb.kt k_
  clear hT
  have hT := hT_
  replace bel := bel.trans bb
  clear bb k_ hT_
  go_wp2_with (first | ((with_reducible show wpList _ _ _ (⟨some 14, _, _, _, _, _⟩ :: _) _ _); refine wpList_new_a rfl 43 rfl #[.int .i64 0, .int .i64 0, .int .u32 0, .int .i64 0, .int .i64 0, .int .u8 0, .int .u8 0, .int .u8 0, .int .u8 0, .int .u8 0, .int .u8 0, .int .u8 0, .int .u8 0, .int .u8 0, .int .u8 0, .int .u8 0, .int .u8 0, .int .u8 0, .int .u8 0, .int .u8 0, .int .u8 0, .int .u8 0, .int .u8 0, .int .u8 0, .int .u8 0, .int .u8 0, .int .u8 0, .slice none 0 0, .int .u8 0, .int .u8 0, .int .u8 0, .int .u8 0, .int .u8 0, .int .u8 0, .int .u8 0, .int .u8 0, .int .u8 0, .int .u8 0] (by kernel_rfl) ?_; intro g14 w30 ge hh bb; have d_mb_yd := ne_new (hlt hmb) ge; have d_ya_yd := ne_new (hlt hya) ge; have d_yb_yd := ne_new (hlt hyb) ge; have d_vk_yd := ne_new (hlt hvk) ge; have d_vx_yd := ne_new (hlt hvx) ge; have d_xm_yd := ne_new (hlt hxm) ge; have d_b4_yd := ne_new (hlt hb4) ge; have d_b57_yd := ne_new (hlt hb57) ge; have d_yc_yd := ne_new (hlt hyc) ge; have d_ym_yd := ne_new (hlt hym) ge; have oyd := Nat.le_trans bel.size ge; have oba_yd := hPa.oa ge; have obb_yd := hPb.oa ge; replace hmb := blk_u hmb bb; replace hya := blk_u hya bb; replace hyb := blk_u hyb bb; replace hvk := blk_u hvk bb; replace hvx := blk_u hvx bb; replace hxm := blk_u hxm bb; replace hb4 := blk_u hb4 bb; replace hb57 := blk_u hb57 bb; replace hyc := blk_u hyc bb; replace hym := blk_u hym bb; replace hT := hT.below bb; replace hPa := hPa.below bb; replace hPb := hPb.below bb; replace bel := bel.trans (bb.mono bel.size); have hyd := hh; clear hh ge bb) | ((with_reducible show wpList _ _ _ (⟨none, Op.store _ (.tmp 14) _, _, _, _, _⟩ :: _) _ _); refine wpList_store_blk rfl 43 (.tmp 14) (.tmp 73) rfl g14 rfl _ rfl _ 43 hyd (by rfl) (by kernel_rfl) (by kernel_rfl) ?_; intro w31 hq gr; replace hmb := blk_a hmb gr d_mb_yd; replace hya := blk_a hya gr d_ya_yd; replace hyb := blk_a hyb gr d_yb_yd; replace hvk := blk_a hvk gr d_vk_yd; replace hvx := blk_a hvx gr d_vx_yd; replace hxm := blk_a hxm gr d_xm_yd; replace hb4 := blk_a hb4 gr d_b4_yd; replace hb57 := blk_a hb57 gr d_b57_yd; replace hyc := blk_a hyc gr d_yc_yd; replace hym := blk_a hym gr d_ym_yd; replace hT := hT.grown gr hyd (by decide); replace hPa := hPa.away oba_yd gr; replace hPb := hPb.away obb_yd gr; replace bel := below_grown bel gr oyd bel.size; clear hyd; have hyd := hq; clear hq gr))
  go_wp2_with fail
  with_reducible refine (lh_105 _ hT kn_3).mono ?_
  rintro e w32 ⟨rfl, hT_, k_, bb⟩
  replace hmb := Kt.blk k_ hmb (by decide)
  replace hya := Kt.blk k_ hya (by decide)
  replace hyb := Kt.blk k_ hyb (by decide)
  replace hvk := Kt.blk k_ hvk (by decide)
  replace hvx := Kt.blk k_ hvx (by decide)
  replace hxm := Kt.blk k_ hxm (by decide)
  replace hb4 := Kt.blk k_ hb4 (by decide)
  replace hb57 := Kt.blk k_ hb57 (by decide)
  replace hyc := Kt.blk k_ hyc (by decide)
  replace hym := Kt.blk k_ hym (by decide)
  replace hyd := Kt.blk k_ hyd (by decide)
  replace hPa := hPa.kt k_
  replace hPb := hPb.kt k_
  clear hT
  have hT := hT_
  replace bel := bel.trans bb
  clear bb k_ hT_
  replace hT : Sv w.heap.size gs gp w32 ⟨⟨192, 168, 1, 1⟩, 4294967040, 3600⟩ knS3 := hT
  have R78 := Lib.hid (range_lit hmb 0 6 [.int .u8 2, .int .u8 9, .int .u8 0, .int .u8 0, .int .u8 0, .int .u8 0] rfl)
  go_wp2_with (first | ((with_reducible show wpList _ _ _ (⟨some 78, _, _, _, _, _⟩ :: _) _ _); refine wpList_load_rng 32 (.tmp 5) rfl (by kernel_rfl) _ _ rfl _ R78.out _ Try.underlying32 rfl (by kernel_rfl) ?_) | ((with_reducible show wpList _ _ _ (⟨some 80, _, _, _, _, _⟩ :: _) _ _); refine wpList_lit_n rfl 47 5 1 _ rfl #[.int .u8 7] (.int .u8 0) Try.underlying47 (by kernel_rfl) 1 (by kernel_rfl) (by decide) (by kernel_rfl) ?_; intro g80 w33 ge lt hh bb; have hl : w33.heap[g80]? = some (.cells (([7] : List UInt8).map u8v).toArray 5 (0, 0)) := (by simpa [u8v, byteOf_val] using hh); have sk5w := own_lit (B := w32.heap.size) ([7]) hl ge 1 rfl (by simp [maxLen]); have sk5 := (own_sl sk5w).1; have sk5lo := bel.size; clear hl; have sk5ge := ge; have lz_sk5 := bb.size; have y_sk5_mb := Lib.hid (hlt hmb); have y_sk5_ya := Lib.hid (hlt hya); have y_sk5_yb := Lib.hid (hlt hyb); have y_sk5_vk := Lib.hid (hlt hvk); have y_sk5_vx := Lib.hid (hlt hvx); have y_sk5_xm := Lib.hid (hlt hxm); have y_sk5_b4 := Lib.hid (hlt hb4); have y_sk5_b57 := Lib.hid (hlt hb57); have y_sk5_yc := Lib.hid (hlt hyc); have y_sk5_ym := Lib.hid (hlt hym); have y_sk5_yd := Lib.hid (hlt hyd); have d_mb_bk5 := ne_new (hlt hmb) ge; have d_ya_bk5 := ne_new (hlt hya) ge; have d_yb_bk5 := ne_new (hlt hyb) ge; have d_vk_bk5 := ne_new (hlt hvk) ge; have d_vx_bk5 := ne_new (hlt hvx) ge; have d_xm_bk5 := ne_new (hlt hxm) ge; have d_b4_bk5 := ne_new (hlt hb4) ge; have d_b57_bk5 := ne_new (hlt hb57) ge; have d_yc_bk5 := ne_new (hlt hyc) ge; have d_ym_bk5 := ne_new (hlt hym) ge; have d_yd_bk5 := ne_new (hlt hyd) ge; have obk5 := Nat.le_trans bel.size ge; have oba_bk5 := hPa.oa ge; have obb_bk5 := hPb.oa ge; replace hmb := blk_u hmb bb; replace hya := blk_u hya bb; replace hyb := blk_u hyb bb; replace hvk := blk_u hvk bb; replace hvx := blk_u hvx bb; replace hxm := blk_u hxm bb; replace hb4 := blk_u hb4 bb; replace hb57 := blk_u hb57 bb; replace hyc := blk_u hyc bb; replace hym := blk_u hym bb; replace hyd := blk_u hyd bb; replace hT := hT.below bb; replace hPa := hPa.below bb; replace hPb := hPb.below bb; replace bel := bel.trans (bb.mono bel.size); have hbk5 := hh; clear hh lt ge bb; have av_sk5_mb := (own_sl sk5w).2.av y_sk5_mb.out; have av_sk5_ya := (own_sl sk5w).2.av y_sk5_ya.out; have av_sk5_yb := (own_sl sk5w).2.av y_sk5_yb.out; have av_sk5_vk := (own_sl sk5w).2.av y_sk5_vk.out; have av_sk5_vx := (own_sl sk5w).2.av y_sk5_vx.out; have av_sk5_xm := (own_sl sk5w).2.av y_sk5_xm.out; have av_sk5_b4 := (own_sl sk5w).2.av y_sk5_b4.out; have av_sk5_b57 := (own_sl sk5w).2.av y_sk5_b57.out; have av_sk5_yc := (own_sl sk5w).2.av y_sk5_yc.out; have av_sk5_ym := (own_sl sk5w).2.av y_sk5_ym.out; have av_sk5_yd := (own_sl sk5w).2.av y_sk5_yd.out) | ((with_reducible show wpList _ _ _ (⟨some 82, _, _, _, _, _⟩ :: _) _ _); refine wpList_lit_n rfl 39 49 1 _ rfl #[.int .i64 53, .slice (some ⟨g80, 0, none⟩) 1 1] (.agg #[.int .i64 0, .slice none 0 0]) Try.underlying39 (by kernel_rfl) 2 (by kernel_rfl) (by decide) (by kernel_rfl) ?_; intro g82 w34 ge lt hh bb; have d_mb_rw5 := ne_new (hlt hmb) ge; have d_ya_rw5 := ne_new (hlt hya) ge; have d_yb_rw5 := ne_new (hlt hyb) ge; have d_vk_rw5 := ne_new (hlt hvk) ge; have d_vx_rw5 := ne_new (hlt hvx) ge; have d_xm_rw5 := ne_new (hlt hxm) ge; have d_b4_rw5 := ne_new (hlt hb4) ge; have d_b57_rw5 := ne_new (hlt hb57) ge; have d_yc_rw5 := ne_new (hlt hyc) ge; have d_ym_rw5 := ne_new (hlt hym) ge; have d_yd_rw5 := ne_new (hlt hyd) ge; have d_bk5_rw5 := ne_new (hlt hbk5) ge; have av_sk5_rw5 := sk5.av_new ge; have of_sk5_rw5 := own_new sk5w ge; have orw5 := Nat.le_trans bel.size ge; have oba_rw5 := hPa.oa ge; have obb_rw5 := hPb.oa ge; replace hmb := blk_u hmb bb; replace hya := blk_u hya bb; replace hyb := blk_u hyb bb; replace hvk := blk_u hvk bb; replace hvx := blk_u hvx bb; replace hxm := blk_u hxm bb; replace hb4 := blk_u hb4 bb; replace hb57 := blk_u hb57 bb; replace hyc := blk_u hyc bb; replace hym := blk_u hym bb; replace hyd := blk_u hyd bb; replace hbk5 := blk_u hbk5 bb; replace sk5 := sk5.below bb; replace sk5w := own_under sk5w bb; replace lz_sk5 := Nat.le_trans lz_sk5 bb.size; replace hT := hT.below bb; replace hPa := hPa.below bb; replace hPb := hPb.below bb; replace bel := bel.trans (bb.mono bel.size); have hrw5 := hh; clear hh lt ge bb) | ((with_reducible show wpList _ _ _ (⟨some 17, _, _, _, _, _⟩ :: _) _ _); refine wpList_new_a rfl 41 rfl #[.int .i64 0, .int .i64 0, .int .u32 0, .int .i64 0, .int .i64 0, .int .u8 0, .int .u8 0, .int .u8 0, .int .u8 0, .int .u8 0, .int .u8 0, .int .u8 0, .int .u8 0, .int .u8 0, .int .u8 0, .int .u8 0, .int .u8 0, .int .u8 0, .int .u8 0, .int .u8 0, .int .u8 0, .int .u8 0, .int .u8 0, .int .u8 0, .int .u8 0, .int .u8 0, .int .u8 0, .slice none 0 0] (by kernel_rfl) ?_; intro g17 w35 ge hh bb; have d_mb_rm := ne_new (hlt hmb) ge; have d_ya_rm := ne_new (hlt hya) ge; have d_yb_rm := ne_new (hlt hyb) ge; have d_vk_rm := ne_new (hlt hvk) ge; have d_vx_rm := ne_new (hlt hvx) ge; have d_xm_rm := ne_new (hlt hxm) ge; have d_b4_rm := ne_new (hlt hb4) ge; have d_b57_rm := ne_new (hlt hb57) ge; have d_yc_rm := ne_new (hlt hyc) ge; have d_ym_rm := ne_new (hlt hym) ge; have d_yd_rm := ne_new (hlt hyd) ge; have d_bk5_rm := ne_new (hlt hbk5) ge; have d_rw5_rm := ne_new (hlt hrw5) ge; have av_sk5_rm := sk5.av_new ge; have of_sk5_rm := own_new sk5w ge; have orm := Nat.le_trans bel.size ge; have oba_rm := hPa.oa ge; have obb_rm := hPb.oa ge; replace hmb := blk_u hmb bb; replace hya := blk_u hya bb; replace hyb := blk_u hyb bb; replace hvk := blk_u hvk bb; replace hvx := blk_u hvx bb; replace hxm := blk_u hxm bb; replace hb4 := blk_u hb4 bb; replace hb57 := blk_u hb57 bb; replace hyc := blk_u hyc bb; replace hym := blk_u hym bb; replace hyd := blk_u hyd bb; replace hbk5 := blk_u hbk5 bb; replace hrw5 := blk_u hrw5 bb; replace sk5 := sk5.below bb; replace sk5w := own_under sk5w bb; replace lz_sk5 := Nat.le_trans lz_sk5 bb.size; replace hT := hT.below bb; replace hPa := hPa.below bb; replace hPb := hPb.below bb; replace bel := bel.trans (bb.mono bel.size); have hrm := hh; clear hh ge bb) | ((with_reducible show wpList _ _ _ (⟨none, Op.store _ (.tmp 17) _, _, _, _, _⟩ :: _) _ _); refine wpList_store_blk rfl 41 (.tmp 17) (.tmp 83) rfl g17 rfl _ rfl _ 41 hrm (by rfl) (by kernel_rfl) (by kernel_rfl) ?_; intro w36 hq gr; replace sk5 := sk5.away av_sk5_rm gr; replace sk5w := own_off sk5w of_sk5_rm gr; replace lz_sk5 := Nat.le_trans lz_sk5 gr.size; replace hmb := blk_a hmb gr d_mb_rm; replace hya := blk_a hya gr d_ya_rm; replace hyb := blk_a hyb gr d_yb_rm; replace hvk := blk_a hvk gr d_vk_rm; replace hvx := blk_a hvx gr d_vx_rm; replace hxm := blk_a hxm gr d_xm_rm; replace hb4 := blk_a hb4 gr d_b4_rm; replace hb57 := blk_a hb57 gr d_b57_rm; replace hyc := blk_a hyc gr d_yc_rm; replace hym := blk_a hym gr d_ym_rm; replace hyd := blk_a hyd gr d_yd_rm; replace hbk5 := blk_a hbk5 gr d_bk5_rm; replace hrw5 := blk_a hrw5 gr d_rw5_rm; replace hT := hT.grown gr hrm (by decide); replace hPa := hPa.away oba_rm gr; replace hPb := hPb.away obb_rm gr; replace bel := below_grown bel gr orm bel.size; clear hrm; have hrm := hq; clear hq gr; have R86 := Lib.hid (range_lit hrm 0 28 [.int .i64 1, .int .i64 0, .int .u32 0, .int .i64 0, .int .i64 0, .int .u8 192, .int .u8 168, .int .u8 1, .int .u8 105, .int .u8 0, .int .u8 0, .int .u8 0, .int .u8 0, .int .u8 0, .int .u8 0, .int .u8 0, .int .u8 0, .int .u8 0, .int .u8 0, .int .u8 0, .int .u8 0, .int .u8 2, .int .u8 9, .int .u8 0, .int .u8 0, .int .u8 0, .int .u8 0, .slice (some ⟨g82, 0, none⟩) 1 1] rfl)) | ((with_reducible show wpList _ _ _ (⟨some 86, _, _, _, _, _⟩ :: _) _ _); refine wpList_load_rng 41 (.tmp 17) rfl (by kernel_rfl) _ _ rfl _ R86.out _ Try.underlying41 rfl (by kernel_rfl) ?_))
  try clear R78
  try clear R86
  have hO := os_one (x := ⟨53, some ⟨g80, 0, none⟩, 1, 1⟩) hrw5 (ob_one (x := 7) 53 hbk5 rfl (by decide))
  go_wp2_with fail
  with_reducible refine (lg_kn5 _ hT hO).mono ?_
  rintro e w37 ⟨rfl, hT_, k_, bb⟩
  replace hmb := Kt.blk k_ hmb (by decide)
  replace hya := Kt.blk k_ hya (by decide)
  replace hyb := Kt.blk k_ hyb (by decide)
  replace hvk := Kt.blk k_ hvk (by decide)
  replace hvx := Kt.blk k_ hvx (by decide)
  replace hxm := Kt.blk k_ hxm (by decide)
  replace hb4 := Kt.blk k_ hb4 (by decide)
  replace hb57 := Kt.blk k_ hb57 (by decide)
  replace hyc := Kt.blk k_ hyc (by decide)
  replace hym := Kt.blk k_ hym (by decide)
  replace hyd := Kt.blk k_ hyd (by decide)
  replace hbk5 := Kt.blk k_ hbk5 (by decide)
  replace hrw5 := Kt.blk k_ hrw5 (by decide)
  replace hrm := Kt.blk k_ hrm (by decide)
  clear sk5 sk5w lz_sk5
  replace hPa := hPa.kt k_
  replace hPb := hPb.kt k_
  clear hT
  have hT := hT_
  replace bel := bel.trans bb
  clear bb k_ hT_
  clear hO
  go_wp2_with (first | ((with_reducible show wpList _ _ _ (⟨some 18, _, _, _, _, _⟩ :: _) _ _); refine wpList_new_a rfl 43 rfl #[.int .i64 0, .int .i64 0, .int .u32 0, .int .i64 0, .int .i64 0, .int .u8 0, .int .u8 0, .int .u8 0, .int .u8 0, .int .u8 0, .int .u8 0, .int .u8 0, .int .u8 0, .int .u8 0, .int .u8 0, .int .u8 0, .int .u8 0, .int .u8 0, .int .u8 0, .int .u8 0, .int .u8 0, .int .u8 0, .int .u8 0, .int .u8 0, .int .u8 0, .int .u8 0, .int .u8 0, .slice none 0 0, .int .u8 0, .int .u8 0, .int .u8 0, .int .u8 0, .int .u8 0, .int .u8 0, .int .u8 0, .int .u8 0, .int .u8 0, .int .u8 0] (by kernel_rfl) ?_; intro g18 w38 ge hh bb; have d_mb_ye := ne_new (hlt hmb) ge; have d_ya_ye := ne_new (hlt hya) ge; have d_yb_ye := ne_new (hlt hyb) ge; have d_vk_ye := ne_new (hlt hvk) ge; have d_vx_ye := ne_new (hlt hvx) ge; have d_xm_ye := ne_new (hlt hxm) ge; have d_b4_ye := ne_new (hlt hb4) ge; have d_b57_ye := ne_new (hlt hb57) ge; have d_yc_ye := ne_new (hlt hyc) ge; have d_ym_ye := ne_new (hlt hym) ge; have d_yd_ye := ne_new (hlt hyd) ge; have d_bk5_ye := ne_new (hlt hbk5) ge; have d_rw5_ye := ne_new (hlt hrw5) ge; have d_rm_ye := ne_new (hlt hrm) ge; have oye := Nat.le_trans bel.size ge; have oba_ye := hPa.oa ge; have obb_ye := hPb.oa ge; replace hmb := blk_u hmb bb; replace hya := blk_u hya bb; replace hyb := blk_u hyb bb; replace hvk := blk_u hvk bb; replace hvx := blk_u hvx bb; replace hxm := blk_u hxm bb; replace hb4 := blk_u hb4 bb; replace hb57 := blk_u hb57 bb; replace hyc := blk_u hyc bb; replace hym := blk_u hym bb; replace hyd := blk_u hyd bb; replace hbk5 := blk_u hbk5 bb; replace hrw5 := blk_u hrw5 bb; replace hrm := blk_u hrm bb; replace hT := hT.below bb; replace hPa := hPa.below bb; replace hPb := hPb.below bb; replace bel := bel.trans (bb.mono bel.size); have hye := hh; clear hh ge bb) | ((with_reducible show wpList _ _ _ (⟨none, Op.store _ (.tmp 18) _, _, _, _, _⟩ :: _) _ _); refine wpList_store_blk rfl 43 (.tmp 18) (.tmp 88) rfl g18 rfl _ rfl _ 43 hye (by rfl) (by kernel_rfl) (by kernel_rfl) ?_; intro w39 hq gr; replace hmb := blk_a hmb gr d_mb_ye; replace hya := blk_a hya gr d_ya_ye; replace hyb := blk_a hyb gr d_yb_ye; replace hvk := blk_a hvk gr d_vk_ye; replace hvx := blk_a hvx gr d_vx_ye; replace hxm := blk_a hxm gr d_xm_ye; replace hb4 := blk_a hb4 gr d_b4_ye; replace hb57 := blk_a hb57 gr d_b57_ye; replace hyc := blk_a hyc gr d_yc_ye; replace hym := blk_a hym gr d_ym_ye; replace hyd := blk_a hyd gr d_yd_ye; replace hbk5 := blk_a hbk5 gr d_bk5_ye; replace hrw5 := blk_a hrw5 gr d_rw5_ye; replace hrm := blk_a hrm gr d_rm_ye; replace hT := hT.grown gr hye (by decide); replace hPa := hPa.away oba_ye gr; replace hPb := hPb.away obb_ye gr; replace bel := below_grown bel gr oye bel.size; clear hye; have hye := hq; clear hq gr))
  go_wp2_with fail
  with_reducible refine (stick_is _ hT kn_5).mono ?_
  rintro e w40 ⟨Ala, cla, rfl, law, hT_, k_, bb⟩
  replace hmb := Kt.blk k_ hmb (by decide)
  replace hya := Kt.blk k_ hya (by decide)
  replace hyb := Kt.blk k_ hyb (by decide)
  replace hvk := Kt.blk k_ hvk (by decide)
  replace hvx := Kt.blk k_ hvx (by decide)
  replace hxm := Kt.blk k_ hxm (by decide)
  replace hb4 := Kt.blk k_ hb4 (by decide)
  replace hb57 := Kt.blk k_ hb57 (by decide)
  replace hyc := Kt.blk k_ hyc (by decide)
  replace hym := Kt.blk k_ hym (by decide)
  replace hyd := Kt.blk k_ hyd (by decide)
  replace hbk5 := Kt.blk k_ hbk5 (by decide)
  replace hrw5 := Kt.blk k_ hrw5 (by decide)
  replace hrm := Kt.blk k_ hrm (by decide)
  replace hye := Kt.blk k_ hye (by decide)
  replace hPa := hPa.kt k_
  replace hPb := hPb.kt k_
  clear hT
  have hT := hT_
  replace bel := bel.trans bb
  clear bb k_ hT_
  obtain ⟨gL, hgL_, _⟩ := row_at law (by decide)
  subst hgL_
  have la := (owk_sle (by decide) leE_len law).1
  replace hT : Sv w.heap.size gs gp w40 ⟨⟨192, 168, 1, 1⟩, 4294967040, 3600⟩ knS5 := hT
  go_upto_region 18 with fail
  simp only [List.append_eq, List.cons_append, List.nil_append]
  go_wp2_with fail
  replace bel := bel.drew
  replace hmb : w40.drew.heap[g5]? = _ := hmb
  replace hya : w40.drew.heap[g6]? = _ := hya
  replace hyb : w40.drew.heap[g8]? = _ := hyb
  replace hvk : w40.drew.heap[g_vk]? = _ := hvk
  replace hvx : w40.drew.heap[g_vx]? = _ := hvx
  replace hxm : w40.drew.heap[g10]? = _ := hxm
  replace hb4 : w40.drew.heap[g55]? = _ := hb4
  replace hb57 : w40.drew.heap[g57]? = _ := hb57
  replace hyc : w40.drew.heap[g11]? = _ := hyc
  replace hym : w40.drew.heap[g13]? = _ := hym
  replace hyd : w40.drew.heap[g14]? = _ := hyd
  replace hbk5 : w40.drew.heap[g80]? = _ := hbk5
  replace hrw5 : w40.drew.heap[g82]? = _ := hrw5
  replace hrm : w40.drew.heap[g17]? = _ := hrm
  replace hye : w40.drew.heap[g18]? = _ := hye
  replace la := la.drew
  replace hT := sv_drew hT
  replace hPa := hPa.drew
  replace hPb := hPb.drew
  replace law := World.ownsRow.drew law
  refine wp_region_held_drew (S := fun W => W.heap[g6]? = some (.cells #[.int .i64 2, .int .i64 0, .int .u32 8, .int .i64 0, .int .i64 0, .int .u8 0, .int .u8 0, .int .u8 0, .int .u8 0, .int .u8 192, .int .u8 168, .int .u8 1, .int .u8 105, .int .u8 192, .int .u8 168, .int .u8 1, .int .u8 1, .int .u8 0, .int .u8 0, .int .u8 0, .int .u8 0, .int .u8 2, .int .u8 9, .int .u8 0, .int .u8 0, .int .u8 0, .int .u8 0, .slice A2a 6 c2a, .int .u8 2, .int .u8 9, .int .u8 0, .int .u8 0, .int .u8 0, .int .u8 0, .int .u8 192, .int .u8 168, .int .u8 1, .int .u8 105] 43 (0, 0)) ∧ W.heap[g8]? = some (.cells #[.int .i64 2, .int .i64 0, .int .u32 8, .int .i64 0, .int .i64 0, .int .u8 0, .int .u8 0, .int .u8 0, .int .u8 0, .int .u8 0, .int .u8 0, .int .u8 0, .int .u8 0, .int .u8 192, .int .u8 168, .int .u8 1, .int .u8 1, .int .u8 0, .int .u8 0, .int .u8 0, .int .u8 0, .int .u8 2, .int .u8 8, .int .u8 0, .int .u8 0, .int .u8 0, .int .u8 0, .slice A2b 2 c2b, .int .u8 255, .int .u8 255, .int .u8 255, .int .u8 255, .int .u8 255, .int .u8 255, .int .u8 255, .int .u8 255, .int .u8 255, .int .u8 255] 43 (0, 0)) ∧ W.heap[g5]? = some (.cells #[.int .u8 2, .int .u8 9, .int .u8 0, .int .u8 0, .int .u8 0, .int .u8 0] 32 (0, 0)) ∧ Sle leE 11 W (some ⟨gL, 0, none⟩) (1) (cla) ([(⟨mB, lA 105, 0⟩ : Le)])) (by kernel_rfl) ⟨hya, hyb, hmb, la⟩ (fun hH => ?_)
  generalize w40.drew = w41 at bel hmb hya hyb hvk hvx hxm hb4 hb57 hyc hym hyd hbk5 hrw5 hrm hye la hT hPa hPb law hH ⊢
  refine wpAnyH_take (i := 0) (v := ?_) rfl (by kernel_rfl) (by kernel_rfl) (by kernel_rfl) (fun _ _ _ h => h) (Or.inl ⟨by rfl, ?_⟩) hH ?_
  rotate_left
  · ((intro W hW; clear hW; go_simp) <;> with_reducible rfl)
  simp only [Act.put, List.getElem_toArray, List.getElem_cons_zero, List.setIfInBounds_toArray, List.set_cons_zero, List.set_cons_succ]
  refine wpAnyH_take (i := 1) (v := ?_) rfl (by kernel_rfl) (by kernel_rfl) (by kernel_rfl) (fun _ _ _ h => h) (Or.inl ⟨by rfl, ?_⟩) hH ?_
  rotate_left
  · ((intro W hW; clear hW; go_simp) <;> with_reducible rfl)
  simp only [sq3, sq4]
  refine wpAnyH_take (i := 2) (v := ?_) rfl (by kernel_rfl) (by kernel_rfl) (by kernel_rfl) (fun _ _ _ h => h) (Or.inl ⟨by rfl, ?_⟩) hH ?_
  rotate_left
  · ((intro W hW; clear hW; go_simp) <;> with_reducible rfl)
  simp only [sq3, sq4]
  refine wpAnyH_take (i := 3) (v := ?_) rfl (by kernel_rfl) (by kernel_rfl) (by kernel_rfl) (fun _ _ _ h => h) (Or.inl ⟨by rfl, ?_⟩) hH ?_
  rotate_left
  · ((intro W hW; clear hW; go_simp) <;> with_reducible rfl)
  simp only [sq3, sq4]
  refine wpAnyH_take (i := 4) (v := ?_) rfl (by kernel_rfl) (by kernel_rfl) (by kernel_rfl) (fun _ _ _ h => h) (Or.inl ⟨by rfl, ?_⟩) hH ?_
  rotate_left
  · ((intro W hW; clear hW; go_simp) <;> with_reducible rfl)
  simp only [sq3, sq4]
  refine wpAnyH_take (i := 5) (v := ?_) rfl (by kernel_rfl) (by kernel_rfl) (by kernel_rfl) (fun _ _ _ h => h) (Or.inl ⟨by rfl, ?_⟩) hH ?_
  rotate_left
  · ((intro W hW; clear hW; go_simp) <;> with_reducible rfl)
  simp only [sq3, sq4]
  refine wpAnyH_take (i := 6) (v := ?_) rfl (by kernel_rfl) (by kernel_rfl) (by kernel_rfl) (fun _ _ _ h => h) (Or.inl ⟨by rfl, ?_⟩) hH ?_
  rotate_left
  · ((intro W hW; clear hW; go_simp) <;> with_reducible rfl)
  simp only [sq3, sq4]
  refine wpAnyH_take (i := 7) (v := .agg #[.int .i64 2, .int .i64 0, .int .u32 8, .int .i64 0, .int .i64 0, .int .u8 0, .int .u8 0, .int .u8 0, .int .u8 0, .int .u8 192, .int .u8 168, .int .u8 1, .int .u8 105, .int .u8 192, .int .u8 168, .int .u8 1, .int .u8 1, .int .u8 0, .int .u8 0, .int .u8 0, .int .u8 0, .int .u8 2, .int .u8 9, .int .u8 0, .int .u8 0, .int .u8 0, .int .u8 0, .slice A2a 6 c2a]) rfl (by kernel_rfl) (by kernel_rfl) (by kernel_rfl) (fun _ _ _ h => h) (yieldsIf_load_part (by kernel_rfl) 41 _ rfl g6 0 28 rfl _ 43 (0, 0) (fun W hW => hW.1) _ rfl _ Try.underlying41 rfl (by kernel_rfl)) hH ?_
  simp only [sq3, sq4]
  refine wpAnyH_ready (rs := [8]) (by kernel_rfl) (by simp) ?_
  refine AllReadyH.cons (o := _) rfl (fun K hK => ?_) AllReadyH.nil
  simp only [sq3]
  go_simp
  with_reducible refine (ltype_a (k := 5) _ hPa (by kernel_rfl)).mono ?_
  rintro e w42 ⟨rfl, b42⟩
  dsimp only
  replace hmb := blk_u hmb b42
  replace hya := blk_u hya b42
  replace hyb := blk_u hyb b42
  replace hvk := blk_u hvk b42
  replace hvx := blk_u hvx b42
  replace hxm := blk_u hxm b42
  replace hb4 := blk_u hb4 b42
  replace hb57 := blk_u hb57 b42
  replace hyc := blk_u hyc b42
  replace hym := blk_u hym b42
  replace hyd := blk_u hyd b42
  replace hbk5 := blk_u hbk5 b42
  replace hrw5 := blk_u hrw5 b42
  replace hrm := blk_u hrm b42
  replace hye := blk_u hye b42
  replace la := la.below b42
  replace hT := hT.below b42
  replace hPa := hPa.below b42
  replace hPb := hPb.below b42
  replace law := owk_under law b42
  replace bel := bel.trans (b42.mono bel.size)
  clear b42
  refine hK.out _ _ ⟨hya, hyb, hmb, la⟩ (fun hH43 => ?_)
  clear hK K
  refine wpAnyH_take (i := 9) (v := ?_) rfl (by kernel_rfl) (by kernel_rfl) (by kernel_rfl) (fun _ _ _ h => h) (Or.inl ⟨by rfl, ?_⟩) hH43 ?_
  rotate_left
  · ((intro W hW; clear hW; go_simp) <;> with_reducible rfl)
  simp only [sq3, sq4]
  refine wpAnyH_take (i := 10) (v := ?_) rfl (by kernel_rfl) (by kernel_rfl) (by kernel_rfl) (fun _ _ _ h => h) (Or.inl ⟨by rfl, ?_⟩) hH43 ?_
  rotate_left
  · ((intro W hW; clear hW; go_simp) <;> with_reducible rfl)
  simp only [sq3, sq4]
  refine wpAnyH_take (i := 11) (v := ?_) rfl (by kernel_rfl) (by kernel_rfl) (by kernel_rfl) (fun _ _ _ h => h) (Or.inl ⟨by rfl, ?_⟩) hH43 ?_
  rotate_left
  · ((intro W hW; clear hW; go_simp) <;> with_reducible rfl)
  simp only [sq3, sq4]
  refine wpAnyH_take (i := 12) (v := ?_) rfl (by kernel_rfl) (by kernel_rfl) (by kernel_rfl) (fun _ _ _ h => h) (Or.inl ⟨by rfl, ?_⟩) hH43 ?_
  rotate_left
  · ((intro W hW; clear hW; go_simp) <;> with_reducible rfl)
  simp only [sq3, sq4]
  refine wpAnyH_take (i := 13) (v := ?_) rfl (by kernel_rfl) (by kernel_rfl) (by kernel_rfl) (fun _ _ _ h => h) (Or.inl ⟨by rfl, ?_⟩) hH43 ?_
  rotate_left
  · ((intro W hW; clear hW; go_simp) <;> with_reducible rfl)
  simp only [sq3, sq4]
  refine wpAnyH_take (i := 14) (v := ?_) rfl (by kernel_rfl) (by kernel_rfl) (by kernel_rfl) (fun _ _ _ h => h) (Or.inl ⟨by rfl, ?_⟩) hH43 ?_
  rotate_left
  · ((intro W hW; have hk := cell_lit (hW.1) 27 _ rfl; clear hW; go_simp) <;> with_reducible rfl)
  simp only [sq3, sq4]
  refine wpAnyH_take (i := 15) (v := ?_) rfl (by kernel_rfl) (by kernel_rfl) (by kernel_rfl) (fun _ _ _ h => h) (Or.inl ⟨by rfl, ?_⟩) hH43 ?_
  rotate_left
  · ((intro W hW; clear hW; go_simp) <;> with_reducible rfl)
  simp only [sq3, sq4]
  refine wpAnyH_take (i := 16) (v := ?_) rfl (by kernel_rfl) (by kernel_rfl) (by kernel_rfl) (fun _ _ _ h => h) (Or.inl ⟨by rfl, ?_⟩) hH43 ?_
  rotate_left
  · ((intro W hW; clear hW; go_simp) <;> with_reducible rfl)
  simp only [sq3, sq4]
  refine wpAnyH_take (i := 17) (v := ?_) rfl (by kernel_rfl) (by kernel_rfl) (by kernel_rfl) (fun _ _ _ h => h) (Or.inl ⟨by rfl, ?_⟩) hH43 ?_
  rotate_left
  · ((intro W hW; clear hW; go_simp) <;> with_reducible rfl)
  simp only [sq3, sq4]
  refine wpAnyH_take (i := 18) (v := ?_) rfl (by kernel_rfl) (by kernel_rfl) (by kernel_rfl) (fun _ _ _ h => h) (Or.inl ⟨by rfl, ?_⟩) hH43 ?_
  rotate_left
  · ((intro W hW; clear hW; go_simp) <;> with_reducible rfl)
  simp only [sq3, sq4]
  refine wpAnyH_take (i := 19) (v := ?_) rfl (by kernel_rfl) (by kernel_rfl) (by kernel_rfl) (fun _ _ _ h => h) (Or.inl ⟨by rfl, ?_⟩) hH43 ?_
  rotate_left
  · ((intro W hW; clear hW; go_simp) <;> with_reducible rfl)
  simp only [sq3, sq4]
  refine wpAnyH_take (i := 20) (v := ?_) rfl (by kernel_rfl) (by kernel_rfl) (by kernel_rfl) (fun _ _ _ h => h) (Or.inl ⟨by rfl, ?_⟩) hH43 ?_
  rotate_left
  · ((intro W hW; clear hW; go_simp) <;> with_reducible rfl)
  simp only [sq3, sq4]
  refine wpAnyH_take (i := 21) (v := ?_) rfl (by kernel_rfl) (by kernel_rfl) (by kernel_rfl) (fun _ _ _ h => h) (Or.inl ⟨by rfl, ?_⟩) hH43 ?_
  rotate_left
  · ((intro W hW; clear hW; go_simp) <;> with_reducible rfl)
  simp only [sq3, sq4]
  refine wpAnyH_take (i := 22) (v := ?_) rfl (by kernel_rfl) (by kernel_rfl) (by kernel_rfl) (fun _ _ _ h => h) (Or.inl ⟨by rfl, ?_⟩) hH43 ?_
  rotate_left
  · ((intro W hW; clear hW; go_simp) <;> with_reducible rfl)
  simp only [sq3, sq4]
  refine wpAnyH_take (i := 23) (v := .agg #[.int .i64 2, .int .i64 0, .int .u32 8, .int .i64 0, .int .i64 0, .int .u8 0, .int .u8 0, .int .u8 0, .int .u8 0, .int .u8 0, .int .u8 0, .int .u8 0, .int .u8 0, .int .u8 192, .int .u8 168, .int .u8 1, .int .u8 1, .int .u8 0, .int .u8 0, .int .u8 0, .int .u8 0, .int .u8 2, .int .u8 8, .int .u8 0, .int .u8 0, .int .u8 0, .int .u8 0, .slice A2b 2 c2b]) rfl (by kernel_rfl) (by kernel_rfl) (by kernel_rfl) (fun _ _ _ h => h) (yieldsIf_load_part (by kernel_rfl) 41 _ rfl g8 0 28 rfl _ 43 (0, 0) (fun W hW => hW.2.1) _ rfl _ Try.underlying41 rfl (by kernel_rfl)) hH43 ?_
  simp only [sq3, sq4]
  refine wpAnyH_ready (rs := [24]) (by kernel_rfl) (by simp) ?_
  refine AllReadyH.cons (o := _) rfl (fun K hK => ?_) AllReadyH.nil
  simp only [sq3]
  go_simp
  with_reducible refine (ltype_a (k := 6) _ hPb (by kernel_rfl)).mono ?_
  rintro e w44 ⟨rfl, b44⟩
  dsimp only
  replace hmb := blk_u hmb b44
  replace hya := blk_u hya b44
  replace hyb := blk_u hyb b44
  replace hvk := blk_u hvk b44
  replace hvx := blk_u hvx b44
  replace hxm := blk_u hxm b44
  replace hb4 := blk_u hb4 b44
  replace hb57 := blk_u hb57 b44
  replace hyc := blk_u hyc b44
  replace hym := blk_u hym b44
  replace hyd := blk_u hyd b44
  replace hbk5 := blk_u hbk5 b44
  replace hrw5 := blk_u hrw5 b44
  replace hrm := blk_u hrm b44
  replace hye := blk_u hye b44
  replace la := la.below b44
  replace hT := hT.below b44
  replace hPa := hPa.below b44
  replace hPb := hPb.below b44
  replace law := owk_under law b44
  replace bel := bel.trans (b44.mono bel.size)
  clear b44
  refine hK.out _ _ ⟨hya, hyb, hmb, la⟩ (fun hH45 => ?_)
  clear hK K
  refine wpAnyH_take (i := 25) (v := ?_) rfl (by kernel_rfl) (by kernel_rfl) (by kernel_rfl) (fun _ _ _ h => h) (Or.inl ⟨by rfl, ?_⟩) hH45 ?_
  rotate_left
  · ((intro W hW; clear hW; go_simp) <;> with_reducible rfl)
  simp only [sq3, sq4]
  refine wpAnyH_take (i := 26) (v := ?_) rfl (by kernel_rfl) (by kernel_rfl) (by kernel_rfl) (fun _ _ _ h => h) (Or.inl ⟨by rfl, ?_⟩) hH45 ?_
  rotate_left
  · ((intro W hW; clear hW; go_simp) <;> with_reducible rfl)
  simp only [sq3, sq4]
  refine wpAnyH_take (i := 27) (v := ?_) rfl (by kernel_rfl) (by kernel_rfl) (by kernel_rfl) (fun _ _ _ h => h) (Or.inl ⟨by rfl, ?_⟩) hH45 ?_
  rotate_left
  · ((intro W hW; clear hW; go_simp) <;> with_reducible rfl)
  simp only [sq3, sq4]
  refine wpAnyH_take (i := 28) (v := ?_) rfl (by kernel_rfl) (by kernel_rfl) (by kernel_rfl) (fun _ _ _ h => h) (Or.inl ⟨by rfl, ?_⟩) hH45 ?_
  rotate_left
  · ((intro W hW; clear hW; go_simp) <;> with_reducible rfl)
  simp only [sq3, sq4]
  refine wpAnyH_take (i := 29) (v := .agg #[.int .u8 255, .int .u8 255, .int .u8 255, .int .u8 255]) rfl (by kernel_rfl) (by kernel_rfl) (by kernel_rfl) (fun _ _ _ h => h) (yieldsIf_load_part (by kernel_rfl) 28 _ rfl g8 34 4 rfl _ 43 (0, 0) (fun W hW => hW.2.1) _ rfl _ Try.underlying28 rfl (by kernel_rfl)) hH45 ?_
  simp only [sq3, sq4]
  refine wpAnyH_take (i := 30) (v := ?_) rfl (by kernel_rfl) (by kernel_rfl) (by kernel_rfl) (fun _ _ _ h => h) (Or.inl ⟨by rfl, ?_⟩) hH45 ?_
  rotate_left
  · ((intro W hW; clear hW; go_simp) <;> with_reducible rfl)
  simp only [sq3, sq4]
  refine wpAnyH_take (i := 31) (v := ?_) rfl (by kernel_rfl) (by kernel_rfl) (by kernel_rfl) (fun _ _ _ h => h) (Or.inl ⟨by rfl, ?_⟩) hH45 ?_
  rotate_left
  · ((intro W hW; clear hW; go_simp) <;> with_reducible rfl)
  simp only [sq3, sq4]
  refine wpAnyH_take (i := 32) (v := ?_) rfl (by kernel_rfl) (by kernel_rfl) (by kernel_rfl) (fun _ _ _ h => h) (Or.inl ⟨by rfl, ?_⟩) hH45 ?_
  rotate_left
  · ((intro W hW; clear hW; go_simp) <;> with_reducible rfl)
  simp only [sq3, sq4]
  refine wpAnyH_take (i := 33) (v := ?_) rfl (by kernel_rfl) (by kernel_rfl) (by kernel_rfl) (fun _ _ _ h => h) (Or.inl ⟨by rfl, ?_⟩) hH45 ?_
  rotate_left
  · ((intro W hW; clear hW; go_simp) <;> with_reducible rfl)
  simp only [sq3, sq4]
  refine wpAnyH_take (i := 34) (v := ?_) rfl (by kernel_rfl) (by kernel_rfl) (by kernel_rfl) (fun _ _ _ h => h) (Or.inl ⟨by rfl, ?_⟩) hH45 ?_
  rotate_left
  · ((intro W hW; clear hW; go_simp) <;> with_reducible rfl)
  simp only [sq3, sq4]
  refine wpAnyH_take (i := 35) (v := ?_) rfl (by kernel_rfl) (by kernel_rfl) (by kernel_rfl) (fun _ _ _ h => h) (Or.inl ⟨by rfl, ?_⟩) hH45 ?_
  rotate_left
  · ((intro W hW; clear hW; go_simp) <;> with_reducible rfl)
  simp only [sq3, sq4]
  refine wpAnyH_take (i := 36) (v := ?_) rfl (by kernel_rfl) (by kernel_rfl) (by kernel_rfl) (fun _ _ _ h => h) (Or.inl ⟨by rfl, ?_⟩) hH45 ?_
  rotate_left
  · ((intro W hW; clear hW; go_simp) <;> with_reducible rfl)
  simp only [sq3, sq4]
  refine wpAnyH_take (i := 37) (v := ?_) rfl (by kernel_rfl) (by kernel_rfl) (by kernel_rfl) (fun _ _ _ h => h) (Or.inl ⟨by rfl, ?_⟩) hH45 ?_
  rotate_left
  · ((intro W hW; clear hW; go_simp) <;> with_reducible rfl)
  simp only [sq3, sq4]
  refine wpAnyH_take (i := 38) (v := ?_) rfl (by kernel_rfl) (by kernel_rfl) (by kernel_rfl) (fun _ _ _ h => h) (Or.inl ⟨by rfl, ?_⟩) hH45 ?_
  rotate_left
  · ((intro W hW; clear hW; go_simp) <;> with_reducible rfl)
  simp only [sq3, sq4]
  refine wpAnyH_take (i := 39) (v := ?_) rfl (by kernel_rfl) (by kernel_rfl) (by kernel_rfl) (fun _ _ _ h => h) (Or.inl ⟨by rfl, ?_⟩) hH45 ?_
  rotate_left
  · ((intro W hW; clear hW; go_simp) <;> with_reducible rfl)
  simp only [sq3, sq4]
  refine wpAnyH_take (i := 40) (v := ?_) rfl (by kernel_rfl) (by kernel_rfl) (by kernel_rfl) (fun _ _ _ h => h) (Or.inl ⟨by rfl, ?_⟩) hH45 ?_
  rotate_left
  · ((intro W hW; clear hW; go_simp) <;> with_reducible rfl)
  simp only [sq3, sq4]
  refine wpAnyH_take (i := 41) (v := ?_) rfl (by kernel_rfl) (by kernel_rfl) (by kernel_rfl) (fun _ _ _ h => h) (Or.inl ⟨by rfl, ?_⟩) hH45 ?_
  rotate_left
  · ((intro W hW; clear hW; go_simp) <;> with_reducible rfl)
  simp only [sq3, sq4]
  refine wpAnyH_take (i := 42) (v := ?_) rfl (by kernel_rfl) (by kernel_rfl) (by kernel_rfl) (fun _ _ _ h => h) (Or.inl ⟨by rfl, ?_⟩) hH45 ?_
  rotate_left
  · ((intro W hW; clear hW; go_simp) <;> with_reducible rfl)
  simp only [sq3, sq4]
  refine wpAnyH_take (i := 43) (v := ?_) rfl (by kernel_rfl) (by kernel_rfl) (by kernel_rfl) (fun _ _ _ h => h) (Or.inl ⟨by rfl, ?_⟩) hH45 ?_
  rotate_left
  · ((intro W hW; clear hW; go_simp) <;> with_reducible rfl)
  simp only [sq3, sq4]
  refine wpAnyH_take (i := 44) (v := ?_) rfl (by kernel_rfl) (by kernel_rfl) (by kernel_rfl) (fun _ _ _ h => h) (Or.inl ⟨by rfl, ?_⟩) hH45 ?_
  rotate_left
  · ((intro W hW; clear hW; go_simp) <;> with_reducible rfl)
  simp only [sq3, sq4]
  refine wpAnyH_take (i := 45) (v := ?_) rfl (by kernel_rfl) (by kernel_rfl) (by kernel_rfl) (fun _ _ _ h => h) (Or.inl ⟨by rfl, ?_⟩) hH45 ?_
  rotate_left
  · ((intro W hW; clear hW; go_simp) <;> with_reducible rfl)
  simp only [sq3, sq4]
  refine wpAnyH_take (i := 46) (v := ?_) rfl (by kernel_rfl) (by kernel_rfl) (by kernel_rfl) (fun _ _ _ h => h) (Or.inl ⟨by rfl, ?_⟩) hH45 ?_
  rotate_left
  · ((intro W hW; clear hW; go_simp) <;> with_reducible rfl)
  simp only [sq3, sq4]
  refine wpAnyH_take (i := 47) (v := ?_) rfl (by kernel_rfl) (by kernel_rfl) (by kernel_rfl) (fun _ _ _ h => h) (Or.inl ⟨by rfl, ?_⟩) hH45 ?_
  rotate_left
  · ((intro W hW; clear hW; go_simp) <;> with_reducible rfl)
  simp only [sq3, sq4]
  refine wpAnyH_take (i := 48) (v := ?_) rfl (by kernel_rfl) (by kernel_rfl) (by kernel_rfl) (fun _ _ _ h => h) (Or.inl ⟨by rfl, ?_⟩) hH45 ?_
  rotate_left
  · ((intro W hW; clear hW; go_simp) <;> with_reducible rfl)
  simp only [sq3, sq4]
  refine wpAnyH_take (i := 49) (v := ?_) rfl (by kernel_rfl) (by kernel_rfl) (by kernel_rfl) (fun _ _ _ h => h) (Or.inl ⟨by rfl, ?_⟩) hH45 ?_
  rotate_left
  · ((intro W hW; clear hW; go_simp) <;> with_reducible rfl)
  simp only [sq3, sq4]
  refine wpAnyH_take (i := 50) (v := ?_) rfl (by kernel_rfl) (by kernel_rfl) (by kernel_rfl) (fun _ _ _ h => h) (Or.inl ⟨by rfl, ?_⟩) hH45 ?_
  rotate_left
  · ((intro W hW; clear hW; go_simp) <;> with_reducible rfl)
  simp only [sq3, sq4]
  refine wpAnyH_take (i := 51) (v := ?_) rfl (by kernel_rfl) (by kernel_rfl) (by kernel_rfl) (fun _ _ _ h => h) (Or.inl ⟨by rfl, ?_⟩) hH45 ?_
  rotate_left
  · ((intro W hW; clear hW; go_simp) <;> with_reducible rfl)
  simp only [sq3, sq4]
  refine wpAnyH_take (i := 52) (v := ?_) rfl (by kernel_rfl) (by kernel_rfl) (by kernel_rfl) (fun _ _ _ h => h) (Or.inl ⟨by rfl, ?_⟩) hH45 ?_
  rotate_left
  · ((intro W hW; clear hW; go_simp) <;> with_reducible rfl)
  simp only [sq3, sq4]
  refine wpAnyH_take (i := 53) (v := ?_) rfl (by kernel_rfl) (by kernel_rfl) (by kernel_rfl) (fun _ _ _ h => h) (Or.inl ⟨by rfl, ?_⟩) hH45 ?_
  rotate_left
  · ((intro W hW; clear hW; go_simp) <;> with_reducible rfl)
  simp only [sq3, sq4]
  refine wpAnyH_take (i := 54) (v := ?_) rfl (by kernel_rfl) (by kernel_rfl) (by kernel_rfl) (fun _ _ _ h => h) (Or.inl ⟨by rfl, ?_⟩) hH45 ?_
  rotate_left
  · ((intro W hW; clear hW; go_simp) <;> with_reducible rfl)
  simp only [sq3, sq4]
  refine wpAnyH_take (i := 55) (v := ?_) rfl (by kernel_rfl) (by kernel_rfl) (by kernel_rfl) (fun _ _ _ h => h) (Or.inl ⟨by rfl, ?_⟩) hH45 ?_
  rotate_left
  · ((intro W hW; clear hW; go_simp) <;> with_reducible rfl)
  simp only [sq3, sq4]
  refine wpAnyH_take (i := 56) (v := ?_) rfl (by kernel_rfl) (by kernel_rfl) (by kernel_rfl) (fun _ _ _ h => h) (Or.inl ⟨by rfl, ?_⟩) hH45 ?_
  rotate_left
  · ((intro W hW; clear hW; go_simp) <;> with_reducible rfl)
  simp only [sq3, sq4]
  refine wpAnyH_take (i := 57) (v := .agg #[.int .u8 2, .int .u8 9, .int .u8 0, .int .u8 0, .int .u8 0, .int .u8 0]) rfl (by kernel_rfl) (by kernel_rfl) (by kernel_rfl) (fun _ _ _ h => h) (yieldsIf_load_mid (by kernel_rfl) 32 _ rfl gL (0 * 11) rfl [.int .u8 2, .int .u8 9, .int .u8 0, .int .u8 0, .int .u8 0, .int .u8 0] _ (fun W hW => Sle.zrange0 (hW.2.2.2) rfl 6 [.int .u8 2, .int .u8 9, .int .u8 0, .int .u8 0, .int .u8 0, .int .u8 0] rfl) Try.underlying32 rfl (by kernel_rfl)) hH45 ?_
  simp only [sq3, sq4]
  refine wpAnyH_take (i := 58) (v := .agg #[.int .u8 2, .int .u8 9, .int .u8 0, .int .u8 0, .int .u8 0, .int .u8 0]) rfl (by kernel_rfl) (by kernel_rfl) (by kernel_rfl) (fun _ _ _ h => h) (yieldsIf_load_part (by kernel_rfl) 32 _ rfl g5 0 6 rfl _ 32 (0, 0) (fun W hW => hW.2.2.1) _ rfl _ Try.underlying32 rfl (by kernel_rfl)) hH45 ?_
  simp only [sq3, sq4]
  refine wpAnyH_take (i := 59) (v := ?_) rfl (by kernel_rfl) (by kernel_rfl) (by kernel_rfl) (fun _ _ _ h => h) (Or.inl ⟨by rfl, ?_⟩) hH45 ?_
  rotate_left
  · ((intro W hW; clear hW; go_simp) <;> with_reducible rfl)
  simp only [sq3, sq4]
  refine wpAnyH_take (i := 60) (v := ?_) rfl (by kernel_rfl) (by kernel_rfl) (by kernel_rfl) (fun _ _ _ h => h) (Or.inl ⟨by rfl, ?_⟩) hH45 ?_
  rotate_left
  · ((intro W hW; clear hW; go_simp) <;> with_reducible rfl)
  simp only [sq3, sq4]
  refine wpAnyH_take (i := 61) (v := ?_) rfl (by kernel_rfl) (by kernel_rfl) (by kernel_rfl) (fun _ _ _ h => h) (Or.inl ⟨by rfl, ?_⟩) hH45 ?_
  rotate_left
  · ((intro W hW; clear hW; go_simp) <;> with_reducible rfl)
  simp only [sq3, sq4]
  refine wpAnyH_take (i := 62) (v := ?_) rfl (by kernel_rfl) (by kernel_rfl) (by kernel_rfl) (fun _ _ _ h => h) (Or.inl ⟨by rfl, ?_⟩) hH45 ?_
  rotate_left
  · ((intro W hW; clear hW; go_simp) <;> with_reducible rfl)
  simp only [sq3, sq4]
  refine wpAnyH_ready (rs := [63]) (by kernel_rfl) (by simp) ?_
  refine AllReadyH.cons (o := _) rfl (fun K hK => ?_) AllReadyH.nil
  simp only [sq3]
  go_simp
  with_reducible refine (sall_is _ hT kn_6).mono ?_
  rintro e w46 ⟨Alb, clb, rfl, lbw, hT_, k_, bb⟩
  dsimp only
  replace hmb := Kt.blk k_ hmb (by decide)
  replace hya := Kt.blk k_ hya (by decide)
  replace hyb := Kt.blk k_ hyb (by decide)
  replace hvk := Kt.blk k_ hvk (by decide)
  replace hvx := Kt.blk k_ hvx (by decide)
  replace hxm := Kt.blk k_ hxm (by decide)
  replace hb4 := Kt.blk k_ hb4 (by decide)
  replace hb57 := Kt.blk k_ hb57 (by decide)
  replace hyc := Kt.blk k_ hyc (by decide)
  replace hym := Kt.blk k_ hym (by decide)
  replace hyd := Kt.blk k_ hyd (by decide)
  replace hbk5 := Kt.blk k_ hbk5 (by decide)
  replace hrw5 := Kt.blk k_ hrw5 (by decide)
  replace hrm := Kt.blk k_ hrm (by decide)
  replace hye := Kt.blk k_ hye (by decide)
  replace la := Sle.kt la (Nt.row law (by decide)) k_
  replace hPa := hPa.kt k_
  replace hPb := hPb.kt k_
  replace law := (k_.own law (by decide))
  clear hT
  have hT := hT_
  replace bel := bel.trans bb
  clear bb k_ hT_
  clear lbw
  refine hK.out _ _ ⟨hya, hyb, hmb, la⟩ (fun hH47 => ?_)
  clear hK K
  refine wpAnyH_take (i := 64) (v := ?_) rfl (by kernel_rfl) (by kernel_rfl) (by kernel_rfl) (fun _ _ _ h => h) (Or.inl ⟨by rfl, ?_⟩) hH47 ?_
  rotate_left
  · ((intro W hW; clear hW; go_simp) <;> with_reducible rfl)
  simp only [sq3, sq4]
  refine wpAnyH_take (i := 65) (v := ?_) rfl (by kernel_rfl) (by kernel_rfl) (by kernel_rfl) (fun _ _ _ h => h) (Or.inl ⟨by rfl, ?_⟩) hH47 ?_
  rotate_left
  · ((intro W hW; clear hW; go_simp) <;> with_reducible rfl)
  simp only [sq3, sq4]
  refine wpAnyH_take (i := 66) (v := ?_) rfl (by kernel_rfl) (by kernel_rfl) (by kernel_rfl) (fun _ _ _ h => h) (Or.inl ⟨by rfl, ?_⟩) hH47 ?_
  rotate_left
  · ((intro W hW; clear hW; go_simp) <;> with_reducible rfl)
  simp only [sq3, sq4]
  refine wpAnyH_take (i := 67) (v := ?_) rfl (by kernel_rfl) (by kernel_rfl) (by kernel_rfl) (fun _ _ _ h => h) (Or.inl ⟨by rfl, ?_⟩) hH47 ?_
  rotate_left
  · ((intro W hW; clear hW; go_simp) <;> with_reducible rfl)
  simp only [Act.put, List.getElem_toArray, List.getElem_cons_zero, List.getElem_cons_succ, List.setIfInBounds_toArray, List.set_cons_zero]
  refine wpAnyH_done (by kernel_rfl) ?_ _
  go_wp2_with fail
  go_ret
  exact ⟨rfl, bel⟩
end Go.Proofs.Ytapdmlfjohiekaa
