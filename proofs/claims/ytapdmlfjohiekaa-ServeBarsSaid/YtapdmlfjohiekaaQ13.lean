/- Texts put together: Sv6, Svw, Svt, Law14, Text, Scan, Str, Cf1, Ref3, Cf2, Itr, Adr1, Cg1, Adr2, Adr3, Ref3p, Adr4, Walkw, Ref3t, Ref3a, Nets, Refn, Ref3s, Back3, Ref3m, Adr5, AdrEq, Ref3n, Ref3h, Cf3, Eth1, Cfz, Cg2, Adr6. -/
import Derived.Test.YtapdmlfjohiekaaQ1
import Derived.Test.YtapdmlfjohiekaaQ2
import Derived.Test.YtapdmlfjohiekaaQ9
import Derived.Test.YtapdmlfjohiekaaQ10
import Derived.Test.YtapdmlfjohiekaaQ12
import Derived.Deep.Cut
import Derived.Deep.CutRange
import Derived.Laws.RangeAny
import Derived.Lib.MapLaws
import Derived.Laws.Concat
import Derived.Laws.Strings3
import Derived.Deep.LoopGhost
import Derived.Test.YtapdmlfjohiekaaRows
import Derived.WalkSpells
import Derived.WalkLawsBesides
import Derived.Lib.Hide
import Derived.BigRegion
import Derived.Laws.OwnMore
import Derived.Lib.OthersKept
import Derived.Deep.RegionHeld
import Derived.Deep.QuietTactic
import Derived.BigQuiet
import Derived.Deep.RegionHeld3
import Derived.Stop.BytesEq
namespace Go.Proofs.Ytapdmlfjohiekaa
open Go.RowKit

set_option linter.unusedVariables false in
set_option linter.unusedSimpArgs false in
set_option maxRecDepth 100000 in
set_option maxHeartbeats 16000000 in
theorem sget_offer_your {lo gs gp : Nat} {own : Ad4} {mk sc : Int} {s : St} {h : Mh} {A : Option Addr} {n c : Nat} {hs : List Oh} {L : OptL} {wa a : Ad4} {b : Bool} {t : Int} (w : World) (hS : Sv lo gs gp w ⟨own, mk, sc⟩ s) (hO : Opv w A n c hs L) (hop : (h.op != 1) = false) (hs0 : 0 ≤ sc) (hs1 : sc < 4294967296) (hty : (typeL L : Int) = 1) (hw : fourL (findL L 50) = (wa.l, b)) (hr : offerS s h.mc wa t = (a, 0)) (hcl : h.cl.eqB Ad4.zero = true) (hfl : (bits .and .i64 h.flags 32768 != 0) = false) : Calls Try.prog 10 #[.pointer (some ⟨gs, 0, none⟩), .agg #[.int .i64 h.op, .int .i64 h.hops, .int .u32 h.xid, .int .i64 h.secs, .int .i64 h.flags, .int .u8 (h.c0.toNat : Int), .int .u8 (h.c1.toNat : Int), .int .u8 (h.c2.toNat : Int), .int .u8 (h.c3.toNat : Int), .int .u8 (h.y0.toNat : Int), .int .u8 (h.y1.toNat : Int), .int .u8 (h.y2.toNat : Int), .int .u8 (h.y3.toNat : Int), .int .u8 (h.s0.toNat : Int), .int .u8 (h.s1.toNat : Int), .int .u8 (h.s2.toNat : Int), .int .u8 (h.s3.toNat : Int), .int .u8 (h.r0.toNat : Int), .int .u8 (h.r1.toNat : Int), .int .u8 (h.r2.toNat : Int), .int .u8 (h.r3.toNat : Int), .int .u8 (h.m0.toNat : Int), .int .u8 (h.m1.toNat : Int), .int .u8 (h.m2.toNat : Int), .int .u8 (h.m3.toNat : Int), .int .u8 (h.m4.toNat : Int), .int .u8 (h.m5.toNat : Int), .slice A n c], .int .i64 t] w fun e w' => ∃ A2 c2 hs2, e = .returned (.tuple #[.agg #[.int .i64 2, .int .i64 0, .int .u32 h.xid, .int .i64 0, .int .i64 h.flags, .int .u8 0, .int .u8 0, .int .u8 0, .int .u8 0, .int .u8 (a.a.toNat : Int), .int .u8 (a.b.toNat : Int), .int .u8 (a.c.toNat : Int), .int .u8 (a.d.toNat : Int), .int .u8 (own.a.toNat : Int), .int .u8 (own.b.toNat : Int), .int .u8 (own.c.toNat : Int), .int .u8 (own.d.toNat : Int), .int .u8 (h.r0.toNat : Int), .int .u8 (h.r1.toNat : Int), .int .u8 (h.r2.toNat : Int), .int .u8 (h.r3.toNat : Int), .int .u8 (h.m0.toNat : Int), .int .u8 (h.m1.toNat : Int), .int .u8 (h.m2.toNat : Int), .int .u8 (h.m3.toNat : Int), .int .u8 (h.m4.toNat : Int), .int .u8 (h.m5.toNat : Int), .slice A2 6 c2, .int .u8 (h.m0.toNat : Int), .int .u8 (h.m1.toNat : Int), .int .u8 (h.m2.toNat : Int), .int .u8 (h.m3.toNat : Int), .int .u8 (h.m4.toNat : Int), .int .u8 (h.m5.toNat : Int), .int .u8 (a.a.toNat : Int), .int .u8 (a.b.toNat : Int), .int .u8 (a.c.toNat : Int), .int .u8 (a.d.toNat : Int)], .bool true]) ∧ Opv w' A2 6 c2 hs2 [(53, [2]), (54, own.l), (51, four sc), (1, four mk), (3, own.l), (6, own.l)] ∧ (∀ q, q < w.heap.size → Oa A2 6 hs2 q) ∧ Sv lo gs gp w' ⟨own, mk, sc⟩ (s.adv t) ∧ Kt [84, 101] w w' ∧ Below lo w w' := by
  have hlo : lo ≤ w.heap.size := hS.lo_le
  have hT := hS
  clear hS
  have kt := Kt.refl [84, 101] w
  have HOP := hop
  clear hop
  have hop := HOP
  clear HOP
  have HS0 := Lib.hid hs0
  clear hs0
  have HS1 := Lib.hid hs1
  clear hs1
  have HTY := Lib.hid hty
  clear hty
  have HW := Lib.hid hw
  clear hw
  have HR := Lib.hid hr
  clear hr
  have HCL := Lib.hid hcl
  clear hcl
  have HFL := Lib.hid hfl
  clear hfl
  have bel := Below.refl lo w
  go_enter Try.func10, Try.ntmps10
  go_wp2_with (first | ((with_reducible show wpList _ _ _ (⟨some 4, _, _, _, _, _⟩ :: _) _ _); refine wpList_box_n rfl 41 (.tmp 1) rfl #[.int .i64 h.op, .int .i64 h.hops, .int .u32 h.xid, .int .i64 h.secs, .int .i64 h.flags, .int .u8 (h.c0.toNat : Int), .int .u8 (h.c1.toNat : Int), .int .u8 (h.c2.toNat : Int), .int .u8 (h.c3.toNat : Int), .int .u8 (h.y0.toNat : Int), .int .u8 (h.y1.toNat : Int), .int .u8 (h.y2.toNat : Int), .int .u8 (h.y3.toNat : Int), .int .u8 (h.s0.toNat : Int), .int .u8 (h.s1.toNat : Int), .int .u8 (h.s2.toNat : Int), .int .u8 (h.s3.toNat : Int), .int .u8 (h.r0.toNat : Int), .int .u8 (h.r1.toNat : Int), .int .u8 (h.r2.toNat : Int), .int .u8 (h.r3.toNat : Int), .int .u8 (h.m0.toNat : Int), .int .u8 (h.m1.toNat : Int), .int .u8 (h.m2.toNat : Int), .int .u8 (h.m3.toNat : Int), .int .u8 (h.m4.toNat : Int), .int .u8 (h.m5.toNat : Int), .slice A n c] rfl ?_; intro g4 w1 ge lt hh bb; have op := Nat.le_trans (Nat.le_trans hlo bel.size) ge; have pp := Nat.le_trans bel.size ge; have oa_p := hO.oa ge; have pp := Nat.le_trans bel.size ge; replace kt := kt.trans (kt_below bb); replace hT := hT.below bb; replace hO := hO.below bb; replace bel := bel.trans (bb.mono (Nat.le_trans hlo bel.size)); have hp := hh; clear hh lt ge bb) | ((with_reducible show wpList _ _ _ (⟨some 6, _, _, _, _, _⟩ :: _) _ _); refine wpList_new_a rfl 43 rfl #[.int .i64 0, .int .i64 0, .int .u32 0, .int .i64 0, .int .i64 0, .int .u8 0, .int .u8 0, .int .u8 0, .int .u8 0, .int .u8 0, .int .u8 0, .int .u8 0, .int .u8 0, .int .u8 0, .int .u8 0, .int .u8 0, .int .u8 0, .int .u8 0, .int .u8 0, .int .u8 0, .int .u8 0, .int .u8 0, .int .u8 0, .int .u8 0, .int .u8 0, .int .u8 0, .int .u8 0, .slice none 0 0, .int .u8 0, .int .u8 0, .int .u8 0, .int .u8 0, .int .u8 0, .int .u8 0, .int .u8 0, .int .u8 0, .int .u8 0, .int .u8 0] (by kernel_rfl) ?_; intro g6 w2 ge hh bb; have d_p_z := ne_new (hlt hp) ge; have oz := Nat.le_trans (Nat.le_trans hlo bel.size) ge; have pz := Nat.le_trans bel.size ge; have oa_z := hO.oa ge; have pz := Nat.le_trans bel.size ge; replace hp := blk_u hp bb; replace kt := kt.trans (kt_below bb); replace hT := hT.below bb; replace hO := hO.below bb; replace bel := bel.trans (bb.mono (Nat.le_trans hlo bel.size)); have hz := hh; clear hh ge bb; have R9 := cell_lit hp 0 _ rfl; have R12 := Lib.hid (range_lit hp 0 28 [.int .i64 h.op, .int .i64 h.hops, .int .u32 h.xid, .int .i64 h.secs, .int .i64 h.flags, .int .u8 (h.c0.toNat : Int), .int .u8 (h.c1.toNat : Int), .int .u8 (h.c2.toNat : Int), .int .u8 (h.c3.toNat : Int), .int .u8 (h.y0.toNat : Int), .int .u8 (h.y1.toNat : Int), .int .u8 (h.y2.toNat : Int), .int .u8 (h.y3.toNat : Int), .int .u8 (h.s0.toNat : Int), .int .u8 (h.s1.toNat : Int), .int .u8 (h.s2.toNat : Int), .int .u8 (h.s3.toNat : Int), .int .u8 (h.r0.toNat : Int), .int .u8 (h.r1.toNat : Int), .int .u8 (h.r2.toNat : Int), .int .u8 (h.r3.toNat : Int), .int .u8 (h.m0.toNat : Int), .int .u8 (h.m1.toNat : Int), .int .u8 (h.m2.toNat : Int), .int .u8 (h.m3.toNat : Int), .int .u8 (h.m4.toNat : Int), .int .u8 (h.m5.toNat : Int), .slice A n c] rfl)) | ((with_reducible show wpList _ _ _ (⟨some 12, _, _, _, _, _⟩ :: _) _ _); refine wpList_load_rng 41 (.tmp 4) rfl (by kernel_rfl) _ _ rfl _ R12.out _ Try.underlying41 rfl (by kernel_rfl) ?_))
  try clear R9
  try clear R12
  with_reducible refine (dtype_o (h := h) _ hO HTY.out).mono ?_
  rintro e w3 ⟨rfl, b3⟩
  replace hp := blk_u hp b3
  replace hz := blk_u hz b3
  replace kt := kt.trans (kt_below b3)
  replace hT := hT.below b3
  replace hO := hO.below b3
  replace bel := bel.trans (b3.mono (Nat.le_trans hlo bel.size))
  clear b3
  have R17 := Lib.hid (range_lit hp 0 28 [.int .i64 h.op, .int .i64 h.hops, .int .u32 h.xid, .int .i64 h.secs, .int .i64 h.flags, .int .u8 (h.c0.toNat : Int), .int .u8 (h.c1.toNat : Int), .int .u8 (h.c2.toNat : Int), .int .u8 (h.c3.toNat : Int), .int .u8 (h.y0.toNat : Int), .int .u8 (h.y1.toNat : Int), .int .u8 (h.y2.toNat : Int), .int .u8 (h.y3.toNat : Int), .int .u8 (h.s0.toNat : Int), .int .u8 (h.s1.toNat : Int), .int .u8 (h.s2.toNat : Int), .int .u8 (h.s3.toNat : Int), .int .u8 (h.r0.toNat : Int), .int .u8 (h.r1.toNat : Int), .int .u8 (h.r2.toNat : Int), .int .u8 (h.r3.toNat : Int), .int .u8 (h.m0.toNat : Int), .int .u8 (h.m1.toNat : Int), .int .u8 (h.m2.toNat : Int), .int .u8 (h.m3.toNat : Int), .int .u8 (h.m4.toNat : Int), .int .u8 (h.m5.toNat : Int), .slice A n c] rfl)
  go_wp2_with (first | ((with_reducible show wpList _ _ _ (⟨some 17, _, _, _, _, _⟩ :: _) _ _); refine wpList_load_rng 41 (.tmp 4) rfl (by kernel_rfl) _ _ rfl _ R17.out _ Try.underlying41 rfl (by kernel_rfl) ?_))
  try clear R17
  go_wp2_with fail
  have sp_p := hlt hp
  have sp_z := hlt hz
  have hwz := bel.size
  with_reducible refine (soffer_your _ hT hO HS0.out HS1.out HTY.out HW.out HR.out HCL.out HFL.out).mono ?_
  rintro e w4 ⟨A2, c2, hs2, rfl, hP, fP, hT_, k_, bb⟩
  replace hp := Kt.blk k_ hp (by decide)
  replace hz := Kt.blk k_ hz (by decide)
  replace kt := kt.trans k_
  replace hO := hO.kt k_
  clear hT
  have hT := hT_
  replace bel := bel.trans bb
  clear bb k_ hT_
  have fA : ∀ q, q < w.heap.size → Oa A2 6 hs2 q := fun q_ hq_ => fP q_ (Nat.lt_of_lt_of_le hq_ hwz)
  clear hwz
  have ob_p := fP _ sp_p
  have ob_z := fP _ sp_z
  clear sp_p sp_z
  clear fP
  go_wp2_with (first | ((with_reducible show wpList _ _ _ (⟨none, Op.store _ (.tmp 6) _, _, _, _, _⟩ :: _) _ _); refine wpList_store_blk rfl 43 (.tmp 6) (.tmp 20) rfl g6 rfl _ rfl _ 43 hz (by rfl) (by kernel_rfl) (by kernel_rfl) ?_; intro w5 hq gr; replace hp := blk_a hp gr d_p_z; replace kt := kt.newer gr pz bel.size; replace hT := hT.grown gr hz (by decide); replace hO := hO.away oa_z gr; replace hP := hP.away ob_z gr; replace bel := below_grown bel gr oz (Nat.le_trans hlo bel.size); clear hz; have hz := hq; clear hq gr))
  exact bodyPost_ret (results_cell_tmp_row rfl _ _ _ _ _ _ _ rfl hz Try.underlying43 rfl (by kernel_rfl) (.bool true) rfl) rfl ⟨_, _, _, rfl, hP, fA, hT, kt, bel⟩
set_option linter.unusedVariables false in
set_option linter.unusedSimpArgs false in
set_option maxRecDepth 100000 in
set_option maxHeartbeats 16000000 in
theorem sget_offer_no {lo gs gp : Nat} {own : Ad4} {mk sc : Int} {s : St} {h : Mh} {A : Option Addr} {n c : Nat} {hs : List Oh} {L : OptL} {wa a : Ad4} {b : Bool} {t r : Int} (w : World) (hS : Sv lo gs gp w ⟨own, mk, sc⟩ s) (hO : Opv w A n c hs L) (hop : (h.op != 1) = false) (hty : (typeL L : Int) = 1) (hw : fourL (findL L 50) = (wa.l, b)) (hr : offerS s h.mc wa t = (a, r)) (hr0 : (r != 0) = true) : Calls Try.prog 10 #[.pointer (some ⟨gs, 0, none⟩), .agg #[.int .i64 h.op, .int .i64 h.hops, .int .u32 h.xid, .int .i64 h.secs, .int .i64 h.flags, .int .u8 (h.c0.toNat : Int), .int .u8 (h.c1.toNat : Int), .int .u8 (h.c2.toNat : Int), .int .u8 (h.c3.toNat : Int), .int .u8 (h.y0.toNat : Int), .int .u8 (h.y1.toNat : Int), .int .u8 (h.y2.toNat : Int), .int .u8 (h.y3.toNat : Int), .int .u8 (h.s0.toNat : Int), .int .u8 (h.s1.toNat : Int), .int .u8 (h.s2.toNat : Int), .int .u8 (h.s3.toNat : Int), .int .u8 (h.r0.toNat : Int), .int .u8 (h.r1.toNat : Int), .int .u8 (h.r2.toNat : Int), .int .u8 (h.r3.toNat : Int), .int .u8 (h.m0.toNat : Int), .int .u8 (h.m1.toNat : Int), .int .u8 (h.m2.toNat : Int), .int .u8 (h.m3.toNat : Int), .int .u8 (h.m4.toNat : Int), .int .u8 (h.m5.toNat : Int), .slice A n c], .int .i64 t] w fun e w' => e = .returned (.tuple #[.agg #[.int .i64 0, .int .i64 0, .int .u32 0, .int .i64 0, .int .i64 0, .int .u8 0, .int .u8 0, .int .u8 0, .int .u8 0, .int .u8 0, .int .u8 0, .int .u8 0, .int .u8 0, .int .u8 0, .int .u8 0, .int .u8 0, .int .u8 0, .int .u8 0, .int .u8 0, .int .u8 0, .int .u8 0, .int .u8 0, .int .u8 0, .int .u8 0, .int .u8 0, .int .u8 0, .int .u8 0, .slice none 0 0, .int .u8 0, .int .u8 0, .int .u8 0, .int .u8 0, .int .u8 0, .int .u8 0, .int .u8 0, .int .u8 0, .int .u8 0, .int .u8 0], .bool false]) ∧ Sv lo gs gp w' ⟨own, mk, sc⟩ (s.adv t) ∧ Kt [84, 101] w w' ∧ Below lo w w' := by
  have hlo : lo ≤ w.heap.size := hS.lo_le
  have hT := hS
  clear hS
  have kt := Kt.refl [84, 101] w
  have HOP := hop
  clear hop
  have hop := HOP
  clear HOP
  have HTY := Lib.hid hty
  clear hty
  have HW := Lib.hid hw
  clear hw
  have HR := Lib.hid hr
  clear hr
  have HR0 := Lib.hid hr0
  clear hr0
  have bel := Below.refl lo w
  go_enter Try.func10, Try.ntmps10
  go_wp2_with (first | ((with_reducible show wpList _ _ _ (⟨some 4, _, _, _, _, _⟩ :: _) _ _); refine wpList_box_n rfl 41 (.tmp 1) rfl #[.int .i64 h.op, .int .i64 h.hops, .int .u32 h.xid, .int .i64 h.secs, .int .i64 h.flags, .int .u8 (h.c0.toNat : Int), .int .u8 (h.c1.toNat : Int), .int .u8 (h.c2.toNat : Int), .int .u8 (h.c3.toNat : Int), .int .u8 (h.y0.toNat : Int), .int .u8 (h.y1.toNat : Int), .int .u8 (h.y2.toNat : Int), .int .u8 (h.y3.toNat : Int), .int .u8 (h.s0.toNat : Int), .int .u8 (h.s1.toNat : Int), .int .u8 (h.s2.toNat : Int), .int .u8 (h.s3.toNat : Int), .int .u8 (h.r0.toNat : Int), .int .u8 (h.r1.toNat : Int), .int .u8 (h.r2.toNat : Int), .int .u8 (h.r3.toNat : Int), .int .u8 (h.m0.toNat : Int), .int .u8 (h.m1.toNat : Int), .int .u8 (h.m2.toNat : Int), .int .u8 (h.m3.toNat : Int), .int .u8 (h.m4.toNat : Int), .int .u8 (h.m5.toNat : Int), .slice A n c] rfl ?_; intro g4 w1 ge lt hh bb; have op := Nat.le_trans (Nat.le_trans hlo bel.size) ge; have pp := Nat.le_trans bel.size ge; have oa_p := hO.oa ge; have pp := Nat.le_trans bel.size ge; replace kt := kt.trans (kt_below bb); replace hT := hT.below bb; replace hO := hO.below bb; replace bel := bel.trans (bb.mono (Nat.le_trans hlo bel.size)); have hp := hh; clear hh lt ge bb) | ((with_reducible show wpList _ _ _ (⟨some 6, _, _, _, _, _⟩ :: _) _ _); refine wpList_new_a rfl 43 rfl #[.int .i64 0, .int .i64 0, .int .u32 0, .int .i64 0, .int .i64 0, .int .u8 0, .int .u8 0, .int .u8 0, .int .u8 0, .int .u8 0, .int .u8 0, .int .u8 0, .int .u8 0, .int .u8 0, .int .u8 0, .int .u8 0, .int .u8 0, .int .u8 0, .int .u8 0, .int .u8 0, .int .u8 0, .int .u8 0, .int .u8 0, .int .u8 0, .int .u8 0, .int .u8 0, .int .u8 0, .slice none 0 0, .int .u8 0, .int .u8 0, .int .u8 0, .int .u8 0, .int .u8 0, .int .u8 0, .int .u8 0, .int .u8 0, .int .u8 0, .int .u8 0] (by kernel_rfl) ?_; intro g6 w2 ge hh bb; have d_p_z := ne_new (hlt hp) ge; have oz := Nat.le_trans (Nat.le_trans hlo bel.size) ge; have pz := Nat.le_trans bel.size ge; have oa_z := hO.oa ge; have pz := Nat.le_trans bel.size ge; replace hp := blk_u hp bb; replace kt := kt.trans (kt_below bb); replace hT := hT.below bb; replace hO := hO.below bb; replace bel := bel.trans (bb.mono (Nat.le_trans hlo bel.size)); have hz := hh; clear hh ge bb; have R9 := cell_lit hp 0 _ rfl; have R12 := Lib.hid (range_lit hp 0 28 [.int .i64 h.op, .int .i64 h.hops, .int .u32 h.xid, .int .i64 h.secs, .int .i64 h.flags, .int .u8 (h.c0.toNat : Int), .int .u8 (h.c1.toNat : Int), .int .u8 (h.c2.toNat : Int), .int .u8 (h.c3.toNat : Int), .int .u8 (h.y0.toNat : Int), .int .u8 (h.y1.toNat : Int), .int .u8 (h.y2.toNat : Int), .int .u8 (h.y3.toNat : Int), .int .u8 (h.s0.toNat : Int), .int .u8 (h.s1.toNat : Int), .int .u8 (h.s2.toNat : Int), .int .u8 (h.s3.toNat : Int), .int .u8 (h.r0.toNat : Int), .int .u8 (h.r1.toNat : Int), .int .u8 (h.r2.toNat : Int), .int .u8 (h.r3.toNat : Int), .int .u8 (h.m0.toNat : Int), .int .u8 (h.m1.toNat : Int), .int .u8 (h.m2.toNat : Int), .int .u8 (h.m3.toNat : Int), .int .u8 (h.m4.toNat : Int), .int .u8 (h.m5.toNat : Int), .slice A n c] rfl)) | ((with_reducible show wpList _ _ _ (⟨some 12, _, _, _, _, _⟩ :: _) _ _); refine wpList_load_rng 41 (.tmp 4) rfl (by kernel_rfl) _ _ rfl _ R12.out _ Try.underlying41 rfl (by kernel_rfl) ?_))
  try clear R9
  try clear R12
  with_reducible refine (dtype_o (h := h) _ hO HTY.out).mono ?_
  rintro e w3 ⟨rfl, b3⟩
  replace hp := blk_u hp b3
  replace hz := blk_u hz b3
  replace kt := kt.trans (kt_below b3)
  replace hT := hT.below b3
  replace hO := hO.below b3
  replace bel := bel.trans (b3.mono (Nat.le_trans hlo bel.size))
  clear b3
  have R17 := Lib.hid (range_lit hp 0 28 [.int .i64 h.op, .int .i64 h.hops, .int .u32 h.xid, .int .i64 h.secs, .int .i64 h.flags, .int .u8 (h.c0.toNat : Int), .int .u8 (h.c1.toNat : Int), .int .u8 (h.c2.toNat : Int), .int .u8 (h.c3.toNat : Int), .int .u8 (h.y0.toNat : Int), .int .u8 (h.y1.toNat : Int), .int .u8 (h.y2.toNat : Int), .int .u8 (h.y3.toNat : Int), .int .u8 (h.s0.toNat : Int), .int .u8 (h.s1.toNat : Int), .int .u8 (h.s2.toNat : Int), .int .u8 (h.s3.toNat : Int), .int .u8 (h.r0.toNat : Int), .int .u8 (h.r1.toNat : Int), .int .u8 (h.r2.toNat : Int), .int .u8 (h.r3.toNat : Int), .int .u8 (h.m0.toNat : Int), .int .u8 (h.m1.toNat : Int), .int .u8 (h.m2.toNat : Int), .int .u8 (h.m3.toNat : Int), .int .u8 (h.m4.toNat : Int), .int .u8 (h.m5.toNat : Int), .slice A n c] rfl)
  go_wp2_with (first | ((with_reducible show wpList _ _ _ (⟨some 17, _, _, _, _, _⟩ :: _) _ _); refine wpList_load_rng 41 (.tmp 4) rfl (by kernel_rfl) _ _ rfl _ R17.out _ Try.underlying41 rfl (by kernel_rfl) ?_))
  try clear R17
  go_wp2_with fail
  with_reducible refine (soffer_no _ hT hO HW.out HR.out HR0.out).mono ?_
  rintro e w4 ⟨rfl, hT_, k_, bb⟩
  replace hp := Kt.blk k_ hp (by decide)
  replace hz := Kt.blk k_ hz (by decide)
  replace kt := kt.trans k_
  replace hO := hO.kt k_
  clear hT
  have hT := hT_
  replace bel := bel.trans bb
  clear bb k_ hT_
  go_wp2_with (first | ((with_reducible show wpList _ _ _ (⟨none, Op.store _ (.tmp 6) _, _, _, _, _⟩ :: _) _ _); refine wpList_store_blk rfl 43 (.tmp 6) (.tmp 20) rfl g6 rfl _ rfl _ 43 hz (by rfl) (by kernel_rfl) (by kernel_rfl) ?_; intro w5 hq gr; replace hp := blk_a hp gr d_p_z; replace kt := kt.newer gr pz bel.size; replace hT := hT.grown gr hz (by decide); replace hO := hO.away oa_z gr; replace bel := below_grown bel gr oz (Nat.le_trans hlo bel.size); clear hz; have hz := hq; clear hq gr))
  exact bodyPost_ret (results_cell_tmp_row rfl _ _ _ _ _ _ _ rfl hz Try.underlying43 rfl (by kernel_rfl) (.bool false) rfl) rfl ⟨rfl, hT, kt, bel⟩
set_option linter.unusedVariables false in
set_option linter.unusedSimpArgs false in
set_option maxRecDepth 100000 in
set_option maxHeartbeats 16000000 in
theorem sget_opt_your {lo gs gp : Nat} {own : Ad4} {mk sc : Int} {s : St} {h : Mh} {A : Option Addr} {n c : Nat} {hs : List Oh} {L : OptL} {sa a : Ad4} {t : Int} {s' : St} (w : World) (hS : Sv lo gs gp w ⟨own, mk, sc⟩ s) (hO : Opv w A n c hs L) (hop : (h.op != 1) = false) (hs0 : 0 ≤ sc) (hs1 : sc < 4294967296) (hty : (typeL L : Int) = 3) (h54 : fourL (findL L 54) = (sa.l, false)) (hw : fourL (findL L 50) = (a.l, true)) (ha0 : a.eqB Ad4.zero = false) (hr : takeS s h.mc a t sc = (0, s')) (hcl : h.cl.eqB Ad4.zero = true) (hfl : (bits .and .i64 h.flags 32768 != 0) = false) : Calls Try.prog 10 #[.pointer (some ⟨gs, 0, none⟩), .agg #[.int .i64 h.op, .int .i64 h.hops, .int .u32 h.xid, .int .i64 h.secs, .int .i64 h.flags, .int .u8 (h.c0.toNat : Int), .int .u8 (h.c1.toNat : Int), .int .u8 (h.c2.toNat : Int), .int .u8 (h.c3.toNat : Int), .int .u8 (h.y0.toNat : Int), .int .u8 (h.y1.toNat : Int), .int .u8 (h.y2.toNat : Int), .int .u8 (h.y3.toNat : Int), .int .u8 (h.s0.toNat : Int), .int .u8 (h.s1.toNat : Int), .int .u8 (h.s2.toNat : Int), .int .u8 (h.s3.toNat : Int), .int .u8 (h.r0.toNat : Int), .int .u8 (h.r1.toNat : Int), .int .u8 (h.r2.toNat : Int), .int .u8 (h.r3.toNat : Int), .int .u8 (h.m0.toNat : Int), .int .u8 (h.m1.toNat : Int), .int .u8 (h.m2.toNat : Int), .int .u8 (h.m3.toNat : Int), .int .u8 (h.m4.toNat : Int), .int .u8 (h.m5.toNat : Int), .slice A n c], .int .i64 t] w fun e w' => ∃ A2 c2 hs2, e = .returned (.tuple #[.agg #[.int .i64 2, .int .i64 0, .int .u32 h.xid, .int .i64 0, .int .i64 h.flags, .int .u8 (h.c0.toNat : Int), .int .u8 (h.c1.toNat : Int), .int .u8 (h.c2.toNat : Int), .int .u8 (h.c3.toNat : Int), .int .u8 (a.a.toNat : Int), .int .u8 (a.b.toNat : Int), .int .u8 (a.c.toNat : Int), .int .u8 (a.d.toNat : Int), .int .u8 (own.a.toNat : Int), .int .u8 (own.b.toNat : Int), .int .u8 (own.c.toNat : Int), .int .u8 (own.d.toNat : Int), .int .u8 (h.r0.toNat : Int), .int .u8 (h.r1.toNat : Int), .int .u8 (h.r2.toNat : Int), .int .u8 (h.r3.toNat : Int), .int .u8 (h.m0.toNat : Int), .int .u8 (h.m1.toNat : Int), .int .u8 (h.m2.toNat : Int), .int .u8 (h.m3.toNat : Int), .int .u8 (h.m4.toNat : Int), .int .u8 (h.m5.toNat : Int), .slice A2 6 c2, .int .u8 (h.m0.toNat : Int), .int .u8 (h.m1.toNat : Int), .int .u8 (h.m2.toNat : Int), .int .u8 (h.m3.toNat : Int), .int .u8 (h.m4.toNat : Int), .int .u8 (h.m5.toNat : Int), .int .u8 (a.a.toNat : Int), .int .u8 (a.b.toNat : Int), .int .u8 (a.c.toNat : Int), .int .u8 (a.d.toNat : Int)], .bool true]) ∧ Opv w' A2 6 c2 hs2 [(53, [5]), (54, own.l), (51, four sc), (1, four mk), (3, own.l), (6, own.l)] ∧ (∀ q, q < w.heap.size → Oa A2 6 hs2 q) ∧ Sv lo gs gp w' ⟨own, mk, sc⟩ s' ∧ Kt [84, 101] w w' ∧ Below lo w w' := by
  have hlo : lo ≤ w.heap.size := hS.lo_le
  have hT := hS
  clear hS
  have kt := Kt.refl [84, 101] w
  have HOP := hop
  clear hop
  have hop := HOP
  clear HOP
  have HS0 := Lib.hid hs0
  clear hs0
  have HS1 := Lib.hid hs1
  clear hs1
  have HTY := Lib.hid hty
  clear hty
  have HR := Lib.hid hr
  clear hr
  have H54 := Lib.hid h54
  clear h54
  have HW := Lib.hid hw
  clear hw
  have HA0 := Lib.hid ha0
  clear ha0
  have HCL := Lib.hid hcl
  clear hcl
  have HFL := Lib.hid hfl
  clear hfl
  have bel := Below.refl lo w
  go_enter Try.func10, Try.ntmps10
  go_wp2_with (first | ((with_reducible show wpList _ _ _ (⟨some 4, _, _, _, _, _⟩ :: _) _ _); refine wpList_box_n rfl 41 (.tmp 1) rfl #[.int .i64 h.op, .int .i64 h.hops, .int .u32 h.xid, .int .i64 h.secs, .int .i64 h.flags, .int .u8 (h.c0.toNat : Int), .int .u8 (h.c1.toNat : Int), .int .u8 (h.c2.toNat : Int), .int .u8 (h.c3.toNat : Int), .int .u8 (h.y0.toNat : Int), .int .u8 (h.y1.toNat : Int), .int .u8 (h.y2.toNat : Int), .int .u8 (h.y3.toNat : Int), .int .u8 (h.s0.toNat : Int), .int .u8 (h.s1.toNat : Int), .int .u8 (h.s2.toNat : Int), .int .u8 (h.s3.toNat : Int), .int .u8 (h.r0.toNat : Int), .int .u8 (h.r1.toNat : Int), .int .u8 (h.r2.toNat : Int), .int .u8 (h.r3.toNat : Int), .int .u8 (h.m0.toNat : Int), .int .u8 (h.m1.toNat : Int), .int .u8 (h.m2.toNat : Int), .int .u8 (h.m3.toNat : Int), .int .u8 (h.m4.toNat : Int), .int .u8 (h.m5.toNat : Int), .slice A n c] rfl ?_; intro g4 w1 ge lt hh bb; have op := Nat.le_trans (Nat.le_trans hlo bel.size) ge; have pp := Nat.le_trans bel.size ge; have oa_p := hO.oa ge; have pp := Nat.le_trans bel.size ge; replace kt := kt.trans (kt_below bb); replace hT := hT.below bb; replace hO := hO.below bb; replace bel := bel.trans (bb.mono (Nat.le_trans hlo bel.size)); have hp := hh; clear hh lt ge bb) | ((with_reducible show wpList _ _ _ (⟨some 6, _, _, _, _, _⟩ :: _) _ _); refine wpList_new_a rfl 43 rfl #[.int .i64 0, .int .i64 0, .int .u32 0, .int .i64 0, .int .i64 0, .int .u8 0, .int .u8 0, .int .u8 0, .int .u8 0, .int .u8 0, .int .u8 0, .int .u8 0, .int .u8 0, .int .u8 0, .int .u8 0, .int .u8 0, .int .u8 0, .int .u8 0, .int .u8 0, .int .u8 0, .int .u8 0, .int .u8 0, .int .u8 0, .int .u8 0, .int .u8 0, .int .u8 0, .int .u8 0, .slice none 0 0, .int .u8 0, .int .u8 0, .int .u8 0, .int .u8 0, .int .u8 0, .int .u8 0, .int .u8 0, .int .u8 0, .int .u8 0, .int .u8 0] (by kernel_rfl) ?_; intro g6 w2 ge hh bb; have d_p_z := ne_new (hlt hp) ge; have oz := Nat.le_trans (Nat.le_trans hlo bel.size) ge; have pz := Nat.le_trans bel.size ge; have oa_z := hO.oa ge; have pz := Nat.le_trans bel.size ge; replace hp := blk_u hp bb; replace kt := kt.trans (kt_below bb); replace hT := hT.below bb; replace hO := hO.below bb; replace bel := bel.trans (bb.mono (Nat.le_trans hlo bel.size)); have hz := hh; clear hh ge bb; have R9 := cell_lit hp 0 _ rfl; have R12 := Lib.hid (range_lit hp 0 28 [.int .i64 h.op, .int .i64 h.hops, .int .u32 h.xid, .int .i64 h.secs, .int .i64 h.flags, .int .u8 (h.c0.toNat : Int), .int .u8 (h.c1.toNat : Int), .int .u8 (h.c2.toNat : Int), .int .u8 (h.c3.toNat : Int), .int .u8 (h.y0.toNat : Int), .int .u8 (h.y1.toNat : Int), .int .u8 (h.y2.toNat : Int), .int .u8 (h.y3.toNat : Int), .int .u8 (h.s0.toNat : Int), .int .u8 (h.s1.toNat : Int), .int .u8 (h.s2.toNat : Int), .int .u8 (h.s3.toNat : Int), .int .u8 (h.r0.toNat : Int), .int .u8 (h.r1.toNat : Int), .int .u8 (h.r2.toNat : Int), .int .u8 (h.r3.toNat : Int), .int .u8 (h.m0.toNat : Int), .int .u8 (h.m1.toNat : Int), .int .u8 (h.m2.toNat : Int), .int .u8 (h.m3.toNat : Int), .int .u8 (h.m4.toNat : Int), .int .u8 (h.m5.toNat : Int), .slice A n c] rfl)) | ((with_reducible show wpList _ _ _ (⟨some 12, _, _, _, _, _⟩ :: _) _ _); refine wpList_load_rng 41 (.tmp 4) rfl (by kernel_rfl) _ _ rfl _ R12.out _ Try.underlying41 rfl (by kernel_rfl) ?_))
  try clear R9
  try clear R12
  with_reducible refine (dtype_o (h := h) _ hO HTY.out).mono ?_
  rintro e w3 ⟨rfl, b3⟩
  replace hp := blk_u hp b3
  replace hz := blk_u hz b3
  replace kt := kt.trans (kt_below b3)
  replace hT := hT.below b3
  replace hO := hO.below b3
  replace bel := bel.trans (b3.mono (Nat.le_trans hlo bel.size))
  clear b3
  have R25 := Lib.hid (range_lit hp 0 28 [.int .i64 h.op, .int .i64 h.hops, .int .u32 h.xid, .int .i64 h.secs, .int .i64 h.flags, .int .u8 (h.c0.toNat : Int), .int .u8 (h.c1.toNat : Int), .int .u8 (h.c2.toNat : Int), .int .u8 (h.c3.toNat : Int), .int .u8 (h.y0.toNat : Int), .int .u8 (h.y1.toNat : Int), .int .u8 (h.y2.toNat : Int), .int .u8 (h.y3.toNat : Int), .int .u8 (h.s0.toNat : Int), .int .u8 (h.s1.toNat : Int), .int .u8 (h.s2.toNat : Int), .int .u8 (h.s3.toNat : Int), .int .u8 (h.r0.toNat : Int), .int .u8 (h.r1.toNat : Int), .int .u8 (h.r2.toNat : Int), .int .u8 (h.r3.toNat : Int), .int .u8 (h.m0.toNat : Int), .int .u8 (h.m1.toNat : Int), .int .u8 (h.m2.toNat : Int), .int .u8 (h.m3.toNat : Int), .int .u8 (h.m4.toNat : Int), .int .u8 (h.m5.toNat : Int), .slice A n c] rfl)
  go_wp2_with (first | ((with_reducible show wpList _ _ _ (⟨some 25, _, _, _, _, _⟩ :: _) _ _); refine wpList_load_rng 41 (.tmp 4) rfl (by kernel_rfl) _ _ rfl _ R25.out _ Try.underlying41 rfl (by kernel_rfl) ?_))
  try clear R25
  go_wp2_with fail
  have sp_p := hlt hp
  have sp_z := hlt hz
  have hwz := bel.size
  with_reducible refine (stake_opt_your _ hT hO HS0.out HS1.out HTY.out H54.out HW.out HA0.out HR.out HCL.out HFL.out).mono ?_
  rintro e w4 ⟨A2, c2, hs2, rfl, hP, fP, hT_, k_, bb⟩
  replace hp := Kt.blk k_ hp (by decide)
  replace hz := Kt.blk k_ hz (by decide)
  replace kt := kt.trans k_
  replace hO := hO.kt k_
  clear hT
  have hT := hT_
  replace bel := bel.trans bb
  clear bb k_ hT_
  have fA : ∀ q, q < w.heap.size → Oa A2 6 hs2 q := fun q_ hq_ => fP q_ (Nat.lt_of_lt_of_le hq_ hwz)
  clear hwz
  have ob_p := fP _ sp_p
  have ob_z := fP _ sp_z
  clear sp_p sp_z
  clear fP
  go_wp2_with (first | ((with_reducible show wpList _ _ _ (⟨none, Op.store _ (.tmp 6) _, _, _, _, _⟩ :: _) _ _); refine wpList_store_blk rfl 43 (.tmp 6) (.tmp 28) rfl g6 rfl _ rfl _ 43 hz (by rfl) (by kernel_rfl) (by kernel_rfl) ?_; intro w5 hq gr; replace hp := blk_a hp gr d_p_z; replace kt := kt.newer gr pz bel.size; replace hT := hT.grown gr hz (by decide); replace hO := hO.away oa_z gr; replace hP := hP.away ob_z gr; replace bel := below_grown bel gr oz (Nat.le_trans hlo bel.size); clear hz; have hz := hq; clear hq gr))
  exact bodyPost_ret (results_cell_tmp_row rfl _ _ _ _ _ _ _ rfl hz Try.underlying43 rfl (by kernel_rfl) (.bool true) rfl) rfl ⟨_, _, _, rfl, hP, fA, hT, kt, bel⟩
set_option linter.unusedVariables false in
set_option linter.unusedSimpArgs false in
set_option maxRecDepth 100000 in
set_option maxHeartbeats 16000000 in
theorem sget_opt_nak {lo gs gp : Nat} {own : Ad4} {mk sc : Int} {s : St} {h : Mh} {A : Option Addr} {n c : Nat} {hs : List Oh} {L : OptL} {sa a : Ad4} {t r : Int} {s' : St} (w : World) (hS : Sv lo gs gp w ⟨own, mk, sc⟩ s) (hO : Opv w A n c hs L) (hop : (h.op != 1) = false) (hs0 : 0 ≤ sc) (hs1 : sc < 4294967296) (hty : (typeL L : Int) = 3) (h54 : fourL (findL L 54) = (sa.l, false)) (hw : fourL (findL L 50) = (a.l, true)) (ha0 : a.eqB Ad4.zero = false) (hr : takeS s h.mc a t sc = (r, s')) (hr0 : (r != 0) = true) : Calls Try.prog 10 #[.pointer (some ⟨gs, 0, none⟩), .agg #[.int .i64 h.op, .int .i64 h.hops, .int .u32 h.xid, .int .i64 h.secs, .int .i64 h.flags, .int .u8 (h.c0.toNat : Int), .int .u8 (h.c1.toNat : Int), .int .u8 (h.c2.toNat : Int), .int .u8 (h.c3.toNat : Int), .int .u8 (h.y0.toNat : Int), .int .u8 (h.y1.toNat : Int), .int .u8 (h.y2.toNat : Int), .int .u8 (h.y3.toNat : Int), .int .u8 (h.s0.toNat : Int), .int .u8 (h.s1.toNat : Int), .int .u8 (h.s2.toNat : Int), .int .u8 (h.s3.toNat : Int), .int .u8 (h.r0.toNat : Int), .int .u8 (h.r1.toNat : Int), .int .u8 (h.r2.toNat : Int), .int .u8 (h.r3.toNat : Int), .int .u8 (h.m0.toNat : Int), .int .u8 (h.m1.toNat : Int), .int .u8 (h.m2.toNat : Int), .int .u8 (h.m3.toNat : Int), .int .u8 (h.m4.toNat : Int), .int .u8 (h.m5.toNat : Int), .slice A n c], .int .i64 t] w fun e w' => ∃ A2 c2 hs2, e = .returned (.tuple #[.agg #[.int .i64 2, .int .i64 0, .int .u32 h.xid, .int .i64 0, .int .i64 h.flags, .int .u8 0, .int .u8 0, .int .u8 0, .int .u8 0, .int .u8 0, .int .u8 0, .int .u8 0, .int .u8 0, .int .u8 (own.a.toNat : Int), .int .u8 (own.b.toNat : Int), .int .u8 (own.c.toNat : Int), .int .u8 (own.d.toNat : Int), .int .u8 (h.r0.toNat : Int), .int .u8 (h.r1.toNat : Int), .int .u8 (h.r2.toNat : Int), .int .u8 (h.r3.toNat : Int), .int .u8 (h.m0.toNat : Int), .int .u8 (h.m1.toNat : Int), .int .u8 (h.m2.toNat : Int), .int .u8 (h.m3.toNat : Int), .int .u8 (h.m4.toNat : Int), .int .u8 (h.m5.toNat : Int), .slice A2 2 c2, .int .u8 255, .int .u8 255, .int .u8 255, .int .u8 255, .int .u8 255, .int .u8 255, .int .u8 255, .int .u8 255, .int .u8 255, .int .u8 255], .bool true]) ∧ Opv w' A2 2 c2 hs2 [(53, [6]), (54, own.l)] ∧ (∀ q, q < w.heap.size → Oa A2 2 hs2 q) ∧ Sv lo gs gp w' ⟨own, mk, sc⟩ s' ∧ Kt [84, 101] w w' ∧ Below lo w w' := by
  have hlo : lo ≤ w.heap.size := hS.lo_le
  have hT := hS
  clear hS
  have kt := Kt.refl [84, 101] w
  have HOP := hop
  clear hop
  have hop := HOP
  clear HOP
  have HS0 := Lib.hid hs0
  clear hs0
  have HS1 := Lib.hid hs1
  clear hs1
  have HTY := Lib.hid hty
  clear hty
  have HR := Lib.hid hr
  clear hr
  have HR0 := Lib.hid hr0
  clear hr0
  have H54 := Lib.hid h54
  clear h54
  have HW := Lib.hid hw
  clear hw
  have HA0 := Lib.hid ha0
  clear ha0
  have bel := Below.refl lo w
  go_enter Try.func10, Try.ntmps10
  go_wp2_with (first | ((with_reducible show wpList _ _ _ (⟨some 4, _, _, _, _, _⟩ :: _) _ _); refine wpList_box_n rfl 41 (.tmp 1) rfl #[.int .i64 h.op, .int .i64 h.hops, .int .u32 h.xid, .int .i64 h.secs, .int .i64 h.flags, .int .u8 (h.c0.toNat : Int), .int .u8 (h.c1.toNat : Int), .int .u8 (h.c2.toNat : Int), .int .u8 (h.c3.toNat : Int), .int .u8 (h.y0.toNat : Int), .int .u8 (h.y1.toNat : Int), .int .u8 (h.y2.toNat : Int), .int .u8 (h.y3.toNat : Int), .int .u8 (h.s0.toNat : Int), .int .u8 (h.s1.toNat : Int), .int .u8 (h.s2.toNat : Int), .int .u8 (h.s3.toNat : Int), .int .u8 (h.r0.toNat : Int), .int .u8 (h.r1.toNat : Int), .int .u8 (h.r2.toNat : Int), .int .u8 (h.r3.toNat : Int), .int .u8 (h.m0.toNat : Int), .int .u8 (h.m1.toNat : Int), .int .u8 (h.m2.toNat : Int), .int .u8 (h.m3.toNat : Int), .int .u8 (h.m4.toNat : Int), .int .u8 (h.m5.toNat : Int), .slice A n c] rfl ?_; intro g4 w1 ge lt hh bb; have op := Nat.le_trans (Nat.le_trans hlo bel.size) ge; have pp := Nat.le_trans bel.size ge; have oa_p := hO.oa ge; have pp := Nat.le_trans bel.size ge; replace kt := kt.trans (kt_below bb); replace hT := hT.below bb; replace hO := hO.below bb; replace bel := bel.trans (bb.mono (Nat.le_trans hlo bel.size)); have hp := hh; clear hh lt ge bb) | ((with_reducible show wpList _ _ _ (⟨some 6, _, _, _, _, _⟩ :: _) _ _); refine wpList_new_a rfl 43 rfl #[.int .i64 0, .int .i64 0, .int .u32 0, .int .i64 0, .int .i64 0, .int .u8 0, .int .u8 0, .int .u8 0, .int .u8 0, .int .u8 0, .int .u8 0, .int .u8 0, .int .u8 0, .int .u8 0, .int .u8 0, .int .u8 0, .int .u8 0, .int .u8 0, .int .u8 0, .int .u8 0, .int .u8 0, .int .u8 0, .int .u8 0, .int .u8 0, .int .u8 0, .int .u8 0, .int .u8 0, .slice none 0 0, .int .u8 0, .int .u8 0, .int .u8 0, .int .u8 0, .int .u8 0, .int .u8 0, .int .u8 0, .int .u8 0, .int .u8 0, .int .u8 0] (by kernel_rfl) ?_; intro g6 w2 ge hh bb; have d_p_z := ne_new (hlt hp) ge; have oz := Nat.le_trans (Nat.le_trans hlo bel.size) ge; have pz := Nat.le_trans bel.size ge; have oa_z := hO.oa ge; have pz := Nat.le_trans bel.size ge; replace hp := blk_u hp bb; replace kt := kt.trans (kt_below bb); replace hT := hT.below bb; replace hO := hO.below bb; replace bel := bel.trans (bb.mono (Nat.le_trans hlo bel.size)); have hz := hh; clear hh ge bb; have R9 := cell_lit hp 0 _ rfl; have R12 := Lib.hid (range_lit hp 0 28 [.int .i64 h.op, .int .i64 h.hops, .int .u32 h.xid, .int .i64 h.secs, .int .i64 h.flags, .int .u8 (h.c0.toNat : Int), .int .u8 (h.c1.toNat : Int), .int .u8 (h.c2.toNat : Int), .int .u8 (h.c3.toNat : Int), .int .u8 (h.y0.toNat : Int), .int .u8 (h.y1.toNat : Int), .int .u8 (h.y2.toNat : Int), .int .u8 (h.y3.toNat : Int), .int .u8 (h.s0.toNat : Int), .int .u8 (h.s1.toNat : Int), .int .u8 (h.s2.toNat : Int), .int .u8 (h.s3.toNat : Int), .int .u8 (h.r0.toNat : Int), .int .u8 (h.r1.toNat : Int), .int .u8 (h.r2.toNat : Int), .int .u8 (h.r3.toNat : Int), .int .u8 (h.m0.toNat : Int), .int .u8 (h.m1.toNat : Int), .int .u8 (h.m2.toNat : Int), .int .u8 (h.m3.toNat : Int), .int .u8 (h.m4.toNat : Int), .int .u8 (h.m5.toNat : Int), .slice A n c] rfl)) | ((with_reducible show wpList _ _ _ (⟨some 12, _, _, _, _, _⟩ :: _) _ _); refine wpList_load_rng 41 (.tmp 4) rfl (by kernel_rfl) _ _ rfl _ R12.out _ Try.underlying41 rfl (by kernel_rfl) ?_))
  try clear R9
  try clear R12
  with_reducible refine (dtype_o (h := h) _ hO HTY.out).mono ?_
  rintro e w3 ⟨rfl, b3⟩
  replace hp := blk_u hp b3
  replace hz := blk_u hz b3
  replace kt := kt.trans (kt_below b3)
  replace hT := hT.below b3
  replace hO := hO.below b3
  replace bel := bel.trans (b3.mono (Nat.le_trans hlo bel.size))
  clear b3
  have R25 := Lib.hid (range_lit hp 0 28 [.int .i64 h.op, .int .i64 h.hops, .int .u32 h.xid, .int .i64 h.secs, .int .i64 h.flags, .int .u8 (h.c0.toNat : Int), .int .u8 (h.c1.toNat : Int), .int .u8 (h.c2.toNat : Int), .int .u8 (h.c3.toNat : Int), .int .u8 (h.y0.toNat : Int), .int .u8 (h.y1.toNat : Int), .int .u8 (h.y2.toNat : Int), .int .u8 (h.y3.toNat : Int), .int .u8 (h.s0.toNat : Int), .int .u8 (h.s1.toNat : Int), .int .u8 (h.s2.toNat : Int), .int .u8 (h.s3.toNat : Int), .int .u8 (h.r0.toNat : Int), .int .u8 (h.r1.toNat : Int), .int .u8 (h.r2.toNat : Int), .int .u8 (h.r3.toNat : Int), .int .u8 (h.m0.toNat : Int), .int .u8 (h.m1.toNat : Int), .int .u8 (h.m2.toNat : Int), .int .u8 (h.m3.toNat : Int), .int .u8 (h.m4.toNat : Int), .int .u8 (h.m5.toNat : Int), .slice A n c] rfl)
  go_wp2_with (first | ((with_reducible show wpList _ _ _ (⟨some 25, _, _, _, _, _⟩ :: _) _ _); refine wpList_load_rng 41 (.tmp 4) rfl (by kernel_rfl) _ _ rfl _ R25.out _ Try.underlying41 rfl (by kernel_rfl) ?_))
  try clear R25
  go_wp2_with fail
  have sp_p := hlt hp
  have sp_z := hlt hz
  have hwz := bel.size
  with_reducible refine (stake_opt_nak _ hT hO HS0.out HS1.out HTY.out H54.out HW.out HA0.out HR.out HR0.out).mono ?_
  rintro e w4 ⟨A2, c2, hs2, rfl, hP, fP, hT_, k_, bb⟩
  replace hp := Kt.blk k_ hp (by decide)
  replace hz := Kt.blk k_ hz (by decide)
  replace kt := kt.trans k_
  replace hO := hO.kt k_
  clear hT
  have hT := hT_
  replace bel := bel.trans bb
  clear bb k_ hT_
  have fA : ∀ q, q < w.heap.size → Oa A2 2 hs2 q := fun q_ hq_ => fP q_ (Nat.lt_of_lt_of_le hq_ hwz)
  clear hwz
  have ob_p := fP _ sp_p
  have ob_z := fP _ sp_z
  clear sp_p sp_z
  clear fP
  go_wp2_with (first | ((with_reducible show wpList _ _ _ (⟨none, Op.store _ (.tmp 6) _, _, _, _, _⟩ :: _) _ _); refine wpList_store_blk rfl 43 (.tmp 6) (.tmp 28) rfl g6 rfl _ rfl _ 43 hz (by rfl) (by kernel_rfl) (by kernel_rfl) ?_; intro w5 hq gr; replace hp := blk_a hp gr d_p_z; replace kt := kt.newer gr pz bel.size; replace hT := hT.grown gr hz (by decide); replace hO := hO.away oa_z gr; replace hP := hP.away ob_z gr; replace bel := below_grown bel gr oz (Nat.le_trans hlo bel.size); clear hz; have hz := hq; clear hq gr))
  exact bodyPost_ret (results_cell_tmp_row rfl _ _ _ _ _ _ _ rfl hz Try.underlying43 rfl (by kernel_rfl) (.bool true) rfl) rfl ⟨_, _, _, rfl, hP, fA, hT, kt, bel⟩
set_option linter.unusedVariables false in
set_option linter.unusedSimpArgs false in
set_option maxRecDepth 100000 in
set_option maxHeartbeats 16000000 in
theorem sget_bar {lo gs gp : Nat} {own : Ad4} {mk sc : Int} {s : St} {h : Mh} {A : Option Addr} {n c : Nat} {hs : List Oh} {L : OptL} {a : Ad4} {t : Int} {bb2 : Bool} (w : World) (hS : Sv lo gs gp w ⟨own, mk, sc⟩ s) (hO : Opv w A n c hs L) (hop : (h.op != 1) = false) (hty : (typeL L : Int) = 4) (hw : fourL (findL L 50) = (a.l, true)) (hr : ofS s h.mc t = (a, true)) (hb : barB (s.adv t) a 600 = bb2) : Calls Try.prog 10 #[.pointer (some ⟨gs, 0, none⟩), .agg #[.int .i64 h.op, .int .i64 h.hops, .int .u32 h.xid, .int .i64 h.secs, .int .i64 h.flags, .int .u8 (h.c0.toNat : Int), .int .u8 (h.c1.toNat : Int), .int .u8 (h.c2.toNat : Int), .int .u8 (h.c3.toNat : Int), .int .u8 (h.y0.toNat : Int), .int .u8 (h.y1.toNat : Int), .int .u8 (h.y2.toNat : Int), .int .u8 (h.y3.toNat : Int), .int .u8 (h.s0.toNat : Int), .int .u8 (h.s1.toNat : Int), .int .u8 (h.s2.toNat : Int), .int .u8 (h.s3.toNat : Int), .int .u8 (h.r0.toNat : Int), .int .u8 (h.r1.toNat : Int), .int .u8 (h.r2.toNat : Int), .int .u8 (h.r3.toNat : Int), .int .u8 (h.m0.toNat : Int), .int .u8 (h.m1.toNat : Int), .int .u8 (h.m2.toNat : Int), .int .u8 (h.m3.toNat : Int), .int .u8 (h.m4.toNat : Int), .int .u8 (h.m5.toNat : Int), .slice A n c], .int .i64 t] w fun e w' => e = .returned (.tuple #[.agg #[.int .i64 0, .int .i64 0, .int .u32 0, .int .i64 0, .int .i64 0, .int .u8 0, .int .u8 0, .int .u8 0, .int .u8 0, .int .u8 0, .int .u8 0, .int .u8 0, .int .u8 0, .int .u8 0, .int .u8 0, .int .u8 0, .int .u8 0, .int .u8 0, .int .u8 0, .int .u8 0, .int .u8 0, .int .u8 0, .int .u8 0, .int .u8 0, .int .u8 0, .int .u8 0, .int .u8 0, .slice none 0 0, .int .u8 0, .int .u8 0, .int .u8 0, .int .u8 0, .int .u8 0, .int .u8 0, .int .u8 0, .int .u8 0, .int .u8 0, .int .u8 0], .bool false]) ∧ Sv lo gs gp w' ⟨own, mk, sc⟩ (barS (s.adv t) a t 600) ∧ Kt [84, 101] w w' ∧ Below lo w w' := by
  have hlo : lo ≤ w.heap.size := hS.lo_le
  have hT := hS
  clear hS
  have kt := Kt.refl [84, 101] w
  have HOP := hop
  clear hop
  have hop := HOP
  clear HOP
  have HTY := Lib.hid hty
  clear hty
  have HW := Lib.hid hw
  clear hw
  have HR := Lib.hid hr
  clear hr
  have HB := Lib.hid hb
  clear hb
  have bel := Below.refl lo w
  go_enter Try.func10, Try.ntmps10
  go_wp2_with (first | ((with_reducible show wpList _ _ _ (⟨some 4, _, _, _, _, _⟩ :: _) _ _); refine wpList_box_n rfl 41 (.tmp 1) rfl #[.int .i64 h.op, .int .i64 h.hops, .int .u32 h.xid, .int .i64 h.secs, .int .i64 h.flags, .int .u8 (h.c0.toNat : Int), .int .u8 (h.c1.toNat : Int), .int .u8 (h.c2.toNat : Int), .int .u8 (h.c3.toNat : Int), .int .u8 (h.y0.toNat : Int), .int .u8 (h.y1.toNat : Int), .int .u8 (h.y2.toNat : Int), .int .u8 (h.y3.toNat : Int), .int .u8 (h.s0.toNat : Int), .int .u8 (h.s1.toNat : Int), .int .u8 (h.s2.toNat : Int), .int .u8 (h.s3.toNat : Int), .int .u8 (h.r0.toNat : Int), .int .u8 (h.r1.toNat : Int), .int .u8 (h.r2.toNat : Int), .int .u8 (h.r3.toNat : Int), .int .u8 (h.m0.toNat : Int), .int .u8 (h.m1.toNat : Int), .int .u8 (h.m2.toNat : Int), .int .u8 (h.m3.toNat : Int), .int .u8 (h.m4.toNat : Int), .int .u8 (h.m5.toNat : Int), .slice A n c] rfl ?_; intro g4 w1 ge lt hh bb; have op := Nat.le_trans (Nat.le_trans hlo bel.size) ge; have pp := Nat.le_trans bel.size ge; have oa_p := hO.oa ge; have pp := Nat.le_trans bel.size ge; replace kt := kt.trans (kt_below bb); replace hT := hT.below bb; replace hO := hO.below bb; replace bel := bel.trans (bb.mono (Nat.le_trans hlo bel.size)); have hp := hh; clear hh lt ge bb) | ((with_reducible show wpList _ _ _ (⟨some 6, _, _, _, _, _⟩ :: _) _ _); refine wpList_new_a rfl 43 rfl #[.int .i64 0, .int .i64 0, .int .u32 0, .int .i64 0, .int .i64 0, .int .u8 0, .int .u8 0, .int .u8 0, .int .u8 0, .int .u8 0, .int .u8 0, .int .u8 0, .int .u8 0, .int .u8 0, .int .u8 0, .int .u8 0, .int .u8 0, .int .u8 0, .int .u8 0, .int .u8 0, .int .u8 0, .int .u8 0, .int .u8 0, .int .u8 0, .int .u8 0, .int .u8 0, .int .u8 0, .slice none 0 0, .int .u8 0, .int .u8 0, .int .u8 0, .int .u8 0, .int .u8 0, .int .u8 0, .int .u8 0, .int .u8 0, .int .u8 0, .int .u8 0] (by kernel_rfl) ?_; intro g6 w2 ge hh bb; have d_p_z := ne_new (hlt hp) ge; have oz := Nat.le_trans (Nat.le_trans hlo bel.size) ge; have pz := Nat.le_trans bel.size ge; have oa_z := hO.oa ge; have pz := Nat.le_trans bel.size ge; replace hp := blk_u hp bb; replace kt := kt.trans (kt_below bb); replace hT := hT.below bb; replace hO := hO.below bb; replace bel := bel.trans (bb.mono (Nat.le_trans hlo bel.size)); have hz := hh; clear hh ge bb; have R9 := cell_lit hp 0 _ rfl; have R12 := Lib.hid (range_lit hp 0 28 [.int .i64 h.op, .int .i64 h.hops, .int .u32 h.xid, .int .i64 h.secs, .int .i64 h.flags, .int .u8 (h.c0.toNat : Int), .int .u8 (h.c1.toNat : Int), .int .u8 (h.c2.toNat : Int), .int .u8 (h.c3.toNat : Int), .int .u8 (h.y0.toNat : Int), .int .u8 (h.y1.toNat : Int), .int .u8 (h.y2.toNat : Int), .int .u8 (h.y3.toNat : Int), .int .u8 (h.s0.toNat : Int), .int .u8 (h.s1.toNat : Int), .int .u8 (h.s2.toNat : Int), .int .u8 (h.s3.toNat : Int), .int .u8 (h.r0.toNat : Int), .int .u8 (h.r1.toNat : Int), .int .u8 (h.r2.toNat : Int), .int .u8 (h.r3.toNat : Int), .int .u8 (h.m0.toNat : Int), .int .u8 (h.m1.toNat : Int), .int .u8 (h.m2.toNat : Int), .int .u8 (h.m3.toNat : Int), .int .u8 (h.m4.toNat : Int), .int .u8 (h.m5.toNat : Int), .slice A n c] rfl)) | ((with_reducible show wpList _ _ _ (⟨some 12, _, _, _, _, _⟩ :: _) _ _); refine wpList_load_rng 41 (.tmp 4) rfl (by kernel_rfl) _ _ rfl _ R12.out _ Try.underlying41 rfl (by kernel_rfl) ?_))
  try clear R9
  try clear R12
  with_reducible refine (dtype_o (h := h) _ hO HTY.out).mono ?_
  rintro e w3 ⟨rfl, b3⟩
  replace hp := blk_u hp b3
  replace hz := blk_u hz b3
  replace kt := kt.trans (kt_below b3)
  replace hT := hT.below b3
  replace hO := hO.below b3
  replace bel := bel.trans (b3.mono (Nat.le_trans hlo bel.size))
  clear b3
  have R33 := Lib.hid (range_lit hp 0 28 [.int .i64 h.op, .int .i64 h.hops, .int .u32 h.xid, .int .i64 h.secs, .int .i64 h.flags, .int .u8 (h.c0.toNat : Int), .int .u8 (h.c1.toNat : Int), .int .u8 (h.c2.toNat : Int), .int .u8 (h.c3.toNat : Int), .int .u8 (h.y0.toNat : Int), .int .u8 (h.y1.toNat : Int), .int .u8 (h.y2.toNat : Int), .int .u8 (h.y3.toNat : Int), .int .u8 (h.s0.toNat : Int), .int .u8 (h.s1.toNat : Int), .int .u8 (h.s2.toNat : Int), .int .u8 (h.s3.toNat : Int), .int .u8 (h.r0.toNat : Int), .int .u8 (h.r1.toNat : Int), .int .u8 (h.r2.toNat : Int), .int .u8 (h.r3.toNat : Int), .int .u8 (h.m0.toNat : Int), .int .u8 (h.m1.toNat : Int), .int .u8 (h.m2.toNat : Int), .int .u8 (h.m3.toNat : Int), .int .u8 (h.m4.toNat : Int), .int .u8 (h.m5.toNat : Int), .slice A n c] rfl)
  go_wp2_with (first | ((with_reducible show wpList _ _ _ (⟨some 33, _, _, _, _, _⟩ :: _) _ _); refine wpList_load_rng 41 (.tmp 4) rfl (by kernel_rfl) _ _ rfl _ R33.out _ Try.underlying41 rfl (by kernel_rfl) ?_))
  try clear R33
  go_wp2_with fail
  with_reducible refine (sbar_yes _ hT hO HW.out HR.out HB.out).mono ?_
  rintro e w4 ⟨rfl, hT_, k_, bb⟩
  replace hp := Kt.blk k_ hp (by decide)
  replace hz := Kt.blk k_ hz (by decide)
  replace kt := kt.trans k_
  replace hO := hO.kt k_
  clear hT
  have hT := hT_
  replace bel := bel.trans bb
  clear bb k_ hT_
  go_wp2_with (first | ((with_reducible show wpList _ _ _ (⟨none, Op.store _ (.tmp 6) _, _, _, _, _⟩ :: _) _ _); refine wpList_store_blk rfl 43 (.tmp 6) (.tmp 54) rfl g6 rfl _ rfl _ 43 hz (by rfl) (by kernel_rfl) (by kernel_rfl) ?_; intro w5 hq gr; replace hp := blk_a hp gr d_p_z; replace kt := kt.newer gr pz bel.size; replace hT := hT.grown gr hz (by decide); replace hO := hO.away oa_z gr; replace bel := below_grown bel gr oz (Nat.le_trans hlo bel.size); clear hz; have hz := hq; clear hq gr))
  exact bodyPost_ret (results_cell_tmp_row rfl _ _ _ _ _ _ _ rfl hz Try.underlying43 rfl (by kernel_rfl) (.bool false) rfl) rfl ⟨rfl, hT, kt, bel⟩
open Go.RowKit

set_option linter.unusedVariables false in
set_option linter.unusedSimpArgs false in
set_option maxRecDepth 100000 in
set_option maxHeartbeats 16000000 in
theorem lwant_b {m0 m1 m2 m3 m4 m5 x0 x1 x2 x3 : Int} (w : World) : Calls Try.prog 11 #[.agg #[.int .u8 m0, .int .u8 m1, .int .u8 m2, .int .u8 m3, .int .u8 m4, .int .u8 m5], .agg #[.int .u8 x0, .int .u8 x1, .int .u8 x2, .int .u8 x3]] w fun e w' => ∃ gr g1 g2, e = .returned (.agg #[.int .i64 1, .int .i64 0, .int .u32 8, .int .i64 0, .int .i64 0, .int .u8 0, .int .u8 0, .int .u8 0, .int .u8 0, .int .u8 0, .int .u8 0, .int .u8 0, .int .u8 0, .int .u8 0, .int .u8 0, .int .u8 0, .int .u8 0, .int .u8 0, .int .u8 0, .int .u8 0, .int .u8 0, .int .u8 m0, .int .u8 m1, .int .u8 m2, .int .u8 m3, .int .u8 m4, .int .u8 m5, .slice (some ⟨gr, 0, none⟩) 2 2]) ∧ w.heap.size ≤ gr ∧ w.heap.size ≤ g1 ∧ w.heap.size ≤ g2 ∧ w'.heap[gr]? = some (.cells #[.int .i64 53, .slice (some ⟨g1, 0, none⟩) 1 1, .int .i64 50, .slice (some ⟨g2, 0, none⟩) 4 4] 49 (0, 0)) ∧ w'.heap[g1]? = some (.cells #[.int .u8 3] 5 (0, 0)) ∧ w'.heap[g2]? = some (.cells #[.int .u8 x0, .int .u8 x1, .int .u8 x2, .int .u8 x3] 28 (0, 0)) ∧ Hid (g1 ≠ gr) ∧ Hid (g2 ≠ gr) ∧ Hid (g2 ≠ g1) ∧ Below w.heap.size w w' := by
  have bel := Below.refl w.heap.size w
  go_enter Try.func11, Try.ntmps11
  go_wp2_with (first | ((with_reducible show wpList _ _ _ (⟨some 2, _, _, _, _, _⟩ :: _) _ _); refine wpList_box_n rfl 32 (.tmp 0) rfl #[.int .u8 m0, .int .u8 m1, .int .u8 m2, .int .u8 m3, .int .u8 m4, .int .u8 m5] rfl ?_; intro g2 w1 ge lt hh bb; have omb := Nat.le_trans bel.size ge; replace bel := bel.trans (bb.mono bel.size); have hmb := hh; clear hh lt ge bb) | ((with_reducible show wpList _ _ _ (⟨some 3, _, _, _, _, _⟩ :: _) _ _); refine wpList_box_n rfl 28 (.tmp 1) rfl #[.int .u8 x0, .int .u8 x1, .int .u8 x2, .int .u8 x3] rfl ?_; intro g3 w2 ge lt hh bb; have d_mb_xb := ne_new (hlt hmb) ge; have oxb := Nat.le_trans bel.size ge; replace hmb := blk_u hmb bb; replace bel := bel.trans (bb.mono bel.size); have hxb := hh; clear hh lt ge bb) | ((with_reducible show wpList _ _ _ (⟨some 4, _, _, _, _, _⟩ :: _) _ _); refine wpList_new_a rfl 41 rfl #[.int .i64 0, .int .i64 0, .int .u32 0, .int .i64 0, .int .i64 0, .int .u8 0, .int .u8 0, .int .u8 0, .int .u8 0, .int .u8 0, .int .u8 0, .int .u8 0, .int .u8 0, .int .u8 0, .int .u8 0, .int .u8 0, .int .u8 0, .int .u8 0, .int .u8 0, .int .u8 0, .int .u8 0, .int .u8 0, .int .u8 0, .int .u8 0, .int .u8 0, .int .u8 0, .int .u8 0, .slice none 0 0] (by kernel_rfl) ?_; intro g4 w3 ge hh bb; have d_mb_z := ne_new (hlt hmb) ge; have d_xb_z := ne_new (hlt hxb) ge; have oz := Nat.le_trans bel.size ge; replace hmb := blk_u hmb bb; replace hxb := blk_u hxb bb; replace bel := bel.trans (bb.mono bel.size); have hz := hh; clear hh ge bb))
  replace bel := bel.drew
  replace hmb : w3.drew.heap[g2]? = _ := hmb
  replace hxb : w3.drew.heap[g3]? = _ := hxb
  replace hz : w3.drew.heap[g4]? = _ := hz
  refine wp_region_held_drew (S := fun W => W.heap[g2]? = some (.cells #[.int .u8 m0, .int .u8 m1, .int .u8 m2, .int .u8 m3, .int .u8 m4, .int .u8 m5] 32 (0, 0))) (by kernel_rfl) hmb (fun hH => ?_)
  generalize w3.drew = w4 at bel hmb hxb hz hH ⊢
  refine wpAnyH_take (i := 0) (v := .agg #[.int .u8 m0, .int .u8 m1, .int .u8 m2, .int .u8 m3, .int .u8 m4, .int .u8 m5]) rfl (by kernel_rfl) (by kernel_rfl) (by kernel_rfl) (fun _ _ _ h => h) (yieldsIf_load_part (by kernel_rfl) 32 _ rfl g2 0 6 rfl _ 32 (0, 0) (fun W hW => hW) _ rfl _ Try.underlying32 rfl (by kernel_rfl)) hH ?_
  simp only [Act.put, List.getElem_toArray, List.getElem_cons_zero, List.setIfInBounds_toArray, List.set_cons_zero, List.set_cons_succ]
  refine wpAnyH_take (i := 3) (v := ?_) rfl (by kernel_rfl) (by kernel_rfl) (by kernel_rfl) (fun _ _ _ h => h) (Or.inl ⟨by rfl, ?_⟩) hH ?_
  rotate_left
  · ((intro W hW; clear hW; go_simp) <;> with_reducible rfl)
  simp only [sq3, sq4]
  refine wpAnyH_take (i := 4) (v := ?_) rfl (by kernel_rfl) (by kernel_rfl) (by kernel_rfl) (fun _ _ _ h => h) (Or.inl ⟨by rfl, ?_⟩) hH ?_
  rotate_left
  · ((intro W hW; clear hW; go_simp) <;> with_reducible rfl)
  simp only [sq3, sq4]
  refine wpAnyH_ready (rs := [1]) (by kernel_rfl) (by simp) ?_
  refine AllReadyH.cons (o := _) rfl (fun K hK => ?_) AllReadyH.nil
  simp only [sq3]
  rw [if_pos (by rfl)]
  refine wp_lit_n 47 5 1 _ rfl #[.int .u8 3] (.int .u8 0) Try.underlying47 (by kernel_rfl) 1 (by kernel_rfl) (by decide) (by kernel_rfl) ?_
  intro g6 w5 ge lt hh bb
  have hl : w5.heap[g6]? = some (.cells (([3] : List UInt8).map u8v).toArray 5 (0, 0)) := (by simpa [u8v, byteOf_val] using hh)
  have skw := own_lit (B := w4.heap.size) ([3]) hl ge 1 rfl (by simp [maxLen])
  have sk := (own_sl skw).1
  have sklo := bel.size
  clear hl
  have skge := ge
  have lz_sk := bb.size
  have y_sk_mb := Lib.hid (hlt hmb)
  have y_sk_xb := Lib.hid (hlt hxb)
  have y_sk_z := Lib.hid (hlt hz)
  have d_mb_bk := ne_new (hlt hmb) ge
  have d_xb_bk := ne_new (hlt hxb) ge
  have d_z_bk := ne_new (hlt hz) ge
  have obk := Nat.le_trans bel.size ge
  replace hmb := blk_u hmb bb
  replace hxb := blk_u hxb bb
  replace hz := blk_u hz bb
  replace bel := bel.trans (bb.mono bel.size)
  have hbk := hh
  clear hh lt ge bb
  have av_sk_mb := (own_sl skw).2.av y_sk_mb.out
  have av_sk_xb := (own_sl skw).2.av y_sk_xb.out
  have av_sk_z := (own_sl skw).2.av y_sk_z.out
  refine hK.out _ _ hmb (fun hH6 => ?_)
  clear hK K
  simp only [sq4]
  refine wpAnyH_take (i := 2) (v := ?_) rfl (by kernel_rfl) (by kernel_rfl) (by kernel_rfl) (fun _ _ _ h => h) (Or.inl ⟨by rfl, ?_⟩) hH6 ?_
  rotate_left
  · ((intro W hW; clear hW; go_simp) <;> with_reducible rfl)
  simp only [sq3, sq4]
  refine wpAnyH_ready (rs := [5]) (by kernel_rfl) (by simp) ?_
  refine AllReadyH.cons (o := _) rfl (fun K hK => ?_) AllReadyH.nil
  simp only [sq3]
  rw [if_pos (by rfl)]
  refine wp_lit_n 39 49 2 _ rfl #[.int .i64 53, .slice (some ⟨g6, 0, none⟩) 1 1, .int .i64 50, .slice (some ⟨g3, 0, none⟩) 4 4] (.agg #[.int .i64 0, .slice none 0 0]) Try.underlying39 (by kernel_rfl) 2 (by kernel_rfl) (by decide) (by kernel_rfl) ?_
  intro g10 w7 ge lt hh bb
  have d_mb_rw := ne_new (hlt hmb) ge
  have d_xb_rw := ne_new (hlt hxb) ge
  have d_z_rw := ne_new (hlt hz) ge
  have d_bk_rw := ne_new (hlt hbk) ge
  have av_sk_rw := sk.av_new ge
  have of_sk_rw := own_new skw ge
  have orw := Nat.le_trans bel.size ge
  replace hmb := blk_u hmb bb
  replace hxb := blk_u hxb bb
  replace hz := blk_u hz bb
  replace hbk := blk_u hbk bb
  replace sk := sk.below bb
  replace skw := own_under skw bb
  replace lz_sk := Nat.le_trans lz_sk bb.size
  replace bel := bel.trans (bb.mono bel.size)
  have hrw := hh
  clear hh lt ge bb
  refine hK.out _ _ hmb (fun hH8 => ?_)
  clear hK K
  simp only [sq4]
  refine wpAnyH_take (i := 6) (v := ?_) rfl (by kernel_rfl) (by kernel_rfl) (by kernel_rfl) (fun _ _ _ h => h) (Or.inl ⟨by rfl, ?_⟩) hH8 ?_
  rotate_left
  · ((intro W hW; clear hW; go_simp) <;> with_reducible rfl)
  simp only [sq3, sq4]
  refine wpAnyH_ready (rs := [7]) (by kernel_rfl) (by simp) ?_
  refine AllReadyH.cons (o := _) rfl (fun K hK => ?_) AllReadyH.nil
  simp only [sq3]
  rw [if_pos (by rfl)]
  refine wp_store_blk 41 (.tmp 4) (.tmp 11) rfl g4 rfl _ rfl _ 41 hz (by rfl) (by kernel_rfl) (by kernel_rfl) ?_
  intro w9 hq gr
  replace sk := sk.away av_sk_z gr
  replace skw := own_away skw y_sk_z.out gr
  replace lz_sk := Nat.le_trans lz_sk gr.size
  replace hmb := blk_a hmb gr d_mb_z
  replace hxb := blk_a hxb gr d_xb_z
  replace hbk := blk_a hbk gr (ne_symm d_z_bk)
  replace hrw := blk_a hrw gr (ne_symm d_z_rw)
  replace bel := below_grown bel gr oz bel.size
  clear hz
  have hz := hq
  clear hq gr
  refine hK.out _ _ hmb (fun hH10 => ?_)
  clear hK K
  simp only [Act.put]
  refine wpAnyH_done (by kernel_rfl) ?_ _
  go_wp2_with fail
  exact bodyPost_ret (results_cell_row' rfl _ _ _ _ _ _ _ rfl hz Try.underlying41 rfl (by kernel_rfl)) rfl ⟨_, _, _, rfl, orw, obk, oxb, hrw, hbk, hxb, d_bk_rw, d_xb_rw, d_xb_bk, bel⟩
/-- Options out of a block of them. -/
theorem os_one {w : World} {gr : Nat} {x : Oh} {p : Int × List UInt8} (h : w.heap[gr]? = some (.cells (opE x).toArray 49 (0, 0))) (hx : Ob w x p) : Opv w (some ⟨gr, 0, none⟩) 1 1 [x] [p] :=
  ⟨sle_lit [x] (by decide) opE_len (by simpa using h) rfl (by simp [maxLen]), Nt.of h (by decide), Nat.le_of_ble_eq_true rfl, hx, trivial⟩
theorem os_two {w : World} {gr : Nat} {x y : Oh} {p q : Int × List UInt8} (h : w.heap[gr]? = some (.cells (opE x ++ opE y).toArray 49 (0, 0))) (hx : Ob w x p) (hy : Ob w y q) : Opv w (some ⟨gr, 0, none⟩) 2 2 [x, y] [p, q] :=
  ⟨sle_lit [x, y] (by decide) opE_len (by simpa using h) rfl (by simp [maxLen]), Nt.of h (by decide), Nat.le_of_ble_eq_true rfl, hx, hy, trivial⟩
theorem lwant_o {m0 m1 m2 m3 m4 m5 x0 x1 x2 x3 : Int} {b0 b1 b2 b3 : UInt8} (w : World) (h0 : .int .u8 x0 = u8v b0) (h1 : .int .u8 x1 = u8v b1) (h2 : .int .u8 x2 = u8v b2) (h3 : .int .u8 x3 = u8v b3) : Calls Try.prog 11 #[.agg #[.int .u8 m0, .int .u8 m1, .int .u8 m2, .int .u8 m3, .int .u8 m4, .int .u8 m5], .agg #[.int .u8 x0, .int .u8 x1, .int .u8 x2, .int .u8 x3]] w fun e w' => ∃ A c hs, e = .returned (.agg #[.int .i64 1, .int .i64 0, .int .u32 8, .int .i64 0, .int .i64 0, .int .u8 0, .int .u8 0, .int .u8 0, .int .u8 0, .int .u8 0, .int .u8 0, .int .u8 0, .int .u8 0, .int .u8 0, .int .u8 0, .int .u8 0, .int .u8 0, .int .u8 0, .int .u8 0, .int .u8 0, .int .u8 0, .int .u8 m0, .int .u8 m1, .int .u8 m2, .int .u8 m3, .int .u8 m4, .int .u8 m5, .slice A 2 c]) ∧ Opv w' A 2 c hs [(53, [3]), (50, [b0, b1, b2, b3])] ∧ (∀ q, q < w.heap.size → Oa A 2 hs q) ∧ Below w.heap.size w w' := by
  refine lwant_b w |>.mono ?_
  rintro e w' ⟨gr, g1, g2, rfl, l0, l1, l2, hr, k1, k2, _, _, _, bel⟩
  exact ⟨_, _, _, rfl, os_two (x := ⟨53, some ⟨g1, 0, none⟩, 1, 1⟩) (y := ⟨50, some ⟨g2, 0, none⟩, 4, 4⟩) hr (ob_one 53 k1 rfl (by decide)) (ob_four 50 k2 h0 h1 h2 h3 (by decide)), fun q hq => ⟨av_at (Nat.lt_of_lt_of_le hq l0), List.forall_mem_cons.2 ⟨av_at (Nat.lt_of_lt_of_le hq l1), List.forall_mem_cons.2 ⟨av_at (Nat.lt_of_lt_of_le hq l2), List.forall_mem_nil _⟩⟩⟩, bel⟩
set_option linter.unusedVariables false in
set_option linter.unusedSimpArgs false in
set_option maxRecDepth 100000 in
set_option maxHeartbeats 16000000 in
theorem ldisc_o {m0 m1 m2 m3 m4 m5 : Int} (w : World) : Calls Try.prog 12 #[.agg #[.int .u8 m0, .int .u8 m1, .int .u8 m2, .int .u8 m3, .int .u8 m4, .int .u8 m5]] w fun e w' => ∃ A c hs, e = .returned (.agg #[.int .i64 1, .int .i64 0, .int .u32 7, .int .i64 0, .int .i64 0, .int .u8 0, .int .u8 0, .int .u8 0, .int .u8 0, .int .u8 0, .int .u8 0, .int .u8 0, .int .u8 0, .int .u8 0, .int .u8 0, .int .u8 0, .int .u8 0, .int .u8 0, .int .u8 0, .int .u8 0, .int .u8 0, .int .u8 m0, .int .u8 m1, .int .u8 m2, .int .u8 m3, .int .u8 m4, .int .u8 m5, .slice A 1 c]) ∧ Opv w' A 1 c hs [(53, [1])] ∧ (∀ q, q < w.heap.size → Oa A 1 hs q) ∧ Below w.heap.size w w' := by
  have bel := Below.refl w.heap.size w
  go_enter Try.func12, Try.ntmps12
  go_wp2_with (first | ((with_reducible show wpList _ _ _ (⟨some 1, _, _, _, _, _⟩ :: _) _ _); refine wpList_box_n rfl 32 (.tmp 0) rfl #[.int .u8 m0, .int .u8 m1, .int .u8 m2, .int .u8 m3, .int .u8 m4, .int .u8 m5] rfl ?_; intro g1 w1 ge lt hh bb; have omb := Nat.le_trans bel.size ge; replace bel := bel.trans (bb.mono bel.size); have hmb := hh; clear hh lt ge bb) | ((with_reducible show wpList _ _ _ (⟨some 2, _, _, _, _, _⟩ :: _) _ _); refine wpList_new_a rfl 41 rfl #[.int .i64 0, .int .i64 0, .int .u32 0, .int .i64 0, .int .i64 0, .int .u8 0, .int .u8 0, .int .u8 0, .int .u8 0, .int .u8 0, .int .u8 0, .int .u8 0, .int .u8 0, .int .u8 0, .int .u8 0, .int .u8 0, .int .u8 0, .int .u8 0, .int .u8 0, .int .u8 0, .int .u8 0, .int .u8 0, .int .u8 0, .int .u8 0, .int .u8 0, .int .u8 0, .int .u8 0, .slice none 0 0] (by kernel_rfl) ?_; intro g2 w2 ge hh bb; have d_mb_z := ne_new (hlt hmb) ge; have oz := Nat.le_trans bel.size ge; replace hmb := blk_u hmb bb; replace bel := bel.trans (bb.mono bel.size); have hz := hh; clear hh ge bb; have R3 := Lib.hid (range_lit hmb 0 6 [.int .u8 m0, .int .u8 m1, .int .u8 m2, .int .u8 m3, .int .u8 m4, .int .u8 m5] rfl)) | ((with_reducible show wpList _ _ _ (⟨some 3, _, _, _, _, _⟩ :: _) _ _); refine wpList_load_rng 32 (.tmp 1) rfl (by kernel_rfl) _ _ rfl _ R3.out _ Try.underlying32 rfl (by kernel_rfl) ?_) | ((with_reducible show wpList _ _ _ (⟨some 4, _, _, _, _, _⟩ :: _) _ _); refine wpList_lit_n rfl 47 5 1 _ rfl #[.int .u8 1] (.int .u8 0) Try.underlying47 (by kernel_rfl) 1 (by kernel_rfl) (by decide) (by kernel_rfl) ?_; intro g4 w3 ge lt hh bb; have hl : w3.heap[g4]? = some (.cells (([1] : List UInt8).map u8v).toArray 5 (0, 0)) := (by simpa [u8v, byteOf_val] using hh); have skw := own_lit (B := w2.heap.size) ([1]) hl ge 1 rfl (by simp [maxLen]); have sk := (own_sl skw).1; have sklo := bel.size; clear hl; have skge := ge; have lz_sk := bb.size; have y_sk_mb := Lib.hid (hlt hmb); have y_sk_z := Lib.hid (hlt hz); have d_mb_bk := ne_new (hlt hmb) ge; have d_z_bk := ne_new (hlt hz) ge; have obk := Nat.le_trans bel.size ge; replace hmb := blk_u hmb bb; replace hz := blk_u hz bb; replace bel := bel.trans (bb.mono bel.size); have hbk := hh; clear hh lt ge bb; have av_sk_mb := (own_sl skw).2.av y_sk_mb.out; have av_sk_z := (own_sl skw).2.av y_sk_z.out) | ((with_reducible show wpList _ _ _ (⟨some 6, _, _, _, _, _⟩ :: _) _ _); refine wpList_lit_n rfl 39 49 1 _ rfl #[.int .i64 53, .slice (some ⟨g4, 0, none⟩) 1 1] (.agg #[.int .i64 0, .slice none 0 0]) Try.underlying39 (by kernel_rfl) 2 (by kernel_rfl) (by decide) (by kernel_rfl) ?_; intro g6 w4 ge lt hh bb; have d_mb_rw := ne_new (hlt hmb) ge; have d_z_rw := ne_new (hlt hz) ge; have d_bk_rw := ne_new (hlt hbk) ge; have av_sk_rw := sk.av_new ge; have of_sk_rw := own_new skw ge; have orw := Nat.le_trans bel.size ge; replace hmb := blk_u hmb bb; replace hz := blk_u hz bb; replace hbk := blk_u hbk bb; replace sk := sk.below bb; replace skw := own_under skw bb; replace lz_sk := Nat.le_trans lz_sk bb.size; replace bel := bel.trans (bb.mono bel.size); have hrw := hh; clear hh lt ge bb) | ((with_reducible show wpList _ _ _ (⟨none, Op.store _ (.tmp 2) _, _, _, _, _⟩ :: _) _ _); refine wpList_store_blk rfl 41 (.tmp 2) (.tmp 7) rfl g2 rfl _ rfl _ 41 hz (by rfl) (by kernel_rfl) (by kernel_rfl) ?_; intro w5 hq gr; replace sk := sk.away av_sk_z gr; replace skw := own_away skw y_sk_z.out gr; replace lz_sk := Nat.le_trans lz_sk gr.size; replace hmb := blk_a hmb gr d_mb_z; replace hbk := blk_a hbk gr (ne_symm d_z_bk); replace hrw := blk_a hrw gr (ne_symm d_z_rw); replace bel := below_grown bel gr oz bel.size; clear hz; have hz := hq; clear hq gr))
  try clear R3
  exact bodyPost_ret (results_cell_row' rfl _ _ _ _ _ _ _ rfl hz Try.underlying41 rfl (by kernel_rfl)) rfl ⟨_, _, _, rfl, os_one (x := ⟨53, some ⟨g4, 0, none⟩, 1, 1⟩) hrw (ob_one 53 hbk rfl (by decide)), fun q hq => ⟨av_at (Nat.lt_of_lt_of_le hq orw), List.forall_mem_cons.2 ⟨av_at (Nat.lt_of_lt_of_le hq obk), List.forall_mem_nil _⟩⟩, bel⟩
open Go.RowKit

set_option linter.unusedVariables false in
set_option linter.unusedSimpArgs false in
set_option maxRecDepth 100000 in
set_option maxHeartbeats 16000000 in
theorem dtype_i {z0 z1 z2 z3 z4 z5 z6 z7 z8 z9 z10 z11 z12 z13 z14 z15 z16 z17 z18 z19 z20 z21 z22 z23 z24 z25 z26 : Int} {A : Option Addr} {n c : Nat} {hs : List Oh} {L : OptL} (w : World) (en : Sle opE 2 w A n c hs) (hbd : Bd w hs L) (hn : n ≤ 100000) (hb : ∀ x ∈ hs, x.n ≤ 100000) : Calls Try.prog 15 #[.agg #[.int .i64 z0, .int .i64 z1, .int .u32 z2, .int .i64 z3, .int .i64 z4, .int .u8 z5, .int .u8 z6, .int .u8 z7, .int .u8 z8, .int .u8 z9, .int .u8 z10, .int .u8 z11, .int .u8 z12, .int .u8 z13, .int .u8 z14, .int .u8 z15, .int .u8 z16, .int .u8 z17, .int .u8 z18, .int .u8 z19, .int .u8 z20, .int .u8 z21, .int .u8 z22, .int .u8 z23, .int .u8 z24, .int .u8 z25, .int .u8 z26, .slice A n c]] w fun e w' => e = .returned (.int .i64 (typeL L : Int)) ∧ Below w.heap.size w w' := by
  have bel := Below.refl w.heap.size w
  go_enter Try.func15, Try.ntmps15
  go_wp2_with (first | ((with_reducible show wpList _ _ _ (⟨some 1, _, _, _, _, _⟩ :: _) _ _); refine wpList_box_n rfl 41 (.tmp 0) rfl #[.int .i64 z0, .int .i64 z1, .int .u32 z2, .int .i64 z3, .int .i64 z4, .int .u8 z5, .int .u8 z6, .int .u8 z7, .int .u8 z8, .int .u8 z9, .int .u8 z10, .int .u8 z11, .int .u8 z12, .int .u8 z13, .int .u8 z14, .int .u8 z15, .int .u8 z16, .int .u8 z17, .int .u8 z18, .int .u8 z19, .int .u8 z20, .int .u8 z21, .int .u8 z22, .int .u8 z23, .int .u8 z24, .int .u8 z25, .int .u8 z26, .slice A n c] rfl ?_; intro g1 w1 ge lt hh bb; have av_en_p := en.av_new ge; have op := Nat.le_trans bel.size ge; replace en := en.below bb; replace bel := bel.trans (bb.mono bel.size); have hp := hh; clear hh lt ge bb; have R7 := cell_lit hp 27 _ rfl))
  try clear R7
  with_reducible refine (ofind_any _ en (hbd.below bel) hn hb).mono ?_
  rintro e w2 ⟨A2, n2, c2, rfl, sb, b2⟩
  replace hp := blk_u hp b2
  replace en := en.below b2
  replace bel := bel.trans (b2.mono bel.size)
  clear b2
  replace sb : Sl w2 (A2) (n2) (c2) ((findL L 53).getD []) := sb
  by_cases h1 : n2 = 1
  rotate_left
  · have e4 : ((n2 : Int) != 1) = true := by rw [bne, beq_eq_false_iff_ne.2 (by omega : ¬ (n2 : Int) = 1)]; rfl
    have HP : Hid (typeL L = 0) := Lib.hid (type_not (by rw [sb.1]; exact h1))
    clear h1
    go_wp2_with fail
    go_ret
    exact ⟨by rw [HP.out]; rfl, bel⟩
  obtain ⟨b, hq⟩ : ∃ b, (findL L 53).getD [] = [b] := by
    have h2 := sb.1.trans h1
    match (findL L 53).getD [], h2 with
    | [b], _ => exact ⟨b, rfl⟩
  have HQ := Lib.hid hq
  rw [hq] at sb
  subst h1
  obtain ⟨g2, o2, rfl⟩ := Sl.spot sb (by omega)
  have n01 : (0 : Int) < ((1 : Nat) : Int) := by omega
  have b0 : (0 : Int) ≤ b.toNat := by omega
  have b1 : (b.toNat : Int) < 256 := by have := b.toNat_lt; omega
  clear hq
  by_cases hb8 : b.toNat ≤ 8
  rotate_left
  · have h8 : (8 : Int) < b.toNat := by omega
    have HP : Hid (typeL L = 0) := Lib.hid (by rw [type_one HQ.out, if_neg (by omega)])
    clear hb8
    have R17 := (by have h_ := sl_at sb (j := 0) rfl; rw [Nat.add_zero] at h_; exact h_)
    go_wp2_with fail
    clear R17
    go_ret
    exact ⟨by rw [HP.out]; rfl, bel⟩
  have h8 : decide ((8 : Int) < b.toNat) = false := decide_eq_false (by omega)
  have HP : Hid (typeL L = b.toNat) := Lib.hid (by rw [type_one HQ.out, if_pos hb8])
  clear hb8
  have R17 := (by have h_ := sl_at sb (j := 0) rfl; rw [Nat.add_zero] at h_; exact h_)
  have R22 := (by have h_ := sl_at sb (j := 0) rfl; rw [Nat.add_zero] at h_; exact h_)
  go_wp2_with fail
  clear R17 R22
  go_ret
  exact ⟨by rw [HP.out]; rfl, bel⟩
theorem ltype_a {z0 z1 z2 z3 z4 z5 z6 z7 z8 z9 z10 z11 z12 z13 z14 z15 z16 z17 z18 z19 z20 z21 z22 z23 z24 z25 z26 : Int} {A : Option Addr} {n c : Nat} {hs : List Oh} {L : OptL} {k : Int} (w : World) (hO : Opv w A n c hs L) (hk : (typeL L : Int) = k) : Calls Try.prog 15 #[.agg #[.int .i64 z0, .int .i64 z1, .int .u32 z2, .int .i64 z3, .int .i64 z4, .int .u8 z5, .int .u8 z6, .int .u8 z7, .int .u8 z8, .int .u8 z9, .int .u8 z10, .int .u8 z11, .int .u8 z12, .int .u8 z13, .int .u8 z14, .int .u8 z15, .int .u8 z16, .int .u8 z17, .int .u8 z18, .int .u8 z19, .int .u8 z20, .int .u8 z21, .int .u8 z22, .int .u8 z23, .int .u8 z24, .int .u8 z25, .int .u8 z26, .slice A n c]] w fun e w' => e = .returned (.int .i64 k) ∧ Below w.heap.size w w' := by
  subst hk
  exact dtype_i w hO.1 (obs_bd hO.2.2.2).1 hO.2.2.1 (obs_bd hO.2.2.2).2
open Go.RowKit

theorem pnew_nil {x y : Ad4} (w : World) (h1 : x.num ≤ y.num) (h2 : y.num - x.num < 64) : Calls Try.prog 18 #[.agg #[.int .u8 (x.a.toNat : Int), .int .u8 (x.b.toNat : Int), .int .u8 (x.c.toNat : Int), .int .u8 (x.d.toNat : Int)], .agg #[.int .u8 (y.a.toNat : Int), .int .u8 (y.b.toNat : Int), .int .u8 (y.c.toNat : Int), .int .u8 (y.d.toNat : Int)], .slice none 0 0] w fun e w' => ∃ gt, e = .returned (.tuple #[.pointer (some ⟨gt, 0, none⟩), .int .i64 0]) ∧ Pl w.heap.size gt w' ⟨0, [], newL [] x.num (y.num - x.num + 1)⟩ ∧ Below w.heap.size w w' := by
  refine (pnew_any (fl := []) w h1 h2 (Sle.nil (by decide) leE_len w) (fun h => absurd h (by omega)) (by omega) (by simp) (by simp)).mono ?_
  rintro e w' ⟨gt, h3, h4, _, h5⟩
  exact ⟨gt, h3, h4, h5⟩
theorem pall_is {lo gt n : Nat} {s : St} {t : Int} {ls : List Le} (w : World) (_u : Unit) (hT : Pl lo gt w s) (hl : allO (s.adv t).now s.l = ls ∧ ls.length = n) : Calls Try.prog 27 #[.pointer (some ⟨gt, 0, none⟩), .int .i64 t] w fun e w' => ∃ A2 c2, e = .returned (.slice A2 n c2) ∧ w'.ownsRow w.heap.size 56 11 (.slice A2 n c2) n (ls.flatMap leE) ∧ Pl lo gt w' (s.adv t) ∧ Kt [84, 101] w w' ∧ Below lo w w' := by
  refine (pall_any t w hT).mono ?_
  rintro e w' ⟨A2, n2, c2, h1, h2, h3⟩
  have hn := row_len (by decide) leE_len h2
  rw [hl.1] at h2 hn
  obtain rfl : n = n2 := hl.2.symm.trans hn
  exact ⟨A2, c2, h1, h2, h3⟩
theorem ptick_is {lo gt n : Nat} {s : St} {t : Int} {ls : List Le} (w : World) (_u : Unit) (hT : Pl lo gt w s) (hl : tickO (s.adv t).now s.l = ls ∧ ls.length = n) : Calls Try.prog 29 #[.pointer (some ⟨gt, 0, none⟩), .int .i64 t] w fun e w' => ∃ A2 c2, e = .returned (.slice A2 n c2) ∧ w'.ownsRow w.heap.size 56 11 (.slice A2 n c2) n (ls.flatMap leE) ∧ Pl lo gt w' { s.adv t with l := tickL (s.adv t).now s.l } ∧ Kt [84, 101] w w' ∧ Below lo w w' := by
  refine (ptick_any t w hT).mono ?_
  rintro e w' ⟨A2, n2, c2, h1, h2, h3⟩
  have hn := row_len (by decide) leE_len h2
  rw [hl.1] at h2 hn
  obtain rfl : n = n2 := hl.2.symm.trans hn
  exact ⟨A2, c2, h1, h2, h3⟩
/-- Digits, read on from v. -/
def numGo : List UInt8 → Nat → Option Nat
  | [], v => some v
  | c :: t, v => if c.toNat < 48 ∨ 57 < c.toNat then none else numGo t (10 * v + (c.toNat - 48))
/-- A number without noughts ahead, of at most nine digits, at most so great; -1: none. -/
def numI (l : List UInt8) (most : Int) : Int :=
  if l.length < 1 ∨ 9 < l.length ∨ (1 < l.length ∧ l[0]? = some 48) then -1
  else match numGo l 0 with
    | none => -1
    | some n => if most < n then -1 else n
/-- A text at each such byte: from the left, the last piece growing. -/
def cutStep (b : UInt8) (ls : List (List UInt8)) (c : UInt8) : List (List UInt8) :=
  if c = b then ls ++ [[]] else ls.dropLast ++ [ls.getLastD [] ++ [c]]
def cutF (b : UInt8) (l : List UInt8) : List (List UInt8) := l.foldl (cutStep b) [[]]

open Go.RowKit

open Go.RowKit

def inI (v lo hi : Int) : Bool := decide (lo ≤ v) && decide (v ≤ hi)
open Go.RowKit

/-- A hexadecimal digit's value; -1: none. -/
def hexI (c : UInt8) : Int := if 48 ≤ c.toNat ∧ c.toNat ≤ 57 then (c.toNat : Int) - 48 else if 97 ≤ c.toNat ∧ c.toNat ≤ 102 then (c.toNat : Int) - 97 + 10 else if 65 ≤ c.toNat ∧ c.toNat ≤ 70 then (c.toNat : Int) - 65 + 10 else -1
open Go.RowKit

open Go.RowKit

open Go.RowKit

open Go.RowKit

open Go.RowKit

open Go.RowKit

open Go.RowKit

/-- An address, as the reference reads it. -/
def parse4 (l : List UInt8) : Option (UInt8 × UInt8 × UInt8 × UInt8) :=
  if 15 < l.length then none else match cutF 46 l with
  | [a, b, c, d] => if 0 ≤ numI a 255 ∧ 0 ≤ numI b 255 ∧ 0 ≤ numI c 255 ∧ 0 ≤ numI d 255 then some (byteOf (numI a 255), byteOf (numI b 255), byteOf (numI c 255), byteOf (numI d 255)) else none
  | _ => none
open Go.RowKit

open Go.RowKit

/-! awake: what the document tells of three bytes. -/
open Go.RowKit

open Go.RowKit

/-- The first and the last number of a net of m bits. -/
def firstN (n m : Nat) : Nat := 2 ^ (32 - m) * (n / 2 ^ (32 - m))
def lastN (n m : Nat) : Nat := 2 ^ (32 - m) * (n / 2 ^ (32 - m)) + (2 ^ (32 - m) - 1)
theorem net_top (n m : Nat) (hm : m ≤ 32) (hn : n < 2 ^ 32) : 2 ^ (32 - m) * (n / 2 ^ (32 - m)) + 2 ^ (32 - m) ≤ 2 ^ 32 := by
  have h1 : n / 2 ^ (32 - m) < 2 ^ m := by
    rw [Nat.div_lt_iff_lt_mul (Nat.two_pow_pos _), ← Nat.pow_add, show m + (32 - m) = 32 by omega]; exact hn
  have h2 : 2 ^ (32 - m) * (n / 2 ^ (32 - m) + 1) ≤ 2 ^ (32 - m) * 2 ^ m := Nat.mul_le_mul_left _ h1
  rw [← Nat.pow_add, show 32 - m + m = 32 by omega, Nat.mul_add, Nat.mul_one] at h2
  exact h2
theorem lastN_lt (n m : Nat) (hm : m ≤ 32) (hn : n < 4294967296) : lastN n m < 4294967296 := by
  have := net_top n m hm hn
  have := Nat.two_pow_pos (32 - m)
  unfold lastN; omega
theorem firstN_le (n m : Nat) : firstN n m ≤ n := Nat.mul_div_le n _
/-- A net has a number: its first bits are the net's. -/
theorem firstN_eq (n k m : Nat) : firstN n m = firstN k m ↔ n / 2 ^ (32 - m) = k / 2 ^ (32 - m) := by
  unfold firstN
  exact ⟨fun h => Nat.eq_of_mul_eq_mul_left (Nat.two_pow_pos _) h, fun h => by rw [h]⟩
open Go.RowKit

/-- An address by its number. -/
def adr (n : Nat) : Value := .agg #[.int .u8 ((n : Int) / 16777216), .int .u8 ((n : Int) / 65536 % 256), .int .u8 ((n : Int) / 256 % 256), .int .u8 ((n : Int) % 256)]

def clamp (b : Int) : Nat := if b < 0 then 0 else if 32 < b then 32 else b.toNat
theorem clamp_le (b : Int) : clamp b ≤ 32 := by unfold clamp; split <;> (try split) <;> omega

theorem be_four_lt (a b c d : UInt8) : be [a, b, c, d] < 4294967296 := be_lt 4 [a, b, c, d] rfl

open Go.RowKit


open Go.RowKit

/-- The i-th byte of a Mac's text; -1: none. -/
def macB (l : List UInt8) (i : Nat) : Int :=
  if hexI (l.getD (3 * i) 0) < 0 ∨ hexI (l.getD (3 * i + 1) 0) < 0 ∨ (i < 5 ∧ l.getD (3 * i + 2) 0 ≠ 58) then -1 else 16 * hexI (l.getD (3 * i) 0) + hexI (l.getD (3 * i + 1) 0)
def macOk (l : List UInt8) : Prop := l.length = 17 ∧ ∀ i, i < 6 → 0 ≤ macB l i
open Go.RowKit

abbrev z6 : Array Value := #[.int .u8 0, .int .u8 0, .int .u8 0, .int .u8 0, .int .u8 0, .int .u8 0]
open Go.RowKit

theorem be_abcd (a b c d : UInt8) : be [a, b, c, d] = a.toNat * 16777216 + b.toNat * 65536 + c.toNat * 256 + d.toNat := by
  simp [be]; omega
theorem adr_be (a b c d : UInt8) : adr (be [a, b, c, d]) = .agg #[.int .u8 (a.toNat : Int), .int .u8 (b.toNat : Int), .int .u8 (c.toNat : Int), .int .u8 (d.toNat : Int)] := by
  have := a.toNat_lt; have := b.toNat_lt; have := c.toNat_lt; have := d.toNat_lt
  rw [be_abcd]
  unfold adr
  have e1 : ((a.toNat * 16777216 + b.toNat * 65536 + c.toNat * 256 + d.toNat : Nat) : Int) / 16777216 = a.toNat := by omega
  have e2 : ((a.toNat * 16777216 + b.toNat * 65536 + c.toNat * 256 + d.toNat : Nat) : Int) / 65536 % 256 = b.toNat := by omega
  have e3 : ((a.toNat * 16777216 + b.toNat * 65536 + c.toNat * 256 + d.toNat : Nat) : Int) / 256 % 256 = c.toNat := by omega
  have e4 : ((a.toNat * 16777216 + b.toNat * 65536 + c.toNat * 256 + d.toNat : Nat) : Int) % 256 = d.toNat := by omega
  rw [e1, e2, e3, e4]
theorem be_inj (a b c d a' b' c' d' : UInt8) : be [a, b, c, d] = be [a', b', c', d'] ↔ [a, b, c, d] = [a', b', c', d'] := by
  have := a.toNat_lt; have := b.toNat_lt; have := c.toNat_lt; have := d.toNat_lt
  have := a'.toNat_lt; have := b'.toNat_lt; have := c'.toNat_lt; have := d'.toNat_lt
  rw [be_abcd, be_abcd]
  constructor
  · intro h
    have e1 : a = a' := UInt8.toNat_inj.1 (by omega)
    have e2 : b = b' := UInt8.toNat_inj.1 (by omega)
    have e3 : c = c' := UInt8.toNat_inj.1 (by omega)
    have e4 : d = d' := UInt8.toNat_inj.1 (by omega)
    rw [e1, e2, e3, e4]
  · intro h
    simp only [List.cons.injEq, and_true] at h
    rw [h.1, h.2.1, h.2.2.1, h.2.2.2]
/-- Every number below 2^32 is four bytes'. -/
theorem be_onto (n : Nat) (h : n < 4294967296) : ∃ a b c d : UInt8, n = be [a, b, c, d] := by
  refine ⟨UInt8.ofNat (n / 16777216), UInt8.ofNat (n / 65536), UInt8.ofNat (n / 256), UInt8.ofNat n, ?_⟩
  rw [be_abcd, UInt8.toNat_ofNat', UInt8.toNat_ofNat', UInt8.toNat_ofNat', UInt8.toNat_ofNat']
  omega

theorem eql_adr (n k : Nat) (hn : n < 4294967296) (hk : k < 4294967296) (w : World) : (binOp .eql 28 (adr n) (adr k)).run Try.prog w = .ok (.bool (n == k)) w := by
  obtain ⟨a, b, c, d, rfl⟩ := be_onto n hn
  obtain ⟨a', b', c', d', rfl⟩ := be_onto k hk
  rw [adr_be, adr_be]
  have h := run_eql_bytes (P := Try.prog) w 28 5 4 (by kernel_rfl) (by kernel_rfl) (fun w => by kernel_rfl) [a, b, c, d] [a', b', c', d'] rfl rfl
  have e : (be [a, b, c, d] == be [a', b', c', d']) = ([a, b, c, d] == [a', b', c', d']) := by
    rw [Bool.eq_iff_iff, beq_iff_eq, beq_iff_eq]; exact be_inj ..
  rw [e]
  exact h
theorem neq_adr (n k : Nat) (hn : n < 4294967296) (hk : k < 4294967296) (w : World) : (binOp .neq 28 (adr n) (adr k)).run Try.prog w = .ok (.bool (!(n == k))) w := by
  have h := eql_adr n k hn hk w
  unfold adr at h ⊢
  rw [run_eql_struct] at h
  rw [run_neq_struct]
  revert h
  generalize (Op.equalIn 10000 28 (.agg #[.int .u8 ((n : Int) / 16777216), .int .u8 ((n : Int) / 65536 % 256), .int .u8 ((n : Int) / 256 % 256), .int .u8 ((n : Int) % 256)]) (.agg #[.int .u8 ((k : Int) / 16777216), .int .u8 ((k : Int) / 65536 % 256), .int .u8 ((k : Int) / 256 % 256), .int .u8 ((k : Int) % 256)])).run Try.prog w = r
  intro h
  cases r <;> simp_all [Result.andThen]
open Go.RowKit

theorem cells5 {w : World} {k : Nat} {a b c d e : Value} {T : TypeId} (h : w.heap[k]? = some (.cells #[a, b, c, d, e] T (0, 0))) :
    (w.cell? ⟨k, 0, none⟩ = some a ∧ w.cell? ⟨k, 1, none⟩ = some b ∧ w.cell? ⟨k, 2, none⟩ = some c ∧ w.cell? ⟨k, 3, none⟩ = some d ∧ w.cell? ⟨k, 4, none⟩ = some e) ∧
    (w.frozen? ⟨k, 0, none⟩ = false ∧ w.frozen? ⟨k, 1, none⟩ = false ∧ w.frozen? ⟨k, 2, none⟩ = false ∧ w.frozen? ⟨k, 3, none⟩ = false ∧ w.frozen? ⟨k, 4, none⟩ = false) := by
  simp [World.cell?, World.frozen?, h]
open Go.RowKit
open Go.RowKit

theorem Ad4.cells (x : Ad4) : adr x.num = .agg #[.int .u8 (x.a.toNat : Int), .int .u8 (x.b.toNat : Int), .int .u8 (x.c.toNat : Int), .int .u8 (x.d.toNat : Int)] := adr_be _ _ _ _
structure Cf where
  (own lan : Ad4)
  bits : Int
  (lanmac wanmac : Mc6)
  (first last : Ad4)
  time : Int
  dns : Ad4
  (udp tcp icmp low : Int)
  fixed : List (Mc6 × Ad4)
  opens : List (Int × Int × Ad4 × Int)
/-- The first and the last address of a configuration's net; an address of it, neither of them. -/
def Cf.fst (c : Cf) : Nat := firstN c.lan.num (clamp c.bits)
def Cf.lst (c : Cf) : Nat := lastN c.lan.num (clamp c.bits)
def Cf.has (c : Cf) (x : Ad4) : Bool := c.fst == firstN x.num (clamp c.bits)
def Cf.inner (c : Cf) (x : Ad4) : Bool := c.has x && (!(x.num == c.fst) && !(x.num == c.lst))
theorem ad_eql (x : Ad4) (n : Nat) (hn : n < 4294967296) (W : World) : (binOp .eql 28 (.agg #[.int .u8 (x.a.toNat : Int), .int .u8 (x.b.toNat : Int), .int .u8 (x.c.toNat : Int), .int .u8 (x.d.toNat : Int)]) (adr n)).run Try.prog W = .ok (.bool (x.num == n)) W := by
  rw [← x.cells]; exact eql_adr _ _ x.lt hn W
theorem ad_neq (x : Ad4) (n : Nat) (hn : n < 4294967296) (W : World) : (binOp .neq 28 (.agg #[.int .u8 (x.a.toNat : Int), .int .u8 (x.b.toNat : Int), .int .u8 (x.c.toNat : Int), .int .u8 (x.d.toNat : Int)]) (adr n)).run Try.prog W = .ok (.bool (!(x.num == n))) W := by
  rw [← x.cells]; exact neq_adr _ _ x.lt hn W
theorem ad_guard (op : BinOp) (y z : Operand) (x : Array Value) (n : Nat) (W : World) : (eqGuard op 28 y z (.agg x) (adr n)).run Try.prog W = .ok () W := by
  unfold adr; exact run_eqGuard_agg W op 28 y z _ _ (by kernel_rfl)
open Go.RowKit

/-- A group's address: its first byte is odd. -/
def isGroup (l : List UInt8) : Bool := decide (((l.getD 0 0).toNat : Int) % 2 = 1)
open Go.RowKit

/-- The cells of a configuration. -/
@[reducible] def cfl (c : Cf) (Fx : Option Addr) (nf cf : Nat) (Ox : Option Addr) (nx cx : Nat) : List Value := [.int .u8 (c.own.a.toNat : Int), .int .u8 (c.own.b.toNat : Int), .int .u8 (c.own.c.toNat : Int), .int .u8 (c.own.d.toNat : Int), .int .u8 (c.lan.a.toNat : Int), .int .u8 (c.lan.b.toNat : Int), .int .u8 (c.lan.c.toNat : Int), .int .u8 (c.lan.d.toNat : Int), .int .i64 c.bits, .int .u8 (c.lanmac.a.toNat : Int), .int .u8 (c.lanmac.b.toNat : Int), .int .u8 (c.lanmac.c.toNat : Int), .int .u8 (c.lanmac.d.toNat : Int), .int .u8 (c.lanmac.e.toNat : Int), .int .u8 (c.lanmac.f.toNat : Int), .int .u8 (c.wanmac.a.toNat : Int), .int .u8 (c.wanmac.b.toNat : Int), .int .u8 (c.wanmac.c.toNat : Int), .int .u8 (c.wanmac.d.toNat : Int), .int .u8 (c.wanmac.e.toNat : Int), .int .u8 (c.wanmac.f.toNat : Int), .int .u8 (c.first.a.toNat : Int), .int .u8 (c.first.b.toNat : Int), .int .u8 (c.first.c.toNat : Int), .int .u8 (c.first.d.toNat : Int), .int .u8 (c.last.a.toNat : Int), .int .u8 (c.last.b.toNat : Int), .int .u8 (c.last.c.toNat : Int), .int .u8 (c.last.d.toNat : Int), .int .i64 c.time, .int .u8 (c.dns.a.toNat : Int), .int .u8 (c.dns.b.toNat : Int), .int .u8 (c.dns.c.toNat : Int), .int .u8 (c.dns.d.toNat : Int), .int .i64 c.udp, .int .i64 c.tcp, .int .i64 c.icmp, .int .i64 c.low, .slice Fx nf cf, .slice Ox nx cx]
def fxf (x : Mc6 × Ad4) : List Value := [.int .u8 (x.1.a.toNat : Int), .int .u8 (x.1.b.toNat : Int), .int .u8 (x.1.c.toNat : Int), .int .u8 (x.1.d.toNat : Int), .int .u8 (x.1.e.toNat : Int), .int .u8 (x.1.f.toNat : Int), .int .u8 (x.2.a.toNat : Int), .int .u8 (x.2.b.toNat : Int), .int .u8 (x.2.c.toNat : Int), .int .u8 (x.2.d.toNat : Int)]
def opf (x : Int × Int × Ad4 × Int) : List Value := [.int .i64 x.1, .int .i64 x.2.1, .int .u8 (x.2.2.1.a.toNat : Int), .int .u8 (x.2.2.1.b.toNat : Int), .int .u8 (x.2.2.1.c.toNat : Int), .int .u8 (x.2.2.1.d.toNat : Int), .int .i64 x.2.2.2]
def Cf.checkA (c : Cf) : Bool := inI c.bits 8 30 && (!(!(c.lan.num == c.fst)) && (c.inner c.own && (!isGroup c.lanmac.l && !isGroup c.wanmac.l)))
def Cf.checkB (c : Cf) : Bool := c.inner c.first && (c.inner c.last && (!decide (c.last.num < c.first.num) && (!decide (64 ≤ c.last.num - c.first.num) && !(decide (c.first.num ≤ c.own.num) && decide (c.own.num ≤ c.last.num)))))
def Cf.checkC (c : Cf) : Bool := inI c.time 60 86400 && (inI (c.dns.a.toNat : Int) 1 223 && (inI c.udp 10 86400 && (inI c.tcp 10 86400 && (inI c.icmp 10 86400 && (inI c.low 1024 60000 && (!decide (32 < c.fixed.length) && !decide (32 < c.opens.length)))))))
def fixBad (x y : Mc6 × Ad4) : Bool := (y.1.l == x.1.l) || (y.2.num == x.2.num)
def Cf.fixOne (c : Cf) (d : List (Mc6 × Ad4)) (x : Mc6 × Ad4) : Bool := c.inner x.2 && (!(x.2.num == c.own.num) && !d.any (fixBad x))
def Cf.fixAll (c : Cf) : List (Mc6 × Ad4) → List (Mc6 × Ad4) → Bool
  | _, [] => true
  | d, x :: l => c.fixOne d x && c.fixAll (d ++ [x]) l
def opBad (x y : Int × Int × Ad4 × Int) : Bool := (y.1 == x.1) && (y.2.1 == x.2.1)
def Cf.opOne (c : Cf) (d : List (Int × Int × Ad4 × Int)) (x : Int × Int × Ad4 × Int) : Bool := ((x.1 == 17) || (x.1 == 6)) && (inI x.2.1 1 (c.low - 1) && (inI x.2.2.2 1 65535 && (c.inner x.2.2.1 && (!(x.2.2.1.num == c.own.num) && !d.any (opBad x)))))
def Cf.opAll (c : Cf) : List (Int × Int × Ad4 × Int) → List (Int × Int × Ad4 × Int) → Bool
  | _, [] => true
  | d, x :: l => c.opOne d x && c.opAll (d ++ [x]) l
/-- May a configuration be? -/
def Cf.check (c : Cf) : Bool := c.checkA && (c.checkB && (c.checkC && (c.fixAll [] c.fixed && c.opAll [] c.opens)))
theorem ad_eq2 (x y : Ad4) (W : World) : (binOp .eql 28 (.agg #[.int .u8 (x.a.toNat : Int), .int .u8 (x.b.toNat : Int), .int .u8 (x.c.toNat : Int), .int .u8 (x.d.toNat : Int)]) (.agg #[.int .u8 (y.a.toNat : Int), .int .u8 (y.b.toNat : Int), .int .u8 (y.c.toNat : Int), .int .u8 (y.d.toNat : Int)])).run Try.prog W = .ok (.bool (x.num == y.num)) W := by
  rw [← x.cells, ← y.cells]; exact eql_adr _ _ x.lt y.lt W
theorem mc_eq2 (x y : Mc6) (W : World) : (binOp .eql 32 (.agg #[.int .u8 (x.a.toNat : Int), .int .u8 (x.b.toNat : Int), .int .u8 (x.c.toNat : Int), .int .u8 (x.d.toNat : Int), .int .u8 (x.e.toNat : Int), .int .u8 (x.f.toNat : Int)]) (.agg #[.int .u8 (y.a.toNat : Int), .int .u8 (y.b.toNat : Int), .int .u8 (y.c.toNat : Int), .int .u8 (y.d.toNat : Int), .int .u8 (y.e.toNat : Int), .int .u8 (y.f.toNat : Int)])).run Try.prog W = .ok (.bool (x.l == y.l)) W :=
  run_eql_bytes (P := Try.prog) W 32 5 6 (by kernel_rfl) (by kernel_rfl) (fun w => by kernel_rfl) x.l y.l rfl rfl
theorem ad_guard2 (op : BinOp) (y z : Operand) (a b : Array Value) (W : World) : (eqGuard op 28 y z (.agg a) (.agg b)).run Try.prog W = .ok () W := run_eqGuard_agg W op 28 y z _ _ (by kernel_rfl)
theorem mc_guard2 (op : BinOp) (y z : Operand) (a b : Array Value) (W : World) : (eqGuard op 32 y z (.agg a) (.agg b)).run Try.prog W = .ok () W := run_eqGuard_agg W op 32 y z _ _ (by kernel_rfl)
theorem any_more {α : Type} {p : α → Bool} {l : List α} {j : Nat} {x : α} (hx : l[j]? = some x) (h : (l.take j).any p = false) (hp : p x = false) : (l.take (j + 1)).any p = false := by
  rw [List.take_add_one, hx, Option.toList_some, List.any_append, h, List.any_cons, hp]
  rfl
theorem any_hit {α : Type} {p : α → Bool} {l : List α} {j i : Nat} {x : α} (hj : j < i) (hx : l[j]? = some x) (hp : p x = true) : (l.take i).any p = true := by
  rw [List.any_eq_true]
  exact ⟨x, List.mem_of_getElem? (i := j) (by rw [List.getElem?_take, if_pos hj]; exact hx), hp⟩
theorem Cf.fix_step {c : Cf} {l : List (Mc6 × Ad4)} {i : Nat} {x : Mc6 × Ad4} (hx : l[i]? = some x) : c.fixAll (l.take i) (l.drop i) = (c.fixOne (l.take i) x && c.fixAll (l.take (i + 1)) (l.drop (i + 1))) := by
  obtain ⟨hi, he⟩ := List.getElem?_eq_some_iff.1 hx
  rw [List.drop_eq_getElem_cons hi, he, Cf.fixAll, List.take_add_one, hx]
  rfl
theorem Cf.op_step {c : Cf} {l : List (Int × Int × Ad4 × Int)} {i : Nat} {x : Int × Int × Ad4 × Int} (hx : l[i]? = some x) : c.opAll (l.take i) (l.drop i) = (c.opOne (l.take i) x && c.opAll (l.take (i + 1)) (l.drop (i + 1))) := by
  obtain ⟨hi, he⟩ := List.getElem?_eq_some_iff.1 hx
  rw [List.drop_eq_getElem_cons hi, he, Cf.opAll, List.take_add_one, hx]
  rfl
open Go.RowKit

def p4 (l : List UInt8) : Ad4 := match parse4 l with
  | some (a, b, c, d) => ⟨a, b, c, d⟩
  | none => ⟨0, 0, 0, 0⟩
instance (l : List UInt8) : Decidable (macOk l) := by unfold macOk; infer_instance
set_option maxRecDepth 100000 in
set_option maxHeartbeats 16000000 in
theorem within_any (v lo hi : Int) (w : World) : Calls Try.prog 54 #[.int .i64 v, .int .i64 lo, .int .i64 hi] w fun e w' => e = .returned (.bool (inI v lo hi)) ∧ w = w' := by
  unfold inI
  skip
  go_enter Try.func54, Try.ntmps54
  by_cases h0 : lo ≤ v
  · rw [decide_eq_true h0, Bool.true_and]
    by_cases h1 : v ≤ hi
    · rw [decide_eq_true h1]
      go_wp2_with fail
      go_ret
      exact ⟨rfl, rfl⟩
    · have h2 : decide (v ≤ hi) = false := decide_eq_false h1
      rw [h2]
      clear h1
      go_wp2_with fail
      go_ret
      exact ⟨rfl, rfl⟩
  · have h2 : decide (lo ≤ v) = false := decide_eq_false h0
    rw [h2, Bool.false_and]
    clear h0
    go_wp2_with fail
    go_ret
    exact ⟨rfl, rfl⟩
theorem group_is (m : Mc6) : isGroup m.l = (((m.a.toNat % 2 : Nat) : Int) == 1) := by
  unfold isGroup Mc6.l
  rw [Bool.eq_iff_iff, decide_eq_true_eq, beq_iff_eq, Int.natCast_emod]
  rfl
theorem u8_and1 (x : UInt8) : bits .and .u8 (x.toNat : Int) 1 = ((x.toNat % 2 : Nat) : Int) := by
  have : ∀ x : Fin 256, bits .and .u8 (x.val : Int) 1 = ((x.val % 2 : Nat) : Int) := by decide +kernel
  exact this ⟨x.toNat, x.toNat_lt⟩
set_option linter.unusedVariables false in
set_option linter.unusedSimpArgs false in
set_option maxRecDepth 100000 in
set_option maxHeartbeats 16000000 in
theorem isGroup_any (m : Mc6) (w : World) : Calls Try.prog 56 #[.agg #[.int .u8 (m.a.toNat : Int), .int .u8 (m.b.toNat : Int), .int .u8 (m.c.toNat : Int), .int .u8 (m.d.toNat : Int), .int .u8 (m.e.toNat : Int), .int .u8 (m.f.toNat : Int)]] w fun e w' => e = .returned (.bool (isGroup m.l)) ∧ Below w.heap.size w w' := by
  have e1 := u8_and1 m.a
  have HP : Hid (isGroup m.l = (((m.a.toNat % 2 : Nat) : Int) == 1)) := Lib.hid (group_is m)
  have bel := Below.refl w.heap.size w
  go_enter Try.func56, Try.ntmps56
  go_wp2_with (first | ((with_reducible show wpList _ _ _ (⟨some 1, _, _, _, _, _⟩ :: _) _ _); refine wpList_box_n rfl 32 (.tmp 0) rfl #[.int .u8 (m.a.toNat : Int), .int .u8 (m.b.toNat : Int), .int .u8 (m.c.toNat : Int), .int .u8 (m.d.toNat : Int), .int .u8 (m.e.toNat : Int), .int .u8 (m.f.toNat : Int)] rfl ?_; intro g1 w1 ge lt hh bb; have op := Nat.le_trans bel.size ge; replace bel := bel.trans (bb.mono bel.size); have hp := hh; clear hh lt ge bb; have R4 := cell_lit hp 0 _ rfl))
  try clear R4
  go_ret
  exact ⟨by rw [HP.out]; rfl, bel⟩
open Go.RowKit

/-- The number of a net's ones. -/
def maskN (m : Nat) : Nat := 4294967296 - 2 ^ (32 - m)
theorem maskN_lt (m : Nat) : maskN m < 4294967296 := by have := Nat.two_pow_pos (32 - m); unfold maskN; omega
theorem mask_shl (m : Nat) (hm : m ≤ 32) : 4294967295 * (2 : Int) ^ (32 - m) % 4294967296 = (maskN m : Int) := by
  have h : ∀ k : Fin 33, 4294967295 * (2 : Int) ^ k.val % 4294967296 = ((4294967296 - 2 ^ k.val : Nat) : Int) := by decide +kernel
  exact h ⟨32 - m, by omega⟩
set_option maxRecDepth 100000 in
theorem amask_any (x0 x1 x2 x3 : Value) (bt : Int) (w : World) : Calls Try.prog 62 #[.agg #[x0, x1, x2, x3, .int .i64 bt]] w fun e w' => e = .returned (.int .u32 (maskN (clamp bt))) ∧ Below w.heap.size w w' := by
  have bel := (Below.refl w.heap.size w).alloc (Nat.le_refl _) (.cells #[x0, x1, x2, x3, .int .i64 bt] 30)
  by_cases h0 : bt < 0
  · have hc : clamp bt = 0 := if_pos h0
    rw [hc]; clear hc
    go_enter Try.func62, Try.ntmps62
    go_wp2
    go_ret
    exact ⟨rfl, bel⟩
  by_cases h1 : 32 < bt
  · have hc : clamp bt = 32 := by unfold clamp; rw [if_neg h0, if_pos h1]
    have b0 : 0 ≤ bt := by omega
    rw [hc]; clear hc h0
    go_enter Try.func62, Try.ntmps62
    go_wp2
    go_ret
    exact ⟨rfl, bel⟩
  · obtain ⟨m, rfl⟩ : ∃ m : Nat, bt = m := ⟨bt.toNat, by omega⟩
    have hc : clamp (m : Int) = m := by unfold clamp; rw [if_neg h0, if_neg h1]; omega
    have hm := mask_shl m (by omega)
    have he : (32 - (m : Int)).toNat = 32 - m := by omega
    have b0 : (0 : Int) ≤ m := by omega
    have b1 : (m : Int) ≤ 32 := by omega
    have b2 : decide (((m : Int)) < 0) = false := decide_eq_false h0
    have b3 : decide ((32 : Int) < m) = false := decide_eq_false h1
    rw [hc]
    generalize maskN m = k at *
    clear h0 h1 hc
    have HM := Lib.hid hm
    clear hm
    go_enter Try.func62, Try.ntmps62
    go_wp2
    go_ret
    exact ⟨ret_k HM.out, bel⟩

theorem aof_any (n : Nat) (w : World) (hn : n < 4294967296) : Calls Try.prog 39 #[.int .u32 (n : Int)] w fun e w' => e = .returned (adr n) ∧ Below w.heap.size w w' := by
  have n0 : (0 : Int) ≤ n := by omega
  have n1 : (n : Int) < 4294967296 := by omega
  go_enter Try.func39, Try.ntmps39
  go_wp2
  exact bodyPost_ret (v := adr n) (by simp [results, Try.results39, go_sem, adr]) rfl ⟨rfl, (Below.refl _ _).alloc (Nat.le_refl _) _⟩
end Go.Proofs.Ytapdmlfjohiekaa
