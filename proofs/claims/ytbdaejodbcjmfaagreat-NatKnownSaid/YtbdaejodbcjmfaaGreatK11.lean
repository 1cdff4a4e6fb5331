/- Texts put together: Na3, Open, Opens. -/
import Derived.Test.YtbdaejodbcjmfaaGreatK1
import Derived.Test.YtbdaejodbcjmfaaGreatK7
import Derived.Test.YtbdaejodbcjmfaaGreatK10
import Derived.ProofKit
import Derived.OpenShut
import Derived.ChangeArms
namespace Go.Proofs.YtbdaejodbcjmfaaGreat
open Go.RowKit
set_option linter.unusedVariables false
set_option linter.unusedSimpArgs false
set_option maxRecDepth 100000
set_option maxHeartbeats 16000000

theorem nout_frag {lo gn gt gk : Nat} {s : Ts} {k : Ks} {tos id fl pt ttl pr : Int} {a0 a1 a2 a3 b0 b1 b2 b3 : UInt8} {So Sb : Option Addr} {no co nb cb : Nat} {lp lb : List UInt8} {c0 c1 c2 c3 : UInt8} {t : Int} (w : World) (hT : Np lo gn gt gk w s k) (hw : (decide (pt = 0) && decide (fl % 2 = 0)) = false)  : Calls Tryz.prog 19 #[.pointer (some ⟨gn, 0, none⟩), .agg #[.int .i64 tos, .int .i64 id, .int .i64 fl, .int .i64 pt, .int .i64 ttl, .int .i64 pr, .int .u8 (a0.toNat : Int), .int .u8 (a1.toNat : Int), .int .u8 (a2.toNat : Int), .int .u8 (a3.toNat : Int), .int .u8 (b0.toNat : Int), .int .u8 (b1.toNat : Int), .int .u8 (b2.toNat : Int), .int .u8 (b3.toNat : Int), .slice So no co, .slice Sb nb cb], .agg #[.int .u8 (c0.toNat : Int), .int .u8 (c1.toNat : Int), .int .u8 (c2.toNat : Int), .int .u8 (c3.toNat : Int)], .int .i64 t] w fun e w' => e = .returned (.tuple #[.agg #[.int .i64 0, .int .i64 0, .int .i64 0, .int .i64 0, .int .i64 0, .int .i64 0, .int .u8 0, .int .u8 0, .int .u8 0, .int .u8 0, .int .u8 0, .int .u8 0, .int .u8 0, .int .u8 0, .slice none 0 0, .slice none 0 0], .int .i64 10]) ∧ Np lo gn gt gk w' s k ∧ Fn gn gt gk w w' ∧ Below lo w w' := by
 have hlo : lo ≤ w.heap.size := hT.lo_le
 have HLO := Lib.hid hlo
 have hnt := hT.nat
 have fr := Fn.refl gn gt gk w
 have HW := Lib.hid hw
 clear hw
 have bel := Below.refl lo w
 go_enter Tryz.func19, Tryz.ntmps19
 go_wp2_with (first | ((with_reducible show wpList _ _ _ (⟨some 5, _, _, _, _, _⟩ :: _) _ _); refine wpList_box_n rfl 38 (.tmp 1) rfl #[.int .i64 tos, .int .i64 id, .int .i64 fl, .int .i64 pt, .int .i64 ttl, .int .i64 pr, .int .u8 (a0.toNat : Int), .int .u8 (a1.toNat : Int), .int .u8 (a2.toNat : Int), .int .u8 (a3.toNat : Int), .int .u8 (b0.toNat : Int), .int .u8 (b1.toNat : Int), .int .u8 (b2.toNat : Int), .int .u8 (b3.toNat : Int), .slice So no co, .slice Sb nb cb] rfl ?_; intro g5 w1 ge lt hh bb; have ap_pB := hT.ap ge; have d_nt_pB := ne_new (hlt hnt) ge; have opB := Nat.le_trans (Nat.le_trans hlo bel.size) ge; have ppB := Nat.le_trans bel.size ge; replace hnt := blk_u hnt bb; replace hT := hT.below bb; replace fr := fr.below bb; replace ap_pB := ap_pB.below bb; replace bel := bel.trans (bb.mono (Nat.le_trans hlo bel.size)); have hpB := hh; clear hh lt ge bb) | ((with_reducible show wpList _ _ _ (⟨some 6, _, _, _, _, _⟩ :: _) _ _); refine wpList_box_n rfl 35 (.tmp 2) rfl #[.int .u8 (c0.toNat : Int), .int .u8 (c1.toNat : Int), .int .u8 (c2.toNat : Int), .int .u8 (c3.toNat : Int)] rfl ?_; intro g6 w2 ge lt hh bb; have ap_wB := hT.ap ge; have d_nt_wB := ne_new (hlt hnt) ge; have d_pB_wB := ne_new (hlt hpB) ge; have owB := Nat.le_trans (Nat.le_trans hlo bel.size) ge; have pwB := Nat.le_trans bel.size ge; replace hnt := blk_u hnt bb; replace hpB := blk_u hpB bb; replace hT := hT.below bb; replace fr := fr.below bb; replace ap_pB := ap_pB.below bb; replace ap_wB := ap_wB.below bb; replace bel := bel.trans (bb.mono (Nat.le_trans hlo bel.size)); have hwB := hh; clear hh lt ge bb) | ((with_reducible show wpList _ _ _ (⟨some 8, _, _, _, _, _⟩ :: _) _ _); refine wpList_new_a rfl 38 rfl #[.int .i64 0, .int .i64 0, .int .i64 0, .int .i64 0, .int .i64 0, .int .i64 0, .int .u8 0, .int .u8 0, .int .u8 0, .int .u8 0, .int .u8 0, .int .u8 0, .int .u8 0, .int .u8 0, .slice none 0 0, .slice none 0 0] (by kernel_rfl) ?_; intro g8 w3 ge hh bb; have ap_rB := hT.ap ge; have d_nt_rB := ne_new (hlt hnt) ge; have d_pB_rB := ne_new (hlt hpB) ge; have d_wB_rB := ne_new (hlt hwB) ge; have orB := Nat.le_trans (Nat.le_trans hlo bel.size) ge; have prB := Nat.le_trans bel.size ge; replace hnt := blk_u hnt bb; replace hpB := blk_u hpB bb; replace hwB := blk_u hwB bb; replace hT := hT.below bb; replace fr := fr.below bb; replace ap_pB := ap_pB.below bb; replace ap_wB := ap_wB.below bb; replace ap_rB := ap_rB.below bb; replace bel := bel.trans (bb.mono (Nat.le_trans hlo bel.size)); have hrB := hh; clear hh ge bb; have R10 := Lib.hid (range_lit hpB 0 16 [.int .i64 tos, .int .i64 id, .int .i64 fl, .int .i64 pt, .int .i64 ttl, .int .i64 pr, .int .u8 (a0.toNat : Int), .int .u8 (a1.toNat : Int), .int .u8 (a2.toNat : Int), .int .u8 (a3.toNat : Int), .int .u8 (b0.toNat : Int), .int .u8 (b1.toNat : Int), .int .u8 (b2.toNat : Int), .int .u8 (b3.toNat : Int), .slice So no co, .slice Sb nb cb] rfl)) | ((with_reducible show wpList _ _ _ (⟨some 10, _, _, _, _, _⟩ :: _) _ _); refine wpList_load_rng 38 (.tmp 5) rfl (by kernel_rfl) _ _ rfl _ R10.out _ Tryz.underlying38 rfl (by kernel_rfl) ?_))
 try clear R10
 with_reducible refine (ipwhole_any _ _ _ _ _ _ _ _ _ _ _ _ _ _ _ _ _ _ _ _ _ ).mono ?_
 rintro e w4 ⟨rfl, b4⟩
 replace hnt := blk_u hnt b4
 replace hpB := blk_u hpB b4
 replace hwB := blk_u hwB b4
 replace hrB := blk_u hrB b4
 replace hT := hT.below b4
 replace fr := fr.below b4
 replace ap_pB := ap_pB.below b4
 replace ap_wB := ap_wB.below b4
 replace ap_rB := ap_rB.below b4
 replace bel := bel.trans (b4.mono (Nat.le_trans hlo bel.size))
 clear b4
 rw [HW.out]
 go_wp2_with (first | ((with_reducible show wpList _ _ _ (⟨none, Op.store _ (.tmp 8) _, _, _, _, _⟩ :: _) _ _); refine wpList_store_blk rfl 38 (.tmp 8) (.tmp 13) rfl g8 rfl _ rfl _ 38 hrB (by rfl) (by kernel_rfl) (by kernel_rfl) ?_; intro w5 hq gr; replace hnt := blk_a hnt gr d_nt_rB; replace hpB := blk_a hpB gr d_pB_rB; replace hwB := blk_a hwB gr d_wB_rB; replace hT := hT.away ap_rB gr hrB; replace fr := fr.newer ap_rB gr prB; replace ap_pB := ap_pB.grown ap_rB gr; replace ap_wB := ap_wB.grown ap_rB gr; replace ap_rB := ap_rB.grown ap_rB gr; replace bel := below_grown bel gr orB (Nat.le_trans hlo bel.size); clear hrB; have hrB := hq; clear hq gr))
 exact bodyPost_ret (results_cell_tmp_row rfl _ _ _ _ _ _ _ rfl hrB Tryz.underlying38 rfl (by kernel_rfl) (.int .i64 10) rfl) rfl ⟨rfl, hT, fr, bel⟩
theorem nout_other {lo gn gt gk : Nat} {s : Ts} {k : Ks} {tos id fl pt ttl pr : Int} {a0 a1 a2 a3 b0 b1 b2 b3 : UInt8} {So Sb : Option Addr} {no co nb cb : Nat} {lp lb : List UInt8} {c0 c1 c2 c3 : UInt8} {t : Int} (w : World) (hT : Np lo gn gt gk w s k) (hw : (decide (pt = 0) && decide (fl % 2 = 0)) = true) (n17 : pr ≠ 17) (n6 : pr ≠ 6) (n1 : pr ≠ 1)  : Calls Tryz.prog 19 #[.pointer (some ⟨gn, 0, none⟩), .agg #[.int .i64 tos, .int .i64 id, .int .i64 fl, .int .i64 pt, .int .i64 ttl, .int .i64 pr, .int .u8 (a0.toNat : Int), .int .u8 (a1.toNat : Int), .int .u8 (a2.toNat : Int), .int .u8 (a3.toNat : Int), .int .u8 (b0.toNat : Int), .int .u8 (b1.toNat : Int), .int .u8 (b2.toNat : Int), .int .u8 (b3.toNat : Int), .slice So no co, .slice Sb nb cb], .agg #[.int .u8 (c0.toNat : Int), .int .u8 (c1.toNat : Int), .int .u8 (c2.toNat : Int), .int .u8 (c3.toNat : Int)], .int .i64 t] w fun e w' => e = .returned (.tuple #[.agg #[.int .i64 0, .int .i64 0, .int .i64 0, .int .i64 0, .int .i64 0, .int .i64 0, .int .u8 0, .int .u8 0, .int .u8 0, .int .u8 0, .int .u8 0, .int .u8 0, .int .u8 0, .int .u8 0, .slice none 0 0, .slice none 0 0], .int .i64 11]) ∧ Np lo gn gt gk w' s k ∧ Fn gn gt gk w w' ∧ Below lo w w' := by
 have hlo : lo ≤ w.heap.size := hT.lo_le
 have HLO := Lib.hid hlo
 have hnt := hT.nat
 have fr := Fn.refl gn gt gk w
 have HW := Lib.hid hw
 clear hw
 have n17_ : (pr == 17) = false := beq_eq_false_iff_ne.2 n17
 clear n17
 have n6_ : (pr == 6) = false := beq_eq_false_iff_ne.2 n6
 clear n6
 have n1_ : (pr == 1) = false := beq_eq_false_iff_ne.2 n1
 clear n1
 have bel := Below.refl lo w
 go_enter Tryz.func19, Tryz.ntmps19
 go_wp2_with (first | ((with_reducible show wpList _ _ _ (⟨some 5, _, _, _, _, _⟩ :: _) _ _); refine wpList_box_n rfl 38 (.tmp 1) rfl #[.int .i64 tos, .int .i64 id, .int .i64 fl, .int .i64 pt, .int .i64 ttl, .int .i64 pr, .int .u8 (a0.toNat : Int), .int .u8 (a1.toNat : Int), .int .u8 (a2.toNat : Int), .int .u8 (a3.toNat : Int), .int .u8 (b0.toNat : Int), .int .u8 (b1.toNat : Int), .int .u8 (b2.toNat : Int), .int .u8 (b3.toNat : Int), .slice So no co, .slice Sb nb cb] rfl ?_; intro g5 w1 ge lt hh bb; have ap_pB := hT.ap ge; have d_nt_pB := ne_new (hlt hnt) ge; have opB := Nat.le_trans (Nat.le_trans hlo bel.size) ge; have ppB := Nat.le_trans bel.size ge; replace hnt := blk_u hnt bb; replace hT := hT.below bb; replace fr := fr.below bb; replace ap_pB := ap_pB.below bb; replace bel := bel.trans (bb.mono (Nat.le_trans hlo bel.size)); have hpB := hh; clear hh lt ge bb) | ((with_reducible show wpList _ _ _ (⟨some 6, _, _, _, _, _⟩ :: _) _ _); refine wpList_box_n rfl 35 (.tmp 2) rfl #[.int .u8 (c0.toNat : Int), .int .u8 (c1.toNat : Int), .int .u8 (c2.toNat : Int), .int .u8 (c3.toNat : Int)] rfl ?_; intro g6 w2 ge lt hh bb; have ap_wB := hT.ap ge; have d_nt_wB := ne_new (hlt hnt) ge; have d_pB_wB := ne_new (hlt hpB) ge; have owB := Nat.le_trans (Nat.le_trans hlo bel.size) ge; have pwB := Nat.le_trans bel.size ge; replace hnt := blk_u hnt bb; replace hpB := blk_u hpB bb; replace hT := hT.below bb; replace fr := fr.below bb; replace ap_pB := ap_pB.below bb; replace ap_wB := ap_wB.below bb; replace bel := bel.trans (bb.mono (Nat.le_trans hlo bel.size)); have hwB := hh; clear hh lt ge bb) | ((with_reducible show wpList _ _ _ (⟨some 8, _, _, _, _, _⟩ :: _) _ _); refine wpList_new_a rfl 38 rfl #[.int .i64 0, .int .i64 0, .int .i64 0, .int .i64 0, .int .i64 0, .int .i64 0, .int .u8 0, .int .u8 0, .int .u8 0, .int .u8 0, .int .u8 0, .int .u8 0, .int .u8 0, .int .u8 0, .slice none 0 0, .slice none 0 0] (by kernel_rfl) ?_; intro g8 w3 ge hh bb; have ap_rB := hT.ap ge; have d_nt_rB := ne_new (hlt hnt) ge; have d_pB_rB := ne_new (hlt hpB) ge; have d_wB_rB := ne_new (hlt hwB) ge; have orB := Nat.le_trans (Nat.le_trans hlo bel.size) ge; have prB := Nat.le_trans bel.size ge; replace hnt := blk_u hnt bb; replace hpB := blk_u hpB bb; replace hwB := blk_u hwB bb; replace hT := hT.below bb; replace fr := fr.below bb; replace ap_pB := ap_pB.below bb; replace ap_wB := ap_wB.below bb; replace ap_rB := ap_rB.below bb; replace bel := bel.trans (bb.mono (Nat.le_trans hlo bel.size)); have hrB := hh; clear hh ge bb; have R10 := Lib.hid (range_lit hpB 0 16 [.int .i64 tos, .int .i64 id, .int .i64 fl, .int .i64 pt, .int .i64 ttl, .int .i64 pr, .int .u8 (a0.toNat : Int), .int .u8 (a1.toNat : Int), .int .u8 (a2.toNat : Int), .int .u8 (a3.toNat : Int), .int .u8 (b0.toNat : Int), .int .u8 (b1.toNat : Int), .int .u8 (b2.toNat : Int), .int .u8 (b3.toNat : Int), .slice So no co, .slice Sb nb cb] rfl)) | ((with_reducible show wpList _ _ _ (⟨some 10, _, _, _, _, _⟩ :: _) _ _); refine wpList_load_rng 38 (.tmp 5) rfl (by kernel_rfl) _ _ rfl _ R10.out _ Tryz.underlying38 rfl (by kernel_rfl) ?_))
 try clear R10
 with_reducible refine (ipwhole_any _ _ _ _ _ _ _ _ _ _ _ _ _ _ _ _ _ _ _ _ _ ).mono ?_
 rintro e w4 ⟨rfl, b4⟩
 replace hnt := blk_u hnt b4
 replace hpB := blk_u hpB b4
 replace hwB := blk_u hwB b4
 replace hrB := blk_u hrB b4
 replace hT := hT.below b4
 replace fr := fr.below b4
 replace ap_pB := ap_pB.below b4
 replace ap_wB := ap_wB.below b4
 replace ap_rB := ap_rB.below b4
 replace bel := bel.trans (b4.mono (Nat.le_trans hlo bel.size))
 clear b4
 rw [HW.out]
 have R15 := cell_lit hpB 5 _ rfl
 go_wp2_with (first | ((with_reducible show wpList _ _ _ (⟨none, Op.store _ (.tmp 8) _, _, _, _, _⟩ :: _) _ _); refine wpList_store_blk rfl 38 (.tmp 8) (.tmp 43) rfl g8 rfl _ rfl _ 38 hrB (by rfl) (by kernel_rfl) (by kernel_rfl) ?_; intro w5 hq gr; replace hnt := blk_a hnt gr d_nt_rB; replace hpB := blk_a hpB gr d_pB_rB; replace hwB := blk_a hwB gr d_wB_rB; replace hT := hT.away ap_rB gr hrB; replace fr := fr.newer ap_rB gr prB; replace ap_pB := ap_pB.grown ap_rB gr; replace ap_wB := ap_wB.grown ap_rB gr; replace ap_rB := ap_rB.grown ap_rB gr; replace bel := below_grown bel gr orB (Nat.le_trans hlo bel.size); clear hrB; have hrB := hq; clear hq gr))
 try clear R15
 exact bodyPost_ret (results_cell_tmp_row rfl _ _ _ _ _ _ _ rfl hrB Tryz.underlying38 rfl (by kernel_rfl) (.int .i64 11) rfl) rfl ⟨rfl, hT, fr, bel⟩
theorem nout_u0 {lo gn gt gk : Nat} {s : Ts} {k : Ks} {tos id fl pt ttl : Int} {a0 a1 a2 a3 b0 b1 b2 b3 : UInt8} {So Sb : Option Addr} {no co nb cb : Nat} {lp lb : List UInt8} {c0 c1 c2 c3 : UInt8} {t : Int} {dt : Int} {ld : List UInt8} {nd : Nat} (w : World) (hT : Np lo gn gt gk w s k) (po : Sl w So no co lp) (pb : Sl w Sb nb cb lb) (an_po : An gn gt gk w So no) (hm : nb ≤ 100000) (hno : no ≤ 100000) (hw : (decide (pt = 0) && decide (fl % 2 = 0)) = true) (hg : udGet fl pt 17 a0 a1 a2 a3 b0 b1 b2 b3 lb = ((0, dt), ld, 0)) (hld : ld.length = nd)  : Calls Tryz.prog 19 #[.pointer (some ⟨gn, 0, none⟩), .agg #[.int .i64 tos, .int .i64 id, .int .i64 fl, .int .i64 pt, .int .i64 ttl, .int .i64 17, .int .u8 (a0.toNat : Int), .int .u8 (a1.toNat : Int), .int .u8 (a2.toNat : Int), .int .u8 (a3.toNat : Int), .int .u8 (b0.toNat : Int), .int .u8 (b1.toNat : Int), .int .u8 (b2.toNat : Int), .int .u8 (b3.toNat : Int), .slice So no co, .slice Sb nb cb], .agg #[.int .u8 (c0.toNat : Int), .int .u8 (c1.toNat : Int), .int .u8 (c2.toNat : Int), .int .u8 (c3.toNat : Int)], .int .i64 t] w fun e w' => e = .returned (.tuple #[.agg #[.int .i64 0, .int .i64 0, .int .i64 0, .int .i64 0, .int .i64 0, .int .i64 0, .int .u8 0, .int .u8 0, .int .u8 0, .int .u8 0, .int .u8 0, .int .u8 0, .int .u8 0, .int .u8 0, .slice none 0 0, .slice none 0 0], .int .i64 1]) ∧ Np lo gn gt gk w' s k ∧ Fn gn gt gk w w' ∧ Below lo w w' := by
 have hlo : lo ≤ w.heap.size := hT.lo_le
 have HLO := Lib.hid hlo
 have hnt := hT.nat
 have fr := Fn.refl gn gt gk w
 have HM := Lib.hid hm
 clear hm
 have HNO := Lib.hid hno
 clear hno
 have HG := Lib.hid hg
 clear hg
 have HLD := Lib.hid hld
 clear hld
 have HW := Lib.hid hw
 clear hw
 have bel := Below.refl lo w
 go_enter Tryz.func19, Tryz.ntmps19
 go_wp2_with (first | ((with_reducible show wpList _ _ _ (⟨some 5, _, _, _, _, _⟩ :: _) _ _); refine wpList_box_n rfl 38 (.tmp 1) rfl #[.int .i64 tos, .int .i64 id, .int .i64 fl, .int .i64 pt, .int .i64 ttl, .int .i64 17, .int .u8 (a0.toNat : Int), .int .u8 (a1.toNat : Int), .int .u8 (a2.toNat : Int), .int .u8 (a3.toNat : Int), .int .u8 (b0.toNat : Int), .int .u8 (b1.toNat : Int), .int .u8 (b2.toNat : Int), .int .u8 (b3.toNat : Int), .slice So no co, .slice Sb nb cb] rfl ?_; intro g5 w1 ge lt hh bb; have ap_pB := hT.ap ge; have d_nt_pB := ne_new (hlt hnt) ge; have av_po_pB := po.av_new ge; have av_pb_pB := pb.av_new ge; have opB := Nat.le_trans (Nat.le_trans hlo bel.size) ge; have ppB := Nat.le_trans bel.size ge; replace hnt := blk_u hnt bb; replace po := po.below bb; replace pb := pb.below bb; replace hT := hT.below bb; replace fr := fr.below bb; replace an_po := an_po.below bb; replace ap_pB := ap_pB.below bb; replace bel := bel.trans (bb.mono (Nat.le_trans hlo bel.size)); have hpB := hh; clear hh lt ge bb) | ((with_reducible show wpList _ _ _ (⟨some 6, _, _, _, _, _⟩ :: _) _ _); refine wpList_box_n rfl 35 (.tmp 2) rfl #[.int .u8 (c0.toNat : Int), .int .u8 (c1.toNat : Int), .int .u8 (c2.toNat : Int), .int .u8 (c3.toNat : Int)] rfl ?_; intro g6 w2 ge lt hh bb; have ap_wB := hT.ap ge; have d_nt_wB := ne_new (hlt hnt) ge; have d_pB_wB := ne_new (hlt hpB) ge; have av_po_wB := po.av_new ge; have av_pb_wB := pb.av_new ge; have owB := Nat.le_trans (Nat.le_trans hlo bel.size) ge; have pwB := Nat.le_trans bel.size ge; replace hnt := blk_u hnt bb; replace hpB := blk_u hpB bb; replace po := po.below bb; replace pb := pb.below bb; replace hT := hT.below bb; replace fr := fr.below bb; replace an_po := an_po.below bb; replace ap_pB := ap_pB.below bb; replace ap_wB := ap_wB.below bb; replace bel := bel.trans (bb.mono (Nat.le_trans hlo bel.size)); have hwB := hh; clear hh lt ge bb) | ((with_reducible show wpList _ _ _ (⟨some 8, _, _, _, _, _⟩ :: _) _ _); refine wpList_new_a rfl 38 rfl #[.int .i64 0, .int .i64 0, .int .i64 0, .int .i64 0, .int .i64 0, .int .i64 0, .int .u8 0, .int .u8 0, .int .u8 0, .int .u8 0, .int .u8 0, .int .u8 0, .int .u8 0, .int .u8 0, .slice none 0 0, .slice none 0 0] (by kernel_rfl) ?_; intro g8 w3 ge hh bb; have ap_rB := hT.ap ge; have d_nt_rB := ne_new (hlt hnt) ge; have d_pB_rB := ne_new (hlt hpB) ge; have d_wB_rB := ne_new (hlt hwB) ge; have av_po_rB := po.av_new ge; have av_pb_rB := pb.av_new ge; have orB := Nat.le_trans (Nat.le_trans hlo bel.size) ge; have prB := Nat.le_trans bel.size ge; replace hnt := blk_u hnt bb; replace hpB := blk_u hpB bb; replace hwB := blk_u hwB bb; replace po := po.below bb; replace pb := pb.below bb; replace hT := hT.below bb; replace fr := fr.below bb; replace an_po := an_po.below bb; replace ap_pB := ap_pB.below bb; replace ap_wB := ap_wB.below bb; replace ap_rB := ap_rB.below bb; replace bel := bel.trans (bb.mono (Nat.le_trans hlo bel.size)); have hrB := hh; clear hh ge bb; have R10 := Lib.hid (range_lit hpB 0 16 [.int .i64 tos, .int .i64 id, .int .i64 fl, .int .i64 pt, .int .i64 ttl, .int .i64 17, .int .u8 (a0.toNat : Int), .int .u8 (a1.toNat : Int), .int .u8 (a2.toNat : Int), .int .u8 (a3.toNat : Int), .int .u8 (b0.toNat : Int), .int .u8 (b1.toNat : Int), .int .u8 (b2.toNat : Int), .int .u8 (b3.toNat : Int), .slice So no co, .slice Sb nb cb] rfl)) | ((with_reducible show wpList _ _ _ (⟨some 10, _, _, _, _, _⟩ :: _) _ _); refine wpList_load_rng 38 (.tmp 5) rfl (by kernel_rfl) _ _ rfl _ R10.out _ Tryz.underlying38 rfl (by kernel_rfl) ?_))
 try clear R10
 with_reducible refine (ipwhole_any _ _ _ _ _ _ _ _ _ _ _ _ _ _ _ _ _ _ _ _ _ ).mono ?_
 rintro e w4 ⟨rfl, b4⟩
 replace hnt := blk_u hnt b4
 replace hpB := blk_u hpB b4
 replace hwB := blk_u hwB b4
 replace hrB := blk_u hrB b4
 replace po := po.below b4
 replace pb := pb.below b4
 replace hT := hT.below b4
 replace fr := fr.below b4
 replace an_po := an_po.below b4
 replace ap_pB := ap_pB.below b4
 replace ap_wB := ap_wB.below b4
 replace ap_rB := ap_rB.below b4
 replace bel := bel.trans (b4.mono (Nat.le_trans hlo bel.size))
 clear b4
 rw [HW.out]
 have R15 := cell_lit hpB 5 _ rfl
 have R19 := Lib.hid (range_lit hpB 0 16 [.int .i64 tos, .int .i64 id, .int .i64 fl, .int .i64 pt, .int .i64 ttl, .int .i64 17, .int .u8 (a0.toNat : Int), .int .u8 (a1.toNat : Int), .int .u8 (a2.toNat : Int), .int .u8 (a3.toNat : Int), .int .u8 (b0.toNat : Int), .int .u8 (b1.toNat : Int), .int .u8 (b2.toNat : Int), .int .u8 (b3.toNat : Int), .slice So no co, .slice Sb nb cb] rfl)
 go_wp2_with (first | ((with_reducible show wpList _ _ _ (⟨some 19, _, _, _, _, _⟩ :: _) _ _); refine wpList_load_rng 38 (.tmp 5) rfl (by kernel_rfl) _ _ rfl _ R19.out _ Tryz.underlying38 rfl (by kernel_rfl) ?_; have R20 := Lib.hid (range_lit hwB 0 4 [.int .u8 (c0.toNat : Int), .int .u8 (c1.toNat : Int), .int .u8 (c2.toNat : Int), .int .u8 (c3.toNat : Int)] rfl)) | ((with_reducible show wpList _ _ _ (⟨some 20, _, _, _, _, _⟩ :: _) _ _); refine wpList_load_rng 35 (.tmp 6) rfl (by kernel_rfl) _ _ rfl _ R20.out _ Tryz.underlying35 rfl (by kernel_rfl) ?_))
 try clear R15
 try clear R19
 try clear R20
 with_reducible refine (ndout_0 _ hT po pb an_po HM.out HNO.out HG.out HLD.out).mono ?_
 rintro e w5 ⟨rfl, hT_, f_, bb⟩
 clear hnt
 have x_ := f_ _ _ _ _ hpB ap_pB
 replace hpB := x_.1
 replace ap_pB := x_.2
 clear x_
 have x_ := f_ _ _ _ _ hwB ap_wB
 replace hwB := x_.1
 replace ap_wB := x_.2
 clear x_
 have x_ := f_ _ _ _ _ hrB ap_rB
 replace hrB := x_.1
 replace ap_rB := x_.2
 clear x_
 have x_ := f_.sl po an_po
 replace po := x_.1
 replace an_po := x_.2
 clear x_
 clear pb
 replace fr := fr.trans f_
 clear hT
 have hT := hT_
 replace bel := bel.trans bb
 clear bb f_ hT_
 have hnt := hT.nat
 go_wp2_with (first | ((with_reducible show wpList _ _ _ (⟨none, Op.store _ (.tmp 8) _, _, _, _, _⟩ :: _) _ _); refine wpList_store_blk rfl 38 (.tmp 8) (.tmp 23) rfl g8 rfl _ rfl _ 38 hrB (by rfl) (by kernel_rfl) (by kernel_rfl) ?_; intro w6 hq gr; replace po := po.away av_po_rB gr; replace hpB := blk_a hpB gr d_pB_rB; replace hwB := blk_a hwB gr d_wB_rB; replace hnt := blk_a hnt gr d_nt_rB; replace hT := hT.away ap_rB gr hrB; replace fr := fr.newer ap_rB gr prB; replace an_po := an_po.grown ap_rB gr; replace ap_pB := ap_pB.grown ap_rB gr; replace ap_wB := ap_wB.grown ap_rB gr; replace ap_rB := ap_rB.grown ap_rB gr; replace bel := below_grown bel gr orB (Nat.le_trans hlo bel.size); clear hrB; have hrB := hq; clear hq gr))
 exact bodyPost_ret (results_cell_tmp_row rfl _ _ _ _ _ _ _ rfl hrB Tryz.underlying38 rfl (by kernel_rfl) (.int .i64 1) rfl) rfl ⟨rfl, hT, fr, bel⟩
theorem nout_ok {lo gn gt gk : Nat} {s : Ts} {k : Ks} {s' : Ts} {m : Mp} {tos id fl pt ttl : Int} {a0 a1 a2 a3 b0 b1 b2 b3 : UInt8} {So Sb : Option Addr} {no co nb cb : Nat} {lp lb : List UInt8} {c0 c1 c2 c3 : UInt8} {t : Int} {df dt : Int} {ld : List UInt8} {nd : Nat} (w : World) (hT : Np lo gn gt gk w s k) (po : Sl w So no co lp) (pb : Sl w Sb nb cb lb) (an_po : An gn gt gk w So no) (hm : nb ≤ 100000) (hno : no ≤ 100000) (hw : (decide (pt = 0) && decide (fl % 2 = 0)) = true) (hg : udGet fl pt 17 a0 a1 a2 a3 b0 b1 b2 b3 lb = ((df, dt), ld, 0)) (hld : ld.length = nd) (hd : df ≠ 0) (hc : MakeC lo gt s s' 17 a0 a1 a2 a3 df t 120 m 0) (h1 : portOk m.o = true) (h2 : portOk dt = true) (hn : nd ≤ 1472)  : Calls Tryz.prog 19 #[.pointer (some ⟨gn, 0, none⟩), .agg #[.int .i64 tos, .int .i64 id, .int .i64 fl, .int .i64 pt, .int .i64 ttl, .int .i64 17, .int .u8 (a0.toNat : Int), .int .u8 (a1.toNat : Int), .int .u8 (a2.toNat : Int), .int .u8 (a3.toNat : Int), .int .u8 (b0.toNat : Int), .int .u8 (b1.toNat : Int), .int .u8 (b2.toNat : Int), .int .u8 (b3.toNat : Int), .slice So no co, .slice Sb nb cb], .agg #[.int .u8 (c0.toNat : Int), .int .u8 (c1.toNat : Int), .int .u8 (c2.toNat : Int), .int .u8 (c3.toNat : Int)], .int .i64 t] w fun e w' => ∃ Ao co' Ab cb', e = .returned (.tuple #[.agg #[.int .i64 tos, .int .i64 id, .int .i64 fl, .int .i64 pt, .int .i64 ttl, .int .i64 17, .int .u8 (c0.toNat : Int), .int .u8 (c1.toNat : Int), .int .u8 (c2.toNat : Int), .int .u8 (c3.toNat : Int), .int .u8 (b0.toNat : Int), .int .u8 (b1.toNat : Int), .int .u8 (b2.toNat : Int), .int .u8 (b3.toNat : Int), .slice Ao no co', .slice Ab (8 + nd) cb'], .int .i64 0]) ∧ Np lo gn gt gk w' s' k ∧ Fn gn gt gk w w' ∧ Below lo w w' ∧ Sl w' Ao no co' lp ∧ Sl w' Ab (8 + nd) cb' (udBytes c0 c1 c2 c3 b0 b1 b2 b3 m.o dt ld) ∧ An gn gt gk w' Ao no ∧ An gn gt gk w' Ab (8 + nd) ∧ Fr w.heap.size Ao no ∧ Fr w.heap.size Ab (8 + nd) := by
 have hlo : lo ≤ w.heap.size := hT.lo_le
 have HLO := Lib.hid hlo
 have hnt := hT.nat
 have fr := Fn.refl gn gt gk w
 have HM := Lib.hid hm
 clear hm
 have HNO := Lib.hid hno
 clear hno
 have HG := Lib.hid hg
 clear hg
 have HLD := Lib.hid hld
 clear hld
 have HD := Lib.hid hd
 clear hd
 have HP1 := Lib.hid h1
 clear h1
 have HP2 := Lib.hid h2
 clear h2
 have HN4 := Lib.hid hn
 clear hn
 have HW := Lib.hid hw
 clear hw
 have bel := Below.refl lo w
 go_enter Tryz.func19, Tryz.ntmps19
 go_wp2_with (first | ((with_reducible show wpList _ _ _ (⟨some 5, _, _, _, _, _⟩ :: _) _ _); refine wpList_box_n rfl 38 (.tmp 1) rfl #[.int .i64 tos, .int .i64 id, .int .i64 fl, .int .i64 pt, .int .i64 ttl, .int .i64 17, .int .u8 (a0.toNat : Int), .int .u8 (a1.toNat : Int), .int .u8 (a2.toNat : Int), .int .u8 (a3.toNat : Int), .int .u8 (b0.toNat : Int), .int .u8 (b1.toNat : Int), .int .u8 (b2.toNat : Int), .int .u8 (b3.toNat : Int), .slice So no co, .slice Sb nb cb] rfl ?_; intro g5 w1 ge lt hh bb; have ap_pB := hT.ap ge; have d_nt_pB := ne_new (hlt hnt) ge; have av_po_pB := po.av_new ge; have av_pb_pB := pb.av_new ge; have opB := Nat.le_trans (Nat.le_trans hlo bel.size) ge; have ppB := Nat.le_trans bel.size ge; replace hnt := blk_u hnt bb; replace po := po.below bb; replace pb := pb.below bb; replace hT := hT.below bb; replace fr := fr.below bb; replace an_po := an_po.below bb; replace ap_pB := ap_pB.below bb; replace bel := bel.trans (bb.mono (Nat.le_trans hlo bel.size)); have hpB := hh; clear hh lt ge bb) | ((with_reducible show wpList _ _ _ (⟨some 6, _, _, _, _, _⟩ :: _) _ _); refine wpList_box_n rfl 35 (.tmp 2) rfl #[.int .u8 (c0.toNat : Int), .int .u8 (c1.toNat : Int), .int .u8 (c2.toNat : Int), .int .u8 (c3.toNat : Int)] rfl ?_; intro g6 w2 ge lt hh bb; have ap_wB := hT.ap ge; have d_nt_wB := ne_new (hlt hnt) ge; have d_pB_wB := ne_new (hlt hpB) ge; have av_po_wB := po.av_new ge; have av_pb_wB := pb.av_new ge; have owB := Nat.le_trans (Nat.le_trans hlo bel.size) ge; have pwB := Nat.le_trans bel.size ge; replace hnt := blk_u hnt bb; replace hpB := blk_u hpB bb; replace po := po.below bb; replace pb := pb.below bb; replace hT := hT.below bb; replace fr := fr.below bb; replace an_po := an_po.below bb; replace ap_pB := ap_pB.below bb; replace ap_wB := ap_wB.below bb; replace bel := bel.trans (bb.mono (Nat.le_trans hlo bel.size)); have hwB := hh; clear hh lt ge bb) | ((with_reducible show wpList _ _ _ (⟨some 8, _, _, _, _, _⟩ :: _) _ _); refine wpList_new_a rfl 38 rfl #[.int .i64 0, .int .i64 0, .int .i64 0, .int .i64 0, .int .i64 0, .int .i64 0, .int .u8 0, .int .u8 0, .int .u8 0, .int .u8 0, .int .u8 0, .int .u8 0, .int .u8 0, .int .u8 0, .slice none 0 0, .slice none 0 0] (by kernel_rfl) ?_; intro g8 w3 ge hh bb; have ap_rB := hT.ap ge; have d_nt_rB := ne_new (hlt hnt) ge; have d_pB_rB := ne_new (hlt hpB) ge; have d_wB_rB := ne_new (hlt hwB) ge; have av_po_rB := po.av_new ge; have av_pb_rB := pb.av_new ge; have orB := Nat.le_trans (Nat.le_trans hlo bel.size) ge; have prB := Nat.le_trans bel.size ge; replace hnt := blk_u hnt bb; replace hpB := blk_u hpB bb; replace hwB := blk_u hwB bb; replace po := po.below bb; replace pb := pb.below bb; replace hT := hT.below bb; replace fr := fr.below bb; replace an_po := an_po.below bb; replace ap_pB := ap_pB.below bb; replace ap_wB := ap_wB.below bb; replace ap_rB := ap_rB.below bb; replace bel := bel.trans (bb.mono (Nat.le_trans hlo bel.size)); have hrB := hh; clear hh ge bb; have R10 := Lib.hid (range_lit hpB 0 16 [.int .i64 tos, .int .i64 id, .int .i64 fl, .int .i64 pt, .int .i64 ttl, .int .i64 17, .int .u8 (a0.toNat : Int), .int .u8 (a1.toNat : Int), .int .u8 (a2.toNat : Int), .int .u8 (a3.toNat : Int), .int .u8 (b0.toNat : Int), .int .u8 (b1.toNat : Int), .int .u8 (b2.toNat : Int), .int .u8 (b3.toNat : Int), .slice So no co, .slice Sb nb cb] rfl)) | ((with_reducible show wpList _ _ _ (⟨some 10, _, _, _, _, _⟩ :: _) _ _); refine wpList_load_rng 38 (.tmp 5) rfl (by kernel_rfl) _ _ rfl _ R10.out _ Tryz.underlying38 rfl (by kernel_rfl) ?_))
 try clear R10
 with_reducible refine (ipwhole_any _ _ _ _ _ _ _ _ _ _ _ _ _ _ _ _ _ _ _ _ _ ).mono ?_
 rintro e w4 ⟨rfl, b4⟩
 replace hnt := blk_u hnt b4
 replace hpB := blk_u hpB b4
 replace hwB := blk_u hwB b4
 replace hrB := blk_u hrB b4
 replace po := po.below b4
 replace pb := pb.below b4
 replace hT := hT.below b4
 replace fr := fr.below b4
 replace an_po := an_po.below b4
 replace ap_pB := ap_pB.below b4
 replace ap_wB := ap_wB.below b4
 replace ap_rB := ap_rB.below b4
 replace bel := bel.trans (b4.mono (Nat.le_trans hlo bel.size))
 clear b4
 rw [HW.out]
 have R15 := cell_lit hpB 5 _ rfl
 have R19 := Lib.hid (range_lit hpB 0 16 [.int .i64 tos, .int .i64 id, .int .i64 fl, .int .i64 pt, .int .i64 ttl, .int .i64 17, .int .u8 (a0.toNat : Int), .int .u8 (a1.toNat : Int), .int .u8 (a2.toNat : Int), .int .u8 (a3.toNat : Int), .int .u8 (b0.toNat : Int), .int .u8 (b1.toNat : Int), .int .u8 (b2.toNat : Int), .int .u8 (b3.toNat : Int), .slice So no co, .slice Sb nb cb] rfl)
 go_wp2_with (first | ((with_reducible show wpList _ _ _ (⟨some 19, _, _, _, _, _⟩ :: _) _ _); refine wpList_load_rng 38 (.tmp 5) rfl (by kernel_rfl) _ _ rfl _ R19.out _ Tryz.underlying38 rfl (by kernel_rfl) ?_; have R20 := Lib.hid (range_lit hwB 0 4 [.int .u8 (c0.toNat : Int), .int .u8 (c1.toNat : Int), .int .u8 (c2.toNat : Int), .int .u8 (c3.toNat : Int)] rfl)) | ((with_reducible show wpList _ _ _ (⟨some 20, _, _, _, _, _⟩ :: _) _ _); refine wpList_load_rng 35 (.tmp 6) rfl (by kernel_rfl) _ _ rfl _ R20.out _ Tryz.underlying35 rfl (by kernel_rfl) ?_))
 try clear R15
 try clear R19
 try clear R20
 have hsz_ := bel.size
 have lt_pB := hlt hpB
 have lt_wB := hlt hwB
 have lt_rB := hlt hrB
 with_reducible refine (ndout_ok _ hT po pb an_po HM.out HNO.out HG.out HLD.out HD.out hc HP1.out HP2.out HN4.out).mono ?_
 rintro e w5 ⟨Ao, co2, Ab, cb2, rfl, hT_, f_, bb, qo, qb, an_qo, an_qb, fqo, fqb⟩
 clear hnt
 have x_ := f_ _ _ _ _ hpB ap_pB
 replace hpB := x_.1
 replace ap_pB := x_.2
 clear x_
 have x_ := f_ _ _ _ _ hwB ap_wB
 replace hwB := x_.1
 replace ap_wB := x_.2
 clear x_
 have x_ := f_ _ _ _ _ hrB ap_rB
 replace hrB := x_.1
 replace ap_rB := x_.2
 clear x_
 have x_ := f_.sl po an_po
 replace po := x_.1
 replace an_po := x_.2
 clear x_
 clear pb
 replace fr := fr.trans f_
 clear hT
 have hT := hT_
 replace bel := bel.trans bb
 clear bb f_ hT_
 have hnt := hT.nat
 have av_qo_pB := fqo.av lt_pB
 have av_qo_wB := fqo.av lt_wB
 have av_qo_rB := fqo.av lt_rB
 have av_qb_pB := fqb.av lt_pB
 have av_qb_wB := fqb.av lt_wB
 have av_qb_rB := fqb.av lt_rB
 clear lt_pB lt_wB lt_rB
 replace fqo := Fr.mono fqo hsz_
 replace fqb := Fr.mono fqb hsz_
 clear hsz_
 go_wp2_with (first | ((with_reducible show wpList _ _ _ (⟨none, Op.store _ (.tmp 8) _, _, _, _, _⟩ :: _) _ _); refine wpList_store_blk rfl 38 (.tmp 8) (.tmp 23) rfl g8 rfl _ rfl _ 38 hrB (by rfl) (by kernel_rfl) (by kernel_rfl) ?_; intro w6 hq gr; replace po := po.away av_po_rB gr; replace qo := qo.away av_qo_rB gr; replace qb := qb.away av_qb_rB gr; replace hpB := blk_a hpB gr d_pB_rB; replace hwB := blk_a hwB gr d_wB_rB; replace hnt := blk_a hnt gr d_nt_rB; replace hT := hT.away ap_rB gr hrB; replace fr := fr.newer ap_rB gr prB; replace an_po := an_po.grown ap_rB gr; replace ap_pB := ap_pB.grown ap_rB gr; replace ap_wB := ap_wB.grown ap_rB gr; replace ap_rB := ap_rB.grown ap_rB gr; replace an_qo := an_qo.grown ap_rB gr; replace an_qb := an_qb.grown ap_rB gr; replace bel := below_grown bel gr orB (Nat.le_trans hlo bel.size); clear hrB; have hrB := hq; clear hq gr))
 exact bodyPost_ret (results_cell_tmp_row rfl _ _ _ _ _ _ _ rfl hrB Tryz.underlying38 rfl (by kernel_rfl) (.int .i64 0) rfl) rfl ⟨Ao, co2, Ab, cb2, rfl, hT, fr, bel, qo, qb, an_qo, an_qb, fqo, fqb⟩
theorem nin_deny {lo gn gt gk : Nat} {s : Ts} {k : Ks} {tos id fl pt ttl pr : Int} {a0 a1 a2 a3 b0 b1 b2 b3 : UInt8} {So Sb : Option Addr} {no co nb cb : Nat} {lp lb : List UInt8} {c0 c1 c2 c3 : UInt8} {t : Int} (w : World) (hT : Np lo gn gt gk w s k) (hne : (⟨b0, b1, b2, b3⟩ : Ad4).eqB ⟨c0, c1, c2, c3⟩ = false)  : Calls Tryz.prog 14 #[.pointer (some ⟨gn, 0, none⟩), .agg #[.int .i64 tos, .int .i64 id, .int .i64 fl, .int .i64 pt, .int .i64 ttl, .int .i64 pr, .int .u8 (a0.toNat : Int), .int .u8 (a1.toNat : Int), .int .u8 (a2.toNat : Int), .int .u8 (a3.toNat : Int), .int .u8 (b0.toNat : Int), .int .u8 (b1.toNat : Int), .int .u8 (b2.toNat : Int), .int .u8 (b3.toNat : Int), .slice So no co, .slice Sb nb cb], .agg #[.int .u8 (c0.toNat : Int), .int .u8 (c1.toNat : Int), .int .u8 (c2.toNat : Int), .int .u8 (c3.toNat : Int)], .int .i64 t] w fun e w' => e = .returned (.tuple #[.agg #[.int .i64 0, .int .i64 0, .int .i64 0, .int .i64 0, .int .i64 0, .int .i64 0, .int .u8 0, .int .u8 0, .int .u8 0, .int .u8 0, .int .u8 0, .int .u8 0, .int .u8 0, .int .u8 0, .slice none 0 0, .slice none 0 0], .int .i64 11]) ∧ Np lo gn gt gk w' s k ∧ Fn gn gt gk w w' ∧ Below lo w w' := by
 have hlo : lo ≤ w.heap.size := hT.lo_le
 have HLO := Lib.hid hlo
 have hnt := hT.nat
 have fr := Fn.refl gn gt gk w
 have hab : ∀ W, (binOp .neq 35 (.agg #[.int .u8 (b0.toNat : Int), .int .u8 (b1.toNat : Int), .int .u8 (b2.toNat : Int), .int .u8 (b3.toNat : Int)]) (.agg #[.int .u8 (c0.toNat : Int), .int .u8 (c1.toNat : Int), .int .u8 (c2.toNat : Int), .int .u8 (c3.toNat : Int)])).run Tryz.prog W = .ok (.bool true) W := fun W => by have h_ := nea_b ⟨b0, b1, b2, b3⟩ ⟨c0, c1, c2, c3⟩ W; rw [hne] at h_; exact h_
 clear hne
 have bel := Below.refl lo w
 go_enter Tryz.func14, Tryz.ntmps14
 go_wp2_with (first | ((with_reducible show wpList _ _ _ (⟨some 5, _, _, _, _, _⟩ :: _) _ _); refine wpList_box_n rfl 38 (.tmp 1) rfl #[.int .i64 tos, .int .i64 id, .int .i64 fl, .int .i64 pt, .int .i64 ttl, .int .i64 pr, .int .u8 (a0.toNat : Int), .int .u8 (a1.toNat : Int), .int .u8 (a2.toNat : Int), .int .u8 (a3.toNat : Int), .int .u8 (b0.toNat : Int), .int .u8 (b1.toNat : Int), .int .u8 (b2.toNat : Int), .int .u8 (b3.toNat : Int), .slice So no co, .slice Sb nb cb] rfl ?_; intro g5 w1 ge lt hh bb; have ap_pB := hT.ap ge; have d_nt_pB := ne_new (hlt hnt) ge; have opB := Nat.le_trans (Nat.le_trans hlo bel.size) ge; have ppB := Nat.le_trans bel.size ge; replace hnt := blk_u hnt bb; replace hT := hT.below bb; replace fr := fr.below bb; replace ap_pB := ap_pB.below bb; replace bel := bel.trans (bb.mono (Nat.le_trans hlo bel.size)); have hpB := hh; clear hh lt ge bb) | ((with_reducible show wpList _ _ _ (⟨some 6, _, _, _, _, _⟩ :: _) _ _); refine wpList_box_n rfl 35 (.tmp 2) rfl #[.int .u8 (c0.toNat : Int), .int .u8 (c1.toNat : Int), .int .u8 (c2.toNat : Int), .int .u8 (c3.toNat : Int)] rfl ?_; intro g6 w2 ge lt hh bb; have ap_wB := hT.ap ge; have d_nt_wB := ne_new (hlt hnt) ge; have d_pB_wB := ne_new (hlt hpB) ge; have owB := Nat.le_trans (Nat.le_trans hlo bel.size) ge; have pwB := Nat.le_trans bel.size ge; replace hnt := blk_u hnt bb; replace hpB := blk_u hpB bb; replace hT := hT.below bb; replace fr := fr.below bb; replace ap_pB := ap_pB.below bb; replace ap_wB := ap_wB.below bb; replace bel := bel.trans (bb.mono (Nat.le_trans hlo bel.size)); have hwB := hh; clear hh lt ge bb) | ((with_reducible show wpList _ _ _ (⟨some 8, _, _, _, _, _⟩ :: _) _ _); refine wpList_new_a rfl 38 rfl #[.int .i64 0, .int .i64 0, .int .i64 0, .int .i64 0, .int .i64 0, .int .i64 0, .int .u8 0, .int .u8 0, .int .u8 0, .int .u8 0, .int .u8 0, .int .u8 0, .int .u8 0, .int .u8 0, .slice none 0 0, .slice none 0 0] (by kernel_rfl) ?_; intro g8 w3 ge hh bb; have ap_rB := hT.ap ge; have d_nt_rB := ne_new (hlt hnt) ge; have d_pB_rB := ne_new (hlt hpB) ge; have d_wB_rB := ne_new (hlt hwB) ge; have orB := Nat.le_trans (Nat.le_trans hlo bel.size) ge; have prB := Nat.le_trans bel.size ge; replace hnt := blk_u hnt bb; replace hpB := blk_u hpB bb; replace hwB := blk_u hwB bb; replace hT := hT.below bb; replace fr := fr.below bb; replace ap_pB := ap_pB.below bb; replace ap_wB := ap_wB.below bb; replace ap_rB := ap_rB.below bb; replace bel := bel.trans (bb.mono (Nat.le_trans hlo bel.size)); have hrB := hh; clear hh ge bb; have R11 := Lib.hid (range_lit hpB 10 4 [.int .u8 (b0.toNat : Int), .int .u8 (b1.toNat : Int), .int .u8 (b2.toNat : Int), .int .u8 (b3.toNat : Int)] rfl)) | ((with_reducible show wpList _ _ _ (⟨some 11, _, _, _, _, _⟩ :: _) _ _); refine wpList_load_rng 35 (.tmp 10) rfl (by kernel_rfl) _ _ rfl _ R11.out _ Tryz.underlying35 rfl (by kernel_rfl) ?_; have R12 := Lib.hid (range_lit hwB 0 4 [.int .u8 (c0.toNat : Int), .int .u8 (c1.toNat : Int), .int .u8 (c2.toNat : Int), .int .u8 (c3.toNat : Int)] rfl)) | ((with_reducible show wpList _ _ _ (⟨some 12, _, _, _, _, _⟩ :: _) _ _); refine wpList_load_rng 35 (.tmp 6) rfl (by kernel_rfl) _ _ rfl _ R12.out _ Tryz.underlying35 rfl (by kernel_rfl) ?_) | ((with_reducible show wpList _ _ _ (⟨none, Op.store _ (.tmp 8) _, _, _, _, _⟩ :: _) _ _); refine wpList_store_blk rfl 38 (.tmp 8) (.tmp 14) rfl g8 rfl _ rfl _ 38 hrB (by rfl) (by kernel_rfl) (by kernel_rfl) ?_; intro w4 hq gr; replace hnt := blk_a hnt gr d_nt_rB; replace hpB := blk_a hpB gr d_pB_rB; replace hwB := blk_a hwB gr d_wB_rB; replace hT := hT.away ap_rB gr hrB; replace fr := fr.newer ap_rB gr prB; replace ap_pB := ap_pB.grown ap_rB gr; replace ap_wB := ap_wB.grown ap_rB gr; replace ap_rB := ap_rB.grown ap_rB gr; replace bel := below_grown bel gr orB (Nat.le_trans hlo bel.size); clear hrB; have hrB := hq; clear hq gr))
 try clear R11
 try clear R12
 exact bodyPost_ret (results_cell_tmp_row rfl _ _ _ _ _ _ _ rfl hrB Tryz.underlying38 rfl (by kernel_rfl) (.int .i64 11) rfl) rfl ⟨rfl, hT, fr, bel⟩
theorem nin_uno {lo gn gt gk : Nat} {s : Ts} {k : Ks} {s' : Ts} {tos id fl pt ttl : Int} {a0 a1 a2 a3 b0 b1 b2 b3 : UInt8} {So Sb : Option Addr} {no co nb cb : Nat} {lp lb : List UInt8} {t : Int} {df dt : Int} {ld : List UInt8} {nd : Nat} (w : World) (hT : Np lo gn gt gk w s k) (po : Sl w So no co lp) (pb : Sl w Sb nb cb lb) (an_po : An gn gt gk w So no) (hm : nb ≤ 100000) (hno : no ≤ 100000) (hw : (decide (pt = 0) && decide (fl % 2 = 0)) = true) (hg : udGet fl pt 17 a0 a1 a2 a3 b0 b1 b2 b3 lb = ((df, dt), ld, 0)) (hld : ld.length = nd) (hc : InE lo gt s s' 17 dt t)  : Calls Tryz.prog 14 #[.pointer (some ⟨gn, 0, none⟩), .agg #[.int .i64 tos, .int .i64 id, .int .i64 fl, .int .i64 pt, .int .i64 ttl, .int .i64 17, .int .u8 (a0.toNat : Int), .int .u8 (a1.toNat : Int), .int .u8 (a2.toNat : Int), .int .u8 (a3.toNat : Int), .int .u8 (b0.toNat : Int), .int .u8 (b1.toNat : Int), .int .u8 (b2.toNat : Int), .int .u8 (b3.toNat : Int), .slice So no co, .slice Sb nb cb], .agg #[.int .u8 (b0.toNat : Int), .int .u8 (b1.toNat : Int), .int .u8 (b2.toNat : Int), .int .u8 (b3.toNat : Int)], .int .i64 t] w fun e w' => e = .returned (.tuple #[.agg #[.int .i64 0, .int .i64 0, .int .i64 0, .int .i64 0, .int .i64 0, .int .i64 0, .int .u8 0, .int .u8 0, .int .u8 0, .int .u8 0, .int .u8 0, .int .u8 0, .int .u8 0, .int .u8 0, .slice none 0 0, .slice none 0 0], .int .i64 6]) ∧ Np lo gn gt gk w' s' k ∧ Fn gn gt gk w w' ∧ Below lo w w' := by
 have hlo : lo ≤ w.heap.size := hT.lo_le
 have HLO := Lib.hid hlo
 have hnt := hT.nat
 have fr := Fn.refl gn gt gk w
 have HM := Lib.hid hm
 clear hm
 have HNO := Lib.hid hno
 clear hno
 have HG := Lib.hid hg
 clear hg
 have HLD := Lib.hid hld
 clear hld
 have hab : ∀ W, (binOp .neq 35 (.agg #[.int .u8 (b0.toNat : Int), .int .u8 (b1.toNat : Int), .int .u8 (b2.toNat : Int), .int .u8 (b3.toNat : Int)]) (.agg #[.int .u8 (b0.toNat : Int), .int .u8 (b1.toNat : Int), .int .u8 (b2.toNat : Int), .int .u8 (b3.toNat : Int)])).run Tryz.prog W = .ok (.bool false) W := fun W => by have h_ := nea_b ⟨b0, b1, b2, b3⟩ ⟨b0, b1, b2, b3⟩ W; rw [Ad4.eqB_self] at h_; exact h_
 have HW := Lib.hid hw
 clear hw
 have bel := Below.refl lo w
 go_enter Tryz.func14, Tryz.ntmps14
 go_wp2_with (first | ((with_reducible show wpList _ _ _ (⟨some 5, _, _, _, _, _⟩ :: _) _ _); refine wpList_box_n rfl 38 (.tmp 1) rfl #[.int .i64 tos, .int .i64 id, .int .i64 fl, .int .i64 pt, .int .i64 ttl, .int .i64 17, .int .u8 (a0.toNat : Int), .int .u8 (a1.toNat : Int), .int .u8 (a2.toNat : Int), .int .u8 (a3.toNat : Int), .int .u8 (b0.toNat : Int), .int .u8 (b1.toNat : Int), .int .u8 (b2.toNat : Int), .int .u8 (b3.toNat : Int), .slice So no co, .slice Sb nb cb] rfl ?_; intro g5 w1 ge lt hh bb; have ap_pB := hT.ap ge; have d_nt_pB := ne_new (hlt hnt) ge; have av_po_pB := po.av_new ge; have av_pb_pB := pb.av_new ge; have opB := Nat.le_trans (Nat.le_trans hlo bel.size) ge; have ppB := Nat.le_trans bel.size ge; replace hnt := blk_u hnt bb; replace po := po.below bb; replace pb := pb.below bb; replace hT := hT.below bb; replace fr := fr.below bb; replace an_po := an_po.below bb; replace ap_pB := ap_pB.below bb; replace bel := bel.trans (bb.mono (Nat.le_trans hlo bel.size)); have hpB := hh; clear hh lt ge bb) | ((with_reducible show wpList _ _ _ (⟨some 6, _, _, _, _, _⟩ :: _) _ _); refine wpList_box_n rfl 35 (.tmp 2) rfl #[.int .u8 (b0.toNat : Int), .int .u8 (b1.toNat : Int), .int .u8 (b2.toNat : Int), .int .u8 (b3.toNat : Int)] rfl ?_; intro g6 w2 ge lt hh bb; have ap_wB := hT.ap ge; have d_nt_wB := ne_new (hlt hnt) ge; have d_pB_wB := ne_new (hlt hpB) ge; have av_po_wB := po.av_new ge; have av_pb_wB := pb.av_new ge; have owB := Nat.le_trans (Nat.le_trans hlo bel.size) ge; have pwB := Nat.le_trans bel.size ge; replace hnt := blk_u hnt bb; replace hpB := blk_u hpB bb; replace po := po.below bb; replace pb := pb.below bb; replace hT := hT.below bb; replace fr := fr.below bb; replace an_po := an_po.below bb; replace ap_pB := ap_pB.below bb; replace ap_wB := ap_wB.below bb; replace bel := bel.trans (bb.mono (Nat.le_trans hlo bel.size)); have hwB := hh; clear hh lt ge bb) | ((with_reducible show wpList _ _ _ (⟨some 8, _, _, _, _, _⟩ :: _) _ _); refine wpList_new_a rfl 38 rfl #[.int .i64 0, .int .i64 0, .int .i64 0, .int .i64 0, .int .i64 0, .int .i64 0, .int .u8 0, .int .u8 0, .int .u8 0, .int .u8 0, .int .u8 0, .int .u8 0, .int .u8 0, .int .u8 0, .slice none 0 0, .slice none 0 0] (by kernel_rfl) ?_; intro g8 w3 ge hh bb; have ap_rB := hT.ap ge; have d_nt_rB := ne_new (hlt hnt) ge; have d_pB_rB := ne_new (hlt hpB) ge; have d_wB_rB := ne_new (hlt hwB) ge; have av_po_rB := po.av_new ge; have av_pb_rB := pb.av_new ge; have orB := Nat.le_trans (Nat.le_trans hlo bel.size) ge; have prB := Nat.le_trans bel.size ge; replace hnt := blk_u hnt bb; replace hpB := blk_u hpB bb; replace hwB := blk_u hwB bb; replace po := po.below bb; replace pb := pb.below bb; replace hT := hT.below bb; replace fr := fr.below bb; replace an_po := an_po.below bb; replace ap_pB := ap_pB.below bb; replace ap_wB := ap_wB.below bb; replace ap_rB := ap_rB.below bb; replace bel := bel.trans (bb.mono (Nat.le_trans hlo bel.size)); have hrB := hh; clear hh ge bb; have R11 := Lib.hid (range_lit hpB 10 4 [.int .u8 (b0.toNat : Int), .int .u8 (b1.toNat : Int), .int .u8 (b2.toNat : Int), .int .u8 (b3.toNat : Int)] rfl)) | ((with_reducible show wpList _ _ _ (⟨some 11, _, _, _, _, _⟩ :: _) _ _); refine wpList_load_rng 35 (.tmp 10) rfl (by kernel_rfl) _ _ rfl _ R11.out _ Tryz.underlying35 rfl (by kernel_rfl) ?_; have R12 := Lib.hid (range_lit hwB 0 4 [.int .u8 (b0.toNat : Int), .int .u8 (b1.toNat : Int), .int .u8 (b2.toNat : Int), .int .u8 (b3.toNat : Int)] rfl)) | ((with_reducible show wpList _ _ _ (⟨some 12, _, _, _, _, _⟩ :: _) _ _); refine wpList_load_rng 35 (.tmp 6) rfl (by kernel_rfl) _ _ rfl _ R12.out _ Tryz.underlying35 rfl (by kernel_rfl) ?_; have R15 := Lib.hid (range_lit hpB 0 16 [.int .i64 tos, .int .i64 id, .int .i64 fl, .int .i64 pt, .int .i64 ttl, .int .i64 17, .int .u8 (a0.toNat : Int), .int .u8 (a1.toNat : Int), .int .u8 (a2.toNat : Int), .int .u8 (a3.toNat : Int), .int .u8 (b0.toNat : Int), .int .u8 (b1.toNat : Int), .int .u8 (b2.toNat : Int), .int .u8 (b3.toNat : Int), .slice So no co, .slice Sb nb cb] rfl)) | ((with_reducible show wpList _ _ _ (⟨some 15, _, _, _, _, _⟩ :: _) _ _); refine wpList_load_rng 38 (.tmp 5) rfl (by kernel_rfl) _ _ rfl _ R15.out _ Tryz.underlying38 rfl (by kernel_rfl) ?_))
 try clear R11
 try clear R12
 try clear R15
 with_reducible refine (ipwhole_any _ _ _ _ _ _ _ _ _ _ _ _ _ _ _ _ _ _ _ _ _ ).mono ?_
 rintro e w4 ⟨rfl, b4⟩
 replace hnt := blk_u hnt b4
 replace hpB := blk_u hpB b4
 replace hwB := blk_u hwB b4
 replace hrB := blk_u hrB b4
 replace po := po.below b4
 replace pb := pb.below b4
 replace hT := hT.below b4
 replace fr := fr.below b4
 replace an_po := an_po.below b4
 replace ap_pB := ap_pB.below b4
 replace ap_wB := ap_wB.below b4
 replace ap_rB := ap_rB.below b4
 replace bel := bel.trans (b4.mono (Nat.le_trans hlo bel.size))
 clear b4
 rw [HW.out]
 have R20 := cell_lit hpB 5 _ rfl
 have R24 := Lib.hid (range_lit hpB 0 16 [.int .i64 tos, .int .i64 id, .int .i64 fl, .int .i64 pt, .int .i64 ttl, .int .i64 17, .int .u8 (a0.toNat : Int), .int .u8 (a1.toNat : Int), .int .u8 (a2.toNat : Int), .int .u8 (a3.toNat : Int), .int .u8 (b0.toNat : Int), .int .u8 (b1.toNat : Int), .int .u8 (b2.toNat : Int), .int .u8 (b3.toNat : Int), .slice So no co, .slice Sb nb cb] rfl)
 go_wp2_with (first | ((with_reducible show wpList _ _ _ (⟨some 24, _, _, _, _, _⟩ :: _) _ _); refine wpList_load_rng 38 (.tmp 5) rfl (by kernel_rfl) _ _ rfl _ R24.out _ Tryz.underlying38 rfl (by kernel_rfl) ?_))
 try clear R20
 try clear R24
 with_reducible refine (ndin_no _ hT po pb an_po HM.out HNO.out HG.out HLD.out hc).mono ?_
 rintro e w5 ⟨rfl, hT_, f_, bb⟩
 clear hnt
 have x_ := f_ _ _ _ _ hpB ap_pB
 replace hpB := x_.1
 replace ap_pB := x_.2
 clear x_
 have x_ := f_ _ _ _ _ hwB ap_wB
 replace hwB := x_.1
 replace ap_wB := x_.2
 clear x_
 have x_ := f_ _ _ _ _ hrB ap_rB
 replace hrB := x_.1
 replace ap_rB := x_.2
 clear x_
 have x_ := f_.sl po an_po
 replace po := x_.1
 replace an_po := x_.2
 clear x_
 clear pb
 replace fr := fr.trans f_
 clear hT
 have hT := hT_
 replace bel := bel.trans bb
 clear bb f_ hT_
 have hnt := hT.nat
 go_wp2_with (first | ((with_reducible show wpList _ _ _ (⟨none, Op.store _ (.tmp 8) _, _, _, _, _⟩ :: _) _ _); refine wpList_store_blk rfl 38 (.tmp 8) (.tmp 27) rfl g8 rfl _ rfl _ 38 hrB (by rfl) (by kernel_rfl) (by kernel_rfl) ?_; intro w6 hq gr; replace po := po.away av_po_rB gr; replace hpB := blk_a hpB gr d_pB_rB; replace hwB := blk_a hwB gr d_wB_rB; replace hnt := blk_a hnt gr d_nt_rB; replace hT := hT.away ap_rB gr hrB; replace fr := fr.newer ap_rB gr prB; replace an_po := an_po.grown ap_rB gr; replace ap_pB := ap_pB.grown ap_rB gr; replace ap_wB := ap_wB.grown ap_rB gr; replace ap_rB := ap_rB.grown ap_rB gr; replace bel := below_grown bel gr orB (Nat.le_trans hlo bel.size); clear hrB; have hrB := hq; clear hq gr))
 exact bodyPost_ret (results_cell_tmp_row rfl _ _ _ _ _ _ _ rfl hrB Tryz.underlying38 rfl (by kernel_rfl) (.int .i64 6) rfl) rfl ⟨rfl, hT, fr, bel⟩
theorem nin_ok {lo gn gt gk : Nat} {s : Ts} {k : Ks} {s' s2 : Ts} {m : Mp} {b : Bool} {tos id fl pt ttl : Int} {a0 a1 a2 a3 b0 b1 b2 b3 : UInt8} {So Sb : Option Addr} {no co nb cb : Nat} {lp lb : List UInt8} {t : Int} {df dt : Int} {ld : List UInt8} {nd : Nat} (w : World) (hT : Np lo gn gt gk w s k) (po : Sl w So no co lp) (pb : Sl w Sb nb cb lb) (an_po : An gn gt gk w So no) (hm : nb ≤ 100000) (hno : no ≤ 100000) (hw : (decide (pt = 0) && decide (fl % 2 = 0)) = true) (hg : udGet fl pt 17 a0 a1 a2 a3 b0 b1 b2 b3 lb = ((df, dt), ld, 0)) (hld : ld.length = nd) (hc : InC lo gt s s' 17 dt t m) (hv : LiveC lo gt s' s2 17 m.o t 120 b) (h1 : portOk df = true) (h2 : portOk m.i = true) (hn : nd ≤ 1472)  : Calls Tryz.prog 14 #[.pointer (some ⟨gn, 0, none⟩), .agg #[.int .i64 tos, .int .i64 id, .int .i64 fl, .int .i64 pt, .int .i64 ttl, .int .i64 17, .int .u8 (a0.toNat : Int), .int .u8 (a1.toNat : Int), .int .u8 (a2.toNat : Int), .int .u8 (a3.toNat : Int), .int .u8 (b0.toNat : Int), .int .u8 (b1.toNat : Int), .int .u8 (b2.toNat : Int), .int .u8 (b3.toNat : Int), .slice So no co, .slice Sb nb cb], .agg #[.int .u8 (b0.toNat : Int), .int .u8 (b1.toNat : Int), .int .u8 (b2.toNat : Int), .int .u8 (b3.toNat : Int)], .int .i64 t] w fun e w' => ∃ Ao co' Ab cb', e = .returned (.tuple #[.agg #[.int .i64 tos, .int .i64 id, .int .i64 fl, .int .i64 pt, .int .i64 ttl, .int .i64 17, .int .u8 (a0.toNat : Int), .int .u8 (a1.toNat : Int), .int .u8 (a2.toNat : Int), .int .u8 (a3.toNat : Int), .int .u8 (m.ad.a.toNat : Int), .int .u8 (m.ad.b.toNat : Int), .int .u8 (m.ad.c.toNat : Int), .int .u8 (m.ad.d.toNat : Int), .slice Ao no co', .slice Ab (8 + nd) cb'], .int .i64 0]) ∧ Np lo gn gt gk w' s2 k ∧ Fn gn gt gk w w' ∧ Below lo w w' ∧ Sl w' Ao no co' lp ∧ Sl w' Ab (8 + nd) cb' (udBytes a0 a1 a2 a3 m.ad.a m.ad.b m.ad.c m.ad.d df m.i ld) ∧ An gn gt gk w' Ao no ∧ An gn gt gk w' Ab (8 + nd) ∧ Fr w.heap.size Ao no ∧ Fr w.heap.size Ab (8 + nd) := by
 have hlo : lo ≤ w.heap.size := hT.lo_le
 have HLO := Lib.hid hlo
 have hnt := hT.nat
 have fr := Fn.refl gn gt gk w
 have HM := Lib.hid hm
 clear hm
 have HNO := Lib.hid hno
 clear hno
 have HG := Lib.hid hg
 clear hg
 have HLD := Lib.hid hld
 clear hld
 have HP1 := Lib.hid h1
 clear h1
 have HP2 := Lib.hid h2
 clear h2
 have HN4 := Lib.hid hn
 clear hn
 have hab : ∀ W, (binOp .neq 35 (.agg #[.int .u8 (b0.toNat : Int), .int .u8 (b1.toNat : Int), .int .u8 (b2.toNat : Int), .int .u8 (b3.toNat : Int)]) (.agg #[.int .u8 (b0.toNat : Int), .int .u8 (b1.toNat : Int), .int .u8 (b2.toNat : Int), .int .u8 (b3.toNat : Int)])).run Tryz.prog W = .ok (.bool false) W := fun W => by have h_ := nea_b ⟨b0, b1, b2, b3⟩ ⟨b0, b1, b2, b3⟩ W; rw [Ad4.eqB_self] at h_; exact h_
 have HW := Lib.hid hw
 clear hw
 have bel := Below.refl lo w
 go_enter Tryz.func14, Tryz.ntmps14
 go_wp2_with (first | ((with_reducible show wpList _ _ _ (⟨some 5, _, _, _, _, _⟩ :: _) _ _); refine wpList_box_n rfl 38 (.tmp 1) rfl #[.int .i64 tos, .int .i64 id, .int .i64 fl, .int .i64 pt, .int .i64 ttl, .int .i64 17, .int .u8 (a0.toNat : Int), .int .u8 (a1.toNat : Int), .int .u8 (a2.toNat : Int), .int .u8 (a3.toNat : Int), .int .u8 (b0.toNat : Int), .int .u8 (b1.toNat : Int), .int .u8 (b2.toNat : Int), .int .u8 (b3.toNat : Int), .slice So no co, .slice Sb nb cb] rfl ?_; intro g5 w1 ge lt hh bb; have ap_pB := hT.ap ge; have d_nt_pB := ne_new (hlt hnt) ge; have av_po_pB := po.av_new ge; have av_pb_pB := pb.av_new ge; have opB := Nat.le_trans (Nat.le_trans hlo bel.size) ge; have ppB := Nat.le_trans bel.size ge; replace hnt := blk_u hnt bb; replace po := po.below bb; replace pb := pb.below bb; replace hT := hT.below bb; replace fr := fr.below bb; replace an_po := an_po.below bb; replace ap_pB := ap_pB.below bb; replace bel := bel.trans (bb.mono (Nat.le_trans hlo bel.size)); have hpB := hh; clear hh lt ge bb) | ((with_reducible show wpList _ _ _ (⟨some 6, _, _, _, _, _⟩ :: _) _ _); refine wpList_box_n rfl 35 (.tmp 2) rfl #[.int .u8 (b0.toNat : Int), .int .u8 (b1.toNat : Int), .int .u8 (b2.toNat : Int), .int .u8 (b3.toNat : Int)] rfl ?_; intro g6 w2 ge lt hh bb; have ap_wB := hT.ap ge; have d_nt_wB := ne_new (hlt hnt) ge; have d_pB_wB := ne_new (hlt hpB) ge; have av_po_wB := po.av_new ge; have av_pb_wB := pb.av_new ge; have owB := Nat.le_trans (Nat.le_trans hlo bel.size) ge; have pwB := Nat.le_trans bel.size ge; replace hnt := blk_u hnt bb; replace hpB := blk_u hpB bb; replace po := po.below bb; replace pb := pb.below bb; replace hT := hT.below bb; replace fr := fr.below bb; replace an_po := an_po.below bb; replace ap_pB := ap_pB.below bb; replace ap_wB := ap_wB.below bb; replace bel := bel.trans (bb.mono (Nat.le_trans hlo bel.size)); have hwB := hh; clear hh lt ge bb) | ((with_reducible show wpList _ _ _ (⟨some 8, _, _, _, _, _⟩ :: _) _ _); refine wpList_new_a rfl 38 rfl #[.int .i64 0, .int .i64 0, .int .i64 0, .int .i64 0, .int .i64 0, .int .i64 0, .int .u8 0, .int .u8 0, .int .u8 0, .int .u8 0, .int .u8 0, .int .u8 0, .int .u8 0, .int .u8 0, .slice none 0 0, .slice none 0 0] (by kernel_rfl) ?_; intro g8 w3 ge hh bb; have ap_rB := hT.ap ge; have d_nt_rB := ne_new (hlt hnt) ge; have d_pB_rB := ne_new (hlt hpB) ge; have d_wB_rB := ne_new (hlt hwB) ge; have av_po_rB := po.av_new ge; have av_pb_rB := pb.av_new ge; have orB := Nat.le_trans (Nat.le_trans hlo bel.size) ge; have prB := Nat.le_trans bel.size ge; replace hnt := blk_u hnt bb; replace hpB := blk_u hpB bb; replace hwB := blk_u hwB bb; replace po := po.below bb; replace pb := pb.below bb; replace hT := hT.below bb; replace fr := fr.below bb; replace an_po := an_po.below bb; replace ap_pB := ap_pB.below bb; replace ap_wB := ap_wB.below bb; replace ap_rB := ap_rB.below bb; replace bel := bel.trans (bb.mono (Nat.le_trans hlo bel.size)); have hrB := hh; clear hh ge bb; have R11 := Lib.hid (range_lit hpB 10 4 [.int .u8 (b0.toNat : Int), .int .u8 (b1.toNat : Int), .int .u8 (b2.toNat : Int), .int .u8 (b3.toNat : Int)] rfl)) | ((with_reducible show wpList _ _ _ (⟨some 11, _, _, _, _, _⟩ :: _) _ _); refine wpList_load_rng 35 (.tmp 10) rfl (by kernel_rfl) _ _ rfl _ R11.out _ Tryz.underlying35 rfl (by kernel_rfl) ?_; have R12 := Lib.hid (range_lit hwB 0 4 [.int .u8 (b0.toNat : Int), .int .u8 (b1.toNat : Int), .int .u8 (b2.toNat : Int), .int .u8 (b3.toNat : Int)] rfl)) | ((with_reducible show wpList _ _ _ (⟨some 12, _, _, _, _, _⟩ :: _) _ _); refine wpList_load_rng 35 (.tmp 6) rfl (by kernel_rfl) _ _ rfl _ R12.out _ Tryz.underlying35 rfl (by kernel_rfl) ?_; have R15 := Lib.hid (range_lit hpB 0 16 [.int .i64 tos, .int .i64 id, .int .i64 fl, .int .i64 pt, .int .i64 ttl, .int .i64 17, .int .u8 (a0.toNat : Int), .int .u8 (a1.toNat : Int), .int .u8 (a2.toNat : Int), .int .u8 (a3.toNat : Int), .int .u8 (b0.toNat : Int), .int .u8 (b1.toNat : Int), .int .u8 (b2.toNat : Int), .int .u8 (b3.toNat : Int), .slice So no co, .slice Sb nb cb] rfl)) | ((with_reducible show wpList _ _ _ (⟨some 15, _, _, _, _, _⟩ :: _) _ _); refine wpList_load_rng 38 (.tmp 5) rfl (by kernel_rfl) _ _ rfl _ R15.out _ Tryz.underlying38 rfl (by kernel_rfl) ?_))
 try clear R11
 try clear R12
 try clear R15
 with_reducible refine (ipwhole_any _ _ _ _ _ _ _ _ _ _ _ _ _ _ _ _ _ _ _ _ _ ).mono ?_
 rintro e w4 ⟨rfl, b4⟩
 replace hnt := blk_u hnt b4
 replace hpB := blk_u hpB b4
 replace hwB := blk_u hwB b4
 replace hrB := blk_u hrB b4
 replace po := po.below b4
 replace pb := pb.below b4
 replace hT := hT.below b4
 replace fr := fr.below b4
 replace an_po := an_po.below b4
 replace ap_pB := ap_pB.below b4
 replace ap_wB := ap_wB.below b4
 replace ap_rB := ap_rB.below b4
 replace bel := bel.trans (b4.mono (Nat.le_trans hlo bel.size))
 clear b4
 rw [HW.out]
 have R20 := cell_lit hpB 5 _ rfl
 have R24 := Lib.hid (range_lit hpB 0 16 [.int .i64 tos, .int .i64 id, .int .i64 fl, .int .i64 pt, .int .i64 ttl, .int .i64 17, .int .u8 (a0.toNat : Int), .int .u8 (a1.toNat : Int), .int .u8 (a2.toNat : Int), .int .u8 (a3.toNat : Int), .int .u8 (b0.toNat : Int), .int .u8 (b1.toNat : Int), .int .u8 (b2.toNat : Int), .int .u8 (b3.toNat : Int), .slice So no co, .slice Sb nb cb] rfl)
 go_wp2_with (first | ((with_reducible show wpList _ _ _ (⟨some 24, _, _, _, _, _⟩ :: _) _ _); refine wpList_load_rng 38 (.tmp 5) rfl (by kernel_rfl) _ _ rfl _ R24.out _ Tryz.underlying38 rfl (by kernel_rfl) ?_))
 try clear R20
 try clear R24
 have hsz_ := bel.size
 have lt_pB := hlt hpB
 have lt_wB := hlt hwB
 have lt_rB := hlt hrB
 with_reducible refine (ndin_ok _ hT po pb an_po HM.out HNO.out HG.out HLD.out hc hv HP1.out HP2.out HN4.out).mono ?_
 rintro e w5 ⟨Ao, co2, Ab, cb2, rfl, hT_, f_, bb, qo, qb, an_qo, an_qb, fqo, fqb⟩
 clear hnt
 have x_ := f_ _ _ _ _ hpB ap_pB
 replace hpB := x_.1
 replace ap_pB := x_.2
 clear x_
 have x_ := f_ _ _ _ _ hwB ap_wB
 replace hwB := x_.1
 replace ap_wB := x_.2
 clear x_
 have x_ := f_ _ _ _ _ hrB ap_rB
 replace hrB := x_.1
 replace ap_rB := x_.2
 clear x_
 have x_ := f_.sl po an_po
 replace po := x_.1
 replace an_po := x_.2
 clear x_
 clear pb
 replace fr := fr.trans f_
 clear hT
 have hT := hT_
 replace bel := bel.trans bb
 clear bb f_ hT_
 have hnt := hT.nat
 have av_qo_pB := fqo.av lt_pB
 have av_qo_wB := fqo.av lt_wB
 have av_qo_rB := fqo.av lt_rB
 have av_qb_pB := fqb.av lt_pB
 have av_qb_wB := fqb.av lt_wB
 have av_qb_rB := fqb.av lt_rB
 clear lt_pB lt_wB lt_rB
 replace fqo := Fr.mono fqo hsz_
 replace fqb := Fr.mono fqb hsz_
 clear hsz_
 go_wp2_with (first | ((with_reducible show wpList _ _ _ (⟨none, Op.store _ (.tmp 8) _, _, _, _, _⟩ :: _) _ _); refine wpList_store_blk rfl 38 (.tmp 8) (.tmp 27) rfl g8 rfl _ rfl _ 38 hrB (by rfl) (by kernel_rfl) (by kernel_rfl) ?_; intro w6 hq gr; replace po := po.away av_po_rB gr; replace qo := qo.away av_qo_rB gr; replace qb := qb.away av_qb_rB gr; replace hpB := blk_a hpB gr d_pB_rB; replace hwB := blk_a hwB gr d_wB_rB; replace hnt := blk_a hnt gr d_nt_rB; replace hT := hT.away ap_rB gr hrB; replace fr := fr.newer ap_rB gr prB; replace an_po := an_po.grown ap_rB gr; replace ap_pB := ap_pB.grown ap_rB gr; replace ap_wB := ap_wB.grown ap_rB gr; replace ap_rB := ap_rB.grown ap_rB gr; replace an_qo := an_qo.grown ap_rB gr; replace an_qb := an_qb.grown ap_rB gr; replace bel := below_grown bel gr orB (Nat.le_trans hlo bel.size); clear hrB; have hrB := hq; clear hq gr))
 exact bodyPost_ret (results_cell_tmp_row rfl _ _ _ _ _ _ _ rfl hrB Tryz.underlying38 rfl (by kernel_rfl) (.int .i64 0) rfl) rfl ⟨Ao, co2, Ab, cb2, rfl, hT, fr, bel, qo, qb, an_qo, an_qb, fqo, fqb⟩
open Go.RowKit Go.ChangeShapes Go.WideShapes

open Go.RowKit Go.ChangeShapes Go.WideShapes

end Go.Proofs.YtbdaejodbcjmfaaGreat
