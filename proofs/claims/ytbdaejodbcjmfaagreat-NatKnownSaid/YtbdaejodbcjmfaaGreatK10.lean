/- Texts put together: Na2. -/
import Derived.Test.YtbdaejodbcjmfaaGreatK1
import Derived.Test.YtbdaejodbcjmfaaGreatK9
import Derived.Deep.CutRange
namespace Go.Proofs.YtbdaejodbcjmfaaGreat
open Go.RowKit
set_option linter.unusedVariables false
set_option linter.unusedSimpArgs false
set_option maxRecDepth 100000
set_option maxHeartbeats 16000000

theorem ndout_0 {lo gn gt gk : Nat} {s : Ts} {k : Ks} {tos id fl pt ttl : Int} {a0 a1 a2 a3 b0 b1 b2 b3 : UInt8} {So Sb : Option Addr} {no co nb cb : Nat} {lp lb : List UInt8} {c0 c1 c2 c3 : UInt8} {t : Int} {dt : Int} {ld : List UInt8} {nd : Nat} (w : World) (hT : Np lo gn gt gk w s k) (po : Sl w So no co lp) (pb : Sl w Sb nb cb lb) (an_po : An gn gt gk w So no) (hm : nb ≤ 100000) (hno : no ≤ 100000) (hg : udGet fl pt 17 a0 a1 a2 a3 b0 b1 b2 b3 lb = ((0, dt), ld, 0)) (hld : ld.length = nd)  : Calls Tryz.prog 36 #[.pointer (some ⟨gn, 0, none⟩), .agg #[.int .i64 tos, .int .i64 id, .int .i64 fl, .int .i64 pt, .int .i64 ttl, .int .i64 17, .int .u8 (a0.toNat : Int), .int .u8 (a1.toNat : Int), .int .u8 (a2.toNat : Int), .int .u8 (a3.toNat : Int), .int .u8 (b0.toNat : Int), .int .u8 (b1.toNat : Int), .int .u8 (b2.toNat : Int), .int .u8 (b3.toNat : Int), .slice So no co, .slice Sb nb cb], .agg #[.int .u8 (c0.toNat : Int), .int .u8 (c1.toNat : Int), .int .u8 (c2.toNat : Int), .int .u8 (c3.toNat : Int)], .int .i64 t] w fun e w' => e = .returned (.tuple #[.agg #[.int .i64 0, .int .i64 0, .int .i64 0, .int .i64 0, .int .i64 0, .int .i64 0, .int .u8 0, .int .u8 0, .int .u8 0, .int .u8 0, .int .u8 0, .int .u8 0, .int .u8 0, .int .u8 0, .slice none 0 0, .slice none 0 0], .int .i64 1]) ∧ Np lo gn gt gk w' s k ∧ Fn gn gt gk w w' ∧ Below lo w w' := by
 have hlo : lo ≤ w.heap.size := hT.lo_le
 have HLO := Lib.hid hlo
 have hnt := hT.nat
 have fr := Fn.refl gn gt gk w
 have HM := Lib.hid hm
 clear hm
 have HNO := Lib.hid hno
 clear hno
 have HG := Lib.hid hg
 clear hg
 have HLD := Lib.hid hld
 clear hld
 have bel := Below.refl lo w
 go_enter Tryz.func36, Tryz.ntmps36
 go_wp2_with (first | ((with_reducible show wpList _ _ _ (⟨some 5, _, _, _, _, _⟩ :: _) _ _); refine wpList_box_n rfl 38 (.tmp 1) rfl #[.int .i64 tos, .int .i64 id, .int .i64 fl, .int .i64 pt, .int .i64 ttl, .int .i64 17, .int .u8 (a0.toNat : Int), .int .u8 (a1.toNat : Int), .int .u8 (a2.toNat : Int), .int .u8 (a3.toNat : Int), .int .u8 (b0.toNat : Int), .int .u8 (b1.toNat : Int), .int .u8 (b2.toNat : Int), .int .u8 (b3.toNat : Int), .slice So no co, .slice Sb nb cb] rfl ?_; intro g5 w1 ge lt hh bb; have ap_pB := hT.ap ge; have d_nt_pB := ne_new (hlt hnt) ge; have av_po_pB := po.av_new ge; have av_pb_pB := pb.av_new ge; have opB := Nat.le_trans (Nat.le_trans hlo bel.size) ge; have ppB := Nat.le_trans bel.size ge; replace hnt := blk_u hnt bb; replace po := po.below bb; replace pb := pb.below bb; replace hT := hT.below bb; replace fr := fr.below bb; replace an_po := an_po.below bb; replace ap_pB := ap_pB.below bb; replace bel := bel.trans (bb.mono (Nat.le_trans hlo bel.size)); have hpB := hh; clear hh lt ge bb) | ((with_reducible show wpList _ _ _ (⟨some 6, _, _, _, _, _⟩ :: _) _ _); refine wpList_box_n rfl 35 (.tmp 2) rfl #[.int .u8 (c0.toNat : Int), .int .u8 (c1.toNat : Int), .int .u8 (c2.toNat : Int), .int .u8 (c3.toNat : Int)] rfl ?_; intro g6 w2 ge lt hh bb; have ap_wB := hT.ap ge; have d_nt_wB := ne_new (hlt hnt) ge; have d_pB_wB := ne_new (hlt hpB) ge; have av_po_wB := po.av_new ge; have av_pb_wB := pb.av_new ge; have owB := Nat.le_trans (Nat.le_trans hlo bel.size) ge; have pwB := Nat.le_trans bel.size ge; replace hnt := blk_u hnt bb; replace hpB := blk_u hpB bb; replace po := po.below bb; replace pb := pb.below bb; replace hT := hT.below bb; replace fr := fr.below bb; replace an_po := an_po.below bb; replace ap_pB := ap_pB.below bb; replace ap_wB := ap_wB.below bb; replace bel := bel.trans (bb.mono (Nat.le_trans hlo bel.size)); have hwB := hh; clear hh lt ge bb) | ((with_reducible show wpList _ _ _ (⟨some 8, _, _, _, _, _⟩ :: _) _ _); refine wpList_new_a rfl 38 rfl #[.int .i64 0, .int .i64 0, .int .i64 0, .int .i64 0, .int .i64 0, .int .i64 0, .int .u8 0, .int .u8 0, .int .u8 0, .int .u8 0, .int .u8 0, .int .u8 0, .int .u8 0, .int .u8 0, .slice none 0 0, .slice none 0 0] (by kernel_rfl) ?_; intro g8 w3 ge hh bb; have ap_rB := hT.ap ge; have d_nt_rB := ne_new (hlt hnt) ge; have d_pB_rB := ne_new (hlt hpB) ge; have d_wB_rB := ne_new (hlt hwB) ge; have av_po_rB := po.av_new ge; have av_pb_rB := pb.av_new ge; have orB := Nat.le_trans (Nat.le_trans hlo bel.size) ge; have prB := Nat.le_trans bel.size ge; replace hnt := blk_u hnt bb; replace hpB := blk_u hpB bb; replace hwB := blk_u hwB bb; replace po := po.below bb; replace pb := pb.below bb; replace hT := hT.below bb; replace fr := fr.below bb; replace an_po := an_po.below bb; replace ap_pB := ap_pB.below bb; replace ap_wB := ap_wB.below bb; replace ap_rB := ap_rB.below bb; replace bel := bel.trans (bb.mono (Nat.le_trans hlo bel.size)); have hrB := hh; clear hh ge bb; have R14 := Lib.hid (range_lit hpB 0 16 [.int .i64 tos, .int .i64 id, .int .i64 fl, .int .i64 pt, .int .i64 ttl, .int .i64 17, .int .u8 (a0.toNat : Int), .int .u8 (a1.toNat : Int), .int .u8 (a2.toNat : Int), .int .u8 (a3.toNat : Int), .int .u8 (b0.toNat : Int), .int .u8 (b1.toNat : Int), .int .u8 (b2.toNat : Int), .int .u8 (b3.toNat : Int), .slice So no co, .slice Sb nb cb] rfl)) | ((with_reducible show wpList _ _ _ (⟨some 14, _, _, _, _, _⟩ :: _) _ _); refine wpList_load_rng 38 (.tmp 5) rfl (by kernel_rfl) _ _ rfl _ R14.out _ Tryz.underlying38 rfl (by kernel_rfl) ?_))
 try clear R14
 with_reducible refine (udget_is _ _ _ _ _ _ _ _ _ _ _ _ _ _ _ _ _ _ _ _  pb HM.out HG.out HLD.out).mono ?_
 rintro e w4 ⟨D, cd, rfl, gd, fd, b4⟩
 have av_gd_nt := fd.av (hlt hnt)
 have av_gd_pB := fd.av (hlt hpB)
 have av_gd_wB := fd.av (hlt hwB)
 have av_gd_rB := fd.av (hlt hrB)
 have an_gd := hT.an fd
 replace hnt := blk_u hnt b4
 replace hpB := blk_u hpB b4
 replace hwB := blk_u hwB b4
 replace hrB := blk_u hrB b4
 replace po := po.below b4
 replace pb := pb.below b4
 replace hT := hT.below b4
 replace fr := fr.below b4
 replace an_po := an_po.below b4
 replace ap_pB := ap_pB.below b4
 replace ap_wB := ap_wB.below b4
 replace ap_rB := ap_rB.below b4
 replace an_gd := an_gd.below b4
 replace bel := bel.trans (b4.mono (Nat.le_trans hlo bel.size))
 clear b4
 replace gd : Sl w4 (D) (nd) (cd) (ld) := gd
 go_wp2_with (first | ((with_reducible show wpList _ _ _ (⟨some 10, _, _, _, _, _⟩ :: _) _ _); refine wpList_new_a rfl 54 rfl #[.int .i64 0, .int .i64 0, .slice none 0 0] (by kernel_rfl) ?_; intro g10 w5 ge hh bb; have ap_dB := hT.ap ge; have d_nt_dB := ne_new (hlt hnt) ge; have d_pB_dB := ne_new (hlt hpB) ge; have d_wB_dB := ne_new (hlt hwB) ge; have d_rB_dB := ne_new (hlt hrB) ge; have av_po_dB := po.av_new ge; have av_pb_dB := pb.av_new ge; have av_gd_dB := gd.av_new ge; have odB := Nat.le_trans (Nat.le_trans hlo bel.size) ge; have pdB := Nat.le_trans bel.size ge; replace hnt := blk_u hnt bb; replace hpB := blk_u hpB bb; replace hwB := blk_u hwB bb; replace hrB := blk_u hrB bb; replace po := po.below bb; replace pb := pb.below bb; replace gd := gd.below bb; replace hT := hT.below bb; replace fr := fr.below bb; replace an_po := an_po.below bb; replace ap_pB := ap_pB.below bb; replace ap_wB := ap_wB.below bb; replace ap_rB := ap_rB.below bb; replace an_gd := an_gd.below bb; replace ap_dB := ap_dB.below bb; replace bel := bel.trans (bb.mono (Nat.le_trans hlo bel.size)); have hdB := hh; clear hh ge bb) | ((with_reducible show wpList _ _ _ (⟨none, Op.store _ (.tmp 10) _, _, _, _, _⟩ :: _) _ _); refine wpList_store_blk rfl 54 (.tmp 10) (.tmp 16) rfl g10 rfl _ rfl _ 54 hdB (by rfl) (by kernel_rfl) (by kernel_rfl) ?_; intro w6 hq gr; replace po := po.away av_po_dB gr; replace pb := pb.away av_pb_dB gr; replace gd := gd.away av_gd_dB gr; replace hnt := blk_a hnt gr d_nt_dB; replace hpB := blk_a hpB gr d_pB_dB; replace hwB := blk_a hwB gr d_wB_dB; replace hrB := blk_a hrB gr d_rB_dB; replace hT := hT.away ap_dB gr hdB; replace fr := fr.newer ap_dB gr pdB; replace an_po := an_po.grown ap_dB gr; replace ap_pB := ap_pB.grown ap_dB gr; replace ap_wB := ap_wB.grown ap_dB gr; replace ap_rB := ap_rB.grown ap_dB gr; replace an_gd := an_gd.grown ap_dB gr; replace ap_dB := ap_dB.grown ap_dB gr; replace bel := below_grown bel gr odB (Nat.le_trans hlo bel.size); clear hdB; have hdB := hq; clear hq gr))
 go_cut [11, 12] from 9999 (fun s11 s12 W => ∃ g12 : Nat, s11 = .int .i64 1 ∧ s12 = .pointer (some ⟨g12, 0, none⟩) ∧ W.heap[g5]? = some (.cells #[.int .i64 tos, .int .i64 id, .int .i64 fl, .int .i64 pt, .int .i64 ttl, .int .i64 17, .int .u8 (a0.toNat : Int), .int .u8 (a1.toNat : Int), .int .u8 (a2.toNat : Int), .int .u8 (a3.toNat : Int), .int .u8 (b0.toNat : Int), .int .u8 (b1.toNat : Int), .int .u8 (b2.toNat : Int), .int .u8 (b3.toNat : Int), .slice So no co, .slice Sb nb cb] 38 (0, 0)) ∧ W.heap[g6]? = some (.cells #[.int .u8 (c0.toNat : Int), .int .u8 (c1.toNat : Int), .int .u8 (c2.toNat : Int), .int .u8 (c3.toNat : Int)] 35 (0, 0)) ∧ W.heap[g8]? = some (.cells #[.int .i64 0, .int .i64 0, .int .i64 0, .int .i64 0, .int .i64 0, .int .i64 0, .int .u8 0, .int .u8 0, .int .u8 0, .int .u8 0, .int .u8 0, .int .u8 0, .int .u8 0, .int .u8 0, .slice none 0 0, .slice none 0 0] 38 (0, 0)) ∧ W.heap[g10]? = some (.cells #[.int .i64 0, .int .i64 dt, .slice D nd cd] 54 (0, 0)) ∧ W.heap[gn]? = some (.cells #[.pointer (some ⟨gt, 0, none⟩), .pointer (some ⟨gk, 0, none⟩), .int .i64 120, .int .i64 7200, .int .i64 30] 82 (0, 0)) ∧ W.heap[g12]? = some (.cells #[.int .i64 0, .int .i64 0, .int .u8 0, .int .u8 0, .int .u8 0, .int .u8 0, .int .i64 0, .int .i64 0, .int .i64 0] 65 (0, 0)) ∧ lo ≤ g12 ∧ w.heap.size ≤ g12 ∧ Hid (g10 ≠ g12) ∧ Hid (g10 ≠ gn) ∧ Hid (g10 ≠ g5) ∧ Hid (g10 ≠ g8) ∧ Hid (g10 ≠ g6) ∧ Hid (g12 ≠ gn) ∧ Hid (g12 ≠ g5) ∧ Hid (g12 ≠ g8) ∧ Hid (g12 ≠ g6) ∧ Hid (gn ≠ g5) ∧ Hid (gn ≠ g8) ∧ Hid (gn ≠ g6) ∧ Hid (g5 ≠ g8) ∧ Hid (g5 ≠ g6) ∧ Hid (g8 ≠ g6) ∧ Sl W (So) (no) (co) (lp) ∧ Av (So) (no) g10 ∧ Av (So) (no) g12 ∧ Av (So) (no) g5 ∧ Av (So) (no) g8 ∧ Av (So) (no) g6 ∧ Sl W (D) (nd) (cd) (ld) ∧ Av (D) (nd) g10 ∧ Av (D) (nd) g12 ∧ Av (D) (nd) gn ∧ Av (D) (nd) g5 ∧ Av (D) (nd) g8 ∧ Av (D) (nd) g6 ∧ Np lo gn gt gk W s k ∧ Fn gn gt gk w W ∧ An gn gt gk W (So) (no) ∧ Anp gn gt gk W g5 ∧ Anp gn gt gk W g6 ∧ Anp gn gt gk W g8 ∧ An gn gt gk W (D) (nd) ∧ Anp gn gt gk W g10 ∧ Anp gn gt gk W g12 ∧ Below lo w W)
 case first =>
  replace bel := bel.drew
  replace hnt : w6.drew.heap[gn]? = _ := hnt
  replace hpB : w6.drew.heap[g5]? = _ := hpB
  replace hwB : w6.drew.heap[g6]? = _ := hwB
  replace hrB : w6.drew.heap[g8]? = _ := hrB
  replace hdB : w6.drew.heap[g10]? = _ := hdB
  replace po := po.drew
  replace pb := pb.drew
  replace gd := gd.drew
  replace hT := np_drew hT
  replace fr := fn_drew fr
  replace an_po := an_drew an_po
  replace ap_pB := anp_drew ap_pB
  replace ap_wB := anp_drew ap_wB
  replace ap_rB := anp_drew ap_rB
  replace an_gd := an_drew an_gd
  replace ap_dB := anp_drew ap_dB
  refine wp_region_held_drew (S := fun W => W.heap[g5]? = some (.cells #[.int .i64 tos, .int .i64 id, .int .i64 fl, .int .i64 pt, .int .i64 ttl, .int .i64 17, .int .u8 (a0.toNat : Int), .int .u8 (a1.toNat : Int), .int .u8 (a2.toNat : Int), .int .u8 (a3.toNat : Int), .int .u8 (b0.toNat : Int), .int .u8 (b1.toNat : Int), .int .u8 (b2.toNat : Int), .int .u8 (b3.toNat : Int), .slice So no co, .slice Sb nb cb] 38 (0, 0)) ∧ W.heap[g10]? = some (.cells #[.int .i64 0, .int .i64 dt, .slice D nd cd] 54 (0, 0)) ∧ W.heap[gn]? = some (.cells #[.pointer (some ⟨gt, 0, none⟩), .pointer (some ⟨gk, 0, none⟩), .int .i64 120, .int .i64 7200, .int .i64 30] 82 (0, 0))) (by kernel_rfl) ⟨hpB, hdB, hnt⟩ (fun hH => ?_)
  generalize w6.drew = w7 at bel hnt hpB hwB hrB hdB po pb gd hT fr an_po ap_pB ap_wB ap_rB an_gd ap_dB hH ⊢
  refine wpAnyH_take (i := 0) (v := ?_) rfl (by kernel_rfl) (by kernel_rfl) (by kernel_rfl) (fun _ _ _ h => h) (Or.inl ⟨by rfl, ?_⟩) hH ?_
  rotate_left
  ·((intro W hW; clear hW; go_simp) <;> with_reducible rfl)
  simp only [Act.put, List.getElem_toArray, List.getElem_cons_zero, List.setIfInBounds_toArray, List.set_cons_zero, List.set_cons_succ]
  refine wpAnyH_take (i := 1) (v := .agg #[.int .i64 tos, .int .i64 id, .int .i64 fl, .int .i64 pt, .int .i64 ttl, .int .i64 17, .int .u8 (a0.toNat : Int), .int .u8 (a1.toNat : Int), .int .u8 (a2.toNat : Int), .int .u8 (a3.toNat : Int), .int .u8 (b0.toNat : Int), .int .u8 (b1.toNat : Int), .int .u8 (b2.toNat : Int), .int .u8 (b3.toNat : Int), .slice So no co, .slice Sb nb cb]) rfl (by kernel_rfl) (by kernel_rfl) (by kernel_rfl) (fun _ _ _ h => h) (yieldsIf_load_part (by kernel_rfl) 38 _ rfl g5 0 16 rfl _ 38 (0, 0) (fun W hW => hW.1) _ rfl _ Tryz.underlying38 rfl (by kernel_rfl)) hH ?_
  simp only [sq3, sq4]
  refine wpAnyH_take (i := 2) (v := ?_) rfl (by kernel_rfl) (by kernel_rfl) (by kernel_rfl) (fun _ _ _ h => h) (Or.inl ⟨by rfl, ?_⟩) hH ?_
  rotate_left
  ·((intro W hW; clear hW; go_simp) <;> with_reducible rfl)
  simp only [sq3, sq4]
  refine wpAnyH_take (i := 3) (v := ?_) rfl (by kernel_rfl) (by kernel_rfl) (by kernel_rfl) (fun _ _ _ h => h) (Or.inl ⟨by rfl, ?_⟩) hH ?_
  rotate_left
  ·((intro W hW; have hk := cell_lit (hW.2.1) 0 _ rfl; clear hW; go_simp) <;> with_reducible rfl)
  simp only [sq3, sq4]
  refine wpAnyH_take (i := 4) (v := ?_) rfl (by kernel_rfl) (by kernel_rfl) (by kernel_rfl) (fun _ _ _ h => h) (Or.inl ⟨by rfl, ?_⟩) hH ?_
  rotate_left
  ·((intro W hW; clear hW; go_simp) <;> with_reducible rfl)
  simp only [sq3, sq4]
  refine wpAnyH_take (i := 5) (v := ?_) rfl (by kernel_rfl) (by kernel_rfl) (by kernel_rfl) (fun _ _ _ h => h) (Or.inl ⟨by rfl, ?_⟩) hH ?_
  rotate_left
  ·((intro W hW; clear hW; go_simp) <;> with_reducible rfl)
  simp only [sq3, sq4]
  refine wpAnyH_take (i := 6) (v := ?_) rfl (by kernel_rfl) (by kernel_rfl) (by kernel_rfl) (fun _ _ _ h => h) (Or.inl ⟨by rfl, ?_⟩) hH ?_
  rotate_left
  ·((intro W hW; clear hW; go_simp) <;> with_reducible rfl)
  simp only [sq3, sq4]
  refine wpAnyH_take (i := 7) (v := ?_) rfl (by kernel_rfl) (by kernel_rfl) (by kernel_rfl) (fun _ _ _ h => h) (Or.inl ⟨by rfl, ?_⟩) hH ?_
  rotate_left
  ·((intro W hW; clear hW; go_simp) <;> with_reducible rfl)
  simp only [sq3, sq4]
  refine wpAnyH_take (i := 8) (v := ?_) rfl (by kernel_rfl) (by kernel_rfl) (by kernel_rfl) (fun _ _ _ h => h) (Or.inl ⟨by rfl, ?_⟩) hH ?_
  rotate_left
  ·((intro W hW; clear hW; go_simp) <;> with_reducible rfl)
  simp only [sq3, sq4]
  refine wpAnyH_take (i := 9) (v := ?_) rfl (by kernel_rfl) (by kernel_rfl) (by kernel_rfl) (fun _ _ _ h => h) (Or.inl ⟨by rfl, ?_⟩) hH ?_
  rotate_left
  ·((intro W hW; have hk := cell_lit (hW.2.2) 2 _ rfl; clear hW; go_simp) <;> with_reducible rfl)
  simp only [sq3, sq4]
  refine wpAnyH_ready (rs := [10, 14]) (by kernel_rfl) (by simp) ?_
  refine AllReadyH.cons (o := _) rfl (fun K hK => ?_) (AllReadyH.cons (o := _) rfl (fun K hK => ?_) AllReadyH.nil)
  ·simp only [sq3]
   go_simp
   with_reducible refine (nmap_0 _ hT).mono ?_
   rintro e w8 ⟨rfl, hT_, f_, bb⟩
   dsimp only
   clear hnt
   have x_ := f_ _ _ _ _ hpB ap_pB
   replace hpB := x_.1
   replace ap_pB := x_.2
   clear x_
   have x_ := f_ _ _ _ _ hwB ap_wB
   replace hwB := x_.1
   replace ap_wB := x_.2
   clear x_
   have x_ := f_ _ _ _ _ hrB ap_rB
   replace hrB := x_.1
   replace ap_rB := x_.2
   clear x_
   have x_ := f_ _ _ _ _ hdB ap_dB
   replace hdB := x_.1
   replace ap_dB := x_.2
   clear x_
   have x_ := f_.sl po an_po
   replace po := x_.1
   replace an_po := x_.2
   clear x_
   clear pb
   have x_ := f_.sl gd an_gd
   replace gd := x_.1
   replace an_gd := x_.2
   clear x_
   replace fr := fr.trans f_
   clear hT
   have hT := hT_
   replace bel := bel.trans bb
   clear bb f_ hT_
   have hnt := hT.nat
   refine hK.out _ _ ⟨hpB, hdB, hnt⟩ (fun hH9 => ?_)
   clear hK K
   refine wpAnyH_take (i := 11) (v := ?_) rfl (by kernel_rfl) (by kernel_rfl) (by kernel_rfl) (fun _ _ _ h => h) (Or.inl ⟨by rfl, ?_⟩) hH9 ?_
   rotate_left
   ·((intro W hW; clear hW; go_simp) <;> with_reducible rfl)
   simp only [sq3, sq4]
   refine wpAnyH_take (i := 12) (v := ?_) rfl (by kernel_rfl) (by kernel_rfl) (by kernel_rfl) (fun _ _ _ h => h) (Or.inl ⟨by rfl, ?_⟩) hH9 ?_
   rotate_left
   ·((intro W hW; clear hW; go_simp) <;> with_reducible rfl)
   simp only [sq3, sq4]
   refine wpAnyH_take (i := 13) (v := ?_) rfl (by kernel_rfl) (by kernel_rfl) (by kernel_rfl) (fun _ _ _ h => h) (Or.inl ⟨by rfl, ?_⟩) hH9 ?_
   rotate_left
   ·((intro W hW; clear hW; go_simp) <;> with_reducible rfl)
   simp only [sq3, sq4]
   refine wpAnyH_ready (rs := [14]) (by kernel_rfl) (by simp) ?_
   refine AllReadyH.cons (o := _) rfl (fun K hK => ?_) AllReadyH.nil
   simp only [sq3]
   rw [if_pos (by rfl)]
   refine wp_new_a 65 rfl #[.int .i64 0, .int .i64 0, .int .u8 0, .int .u8 0, .int .u8 0, .int .u8 0, .int .i64 0, .int .i64 0, .int .i64 0] (by kernel_rfl) ?_
   intro g12 w10 ge hh bb
   have ap_mB := hT.ap ge
   have d_pB_mB := ne_new (hlt hpB) ge
   have d_wB_mB := ne_new (hlt hwB) ge
   have d_rB_mB := ne_new (hlt hrB) ge
   have d_dB_mB := ne_new (hlt hdB) ge
   have d_nt_mB := ne_new (hlt hnt) ge
   have av_po_mB := po.av_new ge
   have av_gd_mB := gd.av_new ge
   have omB := Nat.le_trans (Nat.le_trans hlo bel.size) ge
   have pmB := Nat.le_trans bel.size ge
   replace hpB := blk_u hpB bb
   replace hwB := blk_u hwB bb
   replace hrB := blk_u hrB bb
   replace hdB := blk_u hdB bb
   replace hnt := blk_u hnt bb
   replace po := po.below bb
   replace gd := gd.below bb
   replace hT := hT.below bb
   replace fr := fr.below bb
   replace an_po := an_po.below bb
   replace ap_pB := ap_pB.below bb
   replace ap_wB := ap_wB.below bb
   replace ap_rB := ap_rB.below bb
   replace an_gd := an_gd.below bb
   replace ap_dB := ap_dB.below bb
   replace ap_mB := ap_mB.below bb
   replace bel := bel.trans (bb.mono (Nat.le_trans hlo bel.size))
   have hmB := hh
   clear hh ge bb
   refine hK.out _ _ ⟨hpB, hdB, hnt⟩ (fun hH11 => ?_)
   clear hK K
   simp only [sq4]
   refine wpAnyH_ready (rs := [15]) (by kernel_rfl) (by simp) ?_
   refine AllReadyH.cons (o := _) rfl (fun K hK => ?_) AllReadyH.nil
   simp only [sq3]
   rw [if_pos (by rfl)]
   refine wp_store_blk 65 (.tmp 12) (.tmp 34) rfl g12 rfl _ rfl _ 65 hmB (by rfl) (by kernel_rfl) (by kernel_rfl) ?_
   intro w12 hq gr
   replace po := po.away av_po_mB gr
   replace gd := gd.away av_gd_mB gr
   replace hpB := blk_a hpB gr d_pB_mB
   replace hwB := blk_a hwB gr d_wB_mB
   replace hrB := blk_a hrB gr d_rB_mB
   replace hdB := blk_a hdB gr d_dB_mB
   replace hnt := blk_a hnt gr d_nt_mB
   replace hT := hT.away ap_mB gr hmB
   replace fr := fr.newer ap_mB gr pmB
   replace an_po := an_po.grown ap_mB gr
   replace ap_pB := ap_pB.grown ap_mB gr
   replace ap_wB := ap_wB.grown ap_mB gr
   replace ap_rB := ap_rB.grown ap_mB gr
   replace an_gd := an_gd.grown ap_mB gr
   replace ap_dB := ap_dB.grown ap_mB gr
   replace ap_mB := ap_mB.grown ap_mB gr
   replace bel := below_grown bel gr omB (Nat.le_trans hlo bel.size)
   clear hmB
   have hmB := hq
   clear hq gr
   refine hK.out _ _ ⟨hpB, hdB, hnt⟩ (fun hH13 => ?_)
   clear hK K
   simp only [Act.put]
   refine wpAnyH_take (i := 16) (v := ?_) rfl (by kernel_rfl) (by kernel_rfl) (by kernel_rfl) (fun _ _ _ h => h) (Or.inl ⟨by rfl, ?_⟩) hH13 ?_
   rotate_left
   ·((intro W hW; clear hW; go_simp) <;> with_reducible rfl)
   simp only [sq3, sq4]
   refine wpAnyH_done (by kernel_rfl) ?_ _
   go_wp2_with fail
   go_meet
   case rel => exact ⟨g12, rfl, rfl, hpB, hwB, hrB, hdB, hnt, hmB, omB, pmB, d_dB_mB, (ne_symm d_nt_dB), (ne_symm d_pB_dB), (ne_symm d_rB_dB), (ne_symm d_wB_dB), (ne_symm d_nt_mB), (ne_symm d_pB_mB), (ne_symm d_rB_mB), (ne_symm d_wB_mB), d_nt_pB, d_nt_rB, d_nt_wB, d_pB_rB, d_pB_wB, (ne_symm d_wB_rB), po, av_po_dB, av_po_mB, av_po_pB, av_po_rB, av_po_wB, gd, av_gd_dB, av_gd_mB, av_gd_nt, av_gd_pB, av_gd_rB, av_gd_wB, hT, fr, an_po, ap_pB, ap_wB, ap_rB, an_gd, ap_dB, ap_mB, bel⟩
  simp only [sq3]
  rw [if_pos (by rfl)]
  refine wp_new_a 65 rfl #[.int .i64 0, .int .i64 0, .int .u8 0, .int .u8 0, .int .u8 0, .int .u8 0, .int .i64 0, .int .i64 0, .int .i64 0] (by kernel_rfl) ?_
  intro g12 w8 ge hh bb
  have ap_mB := hT.ap ge
  have d_nt_mB := ne_new (hlt hnt) ge
  have d_pB_mB := ne_new (hlt hpB) ge
  have d_wB_mB := ne_new (hlt hwB) ge
  have d_rB_mB := ne_new (hlt hrB) ge
  have d_dB_mB := ne_new (hlt hdB) ge
  have av_po_mB := po.av_new ge
  have av_pb_mB := pb.av_new ge
  have av_gd_mB := gd.av_new ge
  have omB := Nat.le_trans (Nat.le_trans hlo bel.size) ge
  have pmB := Nat.le_trans bel.size ge
  replace hnt := blk_u hnt bb
  replace hpB := blk_u hpB bb
  replace hwB := blk_u hwB bb
  replace hrB := blk_u hrB bb
  replace hdB := blk_u hdB bb
  replace po := po.below bb
  replace pb := pb.below bb
  replace gd := gd.below bb
  replace hT := hT.below bb
  replace fr := fr.below bb
  replace an_po := an_po.below bb
  replace ap_pB := ap_pB.below bb
  replace ap_wB := ap_wB.below bb
  replace ap_rB := ap_rB.below bb
  replace an_gd := an_gd.below bb
  replace ap_dB := ap_dB.below bb
  replace ap_mB := ap_mB.below bb
  replace bel := bel.trans (bb.mono (Nat.le_trans hlo bel.size))
  have hmB := hh
  clear hh ge bb
  refine hK.out _ _ ⟨hpB, hdB, hnt⟩ (fun hH9 => ?_)
  clear hK K
  simp only [sq4]
  refine wpAnyH_ready (rs := [10]) (by kernel_rfl) (by simp) ?_
  refine AllReadyH.cons (o := _) rfl (fun K hK => ?_) AllReadyH.nil
  simp only [sq3]
  go_simp
  with_reducible refine (nmap_0 _ hT).mono ?_
  rintro e w10 ⟨rfl, hT_, f_, bb⟩
  dsimp only
  clear hnt
  have x_ := f_ _ _ _ _ hpB ap_pB
  replace hpB := x_.1
  replace ap_pB := x_.2
  clear x_
  have x_ := f_ _ _ _ _ hwB ap_wB
  replace hwB := x_.1
  replace ap_wB := x_.2
  clear x_
  have x_ := f_ _ _ _ _ hrB ap_rB
  replace hrB := x_.1
  replace ap_rB := x_.2
  clear x_
  have x_ := f_ _ _ _ _ hdB ap_dB
  replace hdB := x_.1
  replace ap_dB := x_.2
  clear x_
  have x_ := f_ _ _ _ _ hmB ap_mB
  replace hmB := x_.1
  replace ap_mB := x_.2
  clear x_
  have x_ := f_.sl po an_po
  replace po := x_.1
  replace an_po := x_.2
  clear x_
  clear pb
  have x_ := f_.sl gd an_gd
  replace gd := x_.1
  replace an_gd := x_.2
  clear x_
  replace fr := fr.trans f_
  clear hT
  have hT := hT_
  replace bel := bel.trans bb
  clear bb f_ hT_
  have hnt := hT.nat
  refine hK.out _ _ ⟨hpB, hdB, hnt⟩ (fun hH11 => ?_)
  clear hK K
  refine wpAnyH_take (i := 11) (v := ?_) rfl (by kernel_rfl) (by kernel_rfl) (by kernel_rfl) (fun _ _ _ h => h) (Or.inl ⟨by rfl, ?_⟩) hH11 ?_
  rotate_left
  ·((intro W hW; clear hW; go_simp) <;> with_reducible rfl)
  simp only [sq3, sq4]
  refine wpAnyH_take (i := 12) (v := ?_) rfl (by kernel_rfl) (by kernel_rfl) (by kernel_rfl) (fun _ _ _ h => h) (Or.inl ⟨by rfl, ?_⟩) hH11 ?_
  rotate_left
  ·((intro W hW; clear hW; go_simp) <;> with_reducible rfl)
  simp only [sq3, sq4]
  refine wpAnyH_take (i := 13) (v := ?_) rfl (by kernel_rfl) (by kernel_rfl) (by kernel_rfl) (fun _ _ _ h => h) (Or.inl ⟨by rfl, ?_⟩) hH11 ?_
  rotate_left
  ·((intro W hW; clear hW; go_simp) <;> with_reducible rfl)
  simp only [sq3, sq4]
  refine wpAnyH_ready (rs := [15]) (by kernel_rfl) (by simp) ?_
  refine AllReadyH.cons (o := _) rfl (fun K hK => ?_) AllReadyH.nil
  simp only [sq3]
  rw [if_pos (by rfl)]
  refine wp_store_blk 65 (.tmp 12) (.tmp 34) rfl g12 rfl _ rfl _ 65 hmB (by rfl) (by kernel_rfl) (by kernel_rfl) ?_
  intro w12 hq gr
  replace po := po.away av_po_mB gr
  replace gd := gd.away av_gd_mB gr
  replace hpB := blk_a hpB gr d_pB_mB
  replace hwB := blk_a hwB gr d_wB_mB
  replace hrB := blk_a hrB gr d_rB_mB
  replace hdB := blk_a hdB gr d_dB_mB
  replace hnt := blk_a hnt gr d_nt_mB
  replace hT := hT.away ap_mB gr hmB
  replace fr := fr.newer ap_mB gr pmB
  replace an_po := an_po.grown ap_mB gr
  replace ap_pB := ap_pB.grown ap_mB gr
  replace ap_wB := ap_wB.grown ap_mB gr
  replace ap_rB := ap_rB.grown ap_mB gr
  replace an_gd := an_gd.grown ap_mB gr
  replace ap_dB := ap_dB.grown ap_mB gr
  replace ap_mB := ap_mB.grown ap_mB gr
  replace bel := below_grown bel gr omB (Nat.le_trans hlo bel.size)
  clear hmB
  have hmB := hq
  clear hq gr
  refine hK.out _ _ ⟨hpB, hdB, hnt⟩ (fun hH13 => ?_)
  clear hK K
  simp only [Act.put]
  refine wpAnyH_take (i := 16) (v := ?_) rfl (by kernel_rfl) (by kernel_rfl) (by kernel_rfl) (fun _ _ _ h => h) (Or.inl ⟨by rfl, ?_⟩) hH13 ?_
  rotate_left
  ·((intro W hW; clear hW; go_simp) <;> with_reducible rfl)
  simp only [sq3, sq4]
  refine wpAnyH_done (by kernel_rfl) ?_ _
  go_wp2_with fail
  go_meet
  case rel => exact ⟨g12, rfl, rfl, hpB, hwB, hrB, hdB, hnt, hmB, omB, pmB, d_dB_mB, (ne_symm d_nt_dB), (ne_symm d_pB_dB), (ne_symm d_rB_dB), (ne_symm d_wB_dB), (ne_symm d_nt_mB), (ne_symm d_pB_mB), (ne_symm d_rB_mB), (ne_symm d_wB_mB), d_nt_pB, d_nt_rB, d_nt_wB, d_pB_rB, d_pB_wB, (ne_symm d_wB_rB), po, av_po_dB, av_po_mB, av_po_pB, av_po_rB, av_po_wB, gd, av_gd_dB, av_gd_mB, av_gd_nt, av_gd_pB, av_gd_rB, av_gd_wB, hT, fr, an_po, ap_pB, ap_wB, ap_rB, an_gd, ap_dB, ap_mB, bel⟩
 obtain ⟨w14, hw_⟩ : ∃ x, x = wc := ⟨_, rfl⟩
 subst hw_
 obtain ⟨g12, rfl, rfl, hpB, hwB, hrB, hdB, hnt, hmB, omB, pmB, d_dB_mB, d_dB_nt, d_dB_pB, d_dB_rB, d_dB_wB, d_mB_nt, d_mB_pB, d_mB_rB, d_mB_wB, d_nt_pB, d_nt_rB, d_nt_wB, d_pB_rB, d_pB_wB, d_rB_wB, po, av_po_dB, av_po_mB, av_po_pB, av_po_rB, av_po_wB, gd, av_gd_dB, av_gd_mB, av_gd_nt, av_gd_pB, av_gd_rB, av_gd_wB, hT, fr, an_po, ap_pB, ap_wB, ap_rB, an_gd, ap_dB, ap_mB, bel⟩ := hcut
 go_wp2_with (first | ((with_reducible show wpList _ _ _ (⟨none, Op.store _ (.tmp 8) _, _, _, _, _⟩ :: _) _ _); refine wpList_store_blk rfl 38 (.tmp 8) (.tmp 38) rfl g8 rfl _ rfl _ 38 hrB (by rfl) (by kernel_rfl) (by kernel_rfl) ?_; intro w15 hq gr; replace po := po.away av_po_rB gr; replace gd := gd.away av_gd_rB gr; replace hpB := blk_a hpB gr d_pB_rB; replace hwB := blk_a hwB gr (ne_symm d_rB_wB); replace hdB := blk_a hdB gr d_dB_rB; replace hnt := blk_a hnt gr d_nt_rB; replace hmB := blk_a hmB gr d_mB_rB; replace hT := hT.away ap_rB gr hrB; replace fr := fr.newer ap_rB gr prB; replace an_po := an_po.grown ap_rB gr; replace ap_pB := ap_pB.grown ap_rB gr; replace ap_wB := ap_wB.grown ap_rB gr; replace ap_rB := ap_rB.grown ap_rB gr; replace an_gd := an_gd.grown ap_rB gr; replace ap_dB := ap_dB.grown ap_rB gr; replace ap_mB := ap_mB.grown ap_rB gr; replace bel := below_grown bel gr orB (Nat.le_trans hlo bel.size); clear hrB; have hrB := hq; clear hq gr))
 exact bodyPost_ret (results_cell_tmp_row rfl _ _ _ _ _ _ _ rfl hrB Tryz.underlying38 rfl (by kernel_rfl) (.int .i64 1) rfl) rfl ⟨rfl, hT, fr, bel⟩
theorem ndout_ok {lo gn gt gk : Nat} {s : Ts} {k : Ks} {s' : Ts} {m : Mp} {tos id fl pt ttl : Int} {a0 a1 a2 a3 b0 b1 b2 b3 : UInt8} {So Sb : Option Addr} {no co nb cb : Nat} {lp lb : List UInt8} {c0 c1 c2 c3 : UInt8} {t : Int} {df dt : Int} {ld : List UInt8} {nd : Nat} (w : World) (hT : Np lo gn gt gk w s k) (po : Sl w So no co lp) (pb : Sl w Sb nb cb lb) (an_po : An gn gt gk w So no) (hm : nb ≤ 100000) (hno : no ≤ 100000) (hg : udGet fl pt 17 a0 a1 a2 a3 b0 b1 b2 b3 lb = ((df, dt), ld, 0)) (hld : ld.length = nd) (hd : df ≠ 0) (hc : MakeC lo gt s s' 17 a0 a1 a2 a3 df t 120 m 0) (h1 : portOk m.o = true) (h2 : portOk dt = true) (hn : nd ≤ 1472)  : Calls Tryz.prog 36 #[.pointer (some ⟨gn, 0, none⟩), .agg #[.int .i64 tos, .int .i64 id, .int .i64 fl, .int .i64 pt, .int .i64 ttl, .int .i64 17, .int .u8 (a0.toNat : Int), .int .u8 (a1.toNat : Int), .int .u8 (a2.toNat : Int), .int .u8 (a3.toNat : Int), .int .u8 (b0.toNat : Int), .int .u8 (b1.toNat : Int), .int .u8 (b2.toNat : Int), .int .u8 (b3.toNat : Int), .slice So no co, .slice Sb nb cb], .agg #[.int .u8 (c0.toNat : Int), .int .u8 (c1.toNat : Int), .int .u8 (c2.toNat : Int), .int .u8 (c3.toNat : Int)], .int .i64 t] w fun e w' => ∃ Ao co' Ab cb', e = .returned (.tuple #[.agg #[.int .i64 tos, .int .i64 id, .int .i64 fl, .int .i64 pt, .int .i64 ttl, .int .i64 17, .int .u8 (c0.toNat : Int), .int .u8 (c1.toNat : Int), .int .u8 (c2.toNat : Int), .int .u8 (c3.toNat : Int), .int .u8 (b0.toNat : Int), .int .u8 (b1.toNat : Int), .int .u8 (b2.toNat : Int), .int .u8 (b3.toNat : Int), .slice Ao no co', .slice Ab (8 + nd) cb'], .int .i64 0]) ∧ Np lo gn gt gk w' s' k ∧ Fn gn gt gk w w' ∧ Below lo w w' ∧ Sl w' Ao no co' lp ∧ Sl w' Ab (8 + nd) cb' (udBytes c0 c1 c2 c3 b0 b1 b2 b3 m.o dt ld) ∧ An gn gt gk w' Ao no ∧ An gn gt gk w' Ab (8 + nd) ∧ Fr w.heap.size Ao no ∧ Fr w.heap.size Ab (8 + nd) := by
 have hlo : lo ≤ w.heap.size := hT.lo_le
 have HLO := Lib.hid hlo
 have hnt := hT.nat
 have fr := Fn.refl gn gt gk w
 have HM := Lib.hid hm
 clear hm
 have HNO := Lib.hid hno
 clear hno
 have HG := Lib.hid hg
 clear hg
 have HLD := Lib.hid hld
 clear hld
 have HD := Lib.hid hd
 clear hd
 have HP1 := Lib.hid h1
 clear h1
 have HP2 := Lib.hid h2
 clear h2
 have HN4 := Lib.hid hn
 clear hn
 have bel := Below.refl lo w
 go_enter Tryz.func36, Tryz.ntmps36
 go_wp2_with (first | ((with_reducible show wpList _ _ _ (⟨some 5, _, _, _, _, _⟩ :: _) _ _); refine wpList_box_n rfl 38 (.tmp 1) rfl #[.int .i64 tos, .int .i64 id, .int .i64 fl, .int .i64 pt, .int .i64 ttl, .int .i64 17, .int .u8 (a0.toNat : Int), .int .u8 (a1.toNat : Int), .int .u8 (a2.toNat : Int), .int .u8 (a3.toNat : Int), .int .u8 (b0.toNat : Int), .int .u8 (b1.toNat : Int), .int .u8 (b2.toNat : Int), .int .u8 (b3.toNat : Int), .slice So no co, .slice Sb nb cb] rfl ?_; intro g5 w1 ge lt hh bb; have ap_pB := hT.ap ge; have d_nt_pB := ne_new (hlt hnt) ge; have av_po_pB := po.av_new ge; have av_pb_pB := pb.av_new ge; have opB := Nat.le_trans (Nat.le_trans hlo bel.size) ge; have ppB := Nat.le_trans bel.size ge; replace hnt := blk_u hnt bb; replace po := po.below bb; replace pb := pb.below bb; replace hT := hT.below bb; replace fr := fr.below bb; replace an_po := an_po.below bb; replace ap_pB := ap_pB.below bb; replace bel := bel.trans (bb.mono (Nat.le_trans hlo bel.size)); have hpB := hh; clear hh lt ge bb) | ((with_reducible show wpList _ _ _ (⟨some 6, _, _, _, _, _⟩ :: _) _ _); refine wpList_box_n rfl 35 (.tmp 2) rfl #[.int .u8 (c0.toNat : Int), .int .u8 (c1.toNat : Int), .int .u8 (c2.toNat : Int), .int .u8 (c3.toNat : Int)] rfl ?_; intro g6 w2 ge lt hh bb; have ap_wB := hT.ap ge; have d_nt_wB := ne_new (hlt hnt) ge; have d_pB_wB := ne_new (hlt hpB) ge; have av_po_wB := po.av_new ge; have av_pb_wB := pb.av_new ge; have owB := Nat.le_trans (Nat.le_trans hlo bel.size) ge; have pwB := Nat.le_trans bel.size ge; replace hnt := blk_u hnt bb; replace hpB := blk_u hpB bb; replace po := po.below bb; replace pb := pb.below bb; replace hT := hT.below bb; replace fr := fr.below bb; replace an_po := an_po.below bb; replace ap_pB := ap_pB.below bb; replace ap_wB := ap_wB.below bb; replace bel := bel.trans (bb.mono (Nat.le_trans hlo bel.size)); have hwB := hh; clear hh lt ge bb) | ((with_reducible show wpList _ _ _ (⟨some 8, _, _, _, _, _⟩ :: _) _ _); refine wpList_new_a rfl 38 rfl #[.int .i64 0, .int .i64 0, .int .i64 0, .int .i64 0, .int .i64 0, .int .i64 0, .int .u8 0, .int .u8 0, .int .u8 0, .int .u8 0, .int .u8 0, .int .u8 0, .int .u8 0, .int .u8 0, .slice none 0 0, .slice none 0 0] (by kernel_rfl) ?_; intro g8 w3 ge hh bb; have ap_rB := hT.ap ge; have d_nt_rB := ne_new (hlt hnt) ge; have d_pB_rB := ne_new (hlt hpB) ge; have d_wB_rB := ne_new (hlt hwB) ge; have av_po_rB := po.av_new ge; have av_pb_rB := pb.av_new ge; have orB := Nat.le_trans (Nat.le_trans hlo bel.size) ge; have prB := Nat.le_trans bel.size ge; replace hnt := blk_u hnt bb; replace hpB := blk_u hpB bb; replace hwB := blk_u hwB bb; replace po := po.below bb; replace pb := pb.below bb; replace hT := hT.below bb; replace fr := fr.below bb; replace an_po := an_po.below bb; replace ap_pB := ap_pB.below bb; replace ap_wB := ap_wB.below bb; replace ap_rB := ap_rB.below bb; replace bel := bel.trans (bb.mono (Nat.le_trans hlo bel.size)); have hrB := hh; clear hh ge bb; have R14 := Lib.hid (range_lit hpB 0 16 [.int .i64 tos, .int .i64 id, .int .i64 fl, .int .i64 pt, .int .i64 ttl, .int .i64 17, .int .u8 (a0.toNat : Int), .int .u8 (a1.toNat : Int), .int .u8 (a2.toNat : Int), .int .u8 (a3.toNat : Int), .int .u8 (b0.toNat : Int), .int .u8 (b1.toNat : Int), .int .u8 (b2.toNat : Int), .int .u8 (b3.toNat : Int), .slice So no co, .slice Sb nb cb] rfl)) | ((with_reducible show wpList _ _ _ (⟨some 14, _, _, _, _, _⟩ :: _) _ _); refine wpList_load_rng 38 (.tmp 5) rfl (by kernel_rfl) _ _ rfl _ R14.out _ Tryz.underlying38 rfl (by kernel_rfl) ?_))
 try clear R14
 with_reducible refine (udget_is _ _ _ _ _ _ _ _ _ _ _ _ _ _ _ _ _ _ _ _  pb HM.out HG.out HLD.out).mono ?_
 rintro e w4 ⟨D, cd, rfl, gd, fd, b4⟩
 have av_gd_nt := fd.av (hlt hnt)
 have av_gd_pB := fd.av (hlt hpB)
 have av_gd_wB := fd.av (hlt hwB)
 have av_gd_rB := fd.av (hlt hrB)
 have an_gd := hT.an fd
 replace hnt := blk_u hnt b4
 replace hpB := blk_u hpB b4
 replace hwB := blk_u hwB b4
 replace hrB := blk_u hrB b4
 replace po := po.below b4
 replace pb := pb.below b4
 replace hT := hT.below b4
 replace fr := fr.below b4
 replace an_po := an_po.below b4
 replace ap_pB := ap_pB.below b4
 replace ap_wB := ap_wB.below b4
 replace ap_rB := ap_rB.below b4
 replace an_gd := an_gd.below b4
 replace bel := bel.trans (b4.mono (Nat.le_trans hlo bel.size))
 clear b4
 replace gd : Sl w4 (D) (nd) (cd) (ld) := gd
 go_wp2_with (first | ((with_reducible show wpList _ _ _ (⟨some 10, _, _, _, _, _⟩ :: _) _ _); refine wpList_new_a rfl 54 rfl #[.int .i64 0, .int .i64 0, .slice none 0 0] (by kernel_rfl) ?_; intro g10 w5 ge hh bb; have ap_dB := hT.ap ge; have d_nt_dB := ne_new (hlt hnt) ge; have d_pB_dB := ne_new (hlt hpB) ge; have d_wB_dB := ne_new (hlt hwB) ge; have d_rB_dB := ne_new (hlt hrB) ge; have av_po_dB := po.av_new ge; have av_pb_dB := pb.av_new ge; have av_gd_dB := gd.av_new ge; have odB := Nat.le_trans (Nat.le_trans hlo bel.size) ge; have pdB := Nat.le_trans bel.size ge; replace hnt := blk_u hnt bb; replace hpB := blk_u hpB bb; replace hwB := blk_u hwB bb; replace hrB := blk_u hrB bb; replace po := po.below bb; replace pb := pb.below bb; replace gd := gd.below bb; replace hT := hT.below bb; replace fr := fr.below bb; replace an_po := an_po.below bb; replace ap_pB := ap_pB.below bb; replace ap_wB := ap_wB.below bb; replace ap_rB := ap_rB.below bb; replace an_gd := an_gd.below bb; replace ap_dB := ap_dB.below bb; replace bel := bel.trans (bb.mono (Nat.le_trans hlo bel.size)); have hdB := hh; clear hh ge bb) | ((with_reducible show wpList _ _ _ (⟨none, Op.store _ (.tmp 10) _, _, _, _, _⟩ :: _) _ _); refine wpList_store_blk rfl 54 (.tmp 10) (.tmp 16) rfl g10 rfl _ rfl _ 54 hdB (by rfl) (by kernel_rfl) (by kernel_rfl) ?_; intro w6 hq gr; replace po := po.away av_po_dB gr; replace pb := pb.away av_pb_dB gr; replace gd := gd.away av_gd_dB gr; replace hnt := blk_a hnt gr d_nt_dB; replace hpB := blk_a hpB gr d_pB_dB; replace hwB := blk_a hwB gr d_wB_dB; replace hrB := blk_a hrB gr d_rB_dB; replace hT := hT.away ap_dB gr hdB; replace fr := fr.newer ap_dB gr pdB; replace an_po := an_po.grown ap_dB gr; replace ap_pB := ap_pB.grown ap_dB gr; replace ap_wB := ap_wB.grown ap_dB gr; replace ap_rB := ap_rB.grown ap_dB gr; replace an_gd := an_gd.grown ap_dB gr; replace ap_dB := ap_dB.grown ap_dB gr; replace bel := below_grown bel gr odB (Nat.le_trans hlo bel.size); clear hdB; have hdB := hq; clear hq gr))
 go_cut [11, 12] from 9999 (fun s11 s12 W => ∃ g12 : Nat, s11 = .int .i64 0 ∧ s12 = .pointer (some ⟨g12, 0, none⟩) ∧ W.heap[g5]? = some (.cells #[.int .i64 tos, .int .i64 id, .int .i64 fl, .int .i64 pt, .int .i64 ttl, .int .i64 17, .int .u8 (a0.toNat : Int), .int .u8 (a1.toNat : Int), .int .u8 (a2.toNat : Int), .int .u8 (a3.toNat : Int), .int .u8 (b0.toNat : Int), .int .u8 (b1.toNat : Int), .int .u8 (b2.toNat : Int), .int .u8 (b3.toNat : Int), .slice So no co, .slice Sb nb cb] 38 (0, 0)) ∧ W.heap[g6]? = some (.cells #[.int .u8 (c0.toNat : Int), .int .u8 (c1.toNat : Int), .int .u8 (c2.toNat : Int), .int .u8 (c3.toNat : Int)] 35 (0, 0)) ∧ W.heap[g8]? = some (.cells #[.int .i64 0, .int .i64 0, .int .i64 0, .int .i64 0, .int .i64 0, .int .i64 0, .int .u8 0, .int .u8 0, .int .u8 0, .int .u8 0, .int .u8 0, .int .u8 0, .int .u8 0, .int .u8 0, .slice none 0 0, .slice none 0 0] 38 (0, 0)) ∧ W.heap[g10]? = some (.cells #[.int .i64 df, .int .i64 dt, .slice D nd cd] 54 (0, 0)) ∧ W.heap[gn]? = some (.cells #[.pointer (some ⟨gt, 0, none⟩), .pointer (some ⟨gk, 0, none⟩), .int .i64 120, .int .i64 7200, .int .i64 30] 82 (0, 0)) ∧ W.heap[g12]? = some (.cells #[.int .i64 m.pr, .int .i64 m.o, .int .u8 (m.ad.a.toNat : Int), .int .u8 (m.ad.b.toNat : Int), .int .u8 (m.ad.c.toNat : Int), .int .u8 (m.ad.d.toNat : Int), .int .i64 m.i, .int .i64 m.k, .int .i64 m.u] 65 (0, 0)) ∧ lo ≤ g12 ∧ w.heap.size ≤ g12 ∧ Hid (g10 ≠ g12) ∧ Hid (g10 ≠ gn) ∧ Hid (g10 ≠ g5) ∧ Hid (g10 ≠ g8) ∧ Hid (g10 ≠ g6) ∧ Hid (g12 ≠ gn) ∧ Hid (g12 ≠ g5) ∧ Hid (g12 ≠ g8) ∧ Hid (g12 ≠ g6) ∧ Hid (gn ≠ g5) ∧ Hid (gn ≠ g8) ∧ Hid (gn ≠ g6) ∧ Hid (g5 ≠ g8) ∧ Hid (g5 ≠ g6) ∧ Hid (g8 ≠ g6) ∧ Sl W (So) (no) (co) (lp) ∧ Av (So) (no) g10 ∧ Av (So) (no) g12 ∧ Av (So) (no) g5 ∧ Av (So) (no) g8 ∧ Av (So) (no) g6 ∧ Sl W (D) (nd) (cd) (ld) ∧ Av (D) (nd) g10 ∧ Av (D) (nd) g12 ∧ Av (D) (nd) gn ∧ Av (D) (nd) g5 ∧ Av (D) (nd) g8 ∧ Av (D) (nd) g6 ∧ Np lo gn gt gk W s' k ∧ Fn gn gt gk w W ∧ An gn gt gk W (So) (no) ∧ Anp gn gt gk W g5 ∧ Anp gn gt gk W g6 ∧ Anp gn gt gk W g8 ∧ An gn gt gk W (D) (nd) ∧ Anp gn gt gk W g10 ∧ Anp gn gt gk W g12 ∧ Below lo w W)
 case first =>
  replace bel := bel.drew
  replace hnt : w6.drew.heap[gn]? = _ := hnt
  replace hpB : w6.drew.heap[g5]? = _ := hpB
  replace hwB : w6.drew.heap[g6]? = _ := hwB
  replace hrB : w6.drew.heap[g8]? = _ := hrB
  replace hdB : w6.drew.heap[g10]? = _ := hdB
  replace po := po.drew
  replace pb := pb.drew
  replace gd := gd.drew
  replace hT := np_drew hT
  replace fr := fn_drew fr
  replace an_po := an_drew an_po
  replace ap_pB := anp_drew ap_pB
  replace ap_wB := anp_drew ap_wB
  replace ap_rB := anp_drew ap_rB
  replace an_gd := an_drew an_gd
  replace ap_dB := anp_drew ap_dB
  refine wp_region_held_drew (S := fun W => W.heap[g5]? = some (.cells #[.int .i64 tos, .int .i64 id, .int .i64 fl, .int .i64 pt, .int .i64 ttl, .int .i64 17, .int .u8 (a0.toNat : Int), .int .u8 (a1.toNat : Int), .int .u8 (a2.toNat : Int), .int .u8 (a3.toNat : Int), .int .u8 (b0.toNat : Int), .int .u8 (b1.toNat : Int), .int .u8 (b2.toNat : Int), .int .u8 (b3.toNat : Int), .slice So no co, .slice Sb nb cb] 38 (0, 0)) ∧ W.heap[g10]? = some (.cells #[.int .i64 df, .int .i64 dt, .slice D nd cd] 54 (0, 0)) ∧ W.heap[gn]? = some (.cells #[.pointer (some ⟨gt, 0, none⟩), .pointer (some ⟨gk, 0, none⟩), .int .i64 120, .int .i64 7200, .int .i64 30] 82 (0, 0))) (by kernel_rfl) ⟨hpB, hdB, hnt⟩ (fun hH => ?_)
  generalize w6.drew = w7 at bel hnt hpB hwB hrB hdB po pb gd hT fr an_po ap_pB ap_wB ap_rB an_gd ap_dB hH ⊢
  refine wpAnyH_take (i := 0) (v := ?_) rfl (by kernel_rfl) (by kernel_rfl) (by kernel_rfl) (fun _ _ _ h => h) (Or.inl ⟨by rfl, ?_⟩) hH ?_
  rotate_left
  ·((intro W hW; clear hW; go_simp) <;> with_reducible rfl)
  simp only [Act.put, List.getElem_toArray, List.getElem_cons_zero, List.setIfInBounds_toArray, List.set_cons_zero, List.set_cons_succ]
  refine wpAnyH_take (i := 1) (v := .agg #[.int .i64 tos, .int .i64 id, .int .i64 fl, .int .i64 pt, .int .i64 ttl, .int .i64 17, .int .u8 (a0.toNat : Int), .int .u8 (a1.toNat : Int), .int .u8 (a2.toNat : Int), .int .u8 (a3.toNat : Int), .int .u8 (b0.toNat : Int), .int .u8 (b1.toNat : Int), .int .u8 (b2.toNat : Int), .int .u8 (b3.toNat : Int), .slice So no co, .slice Sb nb cb]) rfl (by kernel_rfl) (by kernel_rfl) (by kernel_rfl) (fun _ _ _ h => h) (yieldsIf_load_part (by kernel_rfl) 38 _ rfl g5 0 16 rfl _ 38 (0, 0) (fun W hW => hW.1) _ rfl _ Tryz.underlying38 rfl (by kernel_rfl)) hH ?_
  simp only [sq3, sq4]
  refine wpAnyH_take (i := 2) (v := ?_) rfl (by kernel_rfl) (by kernel_rfl) (by kernel_rfl) (fun _ _ _ h => h) (Or.inl ⟨by rfl, ?_⟩) hH ?_
  rotate_left
  ·((intro W hW; clear hW; go_simp) <;> with_reducible rfl)
  simp only [sq3, sq4]
  refine wpAnyH_take (i := 3) (v := ?_) rfl (by kernel_rfl) (by kernel_rfl) (by kernel_rfl) (fun _ _ _ h => h) (Or.inl ⟨by rfl, ?_⟩) hH ?_
  rotate_left
  ·((intro W hW; have hk := cell_lit (hW.2.1) 0 _ rfl; clear hW; go_simp) <;> with_reducible rfl)
  simp only [sq3, sq4]
  refine wpAnyH_take (i := 4) (v := ?_) rfl (by kernel_rfl) (by kernel_rfl) (by kernel_rfl) (fun _ _ _ h => h) (Or.inl ⟨by rfl, ?_⟩) hH ?_
  rotate_left
  ·((intro W hW; clear hW; go_simp) <;> with_reducible rfl)
  simp only [sq3, sq4]
  refine wpAnyH_take (i := 5) (v := ?_) rfl (by kernel_rfl) (by kernel_rfl) (by kernel_rfl) (fun _ _ _ h => h) (Or.inl ⟨by rfl, ?_⟩) hH ?_
  rotate_left
  ·((intro W hW; clear hW; go_simp) <;> with_reducible rfl)
  simp only [sq3, sq4]
  refine wpAnyH_take (i := 6) (v := ?_) rfl (by kernel_rfl) (by kernel_rfl) (by kernel_rfl) (fun _ _ _ h => h) (Or.inl ⟨by rfl, ?_⟩) hH ?_
  rotate_left
  ·((intro W hW; clear hW; go_simp) <;> with_reducible rfl)
  simp only [sq3, sq4]
  refine wpAnyH_take (i := 7) (v := ?_) rfl (by kernel_rfl) (by kernel_rfl) (by kernel_rfl) (fun _ _ _ h => h) (Or.inl ⟨by rfl, ?_⟩) hH ?_
  rotate_left
  ·((intro W hW; clear hW; go_simp) <;> with_reducible rfl)
  simp only [sq3, sq4]
  refine wpAnyH_take (i := 8) (v := ?_) rfl (by kernel_rfl) (by kernel_rfl) (by kernel_rfl) (fun _ _ _ h => h) (Or.inl ⟨by rfl, ?_⟩) hH ?_
  rotate_left
  ·((intro W hW; clear hW; go_simp) <;> with_reducible rfl)
  simp only [sq3, sq4]
  refine wpAnyH_take (i := 9) (v := ?_) rfl (by kernel_rfl) (by kernel_rfl) (by kernel_rfl) (fun _ _ _ h => h) (Or.inl ⟨by rfl, ?_⟩) hH ?_
  rotate_left
  ·((intro W hW; have hk := cell_lit (hW.2.2) 2 _ rfl; clear hW; go_simp) <;> with_reducible rfl)
  simp only [sq3, sq4]
  refine wpAnyH_ready (rs := [10, 14]) (by kernel_rfl) (by simp) ?_
  refine AllReadyH.cons (o := _) rfl (fun K hK => ?_) (AllReadyH.cons (o := _) rfl (fun K hK => ?_) AllReadyH.nil)
  ·simp only [sq3]
   go_simp
   with_reducible refine (nmap_ok _ hT HD.out hc).mono ?_
   rintro e w8 ⟨rfl, hT_, f_, bb⟩
   dsimp only
   clear hnt
   have x_ := f_ _ _ _ _ hpB ap_pB
   replace hpB := x_.1
   replace ap_pB := x_.2
   clear x_
   have x_ := f_ _ _ _ _ hwB ap_wB
   replace hwB := x_.1
   replace ap_wB := x_.2
   clear x_
   have x_ := f_ _ _ _ _ hrB ap_rB
   replace hrB := x_.1
   replace ap_rB := x_.2
   clear x_
   have x_ := f_ _ _ _ _ hdB ap_dB
   replace hdB := x_.1
   replace ap_dB := x_.2
   clear x_
   have x_ := f_.sl po an_po
   replace po := x_.1
   replace an_po := x_.2
   clear x_
   clear pb
   have x_ := f_.sl gd an_gd
   replace gd := x_.1
   replace an_gd := x_.2
   clear x_
   replace fr := fr.trans f_
   clear hT
   have hT := hT_
   replace bel := bel.trans bb
   clear bb f_ hT_
   have hnt := hT.nat
   refine hK.out _ _ ⟨hpB, hdB, hnt⟩ (fun hH9 => ?_)
   clear hK K
   refine wpAnyH_take (i := 11) (v := ?_) rfl (by kernel_rfl) (by kernel_rfl) (by kernel_rfl) (fun _ _ _ h => h) (Or.inl ⟨by rfl, ?_⟩) hH9 ?_
   rotate_left
   ·((intro W hW; clear hW; go_simp) <;> with_reducible rfl)
   simp only [sq3, sq4]
   refine wpAnyH_take (i := 12) (v := ?_) rfl (by kernel_rfl) (by kernel_rfl) (by kernel_rfl) (fun _ _ _ h => h) (Or.inl ⟨by rfl, ?_⟩) hH9 ?_
   rotate_left
   ·((intro W hW; clear hW; go_simp) <;> with_reducible rfl)
   simp only [sq3, sq4]
   refine wpAnyH_take (i := 13) (v := ?_) rfl (by kernel_rfl) (by kernel_rfl) (by kernel_rfl) (fun _ _ _ h => h) (Or.inl ⟨by rfl, ?_⟩) hH9 ?_
   rotate_left
   ·((intro W hW; clear hW; go_simp) <;> with_reducible rfl)
   simp only [sq3, sq4]
   refine wpAnyH_ready (rs := [14]) (by kernel_rfl) (by simp) ?_
   refine AllReadyH.cons (o := _) rfl (fun K hK => ?_) AllReadyH.nil
   simp only [sq3]
   rw [if_pos (by rfl)]
   refine wp_new_a 65 rfl #[.int .i64 0, .int .i64 0, .int .u8 0, .int .u8 0, .int .u8 0, .int .u8 0, .int .i64 0, .int .i64 0, .int .i64 0] (by kernel_rfl) ?_
   intro g12 w10 ge hh bb
   have ap_mB := hT.ap ge
   have d_pB_mB := ne_new (hlt hpB) ge
   have d_wB_mB := ne_new (hlt hwB) ge
   have d_rB_mB := ne_new (hlt hrB) ge
   have d_dB_mB := ne_new (hlt hdB) ge
   have d_nt_mB := ne_new (hlt hnt) ge
   have av_po_mB := po.av_new ge
   have av_gd_mB := gd.av_new ge
   have omB := Nat.le_trans (Nat.le_trans hlo bel.size) ge
   have pmB := Nat.le_trans bel.size ge
   replace hpB := blk_u hpB bb
   replace hwB := blk_u hwB bb
   replace hrB := blk_u hrB bb
   replace hdB := blk_u hdB bb
   replace hnt := blk_u hnt bb
   replace po := po.below bb
   replace gd := gd.below bb
   replace hT := hT.below bb
   replace fr := fr.below bb
   replace an_po := an_po.below bb
   replace ap_pB := ap_pB.below bb
   replace ap_wB := ap_wB.below bb
   replace ap_rB := ap_rB.below bb
   replace an_gd := an_gd.below bb
   replace ap_dB := ap_dB.below bb
   replace ap_mB := ap_mB.below bb
   replace bel := bel.trans (bb.mono (Nat.le_trans hlo bel.size))
   have hmB := hh
   clear hh ge bb
   refine hK.out _ _ ⟨hpB, hdB, hnt⟩ (fun hH11 => ?_)
   clear hK K
   simp only [sq4]
   refine wpAnyH_ready (rs := [15]) (by kernel_rfl) (by simp) ?_
   refine AllReadyH.cons (o := _) rfl (fun K hK => ?_) AllReadyH.nil
   simp only [sq3]
   rw [if_pos (by rfl)]
   refine wp_store_blk 65 (.tmp 12) (.tmp 34) rfl g12 rfl _ rfl _ 65 hmB (by rfl) (by kernel_rfl) (by kernel_rfl) ?_
   intro w12 hq gr
   replace po := po.away av_po_mB gr
   replace gd := gd.away av_gd_mB gr
   replace hpB := blk_a hpB gr d_pB_mB
   replace hwB := blk_a hwB gr d_wB_mB
   replace hrB := blk_a hrB gr d_rB_mB
   replace hdB := blk_a hdB gr d_dB_mB
   replace hnt := blk_a hnt gr d_nt_mB
   replace hT := hT.away ap_mB gr hmB
   replace fr := fr.newer ap_mB gr pmB
   replace an_po := an_po.grown ap_mB gr
   replace ap_pB := ap_pB.grown ap_mB gr
   replace ap_wB := ap_wB.grown ap_mB gr
   replace ap_rB := ap_rB.grown ap_mB gr
   replace an_gd := an_gd.grown ap_mB gr
   replace ap_dB := ap_dB.grown ap_mB gr
   replace ap_mB := ap_mB.grown ap_mB gr
   replace bel := below_grown bel gr omB (Nat.le_trans hlo bel.size)
   clear hmB
   have hmB := hq
   clear hq gr
   refine hK.out _ _ ⟨hpB, hdB, hnt⟩ (fun hH13 => ?_)
   clear hK K
   simp only [Act.put]
   refine wpAnyH_take (i := 16) (v := ?_) rfl (by kernel_rfl) (by kernel_rfl) (by kernel_rfl) (fun _ _ _ h => h) (Or.inl ⟨by rfl, ?_⟩) hH13 ?_
   rotate_left
   ·((intro W hW; clear hW; go_simp) <;> with_reducible rfl)
   simp only [sq3, sq4]
   refine wpAnyH_done (by kernel_rfl) ?_ _
   go_wp2_with fail
   go_meet
   case rel => exact ⟨g12, rfl, rfl, hpB, hwB, hrB, hdB, hnt, hmB, omB, pmB, d_dB_mB, (ne_symm d_nt_dB), (ne_symm d_pB_dB), (ne_symm d_rB_dB), (ne_symm d_wB_dB), (ne_symm d_nt_mB), (ne_symm d_pB_mB), (ne_symm d_rB_mB), (ne_symm d_wB_mB), d_nt_pB, d_nt_rB, d_nt_wB, d_pB_rB, d_pB_wB, (ne_symm d_wB_rB), po, av_po_dB, av_po_mB, av_po_pB, av_po_rB, av_po_wB, gd, av_gd_dB, av_gd_mB, av_gd_nt, av_gd_pB, av_gd_rB, av_gd_wB, hT, fr, an_po, ap_pB, ap_wB, ap_rB, an_gd, ap_dB, ap_mB, bel⟩
  simp only [sq3]
  rw [if_pos (by rfl)]
  refine wp_new_a 65 rfl #[.int .i64 0, .int .i64 0, .int .u8 0, .int .u8 0, .int .u8 0, .int .u8 0, .int .i64 0, .int .i64 0, .int .i64 0] (by kernel_rfl) ?_
  intro g12 w8 ge hh bb
  have ap_mB := hT.ap ge
  have d_nt_mB := ne_new (hlt hnt) ge
  have d_pB_mB := ne_new (hlt hpB) ge
  have d_wB_mB := ne_new (hlt hwB) ge
  have d_rB_mB := ne_new (hlt hrB) ge
  have d_dB_mB := ne_new (hlt hdB) ge
  have av_po_mB := po.av_new ge
  have av_pb_mB := pb.av_new ge
  have av_gd_mB := gd.av_new ge
  have omB := Nat.le_trans (Nat.le_trans hlo bel.size) ge
  have pmB := Nat.le_trans bel.size ge
  replace hnt := blk_u hnt bb
  replace hpB := blk_u hpB bb
  replace hwB := blk_u hwB bb
  replace hrB := blk_u hrB bb
  replace hdB := blk_u hdB bb
  replace po := po.below bb
  replace pb := pb.below bb
  replace gd := gd.below bb
  replace hT := hT.below bb
  replace fr := fr.below bb
  replace an_po := an_po.below bb
  replace ap_pB := ap_pB.below bb
  replace ap_wB := ap_wB.below bb
  replace ap_rB := ap_rB.below bb
  replace an_gd := an_gd.below bb
  replace ap_dB := ap_dB.below bb
  replace ap_mB := ap_mB.below bb
  replace bel := bel.trans (bb.mono (Nat.le_trans hlo bel.size))
  have hmB := hh
  clear hh ge bb
  refine hK.out _ _ ⟨hpB, hdB, hnt⟩ (fun hH9 => ?_)
  clear hK K
  simp only [sq4]
  refine wpAnyH_ready (rs := [10]) (by kernel_rfl) (by simp) ?_
  refine AllReadyH.cons (o := _) rfl (fun K hK => ?_) AllReadyH.nil
  simp only [sq3]
  go_simp
  with_reducible refine (nmap_ok _ hT HD.out hc).mono ?_
  rintro e w10 ⟨rfl, hT_, f_, bb⟩
  dsimp only
  clear hnt
  have x_ := f_ _ _ _ _ hpB ap_pB
  replace hpB := x_.1
  replace ap_pB := x_.2
  clear x_
  have x_ := f_ _ _ _ _ hwB ap_wB
  replace hwB := x_.1
  replace ap_wB := x_.2
  clear x_
  have x_ := f_ _ _ _ _ hrB ap_rB
  replace hrB := x_.1
  replace ap_rB := x_.2
  clear x_
  have x_ := f_ _ _ _ _ hdB ap_dB
  replace hdB := x_.1
  replace ap_dB := x_.2
  clear x_
  have x_ := f_ _ _ _ _ hmB ap_mB
  replace hmB := x_.1
  replace ap_mB := x_.2
  clear x_
  have x_ := f_.sl po an_po
  replace po := x_.1
  replace an_po := x_.2
  clear x_
  clear pb
  have x_ := f_.sl gd an_gd
  replace gd := x_.1
  replace an_gd := x_.2
  clear x_
  replace fr := fr.trans f_
  clear hT
  have hT := hT_
  replace bel := bel.trans bb
  clear bb f_ hT_
  have hnt := hT.nat
  refine hK.out _ _ ⟨hpB, hdB, hnt⟩ (fun hH11 => ?_)
  clear hK K
  refine wpAnyH_take (i := 11) (v := ?_) rfl (by kernel_rfl) (by kernel_rfl) (by kernel_rfl) (fun _ _ _ h => h) (Or.inl ⟨by rfl, ?_⟩) hH11 ?_
  rotate_left
  ·((intro W hW; clear hW; go_simp) <;> with_reducible rfl)
  simp only [sq3, sq4]
  refine wpAnyH_take (i := 12) (v := ?_) rfl (by kernel_rfl) (by kernel_rfl) (by kernel_rfl) (fun _ _ _ h => h) (Or.inl ⟨by rfl, ?_⟩) hH11 ?_
  rotate_left
  ·((intro W hW; clear hW; go_simp) <;> with_reducible rfl)
  simp only [sq3, sq4]
  refine wpAnyH_take (i := 13) (v := ?_) rfl (by kernel_rfl) (by kernel_rfl) (by kernel_rfl) (fun _ _ _ h => h) (Or.inl ⟨by rfl, ?_⟩) hH11 ?_
  rotate_left
  ·((intro W hW; clear hW; go_simp) <;> with_reducible rfl)
  simp only [sq3, sq4]
  refine wpAnyH_ready (rs := [15]) (by kernel_rfl) (by simp) ?_
  refine AllReadyH.cons (o := _) rfl (fun K hK => ?_) AllReadyH.nil
  simp only [sq3]
  rw [if_pos (by rfl)]
  refine wp_store_blk 65 (.tmp 12) (.tmp 34) rfl g12 rfl _ rfl _ 65 hmB (by rfl) (by kernel_rfl) (by kernel_rfl) ?_
  intro w12 hq gr
  replace po := po.away av_po_mB gr
  replace gd := gd.away av_gd_mB gr
  replace hpB := blk_a hpB gr d_pB_mB
  replace hwB := blk_a hwB gr d_wB_mB
  replace hrB := blk_a hrB gr d_rB_mB
  replace hdB := blk_a hdB gr d_dB_mB
  replace hnt := blk_a hnt gr d_nt_mB
  replace hT := hT.away ap_mB gr hmB
  replace fr := fr.newer ap_mB gr pmB
  replace an_po := an_po.grown ap_mB gr
  replace ap_pB := ap_pB.grown ap_mB gr
  replace ap_wB := ap_wB.grown ap_mB gr
  replace ap_rB := ap_rB.grown ap_mB gr
  replace an_gd := an_gd.grown ap_mB gr
  replace ap_dB := ap_dB.grown ap_mB gr
  replace ap_mB := ap_mB.grown ap_mB gr
  replace bel := below_grown bel gr omB (Nat.le_trans hlo bel.size)
  clear hmB
  have hmB := hq
  clear hq gr
  refine hK.out _ _ ⟨hpB, hdB, hnt⟩ (fun hH13 => ?_)
  clear hK K
  simp only [Act.put]
  refine wpAnyH_take (i := 16) (v := ?_) rfl (by kernel_rfl) (by kernel_rfl) (by kernel_rfl) (fun _ _ _ h => h) (Or.inl ⟨by rfl, ?_⟩) hH13 ?_
  rotate_left
  ·((intro W hW; clear hW; go_simp) <;> with_reducible rfl)
  simp only [sq3, sq4]
  refine wpAnyH_done (by kernel_rfl) ?_ _
  go_wp2_with fail
  go_meet
  case rel => exact ⟨g12, rfl, rfl, hpB, hwB, hrB, hdB, hnt, hmB, omB, pmB, d_dB_mB, (ne_symm d_nt_dB), (ne_symm d_pB_dB), (ne_symm d_rB_dB), (ne_symm d_wB_dB), (ne_symm d_nt_mB), (ne_symm d_pB_mB), (ne_symm d_rB_mB), (ne_symm d_wB_mB), d_nt_pB, d_nt_rB, d_nt_wB, d_pB_rB, d_pB_wB, (ne_symm d_wB_rB), po, av_po_dB, av_po_mB, av_po_pB, av_po_rB, av_po_wB, gd, av_gd_dB, av_gd_mB, av_gd_nt, av_gd_pB, av_gd_rB, av_gd_wB, hT, fr, an_po, ap_pB, ap_wB, ap_rB, an_gd, ap_dB, ap_mB, bel⟩
 obtain ⟨w14, hw_⟩ : ∃ x, x = wc := ⟨_, rfl⟩
 subst hw_
 obtain ⟨g12, rfl, rfl, hpB, hwB, hrB, hdB, hnt, hmB, omB, pmB, d_dB_mB, d_dB_nt, d_dB_pB, d_dB_rB, d_dB_wB, d_mB_nt, d_mB_pB, d_mB_rB, d_mB_wB, d_nt_pB, d_nt_rB, d_nt_wB, d_pB_rB, d_pB_wB, d_rB_wB, po, av_po_dB, av_po_mB, av_po_pB, av_po_rB, av_po_wB, gd, av_gd_dB, av_gd_mB, av_gd_nt, av_gd_pB, av_gd_rB, av_gd_wB, hT, fr, an_po, ap_pB, ap_wB, ap_rB, an_gd, ap_dB, ap_mB, bel⟩ := hcut
 go_wp2_with fail
 replace bel := bel.drew
 replace hpB : w14.drew.heap[g5]? = _ := hpB
 replace hwB : w14.drew.heap[g6]? = _ := hwB
 replace hrB : w14.drew.heap[g8]? = _ := hrB
 replace hdB : w14.drew.heap[g10]? = _ := hdB
 replace hnt : w14.drew.heap[gn]? = _ := hnt
 replace hmB : w14.drew.heap[g12]? = _ := hmB
 replace po := po.drew
 replace gd := gd.drew
 replace hT := np_drew hT
 replace fr := fn_drew fr
 replace an_po := an_drew an_po
 replace ap_pB := anp_drew ap_pB
 replace ap_wB := anp_drew ap_wB
 replace ap_rB := anp_drew ap_rB
 replace an_gd := an_drew an_gd
 replace ap_dB := anp_drew ap_dB
 replace ap_mB := anp_drew ap_mB
 refine wp_region_held_drew (S := fun W => W.heap[g6]? = some (.cells #[.int .u8 (c0.toNat : Int), .int .u8 (c1.toNat : Int), .int .u8 (c2.toNat : Int), .int .u8 (c3.toNat : Int)] 35 (0, 0)) ∧ W.heap[g12]? = some (.cells #[.int .i64 m.pr, .int .i64 m.o, .int .u8 (m.ad.a.toNat : Int), .int .u8 (m.ad.b.toNat : Int), .int .u8 (m.ad.c.toNat : Int), .int .u8 (m.ad.d.toNat : Int), .int .i64 m.i, .int .i64 m.k, .int .i64 m.u] 65 (0, 0))) (by kernel_rfl) ⟨hwB, hmB⟩ (fun hH => ?_)
 generalize w14.drew = w15 at bel hpB hwB hrB hdB hnt hmB po gd hT fr an_po ap_pB ap_wB ap_rB an_gd ap_dB ap_mB hH ⊢
 refine wpAnyH_take (i := 0) (v := .agg #[.int .u8 (c0.toNat : Int), .int .u8 (c1.toNat : Int), .int .u8 (c2.toNat : Int), .int .u8 (c3.toNat : Int)]) rfl (by kernel_rfl) (by kernel_rfl) (by kernel_rfl) (fun _ _ _ h => h) (yieldsIf_load_part (by kernel_rfl) 35 _ rfl g6 0 4 rfl _ 35 (0, 0) (fun W hW => hW.1) _ rfl _ Tryz.underlying35 rfl (by kernel_rfl)) hH ?_
 simp only [Act.put, List.getElem_toArray, List.getElem_cons_zero, List.setIfInBounds_toArray, List.set_cons_zero, List.set_cons_succ]
 refine wpAnyH_take (i := 1) (v := ?_) rfl (by kernel_rfl) (by kernel_rfl) (by kernel_rfl) (fun _ _ _ h => h) (Or.inl ⟨by rfl, ?_⟩) hH ?_
 rotate_left
 ·((intro W hW; clear hW; go_simp) <;> with_reducible rfl)
 simp only [sq3, sq4]
 refine wpAnyH_take (i := 2) (v := ?_) rfl (by kernel_rfl) (by kernel_rfl) (by kernel_rfl) (fun _ _ _ h => h) (Or.inl ⟨by rfl, ?_⟩) hH ?_
 rotate_left
 ·((intro W hW; have hk := cell_lit (hW.2) 1 _ rfl; clear hW; go_simp) <;> with_reducible rfl)
 simp only [sq3, sq4]
 refine wpAnyH_take (i := 3) (v := ?_) rfl (by kernel_rfl) (by kernel_rfl) (by kernel_rfl) (fun _ _ _ h => h) (Or.inl ⟨by rfl, ?_⟩) hH ?_
 rotate_left
 ·((intro W hW; clear hW; go_simp) <;> with_reducible rfl)
 simp only [sq3, sq4]
 refine wpAnyH_ready (rs := [4]) (by kernel_rfl) (by simp) ?_
 refine AllReadyH.cons (o := _) rfl (fun K hK => ?_) AllReadyH.nil
 simp only [sq3]
 rw [if_pos (by rfl)]
 refine wp_store_part 35 (.tmp 43) (.tmp 40) rfl g5 6 rfl [.int .u8 (c0.toNat : Int), .int .u8 (c1.toNat : Int), .int .u8 (c2.toNat : Int), .int .u8 (c3.toNat : Int)] rfl [.int .i64 tos, .int .i64 id, .int .i64 fl, .int .i64 pt, .int .i64 ttl, .int .i64 17, .int .u8 (a0.toNat : Int), .int .u8 (a1.toNat : Int), .int .u8 (a2.toNat : Int), .int .u8 (a3.toNat : Int), .int .u8 (b0.toNat : Int), .int .u8 (b1.toNat : Int), .int .u8 (b2.toNat : Int), .int .u8 (b3.toNat : Int), .slice So no co, .slice Sb nb cb] 38 hpB (by simp) [.int .i64 tos, .int .i64 id, .int .i64 fl, .int .i64 pt, .int .i64 ttl, .int .i64 17, .int .u8 (c0.toNat : Int), .int .u8 (c1.toNat : Int), .int .u8 (c2.toNat : Int), .int .u8 (c3.toNat : Int), .int .u8 (b0.toNat : Int), .int .u8 (b1.toNat : Int), .int .u8 (b2.toNat : Int), .int .u8 (b3.toNat : Int), .slice So no co, .slice Sb nb cb] rfl (by kernel_rfl) (by rfl) ?_
 intro w16 hq gr
 replace po := po.away av_po_pB gr
 replace gd := gd.away av_gd_pB gr
 replace hwB := blk_a hwB gr (ne_symm d_pB_wB)
 replace hrB := blk_a hrB gr (ne_symm d_pB_rB)
 replace hdB := blk_a hdB gr d_dB_pB
 replace hnt := blk_a hnt gr d_nt_pB
 replace hmB := blk_a hmB gr d_mB_pB
 replace hT := hT.away ap_pB gr hpB
 replace fr := fr.newer ap_pB gr ppB
 replace an_po := an_po.grown ap_pB gr
 replace ap_pB := ap_pB.grown ap_pB gr
 replace ap_wB := ap_wB.grown ap_pB gr
 replace ap_rB := ap_rB.grown ap_pB gr
 replace an_gd := an_gd.grown ap_pB gr
 replace ap_dB := ap_dB.grown ap_pB gr
 replace ap_mB := ap_mB.grown ap_pB gr
 replace bel := below_grown bel gr opB (Nat.le_trans hlo bel.size)
 clear hpB
 have hpB := hq
 clear hq gr
 refine hK.out _ _ ⟨hwB, hmB⟩ (fun hH17 => ?_)
 clear hK K
 simp only [Act.put]
 refine wpAnyH_take (i := 5) (v := ?_) rfl (by kernel_rfl) (by kernel_rfl) (by kernel_rfl) (fun _ _ _ h => h) (Or.inl ⟨by rfl, ?_⟩) hH17 ?_
 rotate_left
 ·((intro W hW; clear hW; go_simp) <;> with_reducible rfl)
 simp only [sq3, sq4]
 refine wpAnyH_ready (rs := [6]) (by kernel_rfl) (by simp) ?_
 refine AllReadyH.cons (o := _) rfl (fun K hK => ?_) AllReadyH.nil
 simp only [sq3]
 rw [if_pos (by rfl)]
 refine wp_store_part 3 (.tmp 44) (.tmp 42) rfl g10 0 rfl [.int .i64 m.o] rfl [.int .i64 df, .int .i64 dt, .slice D nd cd] 54 hdB (by simp) [.int .i64 m.o, .int .i64 dt, .slice D nd cd] rfl (by kernel_rfl) (by rfl) ?_
 intro w18 hq gr
 replace po := po.away av_po_dB gr
 replace gd := gd.away av_gd_dB gr
 replace hpB := blk_a hpB gr (ne_symm d_dB_pB)
 replace hwB := blk_a hwB gr (ne_symm d_dB_wB)
 replace hrB := blk_a hrB gr (ne_symm d_dB_rB)
 replace hnt := blk_a hnt gr (ne_symm d_dB_nt)
 replace hmB := blk_a hmB gr (ne_symm d_dB_mB)
 replace hT := hT.away ap_dB gr hdB
 replace fr := fr.newer ap_dB gr pdB
 replace an_po := an_po.grown ap_dB gr
 replace ap_pB := ap_pB.grown ap_dB gr
 replace ap_wB := ap_wB.grown ap_dB gr
 replace ap_rB := ap_rB.grown ap_dB gr
 replace an_gd := an_gd.grown ap_dB gr
 replace ap_dB := ap_dB.grown ap_dB gr
 replace ap_mB := ap_mB.grown ap_dB gr
 replace bel := below_grown bel gr odB (Nat.le_trans hlo bel.size)
 clear hdB
 have hdB := hq
 clear hq gr
 refine hK.out _ _ ⟨hwB, hmB⟩ (fun hH19 => ?_)
 clear hK K
 simp only [Act.put]
 refine wpAnyH_done (by kernel_rfl) ?_ _
 have R45 := Lib.hid (range_lit hpB 0 16 [.int .i64 tos, .int .i64 id, .int .i64 fl, .int .i64 pt, .int .i64 ttl, .int .i64 17, .int .u8 (c0.toNat : Int), .int .u8 (c1.toNat : Int), .int .u8 (c2.toNat : Int), .int .u8 (c3.toNat : Int), .int .u8 (b0.toNat : Int), .int .u8 (b1.toNat : Int), .int .u8 (b2.toNat : Int), .int .u8 (b3.toNat : Int), .slice So no co, .slice Sb nb cb] rfl)
 go_wp2_with (first | ((with_reducible show wpList _ _ _ (⟨some 45, _, _, _, _, _⟩ :: _) _ _); refine wpList_load_rng 38 (.tmp 5) rfl (by kernel_rfl) _ _ rfl _ R45.out _ Tryz.underlying38 rfl (by kernel_rfl) ?_; have R46 := Lib.hid (range_lit hdB 0 3 [.int .i64 m.o, .int .i64 dt, .slice D nd cd] rfl)) | ((with_reducible show wpList _ _ _ (⟨some 46, _, _, _, _, _⟩ :: _) _ _); refine wpList_load_rng 54 (.tmp 10) rfl (by kernel_rfl) _ _ rfl _ R46.out _ Tryz.underlying54 rfl (by kernel_rfl) ?_))
 try clear R45
 try clear R46
 have hsz_ := bel.size
 with_reducible refine (udput_is _ _ _ _ _ _ _ _ _ _ _ _ _ _ _ _ _ _ _ _ _ _ _ _ _ _  po gd HP1.out HP2.out HN4.out HNO.out).mono ?_
 rintro e w20 ⟨Ao, co2, Ab, cb2, rfl, qo, qb, fqo_, fqb_, b20⟩
 have av_qo_pB := fqo_.av (hlt hpB)
 have av_qo_wB := fqo_.av (hlt hwB)
 have av_qo_rB := fqo_.av (hlt hrB)
 have av_qo_dB := fqo_.av (hlt hdB)
 have av_qo_nt := fqo_.av (hlt hnt)
 have av_qo_mB := fqo_.av (hlt hmB)
 have av_qb_pB := fqb_.av (hlt hpB)
 have av_qb_wB := fqb_.av (hlt hwB)
 have av_qb_rB := fqb_.av (hlt hrB)
 have av_qb_dB := fqb_.av (hlt hdB)
 have av_qb_nt := fqb_.av (hlt hnt)
 have av_qb_mB := fqb_.av (hlt hmB)
 have an_qo := hT.an fqo_
 have an_qb := hT.an fqb_
 replace hpB := blk_u hpB b20
 replace hwB := blk_u hwB b20
 replace hrB := blk_u hrB b20
 replace hdB := blk_u hdB b20
 replace hnt := blk_u hnt b20
 replace hmB := blk_u hmB b20
 replace po := po.below b20
 replace gd := gd.below b20
 replace hT := hT.below b20
 replace fr := fr.below b20
 replace an_po := an_po.below b20
 replace ap_pB := ap_pB.below b20
 replace ap_wB := ap_wB.below b20
 replace ap_rB := ap_rB.below b20
 replace an_gd := an_gd.below b20
 replace ap_dB := ap_dB.below b20
 replace ap_mB := ap_mB.below b20
 replace an_qo := an_qo.below b20
 replace an_qb := an_qb.below b20
 replace bel := bel.trans (b20.mono (Nat.le_trans hlo bel.size))
 clear b20
 replace qo : Sl w20 (Ao) (no) (co2) (lp) := qo
 replace qb : Sl w20 (Ab) (8 + nd) (cb2) (udBytes c0 c1 c2 c3 b0 b1 b2 b3 m.o dt ld) := qb
 have fqo := Fr.mono fqo_ hsz_
 have fqb := Fr.mono fqb_ hsz_
 clear fqo_ fqb_ hsz_
 go_wp2_with (first | ((with_reducible show wpList _ _ _ (⟨none, Op.store _ (.tmp 8) _, _, _, _, _⟩ :: _) _ _); refine wpList_store_blk rfl 38 (.tmp 8) (.tmp 48) rfl g8 rfl _ rfl _ 38 hrB (by rfl) (by kernel_rfl) (by kernel_rfl) ?_; intro w21 hq gr; replace po := po.away av_po_rB gr; replace gd := gd.away av_gd_rB gr; replace qo := qo.away av_qo_rB gr; replace qb := qb.away av_qb_rB gr; replace hpB := blk_a hpB gr d_pB_rB; replace hwB := blk_a hwB gr (ne_symm d_rB_wB); replace hdB := blk_a hdB gr d_dB_rB; replace hnt := blk_a hnt gr d_nt_rB; replace hmB := blk_a hmB gr d_mB_rB; replace hT := hT.away ap_rB gr hrB; replace fr := fr.newer ap_rB gr prB; replace an_po := an_po.grown ap_rB gr; replace ap_pB := ap_pB.grown ap_rB gr; replace ap_wB := ap_wB.grown ap_rB gr; replace ap_rB := ap_rB.grown ap_rB gr; replace an_gd := an_gd.grown ap_rB gr; replace ap_dB := ap_dB.grown ap_rB gr; replace ap_mB := ap_mB.grown ap_rB gr; replace an_qo := an_qo.grown ap_rB gr; replace an_qb := an_qb.grown ap_rB gr; replace bel := below_grown bel gr orB (Nat.le_trans hlo bel.size); clear hrB; have hrB := hq; clear hq gr))
 exact bodyPost_ret (results_cell_tmp_row rfl _ _ _ _ _ _ _ rfl hrB Tryz.underlying38 rfl (by kernel_rfl) (.int .i64 0) rfl) rfl ⟨Ao, co2, Ab, cb2, rfl, hT, fr, bel, qo, qb, an_qo, an_qb, fqo, fqb⟩
theorem ndin_no {lo gn gt gk : Nat} {s : Ts} {k : Ks} {s' : Ts} {tos id fl pt ttl : Int} {a0 a1 a2 a3 b0 b1 b2 b3 : UInt8} {So Sb : Option Addr} {no co nb cb : Nat} {lp lb : List UInt8} {t : Int} {df dt : Int} {ld : List UInt8} {nd : Nat} (w : World) (hT : Np lo gn gt gk w s k) (po : Sl w So no co lp) (pb : Sl w Sb nb cb lb) (an_po : An gn gt gk w So no) (hm : nb ≤ 100000) (hno : no ≤ 100000) (hg : udGet fl pt 17 a0 a1 a2 a3 b0 b1 b2 b3 lb = ((df, dt), ld, 0)) (hld : ld.length = nd) (hc : InE lo gt s s' 17 dt t)  : Calls Tryz.prog 33 #[.pointer (some ⟨gn, 0, none⟩), .agg #[.int .i64 tos, .int .i64 id, .int .i64 fl, .int .i64 pt, .int .i64 ttl, .int .i64 17, .int .u8 (a0.toNat : Int), .int .u8 (a1.toNat : Int), .int .u8 (a2.toNat : Int), .int .u8 (a3.toNat : Int), .int .u8 (b0.toNat : Int), .int .u8 (b1.toNat : Int), .int .u8 (b2.toNat : Int), .int .u8 (b3.toNat : Int), .slice So no co, .slice Sb nb cb], .int .i64 t] w fun e w' => e = .returned (.tuple #[.agg #[.int .i64 0, .int .i64 0, .int .i64 0, .int .i64 0, .int .i64 0, .int .i64 0, .int .u8 0, .int .u8 0, .int .u8 0, .int .u8 0, .int .u8 0, .int .u8 0, .int .u8 0, .int .u8 0, .slice none 0 0, .slice none 0 0], .int .i64 6]) ∧ Np lo gn gt gk w' s' k ∧ Fn gn gt gk w w' ∧ Below lo w w' := by
 have hlo : lo ≤ w.heap.size := hT.lo_le
 have HLO := Lib.hid hlo
 have hnt := hT.nat
 have fr := Fn.refl gn gt gk w
 have HM := Lib.hid hm
 clear hm
 have HNO := Lib.hid hno
 clear hno
 have HG := Lib.hid hg
 clear hg
 have HLD := Lib.hid hld
 clear hld
 have bel := Below.refl lo w
 go_enter Tryz.func33, Tryz.ntmps33
 go_wp2_with (first | ((with_reducible show wpList _ _ _ (⟨some 4, _, _, _, _, _⟩ :: _) _ _); refine wpList_box_n rfl 38 (.tmp 1) rfl #[.int .i64 tos, .int .i64 id, .int .i64 fl, .int .i64 pt, .int .i64 ttl, .int .i64 17, .int .u8 (a0.toNat : Int), .int .u8 (a1.toNat : Int), .int .u8 (a2.toNat : Int), .int .u8 (a3.toNat : Int), .int .u8 (b0.toNat : Int), .int .u8 (b1.toNat : Int), .int .u8 (b2.toNat : Int), .int .u8 (b3.toNat : Int), .slice So no co, .slice Sb nb cb] rfl ?_; intro g4 w1 ge lt hh bb; have ap_pB := hT.ap ge; have d_nt_pB := ne_new (hlt hnt) ge; have av_po_pB := po.av_new ge; have av_pb_pB := pb.av_new ge; have opB := Nat.le_trans (Nat.le_trans hlo bel.size) ge; have ppB := Nat.le_trans bel.size ge; replace hnt := blk_u hnt bb; replace po := po.below bb; replace pb := pb.below bb; replace hT := hT.below bb; replace fr := fr.below bb; replace an_po := an_po.below bb; replace ap_pB := ap_pB.below bb; replace bel := bel.trans (bb.mono (Nat.le_trans hlo bel.size)); have hpB := hh; clear hh lt ge bb) | ((with_reducible show wpList _ _ _ (⟨some 6, _, _, _, _, _⟩ :: _) _ _); refine wpList_new_a rfl 38 rfl #[.int .i64 0, .int .i64 0, .int .i64 0, .int .i64 0, .int .i64 0, .int .i64 0, .int .u8 0, .int .u8 0, .int .u8 0, .int .u8 0, .int .u8 0, .int .u8 0, .int .u8 0, .int .u8 0, .slice none 0 0, .slice none 0 0] (by kernel_rfl) ?_; intro g6 w2 ge hh bb; have ap_rB := hT.ap ge; have d_nt_rB := ne_new (hlt hnt) ge; have d_pB_rB := ne_new (hlt hpB) ge; have av_po_rB := po.av_new ge; have av_pb_rB := pb.av_new ge; have orB := Nat.le_trans (Nat.le_trans hlo bel.size) ge; have prB := Nat.le_trans bel.size ge; replace hnt := blk_u hnt bb; replace hpB := blk_u hpB bb; replace po := po.below bb; replace pb := pb.below bb; replace hT := hT.below bb; replace fr := fr.below bb; replace an_po := an_po.below bb; replace ap_pB := ap_pB.below bb; replace ap_rB := ap_rB.below bb; replace bel := bel.trans (bb.mono (Nat.le_trans hlo bel.size)); have hrB := hh; clear hh ge bb; have R12 := Lib.hid (range_lit hpB 0 16 [.int .i64 tos, .int .i64 id, .int .i64 fl, .int .i64 pt, .int .i64 ttl, .int .i64 17, .int .u8 (a0.toNat : Int), .int .u8 (a1.toNat : Int), .int .u8 (a2.toNat : Int), .int .u8 (a3.toNat : Int), .int .u8 (b0.toNat : Int), .int .u8 (b1.toNat : Int), .int .u8 (b2.toNat : Int), .int .u8 (b3.toNat : Int), .slice So no co, .slice Sb nb cb] rfl)) | ((with_reducible show wpList _ _ _ (⟨some 12, _, _, _, _, _⟩ :: _) _ _); refine wpList_load_rng 38 (.tmp 4) rfl (by kernel_rfl) _ _ rfl _ R12.out _ Tryz.underlying38 rfl (by kernel_rfl) ?_))
 try clear R12
 with_reducible refine (udget_is _ _ _ _ _ _ _ _ _ _ _ _ _ _ _ _ _ _ _ _  pb HM.out HG.out HLD.out).mono ?_
 rintro e w3 ⟨D, cd, rfl, gd, fd, b3⟩
 have av_gd_nt := fd.av (hlt hnt)
 have av_gd_pB := fd.av (hlt hpB)
 have av_gd_rB := fd.av (hlt hrB)
 have an_gd := hT.an fd
 replace hnt := blk_u hnt b3
 replace hpB := blk_u hpB b3
 replace hrB := blk_u hrB b3
 replace po := po.below b3
 replace pb := pb.below b3
 replace hT := hT.below b3
 replace fr := fr.below b3
 replace an_po := an_po.below b3
 replace ap_pB := ap_pB.below b3
 replace ap_rB := ap_rB.below b3
 replace an_gd := an_gd.below b3
 replace bel := bel.trans (b3.mono (Nat.le_trans hlo bel.size))
 clear b3
 replace gd : Sl w3 (D) (nd) (cd) (ld) := gd
 go_wp2_with (first | ((with_reducible show wpList _ _ _ (⟨some 8, _, _, _, _, _⟩ :: _) _ _); refine wpList_new_a rfl 54 rfl #[.int .i64 0, .int .i64 0, .slice none 0 0] (by kernel_rfl) ?_; intro g8 w4 ge hh bb; have ap_dB := hT.ap ge; have d_nt_dB := ne_new (hlt hnt) ge; have d_pB_dB := ne_new (hlt hpB) ge; have d_rB_dB := ne_new (hlt hrB) ge; have av_po_dB := po.av_new ge; have av_pb_dB := pb.av_new ge; have av_gd_dB := gd.av_new ge; have odB := Nat.le_trans (Nat.le_trans hlo bel.size) ge; have pdB := Nat.le_trans bel.size ge; replace hnt := blk_u hnt bb; replace hpB := blk_u hpB bb; replace hrB := blk_u hrB bb; replace po := po.below bb; replace pb := pb.below bb; replace gd := gd.below bb; replace hT := hT.below bb; replace fr := fr.below bb; replace an_po := an_po.below bb; replace ap_pB := ap_pB.below bb; replace ap_rB := ap_rB.below bb; replace an_gd := an_gd.below bb; replace ap_dB := ap_dB.below bb; replace bel := bel.trans (bb.mono (Nat.le_trans hlo bel.size)); have hdB := hh; clear hh ge bb) | ((with_reducible show wpList _ _ _ (⟨none, Op.store _ (.tmp 8) _, _, _, _, _⟩ :: _) _ _); refine wpList_store_blk rfl 54 (.tmp 8) (.tmp 14) rfl g8 rfl _ rfl _ 54 hdB (by rfl) (by kernel_rfl) (by kernel_rfl) ?_; intro w5 hq gr; replace po := po.away av_po_dB gr; replace pb := pb.away av_pb_dB gr; replace gd := gd.away av_gd_dB gr; replace hnt := blk_a hnt gr d_nt_dB; replace hpB := blk_a hpB gr d_pB_dB; replace hrB := blk_a hrB gr d_rB_dB; replace hT := hT.away ap_dB gr hdB; replace fr := fr.newer ap_dB gr pdB; replace an_po := an_po.grown ap_dB gr; replace ap_pB := ap_pB.grown ap_dB gr; replace ap_rB := ap_rB.grown ap_dB gr; replace an_gd := an_gd.grown ap_dB gr; replace ap_dB := ap_dB.grown ap_dB gr; replace bel := below_grown bel gr odB (Nat.le_trans hlo bel.size); clear hdB; have hdB := hq; clear hq gr; have R23 := cell_lit hdB 1 _ rfl))
 try clear R23
 with_reducible refine (nat_none _ hT hc).mono ?_
 rintro e w6 ⟨rfl, hT_, f_, bb⟩
 clear hnt
 have x_ := f_ _ _ _ _ hpB ap_pB
 replace hpB := x_.1
 replace ap_pB := x_.2
 clear x_
 have x_ := f_ _ _ _ _ hrB ap_rB
 replace hrB := x_.1
 replace ap_rB := x_.2
 clear x_
 have x_ := f_ _ _ _ _ hdB ap_dB
 replace hdB := x_.1
 replace ap_dB := x_.2
 clear x_
 have x_ := f_.sl po an_po
 replace po := x_.1
 replace an_po := x_.2
 clear x_
 clear pb
 have x_ := f_.sl gd an_gd
 replace gd := x_.1
 replace an_gd := x_.2
 clear x_
 replace fr := fr.trans f_
 clear hT
 have hT := hT_
 replace bel := bel.trans bb
 clear bb f_ hT_
 have hnt := hT.nat
 go_wp2_with (first | ((with_reducible show wpList _ _ _ (⟨some 10, _, _, _, _, _⟩ :: _) _ _); refine wpList_new_a rfl 65 rfl #[.int .i64 0, .int .i64 0, .int .u8 0, .int .u8 0, .int .u8 0, .int .u8 0, .int .i64 0, .int .i64 0, .int .i64 0] (by kernel_rfl) ?_; intro g10 w7 ge hh bb; have ap_mB := hT.ap ge; have d_pB_mB := ne_new (hlt hpB) ge; have d_rB_mB := ne_new (hlt hrB) ge; have d_dB_mB := ne_new (hlt hdB) ge; have d_nt_mB := ne_new (hlt hnt) ge; have av_po_mB := po.av_new ge; have av_gd_mB := gd.av_new ge; have omB := Nat.le_trans (Nat.le_trans hlo bel.size) ge; have pmB := Nat.le_trans bel.size ge; replace hpB := blk_u hpB bb; replace hrB := blk_u hrB bb; replace hdB := blk_u hdB bb; replace hnt := blk_u hnt bb; replace po := po.below bb; replace gd := gd.below bb; replace hT := hT.below bb; replace fr := fr.below bb; replace an_po := an_po.below bb; replace ap_pB := ap_pB.below bb; replace ap_rB := ap_rB.below bb; replace an_gd := an_gd.below bb; replace ap_dB := ap_dB.below bb; replace ap_mB := ap_mB.below bb; replace bel := bel.trans (bb.mono (Nat.le_trans hlo bel.size)); have hmB := hh; clear hh ge bb) | ((with_reducible show wpList _ _ _ (⟨none, Op.store _ (.tmp 10) _, _, _, _, _⟩ :: _) _ _); refine wpList_store_blk rfl 65 (.tmp 10) (.tmp 26) rfl g10 rfl _ rfl _ 65 hmB (by rfl) (by kernel_rfl) (by kernel_rfl) ?_; intro w8 hq gr; replace po := po.away av_po_mB gr; replace gd := gd.away av_gd_mB gr; replace hpB := blk_a hpB gr d_pB_mB; replace hrB := blk_a hrB gr d_rB_mB; replace hdB := blk_a hdB gr d_dB_mB; replace hnt := blk_a hnt gr d_nt_mB; replace hT := hT.away ap_mB gr hmB; replace fr := fr.newer ap_mB gr pmB; replace an_po := an_po.grown ap_mB gr; replace ap_pB := ap_pB.grown ap_mB gr; replace ap_rB := ap_rB.grown ap_mB gr; replace an_gd := an_gd.grown ap_mB gr; replace ap_dB := ap_dB.grown ap_mB gr; replace ap_mB := ap_mB.grown ap_mB gr; replace bel := below_grown bel gr omB (Nat.le_trans hlo bel.size); clear hmB; have hmB := hq; clear hq gr) | ((with_reducible show wpList _ _ _ (⟨none, Op.store _ (.tmp 6) _, _, _, _, _⟩ :: _) _ _); refine wpList_store_blk rfl 38 (.tmp 6) (.tmp 30) rfl g6 rfl _ rfl _ 38 hrB (by rfl) (by kernel_rfl) (by kernel_rfl) ?_; intro w9 hq gr; replace po := po.away av_po_rB gr; replace gd := gd.away av_gd_rB gr; replace hpB := blk_a hpB gr d_pB_rB; replace hdB := blk_a hdB gr (ne_symm d_rB_dB); replace hnt := blk_a hnt gr d_nt_rB; replace hmB := blk_a hmB gr (ne_symm d_rB_mB); replace hT := hT.away ap_rB gr hrB; replace fr := fr.newer ap_rB gr prB; replace an_po := an_po.grown ap_rB gr; replace ap_pB := ap_pB.grown ap_rB gr; replace ap_rB := ap_rB.grown ap_rB gr; replace an_gd := an_gd.grown ap_rB gr; replace ap_dB := ap_dB.grown ap_rB gr; replace ap_mB := ap_mB.grown ap_rB gr; replace bel := below_grown bel gr orB (Nat.le_trans hlo bel.size); clear hrB; have hrB := hq; clear hq gr))
 exact bodyPost_ret (results_cell_tmp_row rfl _ _ _ _ _ _ _ rfl hrB Tryz.underlying38 rfl (by kernel_rfl) (.int .i64 6) rfl) rfl ⟨rfl, hT, fr, bel⟩
theorem ndin_ok {lo gn gt gk : Nat} {s : Ts} {k : Ks} {s' s2 : Ts} {m : Mp} {b : Bool} {tos id fl pt ttl : Int} {a0 a1 a2 a3 b0 b1 b2 b3 : UInt8} {So Sb : Option Addr} {no co nb cb : Nat} {lp lb : List UInt8} {t : Int} {df dt : Int} {ld : List UInt8} {nd : Nat} (w : World) (hT : Np lo gn gt gk w s k) (po : Sl w So no co lp) (pb : Sl w Sb nb cb lb) (an_po : An gn gt gk w So no) (hm : nb ≤ 100000) (hno : no ≤ 100000) (hg : udGet fl pt 17 a0 a1 a2 a3 b0 b1 b2 b3 lb = ((df, dt), ld, 0)) (hld : ld.length = nd) (hc : InC lo gt s s' 17 dt t m) (hv : LiveC lo gt s' s2 17 m.o t 120 b) (h1 : portOk df = true) (h2 : portOk m.i = true) (hn : nd ≤ 1472)  : Calls Tryz.prog 33 #[.pointer (some ⟨gn, 0, none⟩), .agg #[.int .i64 tos, .int .i64 id, .int .i64 fl, .int .i64 pt, .int .i64 ttl, .int .i64 17, .int .u8 (a0.toNat : Int), .int .u8 (a1.toNat : Int), .int .u8 (a2.toNat : Int), .int .u8 (a3.toNat : Int), .int .u8 (b0.toNat : Int), .int .u8 (b1.toNat : Int), .int .u8 (b2.toNat : Int), .int .u8 (b3.toNat : Int), .slice So no co, .slice Sb nb cb], .int .i64 t] w fun e w' => ∃ Ao co' Ab cb', e = .returned (.tuple #[.agg #[.int .i64 tos, .int .i64 id, .int .i64 fl, .int .i64 pt, .int .i64 ttl, .int .i64 17, .int .u8 (a0.toNat : Int), .int .u8 (a1.toNat : Int), .int .u8 (a2.toNat : Int), .int .u8 (a3.toNat : Int), .int .u8 (m.ad.a.toNat : Int), .int .u8 (m.ad.b.toNat : Int), .int .u8 (m.ad.c.toNat : Int), .int .u8 (m.ad.d.toNat : Int), .slice Ao no co', .slice Ab (8 + nd) cb'], .int .i64 0]) ∧ Np lo gn gt gk w' s2 k ∧ Fn gn gt gk w w' ∧ Below lo w w' ∧ Sl w' Ao no co' lp ∧ Sl w' Ab (8 + nd) cb' (udBytes a0 a1 a2 a3 m.ad.a m.ad.b m.ad.c m.ad.d df m.i ld) ∧ An gn gt gk w' Ao no ∧ An gn gt gk w' Ab (8 + nd) ∧ Fr w.heap.size Ao no ∧ Fr w.heap.size Ab (8 + nd) := by
 have hlo : lo ≤ w.heap.size := hT.lo_le
 have HLO := Lib.hid hlo
 have hnt := hT.nat
 have fr := Fn.refl gn gt gk w
 have HM := Lib.hid hm
 clear hm
 have HNO := Lib.hid hno
 clear hno
 have HG := Lib.hid hg
 clear hg
 have HLD := Lib.hid hld
 clear hld
 have HP1 := Lib.hid h1
 clear h1
 have HP2 := Lib.hid h2
 clear h2
 have HN4 := Lib.hid hn
 clear hn
 have bel := Below.refl lo w
 go_enter Tryz.func33, Tryz.ntmps33
 go_wp2_with (first | ((with_reducible show wpList _ _ _ (⟨some 4, _, _, _, _, _⟩ :: _) _ _); refine wpList_box_n rfl 38 (.tmp 1) rfl #[.int .i64 tos, .int .i64 id, .int .i64 fl, .int .i64 pt, .int .i64 ttl, .int .i64 17, .int .u8 (a0.toNat : Int), .int .u8 (a1.toNat : Int), .int .u8 (a2.toNat : Int), .int .u8 (a3.toNat : Int), .int .u8 (b0.toNat : Int), .int .u8 (b1.toNat : Int), .int .u8 (b2.toNat : Int), .int .u8 (b3.toNat : Int), .slice So no co, .slice Sb nb cb] rfl ?_; intro g4 w1 ge lt hh bb; have ap_pB := hT.ap ge; have d_nt_pB := ne_new (hlt hnt) ge; have av_po_pB := po.av_new ge; have av_pb_pB := pb.av_new ge; have opB := Nat.le_trans (Nat.le_trans hlo bel.size) ge; have ppB := Nat.le_trans bel.size ge; replace hnt := blk_u hnt bb; replace po := po.below bb; replace pb := pb.below bb; replace hT := hT.below bb; replace fr := fr.below bb; replace an_po := an_po.below bb; replace ap_pB := ap_pB.below bb; replace bel := bel.trans (bb.mono (Nat.le_trans hlo bel.size)); have hpB := hh; clear hh lt ge bb) | ((with_reducible show wpList _ _ _ (⟨some 6, _, _, _, _, _⟩ :: _) _ _); refine wpList_new_a rfl 38 rfl #[.int .i64 0, .int .i64 0, .int .i64 0, .int .i64 0, .int .i64 0, .int .i64 0, .int .u8 0, .int .u8 0, .int .u8 0, .int .u8 0, .int .u8 0, .int .u8 0, .int .u8 0, .int .u8 0, .slice none 0 0, .slice none 0 0] (by kernel_rfl) ?_; intro g6 w2 ge hh bb; have ap_rB := hT.ap ge; have d_nt_rB := ne_new (hlt hnt) ge; have d_pB_rB := ne_new (hlt hpB) ge; have av_po_rB := po.av_new ge; have av_pb_rB := pb.av_new ge; have orB := Nat.le_trans (Nat.le_trans hlo bel.size) ge; have prB := Nat.le_trans bel.size ge; replace hnt := blk_u hnt bb; replace hpB := blk_u hpB bb; replace po := po.below bb; replace pb := pb.below bb; replace hT := hT.below bb; replace fr := fr.below bb; replace an_po := an_po.below bb; replace ap_pB := ap_pB.below bb; replace ap_rB := ap_rB.below bb; replace bel := bel.trans (bb.mono (Nat.le_trans hlo bel.size)); have hrB := hh; clear hh ge bb; have R12 := Lib.hid (range_lit hpB 0 16 [.int .i64 tos, .int .i64 id, .int .i64 fl, .int .i64 pt, .int .i64 ttl, .int .i64 17, .int .u8 (a0.toNat : Int), .int .u8 (a1.toNat : Int), .int .u8 (a2.toNat : Int), .int .u8 (a3.toNat : Int), .int .u8 (b0.toNat : Int), .int .u8 (b1.toNat : Int), .int .u8 (b2.toNat : Int), .int .u8 (b3.toNat : Int), .slice So no co, .slice Sb nb cb] rfl)) | ((with_reducible show wpList _ _ _ (⟨some 12, _, _, _, _, _⟩ :: _) _ _); refine wpList_load_rng 38 (.tmp 4) rfl (by kernel_rfl) _ _ rfl _ R12.out _ Tryz.underlying38 rfl (by kernel_rfl) ?_))
 try clear R12
 with_reducible refine (udget_is _ _ _ _ _ _ _ _ _ _ _ _ _ _ _ _ _ _ _ _  pb HM.out HG.out HLD.out).mono ?_
 rintro e w3 ⟨D, cd, rfl, gd, fd, b3⟩
 have av_gd_nt := fd.av (hlt hnt)
 have av_gd_pB := fd.av (hlt hpB)
 have av_gd_rB := fd.av (hlt hrB)
 have an_gd := hT.an fd
 replace hnt := blk_u hnt b3
 replace hpB := blk_u hpB b3
 replace hrB := blk_u hrB b3
 replace po := po.below b3
 replace pb := pb.below b3
 replace hT := hT.below b3
 replace fr := fr.below b3
 replace an_po := an_po.below b3
 replace ap_pB := ap_pB.below b3
 replace ap_rB := ap_rB.below b3
 replace an_gd := an_gd.below b3
 replace bel := bel.trans (b3.mono (Nat.le_trans hlo bel.size))
 clear b3
 replace gd : Sl w3 (D) (nd) (cd) (ld) := gd
 go_wp2_with (first | ((with_reducible show wpList _ _ _ (⟨some 8, _, _, _, _, _⟩ :: _) _ _); refine wpList_new_a rfl 54 rfl #[.int .i64 0, .int .i64 0, .slice none 0 0] (by kernel_rfl) ?_; intro g8 w4 ge hh bb; have ap_dB := hT.ap ge; have d_nt_dB := ne_new (hlt hnt) ge; have d_pB_dB := ne_new (hlt hpB) ge; have d_rB_dB := ne_new (hlt hrB) ge; have av_po_dB := po.av_new ge; have av_pb_dB := pb.av_new ge; have av_gd_dB := gd.av_new ge; have odB := Nat.le_trans (Nat.le_trans hlo bel.size) ge; have pdB := Nat.le_trans bel.size ge; replace hnt := blk_u hnt bb; replace hpB := blk_u hpB bb; replace hrB := blk_u hrB bb; replace po := po.below bb; replace pb := pb.below bb; replace gd := gd.below bb; replace hT := hT.below bb; replace fr := fr.below bb; replace an_po := an_po.below bb; replace ap_pB := ap_pB.below bb; replace ap_rB := ap_rB.below bb; replace an_gd := an_gd.below bb; replace ap_dB := ap_dB.below bb; replace bel := bel.trans (bb.mono (Nat.le_trans hlo bel.size)); have hdB := hh; clear hh ge bb) | ((with_reducible show wpList _ _ _ (⟨none, Op.store _ (.tmp 8) _, _, _, _, _⟩ :: _) _ _); refine wpList_store_blk rfl 54 (.tmp 8) (.tmp 14) rfl g8 rfl _ rfl _ 54 hdB (by rfl) (by kernel_rfl) (by kernel_rfl) ?_; intro w5 hq gr; replace po := po.away av_po_dB gr; replace pb := pb.away av_pb_dB gr; replace gd := gd.away av_gd_dB gr; replace hnt := blk_a hnt gr d_nt_dB; replace hpB := blk_a hpB gr d_pB_dB; replace hrB := blk_a hrB gr d_rB_dB; replace hT := hT.away ap_dB gr hdB; replace fr := fr.newer ap_dB gr pdB; replace an_po := an_po.grown ap_dB gr; replace ap_pB := ap_pB.grown ap_dB gr; replace ap_rB := ap_rB.grown ap_dB gr; replace an_gd := an_gd.grown ap_dB gr; replace ap_dB := ap_dB.grown ap_dB gr; replace bel := below_grown bel gr odB (Nat.le_trans hlo bel.size); clear hdB; have hdB := hq; clear hq gr; have R23 := cell_lit hdB 1 _ rfl))
 try clear R23
 with_reducible refine (nat_some _ hT hc).mono ?_
 rintro e w6 ⟨rfl, hT_, f_, bb⟩
 clear hnt
 have x_ := f_ _ _ _ _ hpB ap_pB
 replace hpB := x_.1
 replace ap_pB := x_.2
 clear x_
 have x_ := f_ _ _ _ _ hrB ap_rB
 replace hrB := x_.1
 replace ap_rB := x_.2
 clear x_
 have x_ := f_ _ _ _ _ hdB ap_dB
 replace hdB := x_.1
 replace ap_dB := x_.2
 clear x_
 have x_ := f_.sl po an_po
 replace po := x_.1
 replace an_po := x_.2
 clear x_
 clear pb
 have x_ := f_.sl gd an_gd
 replace gd := x_.1
 replace an_gd := x_.2
 clear x_
 replace fr := fr.trans f_
 clear hT
 have hT := hT_
 replace bel := bel.trans bb
 clear bb f_ hT_
 have hnt := hT.nat
 go_wp2_with (first | ((with_reducible show wpList _ _ _ (⟨some 10, _, _, _, _, _⟩ :: _) _ _); refine wpList_new_a rfl 65 rfl #[.int .i64 0, .int .i64 0, .int .u8 0, .int .u8 0, .int .u8 0, .int .u8 0, .int .i64 0, .int .i64 0, .int .i64 0] (by kernel_rfl) ?_; intro g10 w7 ge hh bb; have ap_mB := hT.ap ge; have d_pB_mB := ne_new (hlt hpB) ge; have d_rB_mB := ne_new (hlt hrB) ge; have d_dB_mB := ne_new (hlt hdB) ge; have d_nt_mB := ne_new (hlt hnt) ge; have av_po_mB := po.av_new ge; have av_gd_mB := gd.av_new ge; have omB := Nat.le_trans (Nat.le_trans hlo bel.size) ge; have pmB := Nat.le_trans bel.size ge; replace hpB := blk_u hpB bb; replace hrB := blk_u hrB bb; replace hdB := blk_u hdB bb; replace hnt := blk_u hnt bb; replace po := po.below bb; replace gd := gd.below bb; replace hT := hT.below bb; replace fr := fr.below bb; replace an_po := an_po.below bb; replace ap_pB := ap_pB.below bb; replace ap_rB := ap_rB.below bb; replace an_gd := an_gd.below bb; replace ap_dB := ap_dB.below bb; replace ap_mB := ap_mB.below bb; replace bel := bel.trans (bb.mono (Nat.le_trans hlo bel.size)); have hmB := hh; clear hh ge bb) | ((with_reducible show wpList _ _ _ (⟨none, Op.store _ (.tmp 10) _, _, _, _, _⟩ :: _) _ _); refine wpList_store_blk rfl 65 (.tmp 10) (.tmp 26) rfl g10 rfl _ rfl _ 65 hmB (by rfl) (by kernel_rfl) (by kernel_rfl) ?_; intro w8 hq gr; replace po := po.away av_po_mB gr; replace gd := gd.away av_gd_mB gr; replace hpB := blk_a hpB gr d_pB_mB; replace hrB := blk_a hrB gr d_rB_mB; replace hdB := blk_a hdB gr d_dB_mB; replace hnt := blk_a hnt gr d_nt_mB; replace hT := hT.away ap_mB gr hmB; replace fr := fr.newer ap_mB gr pmB; replace an_po := an_po.grown ap_mB gr; replace ap_pB := ap_pB.grown ap_mB gr; replace ap_rB := ap_rB.grown ap_mB gr; replace an_gd := an_gd.grown ap_mB gr; replace ap_dB := ap_dB.grown ap_mB gr; replace ap_mB := ap_mB.grown ap_mB gr; replace bel := below_grown bel gr omB (Nat.le_trans hlo bel.size); clear hmB; have hmB := hq; clear hq gr))
 replace bel := bel.drew
 replace hpB : w8.drew.heap[g4]? = _ := hpB
 replace hrB : w8.drew.heap[g6]? = _ := hrB
 replace hdB : w8.drew.heap[g8]? = _ := hdB
 replace hnt : w8.drew.heap[gn]? = _ := hnt
 replace hmB : w8.drew.heap[g10]? = _ := hmB
 replace po := po.drew
 replace gd := gd.drew
 replace hT := np_drew hT
 replace fr := fn_drew fr
 replace an_po := an_drew an_po
 replace ap_pB := anp_drew ap_pB
 replace ap_rB := anp_drew ap_rB
 replace an_gd := an_drew an_gd
 replace ap_dB := anp_drew ap_dB
 replace ap_mB := anp_drew ap_mB
 refine wp_region_held_drew (S := fun W => W.heap[gn]? = some (.cells #[.pointer (some ⟨gt, 0, none⟩), .pointer (some ⟨gk, 0, none⟩), .int .i64 120, .int .i64 7200, .int .i64 30] 82 (0, 0)) ∧ W.heap[g10]? = some (.cells #[.int .i64 m.pr, .int .i64 m.o, .int .u8 (m.ad.a.toNat : Int), .int .u8 (m.ad.b.toNat : Int), .int .u8 (m.ad.c.toNat : Int), .int .u8 (m.ad.d.toNat : Int), .int .i64 m.i, .int .i64 m.k, .int .i64 m.u] 65 (0, 0))) (by kernel_rfl) ⟨hnt, hmB⟩ (fun hH => ?_)
 generalize w8.drew = w9 at bel hpB hrB hdB hnt hmB po gd hT fr an_po ap_pB ap_rB an_gd ap_dB ap_mB hH ⊢
 refine wpAnyH_take (i := 0) (v := ?_) rfl (by kernel_rfl) (by kernel_rfl) (by kernel_rfl) (fun _ _ _ h => h) (Or.inl ⟨by rfl, ?_⟩) hH ?_
 rotate_left
 ·((intro W hW; clear hW; go_simp) <;> with_reducible rfl)
 simp only [Act.put, List.getElem_toArray, List.getElem_cons_zero, List.setIfInBounds_toArray, List.set_cons_zero, List.set_cons_succ]
 refine wpAnyH_take (i := 1) (v := ?_) rfl (by kernel_rfl) (by kernel_rfl) (by kernel_rfl) (fun _ _ _ h => h) (Or.inl ⟨by rfl, ?_⟩) hH ?_
 rotate_left
 ·((intro W hW; clear hW; go_simp) <;> with_reducible rfl)
 simp only [sq3, sq4]
 refine wpAnyH_take (i := 2) (v := ?_) rfl (by kernel_rfl) (by kernel_rfl) (by kernel_rfl) (fun _ _ _ h => h) (Or.inl ⟨by rfl, ?_⟩) hH ?_
 rotate_left
 ·((intro W hW; clear hW; go_simp) <;> with_reducible rfl)
 simp only [sq3, sq4]
 refine wpAnyH_take (i := 3) (v := ?_) rfl (by kernel_rfl) (by kernel_rfl) (by kernel_rfl) (fun _ _ _ h => h) (Or.inl ⟨by rfl, ?_⟩) hH ?_
 rotate_left
 ·((intro W hW; have hk := cell_lit (hW.1) 0 _ rfl; clear hW; go_simp) <;> with_reducible rfl)
 simp only [sq3, sq4]
 refine wpAnyH_take (i := 4) (v := ?_) rfl (by kernel_rfl) (by kernel_rfl) (by kernel_rfl) (fun _ _ _ h => h) (Or.inl ⟨by rfl, ?_⟩) hH ?_
 rotate_left
 ·((intro W hW; clear hW; go_simp) <;> with_reducible rfl)
 simp only [sq3, sq4]
 refine wpAnyH_take (i := 5) (v := ?_) rfl (by kernel_rfl) (by kernel_rfl) (by kernel_rfl) (fun _ _ _ h => h) (Or.inl ⟨by rfl, ?_⟩) hH ?_
 rotate_left
 ·((intro W hW; have hk := cell_lit (hW.2) 1 _ rfl; clear hW; go_simp) <;> with_reducible rfl)
 simp only [sq3, sq4]
 refine wpAnyH_take (i := 6) (v := ?_) rfl (by kernel_rfl) (by kernel_rfl) (by kernel_rfl) (fun _ _ _ h => h) (Or.inl ⟨by rfl, ?_⟩) hH ?_
 rotate_left
 ·((intro W hW; clear hW; go_simp) <;> with_reducible rfl)
 simp only [sq3, sq4]
 refine wpAnyH_take (i := 7) (v := ?_) rfl (by kernel_rfl) (by kernel_rfl) (by kernel_rfl) (fun _ _ _ h => h) (Or.inl ⟨by rfl, ?_⟩) hH ?_
 rotate_left
 ·((intro W hW; clear hW; go_simp) <;> with_reducible rfl)
 simp only [sq3, sq4]
 refine wpAnyH_take (i := 8) (v := ?_) rfl (by kernel_rfl) (by kernel_rfl) (by kernel_rfl) (fun _ _ _ h => h) (Or.inl ⟨by rfl, ?_⟩) hH ?_
 rotate_left
 ·((intro W hW; clear hW; go_simp) <;> with_reducible rfl)
 simp only [sq3, sq4]
 refine wpAnyH_take (i := 9) (v := ?_) rfl (by kernel_rfl) (by kernel_rfl) (by kernel_rfl) (fun _ _ _ h => h) (Or.inl ⟨by rfl, ?_⟩) hH ?_
 rotate_left
 ·((intro W hW; clear hW; go_simp) <;> with_reducible rfl)
 simp only [sq3, sq4]
 refine wpAnyH_take (i := 10) (v := ?_) rfl (by kernel_rfl) (by kernel_rfl) (by kernel_rfl) (fun _ _ _ h => h) (Or.inl ⟨by rfl, ?_⟩) hH ?_
 rotate_left
 ·((intro W hW; clear hW; go_simp) <;> with_reducible rfl)
 simp only [sq3, sq4]
 refine wpAnyH_take (i := 11) (v := ?_) rfl (by kernel_rfl) (by kernel_rfl) (by kernel_rfl) (fun _ _ _ h => h) (Or.inl ⟨by rfl, ?_⟩) hH ?_
 rotate_left
 ·((intro W hW; have hk := cell_lit (hW.1) 2 _ rfl; clear hW; go_simp) <;> with_reducible rfl)
 simp only [sq3, sq4]
 refine wpAnyH_ready (rs := [12]) (by kernel_rfl) (by simp) ?_
 refine AllReadyH.cons (o := _) rfl (fun K hK => ?_) AllReadyH.nil
 simp only [sq3]
 go_simp
 with_reducible refine (np_t hT (hv _ hT.tp)).mono ?_
 rintro e w10 ⟨rfl, hT_, f_, bb⟩
 dsimp only
 clear hnt
 have x_ := f_ _ _ _ _ hpB ap_pB
 replace hpB := x_.1
 replace ap_pB := x_.2
 clear x_
 have x_ := f_ _ _ _ _ hrB ap_rB
 replace hrB := x_.1
 replace ap_rB := x_.2
 clear x_
 have x_ := f_ _ _ _ _ hdB ap_dB
 replace hdB := x_.1
 replace ap_dB := x_.2
 clear x_
 have x_ := f_ _ _ _ _ hmB ap_mB
 replace hmB := x_.1
 replace ap_mB := x_.2
 clear x_
 have x_ := f_.sl po an_po
 replace po := x_.1
 replace an_po := x_.2
 clear x_
 have x_ := f_.sl gd an_gd
 replace gd := x_.1
 replace an_gd := x_.2
 clear x_
 replace fr := fr.trans f_
 clear hT
 have hT := hT_
 replace bel := bel.trans bb
 clear bb f_ hT_
 have hnt := hT.nat
 refine hK.out _ _ ⟨hnt, hmB⟩ (fun hH11 => ?_)
 clear hK K
 refine wpAnyH_done (by kernel_rfl) ?_ _
 go_wp2_with fail
 replace bel := bel.drew
 replace hpB : w10.drew.heap[g4]? = _ := hpB
 replace hrB : w10.drew.heap[g6]? = _ := hrB
 replace hdB : w10.drew.heap[g8]? = _ := hdB
 replace hmB : w10.drew.heap[g10]? = _ := hmB
 replace hnt : w10.drew.heap[gn]? = _ := hnt
 replace po := po.drew
 replace gd := gd.drew
 replace hT := np_drew hT
 replace fr := fn_drew fr
 replace an_po := an_drew an_po
 replace ap_pB := anp_drew ap_pB
 replace ap_rB := anp_drew ap_rB
 replace an_gd := an_drew an_gd
 replace ap_dB := anp_drew ap_dB
 replace ap_mB := anp_drew ap_mB
 refine wp_region_held_drew (S := fun W => W.heap[g10]? = some (.cells #[.int .i64 m.pr, .int .i64 m.o, .int .u8 (m.ad.a.toNat : Int), .int .u8 (m.ad.b.toNat : Int), .int .u8 (m.ad.c.toNat : Int), .int .u8 (m.ad.d.toNat : Int), .int .i64 m.i, .int .i64 m.k, .int .i64 m.u] 65 (0, 0))) (by kernel_rfl) hmB (fun hH => ?_)
 generalize w10.drew = w12 at bel hpB hrB hdB hmB hnt po gd hT fr an_po ap_pB ap_rB an_gd ap_dB ap_mB hH ⊢
 refine wpAnyH_take (i := 0) (v := ?_) rfl (by kernel_rfl) (by kernel_rfl) (by kernel_rfl) (fun _ _ _ h => h) (Or.inl ⟨by rfl, ?_⟩) hH ?_
 rotate_left
 ·((intro W hW; clear hW; go_simp) <;> with_reducible rfl)
 simp only [Act.put, List.getElem_toArray, List.getElem_cons_zero, List.setIfInBounds_toArray, List.set_cons_zero, List.set_cons_succ]
 refine wpAnyH_take (i := 1) (v := .agg #[.int .u8 (m.ad.a.toNat : Int), .int .u8 (m.ad.b.toNat : Int), .int .u8 (m.ad.c.toNat : Int), .int .u8 (m.ad.d.toNat : Int)]) rfl (by kernel_rfl) (by kernel_rfl) (by kernel_rfl) (fun _ _ _ h => h) (yieldsIf_load_part (by kernel_rfl) 35 _ rfl g10 2 4 rfl _ 65 (0, 0) (fun W hW => hW) _ rfl _ Tryz.underlying35 rfl (by kernel_rfl)) hH ?_
 simp only [sq3, sq4]
 refine wpAnyH_take (i := 2) (v := ?_) rfl (by kernel_rfl) (by kernel_rfl) (by kernel_rfl) (fun _ _ _ h => h) (Or.inl ⟨by rfl, ?_⟩) hH ?_
 rotate_left
 ·((intro W hW; clear hW; go_simp) <;> with_reducible rfl)
 simp only [sq3, sq4]
 refine wpAnyH_take (i := 3) (v := ?_) rfl (by kernel_rfl) (by kernel_rfl) (by kernel_rfl) (fun _ _ _ h => h) (Or.inl ⟨by rfl, ?_⟩) hH ?_
 rotate_left
 ·((intro W hW; have hk := cell_lit (hW) 6 _ rfl; clear hW; go_simp) <;> with_reducible rfl)
 simp only [sq3, sq4]
 refine wpAnyH_take (i := 4) (v := ?_) rfl (by kernel_rfl) (by kernel_rfl) (by kernel_rfl) (fun _ _ _ h => h) (Or.inl ⟨by rfl, ?_⟩) hH ?_
 rotate_left
 ·((intro W hW; clear hW; go_simp) <;> with_reducible rfl)
 simp only [sq3, sq4]
 refine wpAnyH_ready (rs := [5]) (by kernel_rfl) (by simp) ?_
 refine AllReadyH.cons (o := _) rfl (fun K hK => ?_) AllReadyH.nil
 simp only [sq3]
 rw [if_pos (by rfl)]
 refine wp_store_part 35 (.tmp 49) (.tmp 46) rfl g4 10 rfl [.int .u8 (m.ad.a.toNat : Int), .int .u8 (m.ad.b.toNat : Int), .int .u8 (m.ad.c.toNat : Int), .int .u8 (m.ad.d.toNat : Int)] rfl [.int .i64 tos, .int .i64 id, .int .i64 fl, .int .i64 pt, .int .i64 ttl, .int .i64 17, .int .u8 (a0.toNat : Int), .int .u8 (a1.toNat : Int), .int .u8 (a2.toNat : Int), .int .u8 (a3.toNat : Int), .int .u8 (b0.toNat : Int), .int .u8 (b1.toNat : Int), .int .u8 (b2.toNat : Int), .int .u8 (b3.toNat : Int), .slice So no co, .slice Sb nb cb] 38 hpB (by simp) [.int .i64 tos, .int .i64 id, .int .i64 fl, .int .i64 pt, .int .i64 ttl, .int .i64 17, .int .u8 (a0.toNat : Int), .int .u8 (a1.toNat : Int), .int .u8 (a2.toNat : Int), .int .u8 (a3.toNat : Int), .int .u8 (m.ad.a.toNat : Int), .int .u8 (m.ad.b.toNat : Int), .int .u8 (m.ad.c.toNat : Int), .int .u8 (m.ad.d.toNat : Int), .slice So no co, .slice Sb nb cb] rfl (by kernel_rfl) (by rfl) ?_
 intro w13 hq gr
 replace po := po.away av_po_pB gr
 replace gd := gd.away av_gd_pB gr
 replace hrB := blk_a hrB gr (ne_symm d_pB_rB)
 replace hdB := blk_a hdB gr (ne_symm d_pB_dB)
 replace hmB := blk_a hmB gr (ne_symm d_pB_mB)
 replace hnt := blk_a hnt gr d_nt_pB
 replace hT := hT.away ap_pB gr hpB
 replace fr := fr.newer ap_pB gr ppB
 replace an_po := an_po.grown ap_pB gr
 replace ap_pB := ap_pB.grown ap_pB gr
 replace ap_rB := ap_rB.grown ap_pB gr
 replace an_gd := an_gd.grown ap_pB gr
 replace ap_dB := ap_dB.grown ap_pB gr
 replace ap_mB := ap_mB.grown ap_pB gr
 replace bel := below_grown bel gr opB (Nat.le_trans hlo bel.size)
 clear hpB
 have hpB := hq
 clear hq gr
 refine hK.out _ _ hmB (fun hH14 => ?_)
 clear hK K
 simp only [Act.put]
 refine wpAnyH_take (i := 6) (v := ?_) rfl (by kernel_rfl) (by kernel_rfl) (by kernel_rfl) (fun _ _ _ h => h) (Or.inl ⟨by rfl, ?_⟩) hH14 ?_
 rotate_left
 ·((intro W hW; clear hW; go_simp) <;> with_reducible rfl)
 simp only [sq3, sq4]
 refine wpAnyH_ready (rs := [7]) (by kernel_rfl) (by simp) ?_
 refine AllReadyH.cons (o := _) rfl (fun K hK => ?_) AllReadyH.nil
 simp only [sq3]
 rw [if_pos (by rfl)]
 refine wp_store_part 3 (.tmp 50) (.tmp 48) rfl g8 1 rfl [.int .i64 m.i] rfl [.int .i64 df, .int .i64 dt, .slice D nd cd] 54 hdB (by simp) [.int .i64 df, .int .i64 m.i, .slice D nd cd] rfl (by kernel_rfl) (by rfl) ?_
 intro w15 hq gr
 replace po := po.away av_po_dB gr
 replace gd := gd.away av_gd_dB gr
 replace hpB := blk_a hpB gr d_pB_dB
 replace hrB := blk_a hrB gr d_rB_dB
 replace hmB := blk_a hmB gr (ne_symm d_dB_mB)
 replace hnt := blk_a hnt gr d_nt_dB
 replace hT := hT.away ap_dB gr hdB
 replace fr := fr.newer ap_dB gr pdB
 replace an_po := an_po.grown ap_dB gr
 replace ap_pB := ap_pB.grown ap_dB gr
 replace ap_rB := ap_rB.grown ap_dB gr
 replace an_gd := an_gd.grown ap_dB gr
 replace ap_dB := ap_dB.grown ap_dB gr
 replace ap_mB := ap_mB.grown ap_dB gr
 replace bel := below_grown bel gr odB (Nat.le_trans hlo bel.size)
 clear hdB
 have hdB := hq
 clear hq gr
 refine hK.out _ _ hmB (fun hH16 => ?_)
 clear hK K
 simp only [Act.put]
 refine wpAnyH_done (by kernel_rfl) ?_ _
 have R51 := Lib.hid (range_lit hpB 0 16 [.int .i64 tos, .int .i64 id, .int .i64 fl, .int .i64 pt, .int .i64 ttl, .int .i64 17, .int .u8 (a0.toNat : Int), .int .u8 (a1.toNat : Int), .int .u8 (a2.toNat : Int), .int .u8 (a3.toNat : Int), .int .u8 (m.ad.a.toNat : Int), .int .u8 (m.ad.b.toNat : Int), .int .u8 (m.ad.c.toNat : Int), .int .u8 (m.ad.d.toNat : Int), .slice So no co, .slice Sb nb cb] rfl)
 go_wp2_with (first | ((with_reducible show wpList _ _ _ (⟨some 51, _, _, _, _, _⟩ :: _) _ _); refine wpList_load_rng 38 (.tmp 4) rfl (by kernel_rfl) _ _ rfl _ R51.out _ Tryz.underlying38 rfl (by kernel_rfl) ?_; have R52 := Lib.hid (range_lit hdB 0 3 [.int .i64 df, .int .i64 m.i, .slice D nd cd] rfl)) | ((with_reducible show wpList _ _ _ (⟨some 52, _, _, _, _, _⟩ :: _) _ _); refine wpList_load_rng 54 (.tmp 8) rfl (by kernel_rfl) _ _ rfl _ R52.out _ Tryz.underlying54 rfl (by kernel_rfl) ?_))
 try clear R51
 try clear R52
 have hsz_ := bel.size
 with_reducible refine (udput_is _ _ _ _ _ _ _ _ _ _ _ _ _ _ _ _ _ _ _ _ _ _ _ _ _ _  po gd HP1.out HP2.out HN4.out HNO.out).mono ?_
 rintro e w17 ⟨Ao, co2, Ab, cb2, rfl, qo, qb, fqo_, fqb_, b17⟩
 have av_qo_pB := fqo_.av (hlt hpB)
 have av_qo_rB := fqo_.av (hlt hrB)
 have av_qo_dB := fqo_.av (hlt hdB)
 have av_qo_mB := fqo_.av (hlt hmB)
 have av_qo_nt := fqo_.av (hlt hnt)
 have av_qb_pB := fqb_.av (hlt hpB)
 have av_qb_rB := fqb_.av (hlt hrB)
 have av_qb_dB := fqb_.av (hlt hdB)
 have av_qb_mB := fqb_.av (hlt hmB)
 have av_qb_nt := fqb_.av (hlt hnt)
 have an_qo := hT.an fqo_
 have an_qb := hT.an fqb_
 replace hpB := blk_u hpB b17
 replace hrB := blk_u hrB b17
 replace hdB := blk_u hdB b17
 replace hmB := blk_u hmB b17
 replace hnt := blk_u hnt b17
 replace po := po.below b17
 replace gd := gd.below b17
 replace hT := hT.below b17
 replace fr := fr.below b17
 replace an_po := an_po.below b17
 replace ap_pB := ap_pB.below b17
 replace ap_rB := ap_rB.below b17
 replace an_gd := an_gd.below b17
 replace ap_dB := ap_dB.below b17
 replace ap_mB := ap_mB.below b17
 replace an_qo := an_qo.below b17
 replace an_qb := an_qb.below b17
 replace bel := bel.trans (b17.mono (Nat.le_trans hlo bel.size))
 clear b17
 replace qo : Sl w17 (Ao) (no) (co2) (lp) := qo
 replace qb : Sl w17 (Ab) (8 + nd) (cb2) (udBytes a0 a1 a2 a3 m.ad.a m.ad.b m.ad.c m.ad.d df m.i ld) := qb
 have fqo := Fr.mono fqo_ hsz_
 have fqb := Fr.mono fqb_ hsz_
 clear fqo_ fqb_ hsz_
 go_wp2_with (first | ((with_reducible show wpList _ _ _ (⟨none, Op.store _ (.tmp 6) _, _, _, _, _⟩ :: _) _ _); refine wpList_store_blk rfl 38 (.tmp 6) (.tmp 54) rfl g6 rfl _ rfl _ 38 hrB (by rfl) (by kernel_rfl) (by kernel_rfl) ?_; intro w18 hq gr; replace po := po.away av_po_rB gr; replace gd := gd.away av_gd_rB gr; replace qo := qo.away av_qo_rB gr; replace qb := qb.away av_qb_rB gr; replace hpB := blk_a hpB gr d_pB_rB; replace hdB := blk_a hdB gr (ne_symm d_rB_dB); replace hmB := blk_a hmB gr (ne_symm d_rB_mB); replace hnt := blk_a hnt gr d_nt_rB; replace hT := hT.away ap_rB gr hrB; replace fr := fr.newer ap_rB gr prB; replace an_po := an_po.grown ap_rB gr; replace ap_pB := ap_pB.grown ap_rB gr; replace ap_rB := ap_rB.grown ap_rB gr; replace an_gd := an_gd.grown ap_rB gr; replace ap_dB := ap_dB.grown ap_rB gr; replace ap_mB := ap_mB.grown ap_rB gr; replace an_qo := an_qo.grown ap_rB gr; replace an_qb := an_qb.grown ap_rB gr; replace bel := below_grown bel gr orB (Nat.le_trans hlo bel.size); clear hrB; have hrB := hq; clear hq gr))
 exact bodyPost_ret (results_cell_tmp_row rfl _ _ _ _ _ _ _ rfl hrB Tryz.underlying38 rfl (by kernel_rfl) (.int .i64 0) rfl) rfl ⟨Ao, co2, Ab, cb2, rfl, hT, fr, bel, qo, qb, an_qo, an_qb, fqo, fqb⟩
end Go.Proofs.YtbdaejodbcjmfaaGreat
