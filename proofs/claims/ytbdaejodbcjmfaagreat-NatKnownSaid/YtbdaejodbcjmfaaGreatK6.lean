/- Texts put together: Pt8, Pt9, Tr0, Tr1, Tr2, Tr3, Tr4, Tr5, Na0, Ptl, Walkw, Sum, Sumw, Sumr, Sumc, Slices, Eth1, Eth5, Rad, Ipr1, Ipr2, Ipr3, Ipl. -/
import Derived.Test.YtbdaejodbcjmfaaGreatK1
import Derived.Test.YtbdaejodbcjmfaaGreatK4
import Derived.Test.YtbdaejodbcjmfaaGreatK5
import Derived.Laws.ResultCell
import Derived.IntWalk
import Derived.Deep.CutRange
import Derived.DeepKeys4
import Derived.Stop.BytesEq
import Derived.Deep.Cut
import Derived.Deep.QuietTactic
import Derived.BigQuiet
import Derived.Lib.Hide
import Derived.Deep.LoopGhost
import Derived.BigRegion
import Derived.Deep.RegionHeld3
namespace Go.Proofs.YtbdaejodbcjmfaaGreat
open Go.RowKit
set_option linter.unusedVariables false
set_option linter.unusedSimpArgs false
set_option maxRecDepth 100000
set_option maxHeartbeats 16000000

/-- What freeOut answers. -/
def FoP (lw : Int) (l : List Mp) (pr : Int) (ad : Ad4) (p q : Int) (b : Bool) : Prop := ∀ (W : World) (lo gt mb n c : Nat) (A : Option Addr) (rm now : Int), W.heap[gt]? = some (.cells #[.int .i64 lw, .int .i64 rm, .int .i64 now, .slice A n c, .map (some mb)] 76 (0, 0)) → W.ownsRow lo 65 9 (.slice A n c) n (l.flatMap mpE) → n ≤ 1000 → Calls Tryz.prog 136 #[.pointer (some ⟨gt, 0, none⟩), .agg #[.int .i64 pr, .int .u8 (ad.a.toNat : Int), .int .u8 (ad.b.toNat : Int), .int .u8 (ad.c.toNat : Int), .int .u8 (ad.d.toNat : Int), .int .i64 p]] W fun e w' => e = .returned (.tuple #[.int .i64 q, .bool b]) ∧ Below W.heap.size W w'
theorem tin_none {lo gt : Nat} {s : Ts} {lw rm now : Int} {l os : List Mp} {p o : Int} (t : Int) (w : World) (hT : Tp lo gt w s) (ha : s.adv t = ⟨lw, rm, now, l, os⟩) (hpo : okP p o) (hf : mfhas l (kn p o) = false) : Calls Tryz.prog 29 #[.pointer (some ⟨gt, 0, none⟩), .int .i64 p, .int .i64 o, .int .i64 t] w fun e w' => e = .returned (.tuple #[.agg #[.int .i64 0, .int .i64 0, .int .u8 0, .int .u8 0, .int .u8 0, .int .u8 0, .int .i64 0, .int .i64 0, .int .i64 0], .bool false]) ∧ Tp lo gt w' ⟨lw, rm, now, l, os⟩ ∧ Fap gt w w' ∧ Below lo w w' := by
 have hlo : lo ≤ w.heap.size := hT.lo_le
 have HLO := Lib.hid hlo
 have fr := Fap.refl gt w
 have HPO := Lib.hid hpo
 have HF := Lib.hid hf
 clear hpo hf
 have bel := Below.refl lo w
 go_enter Tryz.func29, Tryz.ntmps29
 go_wp2_with (first | ((with_reducible show wpList _ _ _ (⟨some 8, _, _, _, _, _⟩ :: _) _ _); refine wpList_new_a rfl 65 rfl #[.int .i64 0, .int .i64 0, .int .u8 0, .int .u8 0, .int .u8 0, .int .u8 0, .int .i64 0, .int .i64 0, .int .i64 0] (by kernel_rfl) ?_; intro g8 w1 ge hh bb; have ap_rB := hT.ap ge; have orB := Nat.le_trans (Nat.le_trans hlo bel.size) ge; have pn_rB := Nat.le_trans bel.size ge; replace fr := fr.below bb; replace hT := hT.below bb; replace ap_rB := ap_rB.below bb; replace bel := bel.trans (bb.mono (Nat.le_trans hlo bel.size)); have hrB := hh; clear hh ge bb))
 with_reducible refine (tadv_any _ _ hT ha).mono ?_
 rintro e w2 ⟨rfl, hT_, f_, bb⟩
 have x_ := f_ _ _ _ _ hrB ap_rB
 replace hrB := x_.1
 replace ap_rB := x_.2
 clear x_
 replace fr := fr.trans f_
 clear hT
 have hT := hT_
 replace bel := bel.trans bb
 clear bb f_ hT_
 obtain ⟨A, n, c, mb, htb, otb, hM, own, hok⟩ := hT
 dsimp only at htb hM own
 have off_tb := ofs_type own htb (by decide)
 have hl := row_len (by decide) mpE_len own
 have HLL := Lib.hid hl
 have HOK := Lib.hid hok
 have H32 : Hid (n ≤ 1000) := Lib.hid (by have h1_ := hok.len; have h2_ := hok.r1; simp only at h1_ h2_; omega)
 have H128 : Hid (n ≤ 128) := Lib.hid (by have h1_ := hok.len; have h2_ := hok.r1; simp only at h1_ h2_; omega)
 clear hl hok
 have fo := fr.fo htb
 clear fr
 have off_rB := ap_rB.ofs htb
 have d_rB_tb := Lib.hid ap_rB.1
 clear ap_rB
 go_wp2_with fail
 with_reducible refine (mat_none p o _ htb (owk_sle (by decide) mpE_len own).1 HOK.out.srt HOK.out.okp HPO.out H32.out HF.out).mono ?_
 rintro e w3 ⟨rfl, b3⟩
 replace hrB := blk_u hrB b3
 replace htb := blk_u htb b3
 replace own := owk_under own b3
 replace fo := fo.below b3
 replace hM := hM.below b3
 replace bel := bel.trans (b3.mono (Nat.le_trans hlo bel.size))
 clear b3
 go_wp2_with fail
 with_reducible refine (found_none _).mono ?_
 rintro e w4 ⟨rfl, b4⟩
 replace hrB := blk_u hrB b4
 replace htb := blk_u htb b4
 replace own := owk_under own b4
 replace fo := fo.below b4
 replace hM := hM.below b4
 replace bel := bel.trans (b4.mono (Nat.le_trans hlo bel.size))
 clear b4
 go_wp2_with (first | ((with_reducible show wpList _ _ _ (⟨none, Op.store _ (.tmp 8) _, _, _, _, _⟩ :: _) _ _); refine wpList_store_blk rfl 65 (.tmp 8) (.tmp 19) rfl g8 rfl _ rfl _ 65 hrB (by rfl) (by kernel_rfl) (by kernel_rfl) ?_; intro w5 hq gr; replace htb := blk_a htb gr (ne_symm d_rB_tb); replace own := owk_off own off_rB gr; replace fo := fo.newer gr pn_rB; replace hM := hM.grown gr hrB; replace bel := below_grown bel gr orB (Nat.le_trans hlo bel.size); clear hrB; have hrB := hq; clear hq gr))
 exact bodyPost_ret (results_cell_tmp_row rfl _ _ _ _ _ _ _ rfl hrB Tryz.underlying65 rfl (by kernel_rfl) (.bool false) rfl) rfl ⟨rfl, ⟨A, n, c, mb, htb, otb, hM, own, HOK.out⟩, fo.fr htb, bel⟩
theorem tin_some {lo gt : Nat} {s : Ts} {lw rm now : Int} {l os : List Mp} {p o : Int} {i : Nat} {x : Mp} (t : Int) (w : World) (hT : Tp lo gt w s) (ha : s.adv t = ⟨lw, rm, now, l, os⟩) (hpo : okP p o) (hf : mfhas l (kn p o) = true) (hq : mfpos l (kn p o) = i) (hx : l[i]? = some x) : Calls Tryz.prog 29 #[.pointer (some ⟨gt, 0, none⟩), .int .i64 p, .int .i64 o, .int .i64 t] w fun e w' => e = .returned (.tuple #[.agg #[.int .i64 x.pr, .int .i64 x.o, .int .u8 (x.ad.a.toNat : Int), .int .u8 (x.ad.b.toNat : Int), .int .u8 (x.ad.c.toNat : Int), .int .u8 (x.ad.d.toNat : Int), .int .i64 x.i, .int .i64 x.k, .int .i64 x.u], .bool true]) ∧ Tp lo gt w' ⟨lw, rm, now, l, os⟩ ∧ Fap gt w w' ∧ Below lo w w' := by
 have hlo : lo ≤ w.heap.size := hT.lo_le
 have HLO := Lib.hid hlo
 have fr := Fap.refl gt w
 have HPO := Lib.hid hpo
 have HF := Lib.hid hf
 clear hpo hf
 have HQ := Lib.hid hq
 clear hq
 have bel := Below.refl lo w
 go_enter Tryz.func29, Tryz.ntmps29
 go_wp2_with (first | ((with_reducible show wpList _ _ _ (⟨some 8, _, _, _, _, _⟩ :: _) _ _); refine wpList_new_a rfl 65 rfl #[.int .i64 0, .int .i64 0, .int .u8 0, .int .u8 0, .int .u8 0, .int .u8 0, .int .i64 0, .int .i64 0, .int .i64 0] (by kernel_rfl) ?_; intro g8 w1 ge hh bb; have ap_rB := hT.ap ge; have orB := Nat.le_trans (Nat.le_trans hlo bel.size) ge; have pn_rB := Nat.le_trans bel.size ge; replace fr := fr.below bb; replace hT := hT.below bb; replace ap_rB := ap_rB.below bb; replace bel := bel.trans (bb.mono (Nat.le_trans hlo bel.size)); have hrB := hh; clear hh ge bb))
 with_reducible refine (tadv_any _ _ hT ha).mono ?_
 rintro e w2 ⟨rfl, hT_, f_, bb⟩
 have x_ := f_ _ _ _ _ hrB ap_rB
 replace hrB := x_.1
 replace ap_rB := x_.2
 clear x_
 replace fr := fr.trans f_
 clear hT
 have hT := hT_
 replace bel := bel.trans bb
 clear bb f_ hT_
 obtain ⟨A, n, c, mb, htb, otb, hM, own, hok⟩ := hT
 dsimp only at htb hM own
 have off_tb := ofs_type own htb (by decide)
 have hl := row_len (by decide) mpE_len own
 have HLL := Lib.hid hl
 have HOK := Lib.hid hok
 have H32 : Hid (n ≤ 1000) := Lib.hid (by have h1_ := hok.len; have h2_ := hok.r1; simp only at h1_ h2_; omega)
 have H128 : Hid (n ≤ 128) := Lib.hid (by have h1_ := hok.len; have h2_ := hok.r1; simp only at h1_ h2_; omega)
 clear hl hok
 have fo := fr.fo htb
 clear fr
 have hin_ : i < n := by have h1_ := (List.getElem?_eq_some_iff.1 hx).1; have h2_ := HLL.out; omega
 have i0 : (0 : Int) ≤ i := by omega
 have i1 : (i : Int) < n := by omega
 obtain ⟨gE, rfl, _⟩ := row_at own (by omega)
 have en := (owk_sle (by decide) mpE_len own).1
 have av_en_tb := owk_av own off_tb
 clear hin_
 have HX := Lib.hid hx
 clear hx
 have off_rB := ap_rB.ofs htb
 have d_rB_tb := Lib.hid ap_rB.1
 clear ap_rB
 have av_en_rB := owk_av own off_rB
 go_wp2_with fail
 with_reducible refine (mat_some p o _ htb en av_en_tb HOK.out.srt HOK.out.okp HPO.out H32.out HQ.out HF.out HX.out).mono ?_
 rintro e w3 ⟨rfl, b3⟩
 replace hrB := blk_u hrB b3
 replace htb := blk_u htb b3
 replace en := en.below b3
 replace own := owk_under own b3
 replace fo := fo.below b3
 replace hM := hM.below b3
 replace bel := bel.trans (b3.mono (Nat.le_trans hlo bel.size))
 clear b3
 go_wp2_with fail
 with_reducible refine (found_at _ en HX.out).mono ?_
 rintro e w4 ⟨rfl, b4⟩
 replace hrB := blk_u hrB b4
 replace htb := blk_u htb b4
 replace en := en.below b4
 replace own := owk_under own b4
 replace fo := fo.below b4
 replace hM := hM.below b4
 replace bel := bel.trans (b4.mono (Nat.le_trans hlo bel.size))
 clear b4
 go_wp2_with (first | ((with_reducible show wpList _ _ _ (⟨none, Op.store _ (.tmp 8) _, _, _, _, _⟩ :: _) _ _); refine wpList_store_blk rfl 65 (.tmp 8) (.tmp 19) rfl g8 rfl _ rfl _ 65 hrB (by rfl) (by kernel_rfl) (by kernel_rfl) ?_; intro w5 hq gr; replace en := en.away av_en_rB gr; replace htb := blk_a htb gr (ne_symm d_rB_tb); replace own := owk_off own off_rB gr; replace fo := fo.newer gr pn_rB; replace hM := hM.grown gr hrB; replace bel := below_grown bel gr orB (Nat.le_trans hlo bel.size); clear hrB; have hrB := hq; clear hq gr))
 exact bodyPost_ret (results_cell_tmp_row rfl _ _ _ _ _ _ _ rfl hrB Tryz.underlying65 rfl (by kernel_rfl) (.bool true) rfl) rfl ⟨rfl, ⟨(some ⟨gE, 0, none⟩), n, c, mb, htb, otb, hM, own, HOK.out⟩, fo.fr htb, bel⟩
theorem tlen_any {lo gt : Nat} {s : Ts} {lw rm now : Int} {l os : List Mp} (t : Int) (w : World) (hT : Tp lo gt w s) (ha : s.adv t = ⟨lw, rm, now, l, os⟩)  : Calls Tryz.prog 26 #[.pointer (some ⟨gt, 0, none⟩), .int .i64 t] w fun e w' => e = .returned (.int .i64 (l.length : Int)) ∧ Tp lo gt w' ⟨lw, rm, now, l, os⟩ ∧ Fap gt w w' ∧ Below lo w w' := by
 have hlo : lo ≤ w.heap.size := hT.lo_le
 have HLO := Lib.hid hlo
 have fr := Fap.refl gt w
 have bel := Below.refl lo w
 go_enter Tryz.func26, Tryz.ntmps26
 go_wp2_with fail
 with_reducible refine (tadv_any _ _ hT ha).mono ?_
 rintro e w1 ⟨rfl, hT_, f_, bb⟩
 replace fr := fr.trans f_
 clear hT
 have hT := hT_
 replace bel := bel.trans bb
 clear bb f_ hT_
 obtain ⟨A, n, c, mb, htb, otb, hM, own, hok⟩ := hT
 dsimp only at htb hM own
 have off_tb := ofs_type own htb (by decide)
 have hl := row_len (by decide) mpE_len own
 have HLL := Lib.hid hl
 have HOK := Lib.hid hok
 have H32 : Hid (n ≤ 1000) := Lib.hid (by have h1_ := hok.len; have h2_ := hok.r1; simp only at h1_ h2_; omega)
 have H128 : Hid (n ≤ 128) := Lib.hid (by have h1_ := hok.len; have h2_ := hok.r1; simp only at h1_ h2_; omega)
 clear hl hok
 have fo := fr.fo htb
 clear fr
 have R11 := cell_lit htb 3 _ rfl
 go_wp2_with fail
 clear R11
 go_ret
 exact ⟨by rw [HLL.out]; rfl, ⟨A, n, c, mb, htb, otb, hM, own, HOK.out⟩, fo.fr htb, bel⟩
theorem tmake_new {lo gt : Nat} {s : Ts} {lw rm now : Int} {l os : List Mp} {pr p : Int} {ad : Ad4} {q sc un : Int} (t : Int) (w : World) (hT : Tp lo gt w s) (ha : s.adv t = ⟨lw, rm, now, l, os⟩) (hpb : portB pr p = true) (hsc : secsB sc = true) (hu : now + sc = un) (hbf : bestF pr ad p l l.length = none) (hfo : FoP lw l pr ad p q true) (hr : (l.length : Int) < rm) (hqo : okP pr q) (hqf : mfhas l (kn pr q) = false) : Calls Tryz.prog 110 #[.pointer (some ⟨gt, 0, none⟩), .agg #[.int .i64 pr, .int .u8 (ad.a.toNat : Int), .int .u8 (ad.b.toNat : Int), .int .u8 (ad.c.toNat : Int), .int .u8 (ad.d.toNat : Int), .int .i64 p], .int .i64 t, .int .i64 sc] w fun e w' => e = .returned (.tuple #[.agg #[.int .i64 pr, .int .i64 q, .int .u8 (ad.a.toNat : Int), .int .u8 (ad.b.toNat : Int), .int .u8 (ad.c.toNat : Int), .int .u8 (ad.d.toNat : Int), .int .i64 p, .int .i64 1, .int .i64 un], .int .i64 0]) ∧ Tp lo gt w' ⟨lw, rm, now, mins l ⟨pr, q, ad, p, 1, un⟩, odel os (kn pr q)⟩ ∧ Fap gt w w' ∧ Below lo w w' := by
 have hlo : lo ≤ w.heap.size := hT.lo_le
 have HLO := Lib.hid hlo
 have fr := Fap.refl gt w
 have HMK : Hid (Mp.okp ⟨pr, q, ad, p, 1, un⟩) := Lib.hid hqo
 have HFK : Hid (mfhas l (Mp.num ⟨pr, q, ad, p, 1, un⟩) = false) := Lib.hid hqf
 clear hqo hqf
 have HPB := Lib.hid hpb
 have HSC := Lib.hid hsc
 have HU := Lib.hid hu
 have HSR : Hid (1 ≤ sc ∧ sc ≤ 1000000000) := Lib.hid (by unfold secsB at hsc; simpa using hsc)
 clear hpb hsc hu
 have HFO := hfo
 unfold FoP at HFO
 clear hfo
 have bel := Below.refl lo w
 go_enter Tryz.func110, Tryz.ntmps110
 go_wp2_with (first | ((with_reducible show wpList _ _ _ (⟨some 5, _, _, _, _, _⟩ :: _) _ _); refine wpList_box_n rfl 164 (.tmp 1) rfl #[.int .i64 pr, .int .u8 (ad.a.toNat : Int), .int .u8 (ad.b.toNat : Int), .int .u8 (ad.c.toNat : Int), .int .u8 (ad.d.toNat : Int), .int .i64 p] rfl ?_; intro g5 w1 ge lt hh bb; have ap_fB := hT.ap ge; have ofB := Nat.le_trans (Nat.le_trans hlo bel.size) ge; have pn_fB := Nat.le_trans bel.size ge; replace fr := fr.below bb; replace hT := hT.below bb; replace ap_fB := ap_fB.below bb; replace bel := bel.trans (bb.mono (Nat.le_trans hlo bel.size)); have hfB := hh; clear hh lt ge bb) | ((with_reducible show wpList _ _ _ (⟨some 8, _, _, _, _, _⟩ :: _) _ _); refine wpList_new_a rfl 65 rfl #[.int .i64 0, .int .i64 0, .int .u8 0, .int .u8 0, .int .u8 0, .int .u8 0, .int .i64 0, .int .i64 0, .int .i64 0] (by kernel_rfl) ?_; intro g8 w2 ge hh bb; have ap_rB := hT.ap ge; have d_fB_rB := ne_new (hlt hfB) ge; have orB := Nat.le_trans (Nat.le_trans hlo bel.size) ge; have pn_rB := Nat.le_trans bel.size ge; replace hfB := blk_u hfB bb; replace fr := fr.below bb; replace hT := hT.below bb; replace ap_fB := ap_fB.below bb; replace ap_rB := ap_rB.below bb; replace bel := bel.trans (bb.mono (Nat.le_trans hlo bel.size)); have hrB := hh; clear hh ge bb))
 with_reducible refine (tadv_any _ _ hT ha).mono ?_
 rintro e w3 ⟨rfl, hT_, f_, bb⟩
 have x_ := f_ _ _ _ _ hfB ap_fB
 replace hfB := x_.1
 replace ap_fB := x_.2
 clear x_
 have x_ := f_ _ _ _ _ hrB ap_rB
 replace hrB := x_.1
 replace ap_rB := x_.2
 clear x_
 replace fr := fr.trans f_
 clear hT
 have hT := hT_
 replace bel := bel.trans bb
 clear bb f_ hT_
 obtain ⟨A, n, c, mb, htb, otb, hM, own, hok⟩ := hT
 dsimp only at htb hM own
 have off_tb := ofs_type own htb (by decide)
 have hl := row_len (by decide) mpE_len own
 have HLL := Lib.hid hl
 have HOK := Lib.hid hok
 have H32 : Hid (n ≤ 1000) := Lib.hid (by have h1_ := hok.len; have h2_ := hok.r1; simp only at h1_ h2_; omega)
 have H128 : Hid (n ≤ 128) := Lib.hid (by have h1_ := hok.len; have h2_ := hok.r1; simp only at h1_ h2_; omega)
 clear hl hok
 have fo := fr.fo htb
 clear fr
 have hw : IntKind.i64.wrap (now + sc) = un := by rw [← HU.out]; exact IntWalk.i64_in _ (by have h1_ := HOK.out.n0; have h2_ := HOK.out.n1; have h3_ := HSR.out; simp only at h1_ h2_; omega)
 have HBF : Hid (bestF pr ad p l n = none) := Lib.hid (by rw [HLL.out] at hbf; exact hbf)
 clear hbf
 have HRM := Lib.hid hr
 have HFU : Hid ((n : Int) < rm) := Lib.hid (by rw [HLL.out] at hr; omega)
 clear hr
 have off_fB := ap_fB.ofs htb
 have d_fB_tb := Lib.hid ap_fB.1
 clear ap_fB
 have off_rB := ap_rB.ofs htb
 have d_rB_tb := Lib.hid ap_rB.1
 clear ap_rB
 have R19 := cell_lit hfB 0 _ rfl
 have R21 := cell_lit hfB 5 _ rfl
 go_wp2_with fail
 clear R19 R21
 with_reducible refine (isport_any _ HPB.out).mono ?_
 rintro e _ ⟨rfl, rfl⟩
 go_wp2_with fail
 with_reducible refine (secs_any _ HSC.out).mono ?_
 rintro e _ ⟨rfl, rfl⟩
 have R33 := cell_lit htb 2 _ rfl
 have R37 := Lib.hid (range_lit hfB 0 6 [.int .i64 pr, .int .u8 (ad.a.toNat : Int), .int .u8 (ad.b.toNat : Int), .int .u8 (ad.c.toNat : Int), .int .u8 (ad.d.toNat : Int), .int .i64 p] rfl)
 go_wp2_with (first | ((with_reducible show wpList _ _ _ (⟨some 37, _, _, _, _, _⟩ :: _) _ _); refine wpList_load_rng 164 (.tmp 5) rfl (by kernel_rfl) _ _ rfl _ R37.out _ Tryz.underlying164 rfl (by kernel_rfl) ?_))
 try clear R33
 try clear R37
 with_reducible refine (bf_none _ htb own H32.out HBF.out).mono ?_
 rintro e w4 ⟨rfl, b4⟩
 replace hfB := blk_u hfB b4
 replace hrB := blk_u hrB b4
 replace htb := blk_u htb b4
 replace own := owk_under own b4
 replace fo := fo.below b4
 replace hM := hM.below b4
 replace bel := bel.trans (b4.mono (Nat.le_trans hlo bel.size))
 clear b4
 have R55 := Lib.hid (range_lit hfB 0 6 [.int .i64 pr, .int .u8 (ad.a.toNat : Int), .int .u8 (ad.b.toNat : Int), .int .u8 (ad.c.toNat : Int), .int .u8 (ad.d.toNat : Int), .int .i64 p] rfl)
 go_wp2_with (first | ((with_reducible show wpList _ _ _ (⟨some 55, _, _, _, _, _⟩ :: _) _ _); refine wpList_load_rng 164 (.tmp 5) rfl (by kernel_rfl) _ _ rfl _ R55.out _ Tryz.underlying164 rfl (by kernel_rfl) ?_))
 try clear R55
 with_reducible refine (HFO _ _ _ _ _ _ _ _ _ htb own H32.out).mono ?_
 rintro e w5 ⟨rfl, b5⟩
 replace hfB := blk_u hfB b5
 replace hrB := blk_u hrB b5
 replace htb := blk_u htb b5
 replace own := owk_under own b5
 replace fo := fo.below b5
 replace hM := hM.below b5
 replace bel := bel.trans (b5.mono (Nat.le_trans hlo bel.size))
 clear b5
 go_wp2_with fail
 with_reducible refine (full_n (l := []) _ htb (Int.not_le.2 HFU.out)).mono ?_
 rintro e w6 ⟨rfl, b6⟩
 replace hfB := blk_u hfB b6
 replace hrB := blk_u hrB b6
 replace htb := blk_u htb b6
 replace own := owk_under own b6
 replace fo := fo.below b6
 replace hM := hM.below b6
 replace bel := bel.trans (b6.mono (Nat.le_trans hlo bel.size))
 clear b6
 have R67 := cell_lit hfB 0 _ rfl
 have R70 := Lib.hid (range_lit hfB 1 4 [.int .u8 (ad.a.toNat : Int), .int .u8 (ad.b.toNat : Int), .int .u8 (ad.c.toNat : Int), .int .u8 (ad.d.toNat : Int)] rfl)
 go_wp2_with (first | ((with_reducible show wpList _ _ _ (⟨some 70, _, _, _, _, _⟩ :: _) _ _); refine wpList_load_rng 35 (.tmp 69) rfl (by kernel_rfl) _ _ rfl _ R70.out _ Tryz.underlying35 rfl (by kernel_rfl) ?_; have R72 := cell_lit hfB 5 _ rfl) | ((with_reducible show wpList _ _ _ (⟨some 14, _, _, _, _, _⟩ :: _) _ _); refine wpList_new_a rfl 65 rfl #[.int .i64 0, .int .i64 0, .int .u8 0, .int .u8 0, .int .u8 0, .int .u8 0, .int .i64 0, .int .i64 0, .int .i64 0] (by kernel_rfl) ?_; intro g14 w7 ge hh bb; have d_fB_nB := ne_new (hlt hfB) ge; have d_rB_nB := ne_new (hlt hrB) ge; have d_tb_nB := ne_new (hlt htb) ge; have onB := Nat.le_trans (Nat.le_trans hlo bel.size) ge; have off_nB := owk_new own ge; have pn_nB := Nat.le_trans bel.size ge; replace hfB := blk_u hfB bb; replace hrB := blk_u hrB bb; replace htb := blk_u htb bb; replace own := owk_under own bb; replace fo := fo.below bb; replace hM := hM.below bb; replace bel := bel.trans (bb.mono (Nat.le_trans hlo bel.size)); have hnB := hh; clear hh ge bb) | ((with_reducible show wpList _ _ _ (⟨none, Op.store _ (.tmp 14) _, _, _, _, _⟩ :: _) _ _); refine wpList_store_blk rfl 65 (.tmp 14) (.tmp 74) rfl g14 rfl _ rfl _ 65 hnB (by rfl) (by kernel_rfl) (by kernel_rfl) ?_; intro w8 hq gr; replace hfB := blk_a hfB gr d_fB_nB; replace hrB := blk_a hrB gr d_rB_nB; replace htb := blk_a htb gr d_tb_nB; replace own := owk_off own off_nB gr; replace fo := fo.newer gr pn_nB; replace hM := hM.grown gr hnB; replace bel := below_grown bel gr onB (Nat.le_trans hlo bel.size); clear hnB; have hnB := hq; clear hq gr; have R76 := Lib.hid (range_lit hnB 0 9 [.int .i64 pr, .int .i64 q, .int .u8 (ad.a.toNat : Int), .int .u8 (ad.b.toNat : Int), .int .u8 (ad.c.toNat : Int), .int .u8 (ad.d.toNat : Int), .int .i64 p, .int .i64 1, .int .i64 un] rfl)) | ((with_reducible show wpList _ _ _ (⟨some 76, _, _, _, _, _⟩ :: _) _ _); refine wpList_load_rng 65 (.tmp 14) rfl (by kernel_rfl) _ _ rfl _ R76.out _ Tryz.underlying65 rfl (by kernel_rfl) ?_))
 try clear R67
 try clear R70
 try clear R72
 try clear R76
 have ap_fB := Ap.mk htb off_fB d_fB_tb.out
 have ap_rB := Ap.mk htb off_rB d_rB_tb.out
 have ap_nB := Ap.mk htb off_nB (ne_symm d_tb_nB).out
 have fr := fo.fr htb
 have hT : Tp lo gt w8 ⟨lw, rm, now, l, os⟩ := ⟨A, n, c, mb, htb, otb, hM, own, HOK.out⟩
 clear htb hM own off_tb fo
 with_reducible refine (tadd_any (m := ⟨pr, q, ad, p, 1, un⟩) _ hT HMK.out HFK.out HRM.out).mono ?_
 rintro e w9 ⟨rfl, hT_, f_, bb⟩
 have x_ := f_ _ _ _ _ hfB ap_fB
 replace hfB := x_.1
 replace ap_fB := x_.2
 clear x_
 have x_ := f_ _ _ _ _ hrB ap_rB
 replace hrB := x_.1
 replace ap_rB := x_.2
 clear x_
 have x_ := f_ _ _ _ _ hnB ap_nB
 replace hnB := x_.1
 replace ap_nB := x_.2
 clear x_
 replace fr := fr.trans f_
 clear hT
 have hT := hT_
 replace bel := bel.trans bb
 clear bb f_ hT_
 have R78 := Lib.hid (range_lit hnB 0 9 [.int .i64 pr, .int .i64 q, .int .u8 (ad.a.toNat : Int), .int .u8 (ad.b.toNat : Int), .int .u8 (ad.c.toNat : Int), .int .u8 (ad.d.toNat : Int), .int .i64 p, .int .i64 1, .int .i64 un] rfl)
 go_wp2_with (first | ((with_reducible show wpList _ _ _ (⟨some 78, _, _, _, _, _⟩ :: _) _ _); refine wpList_load_rng 65 (.tmp 14) rfl (by kernel_rfl) _ _ rfl _ R78.out _ Tryz.underlying65 rfl (by kernel_rfl) ?_) | ((with_reducible show wpList _ _ _ (⟨none, Op.store _ (.tmp 8) _, _, _, _, _⟩ :: _) _ _); refine wpList_store_blk rfl 65 (.tmp 8) (.tmp 78) rfl g8 rfl _ rfl _ 65 hrB (by rfl) (by kernel_rfl) (by kernel_rfl) ?_; intro w10 hq gr; replace hfB := blk_a hfB gr d_fB_rB; replace hnB := blk_a hnB gr (ne_symm d_rB_nB); replace fr := fr.newer ap_rB gr pn_rB; replace hT := hT.away ap_rB gr hrB; replace ap_fB := ap_fB.grown ap_rB.1 gr; replace ap_rB := ap_rB.grown ap_rB.1 gr; replace ap_nB := ap_nB.grown ap_rB.1 gr; replace bel := below_grown bel gr orB (Nat.le_trans hlo bel.size); clear hrB; have hrB := hq; clear hq gr))
 try clear R78
 exact bodyPost_ret (results_cell_tmp_row rfl _ _ _ _ _ _ _ rfl hrB Tryz.underlying65 rfl (by kernel_rfl) (.int .i64 0) rfl) rfl ⟨rfl, hT, fr, bel⟩
open Go.RowKit

theorem tnew_any {lw rm : Int} (w : World) (h1 : ¬ lw < 1024) (h2 : ¬ 60000 < lw) (h3 : ¬ rm < 1) (h4 : ¬ 128 < rm) : Calls Tryz.prog 11 #[.int .i64 lw, .int .i64 rm] w fun e w' => ∃ gt, e = .returned (.tuple #[.pointer (some ⟨gt, 0, none⟩), .int .i64 0]) ∧ Tp w.heap.size gt w' ⟨lw, rm, 0, [], []⟩ ∧ Below w.heap.size w w' := by
 have HOK : Hid (Ts.ok ⟨lw, rm, 0, [], []⟩) := Lib.hid ⟨List.Pairwise.nil, (fun e h => by cases h), Int.le_refl _, by show (0 : Int) ≤ 1099511627776; decide, by show 1024 ≤ lw; omega, by show lw ≤ 60000; omega, by show 1 ≤ rm; omega, by show rm ≤ 128; omega, by show ((0 : Nat) : Int) ≤ rm; omega⟩
 have g1 : decide (lw < 1024) = false := decide_eq_false h1
 have g2 : decide (lw > 60000) = false := decide_eq_false h2
 have g3 : decide (rm < 1) = false := decide_eq_false h3
 have g22 : decide (60000 < lw) = false := decide_eq_false h2
 have g4 : decide (rm > 128) = false := decide_eq_false h4
 have g44 : decide (128 < rm) = false := decide_eq_false h4
 clear h1 h2 h3 h4
 have bel := Below.refl w.heap.size w
 go_enter Tryz.func11, Tryz.ntmps11
 go_wp2_with (first | ((with_reducible show wpList _ _ _ (⟨some 22, _, _, _, _, _⟩ :: _) _ _); refine wpList_makemap_n rfl 73 rfl ?_; intro g22 w80 ge hM_ bb; have hM := hM_.lo_le bel.size; replace bel := bel.trans (bb.mono bel.size); clear hM_ bb ge) | ((with_reducible show wpList _ _ _ (⟨some 24, _, _, _, _, _⟩ :: _) _ _); refine wpList_box_n rfl 76 (.tmp 23) rfl #[.int .i64 lw, .int .i64 rm, .int .i64 0, .slice none 0 0, .map (some g22)] rfl ?_; intro g24 w1 ge lt hh bb; have otb := Nat.le_trans bel.size ge; replace hM := hM.below bb; replace bel := bel.trans (bb.mono bel.size); have htb := hh; clear hh lt ge bb))
 exact bodyPost_ret (v := .tuple #[.pointer (some ⟨g24, 0, none⟩), .int .i64 0]) (by simp [results, Tryz.results11, go_sem]) rfl ⟨g24, rfl, ⟨none, 0, 0, g22, htb, otb, hM, World.ownsRow_nil _ _ _ _, HOK.out⟩, bel⟩
theorem fo_lt_0 {gt mb n c : Nat} {lw rm now : Int} {l : List Mp} {pr p : Int} {ad : Ad4} {A : Option Addr} (w : World) (htb : w.heap[gt]? = some (.cells #[.int .i64 lw, .int .i64 rm, .int .i64 now, .slice A n c, .map (some mb)] 76 (0, 0))) (en : Sle mpE 9 w A n c l) (hS : MSrt l) (hO : ∀ e ∈ l, e.okp) (h32 : n ≤ 1000) (hpo : okP pr lw) (hlw : lw ≤ 65535) (h1 : ¬ lw ≤ p) (hf : mfhas l (kn pr lw) = false) : Calls Tryz.prog 136 #[.pointer (some ⟨gt, 0, none⟩), .agg #[.int .i64 pr, .int .u8 (ad.a.toNat : Int), .int .u8 (ad.b.toNat : Int), .int .u8 (ad.c.toNat : Int), .int .u8 (ad.d.toNat : Int), .int .i64 p]] w fun e w' => e = .returned (.tuple #[.int .i64 lw, .bool true]) ∧ Below w.heap.size w w' := by
 have HS := Lib.hid hS
 have HOK := Lib.hid hO
 have HPO := Lib.hid hpo
 have HF := Lib.hid hf
 have h2 : decide (p ≥ lw) = false := decide_eq_false h1
 have h3 : decide (lw ≤ p) = false := decide_eq_false h1
 clear hS hO hpo hf h1
 have bel := Below.refl w.heap.size w
 go_enter Tryz.func136, Tryz.ntmps136
 go_wp2_with (first | ((with_reducible show wpList _ _ _ (⟨some 3, _, _, _, _, _⟩ :: _) _ _); refine wpList_box_n rfl 164 (.tmp 1) rfl #[.int .i64 pr, .int .u8 (ad.a.toNat : Int), .int .u8 (ad.b.toNat : Int), .int .u8 (ad.c.toNat : Int), .int .u8 (ad.d.toNat : Int), .int .i64 p] rfl ?_; intro g3 w1 ge lt hh bb; have d_tb_fb := ne_new (hlt htb) ge; have av_en_fb := en.av_new ge; have ofb := Nat.le_trans bel.size ge; replace htb := blk_u htb bb; replace en := en.below bb; replace bel := bel.trans (bb.mono bel.size); have hfb := hh; clear hh lt ge bb))
 replace bel := bel.drew
 replace htb : w1.drew.heap[gt]? = _ := htb
 replace hfb : w1.drew.heap[g3]? = _ := hfb
 replace en := en.drew
 refine wp_region_held_drew (S := fun W => W.heap[g3]? = some (.cells #[.int .i64 pr, .int .u8 (ad.a.toNat : Int), .int .u8 (ad.b.toNat : Int), .int .u8 (ad.c.toNat : Int), .int .u8 (ad.d.toNat : Int), .int .i64 p] 164 (0, 0)) ∧ W.heap[gt]? = some (.cells #[.int .i64 lw, .int .i64 rm, .int .i64 now, .slice A n c, .map (some mb)] 76 (0, 0))) (by kernel_rfl) ⟨hfb, htb⟩ (fun hH => ?_)
 generalize w1.drew = w2 at bel htb hfb en hH ⊢
 refine wpAnyH_take (i := 0) (v := ?_) rfl (by kernel_rfl) (by kernel_rfl) (by kernel_rfl) (fun _ _ _ h => h) (Or.inl ⟨by rfl, ?_⟩) hH ?_
 rotate_left
 ·((intro W hW; clear hW; go_simp) <;> with_reducible rfl)
 simp only [Act.put, List.getElem_toArray, List.getElem_cons_zero, List.setIfInBounds_toArray, List.set_cons_zero, List.set_cons_succ]
 refine wpAnyH_take (i := 1) (v := ?_) rfl (by kernel_rfl) (by kernel_rfl) (by kernel_rfl) (fun _ _ _ h => h) (Or.inl ⟨by rfl, ?_⟩) hH ?_
 rotate_left
 ·((intro W hW; have hk := cell_lit (hW.1) 5 _ rfl; clear hW; go_simp) <;> with_reducible rfl)
 simp only [sq3, sq4]
 refine wpAnyH_take (i := 2) (v := ?_) rfl (by kernel_rfl) (by kernel_rfl) (by kernel_rfl) (fun _ _ _ h => h) (Or.inl ⟨by rfl, ?_⟩) hH ?_
 rotate_left
 ·((intro W hW; clear hW; go_simp) <;> with_reducible rfl)
 simp only [sq3, sq4]
 refine wpAnyH_take (i := 3) (v := ?_) rfl (by kernel_rfl) (by kernel_rfl) (by kernel_rfl) (fun _ _ _ h => h) (Or.inl ⟨by rfl, ?_⟩) hH ?_
 rotate_left
 ·((intro W hW; clear hW; go_simp) <;> with_reducible rfl)
 simp only [sq3, sq4]
 refine wpAnyH_take (i := 4) (v := ?_) rfl (by kernel_rfl) (by kernel_rfl) (by kernel_rfl) (fun _ _ _ h => h) (Or.inl ⟨by rfl, ?_⟩) hH ?_
 rotate_left
 ·((intro W hW; clear hW; go_simp) <;> with_reducible rfl)
 simp only [sq3, sq4]
 refine wpAnyH_take (i := 5) (v := ?_) rfl (by kernel_rfl) (by kernel_rfl) (by kernel_rfl) (fun _ _ _ h => h) (Or.inl ⟨by rfl, ?_⟩) hH ?_
 rotate_left
 ·((intro W hW; have hk := cell_lit (hW.2) 0 _ rfl; clear hW; go_simp) <;> with_reducible rfl)
 simp only [sq3, sq4]
 refine wpAnyH_take (i := 6) (v := ?_) rfl (by kernel_rfl) (by kernel_rfl) (by kernel_rfl) (fun _ _ _ h => h) (Or.inl ⟨by rfl, ?_⟩) hH ?_
 rotate_left
 ·((intro W hW; clear hW; go_simp) <;> with_reducible rfl)
 simp only [sq3, sq4]
 refine wpAnyH_take (i := 7) (v := ?_) rfl (by kernel_rfl) (by kernel_rfl) (by kernel_rfl) (fun _ _ _ h => h) (Or.inl ⟨by rfl, ?_⟩) hH ?_
 rotate_left
 ·((intro W hW; clear hW; go_simp) <;> with_reducible rfl)
 simp only [sq3, sq4]
 refine wpAnyH_take (i := 8) (v := undef) rfl (by kernel_rfl) (by kernel_rfl) (by kernel_rfl) (fun _ _ _ h => h) (Or.inr ⟨by rfl, rfl⟩) hH ?_
 simp only [sq3, sq4]
 refine wpAnyH_take (i := 9) (v := undef) rfl (by kernel_rfl) (by kernel_rfl) (by kernel_rfl) (fun _ _ _ h => h) (Or.inr ⟨by rfl, rfl⟩) hH ?_
 simp only [sq3, sq4]
 refine wpAnyH_take (i := 10) (v := undef) rfl (by kernel_rfl) (by kernel_rfl) (by kernel_rfl) (fun _ _ _ h => h) (Or.inr ⟨by rfl, rfl⟩) hH ?_
 simp only [sq3, sq4]
 refine wpAnyH_take (i := 11) (v := undef) rfl (by kernel_rfl) (by kernel_rfl) (by kernel_rfl) (fun _ _ _ h => h) (Or.inr ⟨by rfl, rfl⟩) hH ?_
 simp only [sq3, sq4]
 refine wpAnyH_take (i := 12) (v := undef) rfl (by kernel_rfl) (by kernel_rfl) (by kernel_rfl) (fun _ _ _ h => h) (Or.inr ⟨by rfl, rfl⟩) hH ?_
 simp only [sq3, sq4]
 refine wpAnyH_take (i := 13) (v := undef) rfl (by kernel_rfl) (by kernel_rfl) (by kernel_rfl) (fun _ _ _ h => h) (Or.inr ⟨by rfl, rfl⟩) hH ?_
 simp only [sq3, sq4]
 refine wpAnyH_take (i := 14) (v := undef) rfl (by kernel_rfl) (by kernel_rfl) (by kernel_rfl) (fun _ _ _ h => h) (Or.inr ⟨by rfl, rfl⟩) hH ?_
 simp only [sq3, sq4]
 refine wpAnyH_take (i := 15) (v := undef) rfl (by kernel_rfl) (by kernel_rfl) (by kernel_rfl) (fun _ _ _ h => h) (Or.inr ⟨by rfl, rfl⟩) hH ?_
 simp only [sq3, sq4]
 refine wpAnyH_take (i := 16) (v := ?_) rfl (by kernel_rfl) (by kernel_rfl) (by kernel_rfl) (fun _ _ _ h => h) (Or.inl ⟨by rfl, ?_⟩) hH ?_
 rotate_left
 ·((intro W hW; clear hW; go_simp) <;> with_reducible rfl)
 simp only [sq3, sq4]
 refine wpAnyH_done (by kernel_rfl) ?_ _
 have R29 := cell_lit htb 0 _ rfl
 go_wp2_with fail
 clear R29
 refine wp_loop_rounds 1 ?_
 rw [rounds_succ]
 have R36 := cell_lit hfb 0 _ rfl
 go_wp2_with fail
 clear R36
 with_reducible refine (mat_none pr lw _ htb en HS.out HOK.out HPO.out h32 HF.out).mono ?_
 rintro e w3 ⟨rfl, b3⟩
 replace htb := blk_u htb b3
 replace hfb := blk_u hfb b3
 replace en := en.below b3
 replace bel := bel.trans (b3.mono bel.size)
 clear b3
 go_wp2_with fail
 exact bodyPost_ret (v := .tuple #[.int .i64 lw, .bool true]) (by simp [results, Tryz.results136, go_sem]) rfl ⟨rfl, bel⟩
theorem fop_own {lw : Int} {l : List Mp} {pr p : Int} {ad : Ad4} (hS : MSrt l) (hO : ∀ e ∈ l, e.okp) (hpo : okP pr p) (h1 : lw ≤ p) (hf : mfhas l (kn pr p) = false) : FoP lw l pr ad p p true :=
 fun W lo gt mb n c A rm now htb own h32 => fo_own W htb (owk_sle (by decide) mpE_len own).1 hS hO h32 hpo h1 hf
/-- The least one: all below it are somebody's; the flow's own is too small or somebody's. -/
theorem fop_least {lw : Int} {l : List Mp} {pr p q : Int} {ad : Ad4} (hS : MSrt l) (hO : ∀ e ∈ l, e.okp) (hlo : 0 ≤ lw) (hlq : lw ≤ q) (hq5 : q ≤ 65535) (hpr : 0 ≤ pr ∧ pr ≤ 255) (hp : lw ≤ p → okP pr p ∧ mfhas l (kn pr p) = true) (hall : ∀ o, lw ≤ o → o < q → mfhas l (kn pr o) = true) (hno : mfhas l (kn pr q) = false) : FoP lw l pr ad p q true := by
 intro W lo gt mb n c A rm now htb own h32
 have en := (owk_sle (by decide) mpE_len own).1
 have hl := row_len (by decide) mpE_len own
 have pos : ∀ x, mfhas l x = true → 0 < n := fun x hx => by
  obtain ⟨e, he, _⟩ := mfhas_true hx
  have := (List.getElem?_eq_some_iff.1 he).1
  omega
 by_cases h1 : lw ≤ p
 ·obtain ⟨hpo, hb⟩ := hp h1
  obtain ⟨gE, rfl, _⟩ := row_at own (pos _ hb)
  obtain ⟨i, x, hq, hx, _⟩ := mfhas_ex hb
  exact fo_has_y W htb en (owk_av own (ofs_type own htb (by decide))) hS hO h32 hlo hlq (by omega) hpr hall h1 hpo hq hb hx hq5 hno
 ·by_cases h0 : lw = q
  ·subst h0
   exact fo_lt_0 W htb en hS hO h32 ⟨hpr.1, hpr.2, hlo, hq5⟩ hq5 h1 hno
  ·obtain ⟨gE, rfl, _⟩ := row_at own (pos _ (hall lw (Int.le_refl _) (by omega)))
   exact fo_lt_y W htb en (owk_av own (ofs_type own htb (by decide))) hS hO h32 hlo hlq (by omega) hpr hall h1 hq5 hno
open Go.RowKit

/-- A connection: the gateway's port, the peer, its port, the state, a direction. -/
structure Cn where
 o : Int
 ad : Ad4
 p : Int
 s : Int
 d : Bool
def cnE (e : Cn) : List Value := [.int .i64 e.o, .int .u8 (e.ad.a.toNat : Int), .int .u8 (e.ad.b.toNat : Int), .int .u8 (e.ad.c.toNat : Int), .int .u8 (e.ad.d.toNat : Int), .int .i64 e.p, .int .i64 e.s, .bool e.d]
def Cn.okp (e : Cn) : Prop := 0 ≤ e.s ∧ e.s ≤ 6
def overB (e : Cn) : Bool := (e.s == 5) || (e.s == 6)
/-- A flag. -/
def fl (f m : Int) : Bool := !(bits .and .i64 f m == 0)
/-- The first one that is over, or the first one of all. -/
def least (l : List Cn) : Nat := if l.findIdx overB < l.length then l.findIdx overB else 0
/-- What a table holds: its room, its connections. -/
structure Ks where
 rm : Int
 l : List Cn
structure Ks.ok (s : Ks) : Prop where
 okp : ∀ e ∈ s.l, e.okp
 r0 : 1 ≤ s.rm
 r1 : s.rm ≤ 256
 len : (s.l.length : Int) ≤ s.rm
theorem Ks.ok.set {s : Ks} (h : s.ok) (i : Nat) {y : Cn} (hy : y.okp) : ({ s with l := s.l.set i y } : Ks).ok := by
 refine ⟨fun e he => ?_, h.r0, h.r1, by show ((s.l.set i y).length : Int) ≤ s.rm; rw [List.length_set]; exact h.len⟩
 rcases List.mem_or_eq_of_mem_set he with h1 | h1
 ·exact h.okp e h1
 ·rw [h1]; exact hy
theorem Ks.ok.put {s : Ks} (h : s.ok) {y : Cn} (hy : y.okp) (hr : (s.l.length : Int) < s.rm) : ({ s with l := s.l ++ [y] } : Ks).ok := by
 refine ⟨fun e he => ?_, h.r0, h.r1, by show ((s.l ++ [y]).length : Int) ≤ s.rm; rw [List.length_append, List.length_singleton]; omega⟩
 rcases List.mem_append.1 he with h1 | h1
 ·exact h.okp e h1
 ·rw [List.mem_singleton.1 h1]; exact hy
open Go.RowKit

open Go.RowKit

open Go.RowKit

open Go.RowKit

/-- The table at block gt: what is of the call's own from lo on; what it holds. -/
def Tk (lo gt : Nat) (w : World) (s : Ks) : Prop := ∃ (A : Option Addr) (n c : Nat), w.heap[gt]? = some (.cells #[.int .i64 s.rm, .slice A n c] 110 (0, 0)) ∧ lo ≤ gt ∧ w.ownsRow lo 154 8 (.slice A n c) n (s.l.flatMap cnE) ∧ s.ok
theorem Tk.below {lo gt : Nat} {w w' : World} {s : Ks} (h : Tk lo gt w s) (b : Below w.heap.size w w') : Tk lo gt w' s := by
 obtain ⟨A, n, c, h1, h2, h4, h5⟩ := h
 exact ⟨A, n, c, blk_u h1 b, h2, owk_under h4 b, h5⟩
theorem Tk.lo_le {lo gt : Nat} {w : World} {s : Ks} (h : Tk lo gt w s) : lo ≤ w.heap.size := by
 obtain ⟨A, n, c, h1, h2, _⟩ := h
 exact Nat.le_trans h2 (Nat.le_of_lt (hlt h1))
theorem Tk.lo_mono {lo lo' gt : Nat} {w : World} {s : Ks} (h : Tk lo gt w s) (hl : lo' ≤ lo) : Tk lo' gt w s := by
 obtain ⟨A, n, c, h1, h2, h4, h5⟩ := h
 exact ⟨A, n, c, h1, Nat.le_trans hl h2, owk_lo h4 hl, h5⟩
theorem Tk.ok {lo gt : Nat} {w : World} {s : Ks} (h : Tk lo gt w s) : s.ok := by
 obtain ⟨_, _, _, _, _, _, h⟩ := h
 exact h
def KbB (w : World) (gt : Nat) (a : Int) (A : Option Addr) (n c : Nat) : Prop := w.heap[gt]? = some (.cells #[.int .i64 a, .slice A n c] 110 (0, 0))
/-- A block that lies apart from the table's. -/
def Kp (gt : Nat) (w : World) (q : Nat) : Prop := q ≠ gt ∧ gt < w.heap.size ∧ ∀ (a : Int) (A : Option Addr) (n c : Nat), KbB w gt a A n c → Ofs (.slice A n c) q
theorem Kp.below {gt q : Nat} {w w' : World} (h : Kp gt w q) (b : Below w.heap.size w w') : Kp gt w' q := ⟨h.1, Nat.lt_of_lt_of_le h.2.1 b.size, fun a A n c hh => h.2.2 a A n c ((b.block gt h.2.1).symm.trans hh)⟩
theorem Kp.grown {gt q r : Nat} {w w' : World} (h : Kp gt w q) (hr : r ≠ gt) (g : w.grownBy w' (some r)) : Kp gt w' q := ⟨h.1, Nat.lt_of_lt_of_le h.2.1 g.size, fun a A n c hh => h.2.2 a A n c ((g.block gt h.2.1 (fun e => hr (by injection e with e; exact e.symm))).symm.trans hh)⟩
theorem Kp.ofs {gt q : Nat} {w : World} {a : Int} {A : Option Addr} {n c : Nat} (h : Kp gt w q) (htb : w.heap[gt]? = some (.cells #[.int .i64 a, .slice A n c] 110 (0, 0))) : Ofs (.slice A n c) q := h.2.2 _ _ _ _ htb
theorem Kp.mk {gt q : Nat} {w : World} {a : Int} {A : Option Addr} {n c : Nat} (htb : w.heap[gt]? = some (.cells #[.int .i64 a, .slice A n c] 110 (0, 0))) (h : Ofs (.slice A n c) q) (hq : q ≠ gt) : Kp gt w q := by
 refine ⟨hq, hlt htb, fun a' A' n' c' hh => ?_⟩
 unfold KbB at hh
 rw [htb] at hh
 simp only [Option.some.injEq, Obj.cells.injEq, Array.mk.injEq, List.cons.injEq, Value.slice.injEq, and_true] at hh
 obtain ⟨_, h1, h2, h3⟩ := hh
 rw [← h1, ← h2, ← h3]; exact h
theorem Tk.ap {lo gt q : Nat} {w : World} {s : Ks} (h : Tk lo gt w s) (hq : w.heap.size ≤ q) : Kp gt w q := by
 obtain ⟨A, n, c, h1, h2, h4, h5⟩ := h
 exact Kp.mk h1 (owk_new h4 hq) (Nat.ne_of_gt (Nat.lt_of_lt_of_le (hlt h1) hq))
theorem Tk.away {lo gt q : Nat} {w w' : World} {s : Ks} {c : Array Value} {T : TypeId} {fz : Nat × Nat} (h : Tk lo gt w s) (ap : Kp gt w q) (g : w.grownBy w' (some q)) (_hq : w.heap[q]? = some (.cells c T fz)) : Tk lo gt w' s := by
 obtain ⟨A, n, c', h1, h2, h4, h5⟩ := h
 exact ⟨A, n, c', (g.block gt (hlt h1) (fun e => ap.1 (by injection e with e; exact e.symm))).trans h1, h2, owk_off h4 (ap.ofs h1) g, h5⟩
/-- What lies apart stays, and lies apart. -/
def Kap (gt : Nat) (w w' : World) : Prop := ∀ (k : Nat) (x : Obj), w.heap[k]? = some x → Kp gt w k → w'.heap[k]? = some x ∧ Kp gt w' k
theorem Kap.refl (gt : Nat) (w : World) : Kap gt w w := fun _ _ h a => ⟨h, a⟩
theorem Kap.trans {gt : Nat} {a b c : World} (h : Kap gt a b) (h' : Kap gt b c) : Kap gt a c := fun k x hx ap => h' k x (h k x hx ap).1 (h k x hx ap).2
theorem Kap.below {gt : Nat} {w W W' : World} (h : Kap gt w W) (b : Below W.heap.size W W') : Kap gt w W' := fun k x hx ap => ⟨blk_u (h k x hx ap).1 b, (h k x hx ap).2.below b⟩
theorem Kap.newer {gt q : Nat} {w W W' : World} (h : Kap gt w W) (ap : Kp gt W q) (g : W.grownBy W' (some q)) (hq : w.heap.size ≤ q) : Kap gt w W' := fun k x hx a => by
 have h1 := h k x hx a
 exact ⟨(g.block k (hlt h1.1) (fun e => by injection e with e; have := hlt hx; omega)).trans h1.1, h1.2.grown ap.1 g⟩
def Ko (gt : Nat) (w W : World) (v : Value) : Prop := ∀ (k : Nat) (x : Obj), w.heap[k]? = some x → Kp gt w k → W.heap[k]? = some x ∧ k ≠ gt ∧ Ofs v k
theorem Ko.refl {gt : Nat} {w : World} {a : Int} {A : Option Addr} {n c : Nat} (htb : w.heap[gt]? = some (.cells #[.int .i64 a, .slice A n c] 110 (0, 0))) : Ko gt w w (.slice A n c) := fun _ _ h ap => ⟨h, ap.1, ap.ofs htb⟩
theorem Kap.fo {gt : Nat} {w W : World} {a : Int} {A : Option Addr} {n c : Nat} (h : Kap gt w W) (htb : W.heap[gt]? = some (.cells #[.int .i64 a, .slice A n c] 110 (0, 0))) : Ko gt w W (.slice A n c) := fun k x hx ap => ⟨(h k x hx ap).1, (h k x hx ap).2.1, (h k x hx ap).2.ofs htb⟩
theorem Ko.fr {gt : Nat} {w W : World} {a : Int} {A : Option Addr} {n c : Nat} (h : Ko gt w W (.slice A n c)) (htb : W.heap[gt]? = some (.cells #[.int .i64 a, .slice A n c] 110 (0, 0))) : Kap gt w W := fun k x hx ap => ⟨(h k x hx ap).1, Kp.mk htb (h k x hx ap).2.2 (h k x hx ap).2.1⟩
theorem Ko.below {gt : Nat} {w W W' : World} {v : Value} (h : Ko gt w W v) (b : Below W.heap.size W W') : Ko gt w W' v := fun k x hx ap => ⟨blk_u (h k x hx ap).1 b, (h k x hx ap).2⟩
theorem Ko.tb {gt : Nat} {w W W' : World} {v : Value} (h : Ko gt w W v) (g : W.grownBy W' (some gt)) : Ko gt w W' v := fun k x hx ap => by
 have h1 := h k x hx ap
 exact ⟨(g.block k (hlt h1.1) (fun e => h1.2.1 (by injection e))).trans h1.1, h1.2⟩
theorem Ko.newer {gt q : Nat} {w W W' : World} {v : Value} (h : Ko gt w W v) (g : W.grownBy W' (some q)) (hq : w.heap.size ≤ q) : Ko gt w W' v := fun k x hx ap => by
 have h1 := h k x hx ap
 exact ⟨(g.block k (hlt h1.1) (fun e => by injection e with e; have := hlt hx; omega)).trans h1.1, h1.2⟩
theorem Ko.row {gt : Nat} {w W W' : World} {v v' : Value} (h : Ko gt w W v) (g : W.grownBy W' v.ownBlock) (o : ∀ q, q < W.heap.size → Ofs v q → Ofs v' q) : Ko gt w W' v' := fun k x hx ap => by
 have h1 := h k x hx ap
 exact ⟨blk_own h1.1 g h1.2.2, h1.2.1, o k (hlt h1.1) h1.2.2⟩
theorem knew_any {rm : Int} (w : World) (h1 : ¬ rm < 1) (h4 : ¬ 256 < rm) : Calls Tryz.prog 31 #[.int .i64 rm] w fun e w' => ∃ gt, e = .returned (.tuple #[.pointer (some ⟨gt, 0, none⟩), .int .i64 0]) ∧ Tk w.heap.size gt w' ⟨rm, []⟩ ∧ Below w.heap.size w w' := by
 have HOK : Hid (Ks.ok ⟨rm, []⟩) := Lib.hid ⟨(fun e h => by cases h), by show 1 ≤ rm; omega, by show rm ≤ 256; omega, by show ((0 : Nat) : Int) ≤ rm; omega⟩
 have g1 : decide (rm < 1) = false := decide_eq_false h1
 have g4 : decide (rm > 256) = false := decide_eq_false h4
 have g44 : decide (256 < rm) = false := decide_eq_false h4
 clear h1 h4
 have bel := Below.refl w.heap.size w
 go_enter Tryz.func31, Tryz.ntmps31
 go_wp2_with (first | ((with_reducible show wpList _ _ _ (⟨some 12, _, _, _, _, _⟩ :: _) _ _); refine wpList_box_n rfl 110 (.tmp 11) rfl #[.int .i64 rm, .slice none 0 0] rfl ?_; intro g12 w1 ge lt hh bb; have otb := Nat.le_trans bel.size ge; replace bel := bel.trans (bb.mono bel.size); have htb := hh; clear hh lt ge bb))
 exact bodyPost_ret (v := .tuple #[.pointer (some ⟨g12, 0, none⟩), .int .i64 0]) (by simp [results, Tryz.results31, go_sem]) rfl ⟨g12, rfl, ⟨none, 0, 0, htb, otb, World.ownsRow_nil _ _ _ _, HOK.out⟩, bel⟩
open Go.RowKit

open Go.RowKit

/-- The Nat at block gn: the table of mappings at gt (s), that of talks at gk (k). -/
def Np (lo gn gt gk : Nat) (w : World) (s : Ts) (k : Ks) : Prop :=
 w.heap[gn]? = some (.cells #[.pointer (some ⟨gt, 0, none⟩), .pointer (some ⟨gk, 0, none⟩), .int .i64 120, .int .i64 7200, .int .i64 30] 82 (0, 0)) ∧ lo ≤ gn ∧ Tp lo gt w s ∧ Tk lo gk w k
/-- A block that lies apart from all of it. -/
def Anp (gn gt gk : Nat) (w : World) (q : Nat) : Prop := q ≠ gn ∧ gn < w.heap.size ∧ Ap gt w q ∧ Kp gk w q
/-- What lies apart stays, and lies apart. -/
def Fn (gn gt gk : Nat) (w w' : World) : Prop := ∀ (k : Nat) (c : Array Value) (T : TypeId) (fz : Nat × Nat), w.heap[k]? = some (.cells c T fz) → Anp gn gt gk w k → w'.heap[k]? = some (.cells c T fz) ∧ Anp gn gt gk w' k
/-- A slice of bytes that lies apart. -/
def An (gn gt gk : Nat) (w : World) (A : Option Addr) (n : Nat) : Prop := 0 < n → ∀ a o p, A = some ⟨a, o, p⟩ → Anp gn gt gk w a

theorem Tp.apt {lo gt q : Nat} {w : World} {s : Ts} {c : Array Value} {T : TypeId} {fz : Nat × Nat} (h : Tp lo gt w s) (hq : w.heap[q]? = some (.cells c T fz)) (h1 : T ≠ 76) (h2 : T ≠ 65) : Ap gt w q := by
 obtain ⟨A, n, c', mb, h3, h4, h5, h6, _⟩ := h
 exact Ap.mk h3 (ofs_type h6 hq h2) (fun e => blk_ne hq h3 h1 e)
theorem Tk.kpt {lo gk q : Nat} {w : World} {s : Ks} {c : Array Value} {T : TypeId} {fz : Nat × Nat} (h : Tk lo gk w s) (hq : w.heap[q]? = some (.cells c T fz)) (h1 : T ≠ 110) (h2 : T ≠ 154) : Kp gk w q := by
 obtain ⟨A, n, c', h3, h4, h6, _⟩ := h
 exact Kp.mk h3 (ofs_type h6 hq h2) (fun e => blk_ne hq h3 h1 e)
theorem Np.tp {lo gn gt gk : Nat} {w : World} {s : Ts} {k : Ks} (h : Np lo gn gt gk w s k) : Tp lo gt w s := h.2.2.1
theorem Np.tk {lo gn gt gk : Nat} {w : World} {s : Ts} {k : Ks} (h : Np lo gn gt gk w s k) : Tk lo gk w k := h.2.2.2
theorem Np.nat {lo gn gt gk : Nat} {w : World} {s : Ts} {k : Ks} (h : Np lo gn gt gk w s k) : w.heap[gn]? = some (.cells #[.pointer (some ⟨gt, 0, none⟩), .pointer (some ⟨gk, 0, none⟩), .int .i64 120, .int .i64 7200, .int .i64 30] 82 (0, 0)) := h.1
theorem Np.lo_le {lo gn gt gk : Nat} {w : World} {s : Ts} {k : Ks} (h : Np lo gn gt gk w s k) : lo ≤ w.heap.size := h.tp.lo_le
theorem Np.lo_mono {lo lo' gn gt gk : Nat} {w : World} {s : Ts} {k : Ks} (h : Np lo gn gt gk w s k) (hl : lo' ≤ lo) : Np lo' gn gt gk w s k := ⟨h.1, Nat.le_trans hl h.2.1, h.tp.lo_mono hl, h.tk.lo_mono hl⟩
theorem Np.below {lo gn gt gk : Nat} {w w' : World} {s : Ts} {k : Ks} (h : Np lo gn gt gk w s k) (b : Below w.heap.size w w') : Np lo gn gt gk w' s k := ⟨blk_u h.1 b, h.2.1, h.tp.below b, h.tk.below b⟩
theorem np_drew {lo gn gt gk : Nat} {w : World} {s : Ts} {k : Ks} (h : Np lo gn gt gk w s k) : Np lo gn gt gk w.drew s k := h
theorem Np.ap {lo gn gt gk q : Nat} {w : World} {s : Ts} {k : Ks} (h : Np lo gn gt gk w s k) (hq : w.heap.size ≤ q) : Anp gn gt gk w q := ⟨Nat.ne_of_gt (Nat.lt_of_lt_of_le (hlt h.1) hq), hlt h.1, h.tp.ap hq, h.tk.ap hq⟩
theorem Np.away {lo gn gt gk q : Nat} {w w' : World} {s : Ts} {k : Ks} {c : Array Value} {T : TypeId} {fz : Nat × Nat} (h : Np lo gn gt gk w s k) (ap : Anp gn gt gk w q) (g : w.grownBy w' (some q)) (hq : w.heap[q]? = some (.cells c T fz)) : Np lo gn gt gk w' s k :=
 ⟨(g.block gn (hlt h.1) (fun e => ap.1 (by injection e with e; exact e.symm))).trans h.1, h.2.1, h.tp.away ap.2.2.1 g hq, h.tk.away ap.2.2.2 g hq⟩
theorem Anp.below {gn gt gk q : Nat} {w w' : World} (h : Anp gn gt gk w q) (b : Below w.heap.size w w') : Anp gn gt gk w' q := ⟨h.1, Nat.lt_of_lt_of_le h.2.1 b.size, h.2.2.1.below b, h.2.2.2.below b⟩
theorem anp_drew {gn gt gk q : Nat} {w : World} (h : Anp gn gt gk w q) : Anp gn gt gk w.drew q := h
theorem Anp.grown {gn gt gk q r : Nat} {w0 w w' : World} (h : Anp gn gt gk w q) (hr : Anp gn gt gk w0 r) (g : w.grownBy w' (some r)) : Anp gn gt gk w' q := ⟨h.1, Nat.lt_of_lt_of_le h.2.1 g.size, h.2.2.1.grown hr.2.2.1.1 g, h.2.2.2.grown hr.2.2.2.1 g⟩
theorem Fn.refl (gn gt gk : Nat) (w : World) : Fn gn gt gk w w := fun _ _ _ _ h a => ⟨h, a⟩
theorem Fn.trans {gn gt gk : Nat} {a b c : World} (h : Fn gn gt gk a b) (h' : Fn gn gt gk b c) : Fn gn gt gk a c := fun k x T fz hx ap => h' k x T fz (h k x T fz hx ap).1 (h k x T fz hx ap).2
theorem Fn.below {gn gt gk : Nat} {w W W' : World} (h : Fn gn gt gk w W) (b : Below W.heap.size W W') : Fn gn gt gk w W' := fun k x T fz hx ap => ⟨blk_u (h k x T fz hx ap).1 b, (h k x T fz hx ap).2.below b⟩
theorem fn_drew {gn gt gk : Nat} {w W : World} (h : Fn gn gt gk w W) : Fn gn gt gk w W.drew := h
theorem Fn.newer {gn gt gk q : Nat} {w0 w W W' : World} (h : Fn gn gt gk w W) (ap : Anp gn gt gk w0 q) (g : W.grownBy W' (some q)) (hq : w.heap.size ≤ q) : Fn gn gt gk w W' := fun k x T fz hx a => by
 have h1 := h k x T fz hx a
 exact ⟨(g.block k (hlt h1.1) (fun e => by injection e with e; have := hlt hx; omega)).trans h1.1, h1.2.grown ap g⟩
theorem An.below {gn gt gk n : Nat} {A : Option Addr} {w w' : World} (h : An gn gt gk w A n) (b : Below w.heap.size w w') : An gn gt gk w' A n := fun hn a o p e => (h hn a o p e).below b
theorem an_drew {gn gt gk n : Nat} {A : Option Addr} {w : World} (h : An gn gt gk w A n) : An gn gt gk w.drew A n := h
theorem An.grown {gn gt gk n r : Nat} {A : Option Addr} {w0 w w' : World} (h : An gn gt gk w A n) (hr : Anp gn gt gk w0 r) (g : w.grownBy w' (some r)) : An gn gt gk w' A n := fun hn a o p e => (h hn a o p e).grown hr g
theorem An.sub {gn gt gk n k : Nat} {A A' : Option Addr} {w : World} (h : An gn gt gk w A n) (hs : Sub A' k A n) : An gn gt gk w A' k := fun hk a o p e => by
 obtain ⟨hn, h2⟩ := hs hk
 obtain ⟨o', p', e'⟩ := h2 a o p e
 exact h hn a o' p' e'
theorem Np.an {lo gn gt gk n : Nat} {A : Option Addr} {w : World} {s : Ts} {k : Ks} (h : Np lo gn gt gk w s k) (f : Fr w.heap.size A n) : An gn gt gk w A n := fun hn a o p e => by
 obtain ⟨a', o', e', hb⟩ := f hn
 rw [e] at e'
 injection e' with e'
 injection e' with e1
 subst e1
 exact h.ap hb
theorem Tp.old {lo gt q : Nat} {w : World} {s : Ts} (h : Tp lo gt w s) (hq : q < lo) : Ap gt w q := by
 obtain ⟨A, n, c', mb, h3, h4, h5, h6, _⟩ := h
 refine Ap.mk h3 (fun g hg e => ?_) (by omega)
 have := (h6.lt g hg).1
 omega
theorem Tk.old {lo gk q : Nat} {w : World} {s : Ks} (h : Tk lo gk w s) (hq : q < lo) : Kp gk w q := by
 obtain ⟨A, n, c', h3, h4, h6, _⟩ := h
 refine Kp.mk h3 (fun g hg e => ?_) (by omega)
 have := (h6.lt g hg).1
 omega
theorem Np.old {lo gn gt gk q : Nat} {w : World} {s : Ts} {k : Ks} (h : Np lo gn gt gk w s k) (hq : q < lo) : Anp gn gt gk w q := ⟨by have := h.2.1; omega, hlt h.1, h.tp.old hq, h.tk.old hq⟩
/-- Slices that lie apart read as before. -/
theorem Fn.sl {gn gt gk n c : Nat} {A : Option Addr} {l : List UInt8} {w w' : World} (h : Fn gn gt gk w w') (s : Sl w A n c l) (a : An gn gt gk w A n) : Sl w' A n c l ∧ An gn gt gk w' A n := by
 have hk : ∀ q v o, Anp gn gt gk w q → w.cell? ⟨q, o, none⟩ = some v → w'.cell? ⟨q, o, none⟩ = some v ∧ Anp gn gt gk w' q := by
  intro q v o ap hc
  rcases hb : w.heap[q]? with _ | x
  ·simp [World.cell?, hb] at hc
  ·cases x with
   | cells cs T fz =>
    have h1 := h q cs T fz hb ap
    refine ⟨?_, h1.2⟩
    have e : w'.heap[q]? = w.heap[q]? := by rw [h1.1, hb]
    exact (World.cell?_of_block (w := w) e).trans hc
   | _ => simp [World.cell?, hb] at hc
 refine ⟨⟨s.1, s.2.1, s.2.2.1, fun hn => ?_⟩, fun hn q o p e => ?_⟩
 ·obtain ⟨g, o, e, hc⟩ := s.2.2.2 hn
  exact ⟨g, o, e, fun j b hj => (hk g _ _ (a hn g o none e) (hc j b hj)).1⟩
 ·obtain ⟨g, o', e', hc⟩ := s.2.2.2 hn
  rw [e] at e'
  injection e' with e'
  injection e' with e1
  subst e1
  have hx : ∃ b, l[0]? = some b := by
   have h1 := s.1
   exact ⟨_, List.getElem?_eq_getElem (by omega)⟩
  obtain ⟨b, hb⟩ := hx
  exact (hk q _ _ (a hn q o p e) (hc 0 b hb)).2
/-- A call on the table of mappings. -/
theorem Np.left {lo gn gt gk : Nat} {w w' : World} {s s' : Ts} {k : Ks} (h : Np lo gn gt gk w s k) (h1 : Tp lo gt w' s') (f : Fap gt w w') : Np lo gn gt gk w' s' k ∧ Fn gn gt gk w w' := by
 obtain ⟨hn, hl, ht, hk⟩ := h
 have hN := f _ _ _ _ hn (ht.apt hn (by decide) (by decide))
 obtain ⟨A, n, c, k1, k2, k3, k4⟩ := hk
 have hK := f _ _ _ _ k1 (ht.apt k1 (by decide) (by decide))
 have hR := f.own k3 (fun g hg => by
  rcases k3.2 with h2 | ⟨g', cap, cur, e2, hb, hh, h3⟩
  ·rw [h2.1] at hg; simp [Value.ownBlock] at hg
  ·have hv : (Value.slice A n c).ownBlock = some g' := by rw [e2]; rfl
   rw [hv] at hg; cases hg
   exact ht.apt hh (by decide) (by decide))
 have hK2 : Tk lo gk w' k := ⟨A, n, c, hK.1, k2, hR.1, k4⟩
 refine ⟨⟨hN.1, hl, h1, hK2⟩, fun q x T fz hq ap => ?_⟩
 have h7 := f q x T fz hq ap.2.2.1
 refine ⟨h7.1, ap.1, hlt hN.1, h7.2, Kp.mk hK.1 (ap.2.2.2.ofs k1) ap.2.2.2.1⟩
/-- A call on the table of talks. -/
theorem Np.right {lo gn gt gk : Nat} {w w' : World} {s : Ts} {k k' : Ks} (h : Np lo gn gt gk w s k) (h1 : Tk lo gk w' k') (f : Kap gk w w') : Np lo gn gt gk w' s k' ∧ Fn gn gt gk w w' := by
 obtain ⟨hn, hl, ht, hk⟩ := h
 have hN := f _ _ hn (hk.kpt hn (by decide) (by decide))
 obtain ⟨A, n, c, mb, t1, t2, t3, t4, t5⟩ := ht
 have hT := f _ _ t1 (hk.kpt t1 (by decide) (by decide))
 have hM : ∀ x, w.heap[mb]? = some x → w'.heap[mb]? = some x := fun x hx => (f _ _ hx (by
  obtain ⟨A', n', c', k1, k2, k3, _⟩ := hk
  refine Kp.mk k1 (fun g hg e => ?_) (fun e => t3.ne k1 e)
  rcases k3.2 with h2 | ⟨g', cap, cur, e2, hb, hh, h3⟩
  ·rw [h2.1] at hg; simp [Value.ownBlock] at hg
  ·have hv : (Value.slice A' n' c').ownBlock = some g' := by rw [e2]; rfl
   rw [hv] at hg; cases hg
   exact t3.ne hh e.symm)).1
 have hR : w'.ownsRow lo 65 9 (.slice A n c) n (s.l.flatMap mpE) := by
  rcases t4.2 with h2 | ⟨g', cap, cur, e2, hb, hh, h3⟩
  ·exact ⟨t4.1, .inl h2⟩
  ·exact ⟨t4.1, .inr ⟨g', cap, cur, e2, hb, (f _ _ hh (hk.kpt hh (by decide) (by decide))).1, h3⟩⟩
 refine ⟨⟨hN.1, hl, ⟨A, n, c, mb, hT.1, t2, t3.of hM, hR, t5⟩, h1⟩, fun q x T fz hq ap => ?_⟩
 have h7 := f q _ hq ap.2.2.2
 exact ⟨h7.1, ap.1, hlt hN.1, Ap.mk hT.1 (ap.2.2.1.ofs t1) ap.2.2.1.1, h7.2⟩
theorem np_t {lo gn gt gk : Nat} {w : World} {s s' : Ts} {k : Ks} {F : FuncId} {args : Array Value} {R : Ending} (h : Np lo gn gt gk w s k) (c : Calls Tryz.prog F args w fun e w' => e = R ∧ Tp lo gt w' s' ∧ Fap gt w w' ∧ Below lo w w') : Calls Tryz.prog F args w fun e w' => e = R ∧ Np lo gn gt gk w' s' k ∧ Fn gn gt gk w w' ∧ Below lo w w' :=
 c.mono fun _ _ x => ⟨x.1, (h.left x.2.1 x.2.2.1).1, (h.left x.2.1 x.2.2.1).2, x.2.2.2⟩
open Go.RowKit

theorem tlive_set {lo gt : Nat} {s : Ts} {lw rm now : Int} {l os : List Mp} {p o sc un : Int} {i : Nat} {x : Mp} (t : Int) (w : World) (hT : Tp lo gt w s) (ha : s.adv t = ⟨lw, rm, now, l, os⟩) (hpo : okP p o) (hf : mfhas l (kn p o) = true) (hq : mfpos l (kn p o) = i) (hx : l[i]? = some x) (hk : (x.k == 1) = true) (hsc : secsB sc = true) (hu : now + sc = un) (hl : x.u < un) : Calls Tryz.prog 67 #[.pointer (some ⟨gt, 0, none⟩), .int .i64 p, .int .i64 o, .int .i64 t, .int .i64 sc] w fun e w' => e = .returned (.bool true) ∧ Tp lo gt w' ⟨lw, rm, now, l.set i ⟨x.pr, x.o, x.ad, x.i, x.k, un⟩, os⟩ ∧ Fap gt w w' ∧ Below lo w w' := by
 have hlo : lo ≤ w.heap.size := hT.lo_le
 have HLO := Lib.hid hlo
 have fr := Fap.refl gt w
 have HPO := Lib.hid hpo
 have HF := Lib.hid hf
 have HQ := Lib.hid hq
 clear hpo hf hq
 have HSC := Lib.hid hsc
 have HU := Lib.hid hu
 have HSR : Hid (1 ≤ sc ∧ sc ≤ 1000000000) := Lib.hid (by unfold secsB at hsc; simpa using hsc)
 clear hsc hu
 have bel := Below.refl lo w
 go_enter Tryz.func67, Tryz.ntmps67
 go_wp2_with fail
 with_reducible refine (tadv_any _ _ hT ha).mono ?_
 rintro e w1 ⟨rfl, hT_, f_, bb⟩
 replace fr := fr.trans f_
 clear hT
 have hT := hT_
 replace bel := bel.trans bb
 clear bb f_ hT_
 obtain ⟨A, n, c, mb, htb, otb, hM, own, hok⟩ := hT
 dsimp only at htb hM own
 have off_tb := ofs_type own htb (by decide)
 have hl := row_len (by decide) mpE_len own
 have HLL := Lib.hid hl
 have HOK := Lib.hid hok
 have H32 : Hid (n ≤ 1000) := Lib.hid (by have h1_ := hok.len; have h2_ := hok.r1; simp only at h1_ h2_; omega)
 have H128 : Hid (n ≤ 128) := Lib.hid (by have h1_ := hok.len; have h2_ := hok.r1; simp only at h1_ h2_; omega)
 clear hl hok
 have fo := fr.fo htb
 clear fr
 have hin_ : i < n := by have h1_ := (List.getElem?_eq_some_iff.1 hx).1; have h2_ := HLL.out; omega
 have i0 : (0 : Int) ≤ i := by omega
 have i1 : (i : Int) < n := by omega
 obtain ⟨gE, rfl, _⟩ := row_at own (by omega)
 have en := (owk_sle (by decide) mpE_len own).1
 have av_en_tb := owk_av own off_tb
 clear hin_
 have HX := Lib.hid hx
 clear hx
 have hk2 : (x.k != 1) = false := by unfold bne; rw [hk]; rfl
 have hw : IntKind.i64.wrap (now + sc) = un := by rw [← HU.out]; exact IntWalk.i64_in _ (by have h1_ := HOK.out.n0; have h2_ := HOK.out.n1; have h3_ := HSR.out; simp only at h1_ h2_; omega)
 have hl2 : decide (un ≤ x.u) = false := decide_eq_false (Int.not_le.2 hl)
 clear hl
 have HOK2 := Lib.hid (HOK.out.set (y := ⟨x.pr, x.o, x.ad, x.i, x.k, un⟩) HX.out rfl rfl)
 go_wp2_with fail
 with_reducible refine (mat_some p o _ htb en av_en_tb HOK.out.srt HOK.out.okp HPO.out H32.out HQ.out HF.out HX.out).mono ?_
 rintro e w2 ⟨rfl, b2⟩
 replace htb := blk_u htb b2
 replace en := en.below b2
 replace own := owk_under own b2
 replace fo := fo.below b2
 replace hM := hM.below b2
 replace bel := bel.trans (b2.mono (Nat.le_trans hlo bel.size))
 clear b2
 go_wp2_with fail
 replace bel := bel.drew
 replace htb : w2.drew.heap[gt]? = _ := htb
 replace en := en.drew
 replace own := World.ownsRow.drew own
 replace fo := fo_drew fo
 replace hM := om_drew hM
 refine wp_region_held_drew (S := fun W => W.heap[gt]? = some (.cells #[.int .i64 lw, .int .i64 rm, .int .i64 now, .slice (some ⟨gE, 0, none⟩) n c, .map (some mb)] 76 (0, 0)) ∧ Sle mpE 9 W (some ⟨gE, 0, none⟩) (n) (c) (l)) (by kernel_rfl) ⟨htb, en⟩ (fun hH => ?_)
 generalize w2.drew = w3 at bel htb en own fo hM hH ⊢
 refine wpAnyH_take (i := 0) (v := ?_) rfl (by kernel_rfl) (by kernel_rfl) (by kernel_rfl) (fun _ _ _ h => h) (Or.inl ⟨by rfl, ?_⟩) hH ?_
 rotate_left
 ·((intro W hW; clear hW; go_simp) <;> with_reducible rfl)
 simp only [Act.put, List.getElem_toArray, List.getElem_cons_zero, List.setIfInBounds_toArray, List.set_cons_zero, List.set_cons_succ]
 refine wpAnyH_take (i := 1) (v := ?_) rfl (by kernel_rfl) (by kernel_rfl) (by kernel_rfl) (fun _ _ _ h => h) (Or.inl ⟨by rfl, ?_⟩) hH ?_
 rotate_left
 ·((intro W hW; clear hW; go_simp) <;> with_reducible rfl)
 simp only [sq3, sq4]
 refine wpAnyH_take (i := 2) (v := ?_) rfl (by kernel_rfl) (by kernel_rfl) (by kernel_rfl) (fun _ _ _ h => h) (Or.inl ⟨by rfl, ?_⟩) hH ?_
 rotate_left
 ·((intro W hW; clear hW; go_simp) <;> with_reducible rfl)
 simp only [sq3, sq4]
 refine wpAnyH_take (i := 3) (v := ?_) rfl (by kernel_rfl) (by kernel_rfl) (by kernel_rfl) (fun _ _ _ h => h) (Or.inl ⟨by rfl, ?_⟩) hH ?_
 rotate_left
 ·((intro W hW; clear hW; go_simp) <;> with_reducible rfl)
 simp only [sq3, sq4]
 refine wpAnyH_take (i := 4) (v := ?_) rfl (by kernel_rfl) (by kernel_rfl) (by kernel_rfl) (fun _ _ _ h => h) (Or.inl ⟨by rfl, ?_⟩) hH ?_
 rotate_left
 ·((intro W hW; clear hW; go_simp) <;> with_reducible rfl)
 simp only [sq3, sq4]
 refine wpAnyH_take (i := 5) (v := ?_) rfl (by kernel_rfl) (by kernel_rfl) (by kernel_rfl) (fun _ _ _ h => h) (Or.inl ⟨by rfl, ?_⟩) hH ?_
 rotate_left
 ·((intro W hW; clear hW; go_simp) <;> with_reducible rfl)
 simp only [sq3, sq4]
 refine wpAnyH_take (i := 6) (v := ?_) rfl (by kernel_rfl) (by kernel_rfl) (by kernel_rfl) (fun _ _ _ h => h) (Or.inl ⟨by rfl, ?_⟩) hH ?_
 rotate_left
 ·((intro W hW; have hk := Sle.zcell (hW.2) HX.out 7 _ rfl; clear hW; go_simp) <;> with_reducible rfl)
 simp only [sq3, sq4]
 refine wpAnyH_take (i := 7) (v := ?_) rfl (by kernel_rfl) (by kernel_rfl) (by kernel_rfl) (fun _ _ _ h => h) (Or.inl ⟨by rfl, ?_⟩) hH ?_
 rotate_left
 ·((intro W hW; clear hW; go_simp) <;> with_reducible rfl)
 simp only [sq3, sq4]
 refine wpAnyH_take (i := 8) (v := ?_) rfl (by kernel_rfl) (by kernel_rfl) (by kernel_rfl) (fun _ _ _ h => h) (Or.inl ⟨by rfl, ?_⟩) hH ?_
 rotate_left
 ·((intro W hW; clear hW; go_simp) <;> with_reducible rfl)
 simp only [sq3, sq4]
 refine wpAnyH_take (i := 9) (v := ?_) rfl (by kernel_rfl) (by kernel_rfl) (by kernel_rfl) (fun _ _ _ h => h) (Or.inl ⟨by rfl, ?_⟩) hH ?_
 rotate_left
 ·((intro W hW; clear hW; go_simp) <;> with_reducible rfl)
 simp only [sq3, sq4]
 refine wpAnyH_take (i := 10) (v := ?_) rfl (by kernel_rfl) (by kernel_rfl) (by kernel_rfl) (fun _ _ _ h => h) (Or.inl ⟨by rfl, ?_⟩) hH ?_
 rotate_left
 ·((intro W hW; clear hW; go_simp) <;> with_reducible rfl)
 simp only [sq3, sq4]
 refine wpAnyH_ready (rs := [11]) (by kernel_rfl) (by simp) ?_
 refine AllReadyH.cons (o := _) rfl (fun K hK => ?_) AllReadyH.nil
 simp only [sq3]
 go_simp
 with_reducible refine (secs_any _ HSC.out).mono ?_
 rintro e _ ⟨rfl, rfl⟩
 dsimp only
 refine hK.out _ _ ⟨htb, en⟩ (fun hH4 => ?_)
 clear hK K
 refine wpAnyH_take (i := 12) (v := ?_) rfl (by kernel_rfl) (by kernel_rfl) (by kernel_rfl) (fun _ _ _ h => h) (Or.inl ⟨by rfl, ?_⟩) hH4 ?_
 rotate_left
 ·((intro W hW; clear hW; go_simp) <;> with_reducible rfl)
 simp only [sq3, sq4]
 refine wpAnyH_take (i := 13) (v := ?_) rfl (by kernel_rfl) (by kernel_rfl) (by kernel_rfl) (fun _ _ _ h => h) (Or.inl ⟨by rfl, ?_⟩) hH4 ?_
 rotate_left
 ·((intro W hW; clear hW; go_simp) <;> with_reducible rfl)
 simp only [sq3, sq4]
 refine wpAnyH_take (i := 14) (v := ?_) rfl (by kernel_rfl) (by kernel_rfl) (by kernel_rfl) (fun _ _ _ h => h) (Or.inl ⟨by rfl, ?_⟩) hH4 ?_
 rotate_left
 ·((intro W hW; clear hW; go_simp) <;> with_reducible rfl)
 simp only [sq3, sq4]
 refine wpAnyH_take (i := 15) (v := ?_) rfl (by kernel_rfl) (by kernel_rfl) (by kernel_rfl) (fun _ _ _ h => h) (Or.inl ⟨by rfl, ?_⟩) hH4 ?_
 rotate_left
 ·((intro W hW; clear hW; go_simp) <;> with_reducible rfl)
 simp only [sq3, sq4]
 refine wpAnyH_take (i := 16) (v := ?_) rfl (by kernel_rfl) (by kernel_rfl) (by kernel_rfl) (fun _ _ _ h => h) (Or.inl ⟨by rfl, ?_⟩) hH4 ?_
 rotate_left
 ·((intro W hW; clear hW; go_simp) <;> with_reducible rfl)
 simp only [sq3, sq4]
 refine wpAnyH_take (i := 17) (v := ?_) rfl (by kernel_rfl) (by kernel_rfl) (by kernel_rfl) (fun _ _ _ h => h) (Or.inl ⟨by rfl, ?_⟩) hH4 ?_
 rotate_left
 ·((intro W hW; clear hW; go_simp) <;> with_reducible rfl)
 simp only [sq3, sq4]
 refine wpAnyH_take (i := 18) (v := ?_) rfl (by kernel_rfl) (by kernel_rfl) (by kernel_rfl) (fun _ _ _ h => h) (Or.inl ⟨by rfl, ?_⟩) hH4 ?_
 rotate_left
 ·((intro W hW; have hk := cell_lit (hW.1) 2 _ rfl; clear hW; go_simp) <;> with_reducible rfl)
 simp only [sq3, sq4]
 refine wpAnyH_take (i := 19) (v := ?_) rfl (by kernel_rfl) (by kernel_rfl) (by kernel_rfl) (fun _ _ _ h => h) (Or.inl ⟨by rfl, ?_⟩) hH4 ?_
 rotate_left
 ·((intro W hW; clear hW; go_simp) <;> with_reducible rfl)
 simp only [sq3, sq4]
 refine wpAnyH_take (i := 20) (v := ?_) rfl (by kernel_rfl) (by kernel_rfl) (by kernel_rfl) (fun _ _ _ h => h) (Or.inl ⟨by rfl, ?_⟩) hH4 ?_
 rotate_left
 ·((intro W hW; clear hW; go_simp) <;> with_reducible rfl)
 simp only [sq3, sq4]
 refine wpAnyH_take (i := 21) (v := ?_) rfl (by kernel_rfl) (by kernel_rfl) (by kernel_rfl) (fun _ _ _ h => h) (Or.inl ⟨by rfl, ?_⟩) hH4 ?_
 rotate_left
 ·((intro W hW; clear hW; go_simp) <;> with_reducible rfl)
 simp only [sq3, sq4]
 refine wpAnyH_take (i := 22) (v := ?_) rfl (by kernel_rfl) (by kernel_rfl) (by kernel_rfl) (fun _ _ _ h => h) (Or.inl ⟨by rfl, ?_⟩) hH4 ?_
 rotate_left
 ·((intro W hW; clear hW; go_simp) <;> with_reducible rfl)
 simp only [sq3, sq4]
 refine wpAnyH_take (i := 23) (v := ?_) rfl (by kernel_rfl) (by kernel_rfl) (by kernel_rfl) (fun _ _ _ h => h) (Or.inl ⟨by rfl, ?_⟩) hH4 ?_
 rotate_left
 ·((intro W hW; clear hW; go_simp) <;> with_reducible rfl)
 simp only [sq3, sq4]
 refine wpAnyH_take (i := 24) (v := ?_) rfl (by kernel_rfl) (by kernel_rfl) (by kernel_rfl) (fun _ _ _ h => h) (Or.inl ⟨by rfl, ?_⟩) hH4 ?_
 rotate_left
 ·((intro W hW; have hk := Sle.zcell (hW.2) HX.out 8 _ rfl; clear hW; go_simp) <;> with_reducible rfl)
 simp only [sq3, sq4]
 refine wpAnyH_take (i := 25) (v := ?_) rfl (by kernel_rfl) (by kernel_rfl) (by kernel_rfl) (fun _ _ _ h => h) (Or.inl ⟨by rfl, ?_⟩) hH4 ?_
 rotate_left
 ·((intro W hW; clear hW; go_simp) <;> with_reducible rfl)
 simp only [sq3, sq4]
 refine wpAnyH_take (i := 26) (v := ?_) rfl (by kernel_rfl) (by kernel_rfl) (by kernel_rfl) (fun _ _ _ h => h) (Or.inl ⟨by rfl, ?_⟩) hH4 ?_
 rotate_left
 ·((intro W hW; clear hW; go_simp) <;> with_reducible rfl)
 simp only [sq3, sq4]
 refine wpAnyH_done (by kernel_rfl) ?_ _
 have R51 := cell_lit htb 2 _ rfl
 go_wp2_with (first | ((with_reducible show wpList _ _ _ (⟨none, Op.store _ (.tmp 55) _, _, _, _, _⟩ :: _) _ _); refine wpList_store_el rfl 2 (.tmp 55) (.tmp 53) rfl gE i 8 x (⟨x.pr, x.o, x.ad, x.i, x.k, un⟩) rfl [.int .i64 un] rfl (by decide) mpE_len own HX.out (Nat.le_of_ble_eq_true rfl) rfl (by kernel_rfl) (by rfl) ?_; intro w5 own_ gw; replace bel := bel.trans (row_bel gw own (Nat.le_trans hlo bel.size)); replace htb := blk_own (v := .slice (some ⟨gE, 0, none⟩) n c) htb gw off_tb; replace fo := fo.row gw (fun _ _ h => h); replace hM := hM.row gw own; clear own; have own := own_; clear own_ gw; replace en := (owk_sle (by decide) mpE_len own).1))
 try clear R51
 go_ret
 exact ⟨rfl, ⟨(some ⟨gE, 0, none⟩), n, c, mb, htb, otb, hM, own, HOK2.out⟩, fo.fr htb, bel⟩
theorem Ts.adv_no {s : Ts} {t : Int} (h : ¬ s.now < t) : s.adv t = s := by
 unfold Ts.adv
 rw [if_neg (by omega)]
theorem Ts.adv_yes {s : Ts} {t : Int} (h : s.now < t) (h2 : t ≤ 1099511627776) : s.adv t = advS s t := by
 unfold Ts.adv
 rw [if_pos ⟨h, h2⟩]
theorem mk_own {lo gt : Nat} {s s1 s2 : Ts} {pr p sc un t : Int} {ad : Ad4} (w : World) (hT : Tp lo gt w s) (ha : s.adv t = s1) (hpb : portB pr p = true) (hsc : secsB sc = true) (hu : s1.now + sc = un) (hbf : bestF pr ad p s1.l s1.l.length = none) (hr : (s1.l.length : Int) < s1.rm) (h1 : s1.lw ≤ p) (hf : mfhas s1.l (kn pr p) = false) (h2 : (⟨s1.lw, s1.rm, s1.now, mins s1.l ⟨pr, p, ad, p, 1, un⟩, odel s1.os (kn pr p)⟩ : Ts) = s2) : Calls Tryz.prog 110 #[.pointer (some ⟨gt, 0, none⟩), .agg #[.int .i64 pr, .int .u8 (ad.a.toNat : Int), .int .u8 (ad.b.toNat : Int), .int .u8 (ad.c.toNat : Int), .int .u8 (ad.d.toNat : Int), .int .i64 p], .int .i64 t, .int .i64 sc] w fun e w' => e = .returned (.tuple #[.agg #[.int .i64 pr, .int .i64 p, .int .u8 (ad.a.toNat : Int), .int .u8 (ad.b.toNat : Int), .int .u8 (ad.c.toNat : Int), .int .u8 (ad.d.toNat : Int), .int .i64 p, .int .i64 1, .int .i64 un], .int .i64 0]) ∧ Tp lo gt w' s2 ∧ Fap gt w w' ∧ Below lo w w' := by
 have hok : s1.ok := ha ▸ hT.ok.adv t
 obtain ⟨lw, rm, now, l, os⟩ := s1
 subst h2
 exact tmake_new t w hT ha hpb hsc hu hbf (fop_own hok.srt hok.okp (portB_ok hpb) h1 hf) hr (portB_ok hpb) hf
theorem mk_least {lo gt : Nat} {s s1 s2 : Ts} {q pr p sc un t : Int} {ad : Ad4} (w : World) (hT : Tp lo gt w s) (ha : s.adv t = s1) (hpb : portB pr p = true) (hsc : secsB sc = true) (hu : s1.now + sc = un) (hbf : bestF pr ad p s1.l s1.l.length = none) (hr : (s1.l.length : Int) < s1.rm) (hp : s1.lw ≤ p → mfhas s1.l (kn pr p) = true) (hq1 : s1.lw ≤ q) (hq2 : q ≤ 65535) (hall : ∀ o, s1.lw ≤ o → o < q → mfhas s1.l (kn pr o) = true) (hno : mfhas s1.l (kn pr q) = false) (h2 : (⟨s1.lw, s1.rm, s1.now, mins s1.l ⟨pr, q, ad, p, 1, un⟩, odel s1.os (kn pr q)⟩ : Ts) = s2) : Calls Tryz.prog 110 #[.pointer (some ⟨gt, 0, none⟩), .agg #[.int .i64 pr, .int .u8 (ad.a.toNat : Int), .int .u8 (ad.b.toNat : Int), .int .u8 (ad.c.toNat : Int), .int .u8 (ad.d.toNat : Int), .int .i64 p], .int .i64 t, .int .i64 sc] w fun e w' => e = .returned (.tuple #[.agg #[.int .i64 pr, .int .i64 q, .int .u8 (ad.a.toNat : Int), .int .u8 (ad.b.toNat : Int), .int .u8 (ad.c.toNat : Int), .int .u8 (ad.d.toNat : Int), .int .i64 p, .int .i64 1, .int .i64 un], .int .i64 0]) ∧ Tp lo gt w' s2 ∧ Fap gt w w' ∧ Below lo w w' := by
 have hok : s1.ok := ha ▸ hT.ok.adv t
 obtain ⟨lw, rm, now, l, os⟩ := s1
 subst h2
 have hpo := portB_ok hpb
 have hl0 := hok.l0
 simp only at hl0 hq1
 exact tmake_new t w hT ha hpb hsc hu hbf (fop_least hok.srt hok.okp (by show 0 ≤ lw; omega) hq1 hq2 ⟨hpo.1, hpo.2.1⟩ (fun h => ⟨hpo, hp h⟩) hall hno) hr ⟨hpo.1, hpo.2.1, by omega, hq2⟩ hno
theorem in_none {lo gt : Nat} {s s1 : Ts} {p o t : Int} (w : World) (hT : Tp lo gt w s) (ha : s.adv t = s1) (hpo : okP p o) (hf : mfhas s1.l (kn p o) = false) : Calls Tryz.prog 29 #[.pointer (some ⟨gt, 0, none⟩), .int .i64 p, .int .i64 o, .int .i64 t] w fun e w' => e = .returned (.tuple #[.agg #[.int .i64 0, .int .i64 0, .int .u8 0, .int .u8 0, .int .u8 0, .int .u8 0, .int .i64 0, .int .i64 0, .int .i64 0], .bool false]) ∧ Tp lo gt w' s1 ∧ Fap gt w w' ∧ Below lo w w' := by
 obtain ⟨lw, rm, now, l, os⟩ := s1
 exact tin_none t w hT ha hpo hf
theorem in_some {lo gt : Nat} {s s1 : Ts} {p o t : Int} {xp xo xi xk xu : Int} {xa : Ad4} {i : Nat} (w : World) (hT : Tp lo gt w s) (ha : s.adv t = s1) (hpo : okP p o) (hf : mfhas s1.l (kn p o) = true) (hq : mfpos s1.l (kn p o) = i) (hx : s1.l[i]? = some ⟨xp, xo, xa, xi, xk, xu⟩) : Calls Tryz.prog 29 #[.pointer (some ⟨gt, 0, none⟩), .int .i64 p, .int .i64 o, .int .i64 t] w fun e w' => e = .returned (.tuple #[.agg #[.int .i64 xp, .int .i64 xo, .int .u8 (xa.a.toNat : Int), .int .u8 (xa.b.toNat : Int), .int .u8 (xa.c.toNat : Int), .int .u8 (xa.d.toNat : Int), .int .i64 xi, .int .i64 xk, .int .i64 xu], .bool true]) ∧ Tp lo gt w' s1 ∧ Fap gt w w' ∧ Below lo w w' := by
 obtain ⟨lw, rm, now, l, os⟩ := s1
 exact tin_some t w hT ha hpo hf hq hx
theorem len_is {lo gt : Nat} {s s1 : Ts} {t n : Int} (w : World) (hT : Tp lo gt w s) (ha : s.adv t = s1) (hn : (s1.l.length : Int) = n) : Calls Tryz.prog 26 #[.pointer (some ⟨gt, 0, none⟩), .int .i64 t] w fun e w' => e = .returned (.int .i64 n) ∧ Tp lo gt w' s1 ∧ Fap gt w w' ∧ Below lo w w' := by
 obtain ⟨lw, rm, now, l, os⟩ := s1
 subst hn
 exact tlen_any t w hT ha
theorem lv_set {lo gt : Nat} {s s1 s2 : Ts} {p o t sc : Int} {xp xo xi xk xu : Int} {xa : Ad4} {i : Nat} (w : World) (hT : Tp lo gt w s) (ha : s.adv t = s1) (hpo : okP p o) (hf : mfhas s1.l (kn p o) = true) (hq : mfpos s1.l (kn p o) = i) (hx : s1.l[i]? = some ⟨xp, xo, xa, xi, xk, xu⟩) (hk : (xk == 1) = true) (hsc : secsB sc = true) (hl : xu < s1.now + sc) (h2 : (⟨s1.lw, s1.rm, s1.now, s1.l.set i ⟨xp, xo, xa, xi, xk, s1.now + sc⟩, s1.os⟩ : Ts) = s2) : Calls Tryz.prog 67 #[.pointer (some ⟨gt, 0, none⟩), .int .i64 p, .int .i64 o, .int .i64 t, .int .i64 sc] w fun e w' => e = .returned (.bool true) ∧ Tp lo gt w' s2 ∧ Fap gt w w' ∧ Below lo w w' := by
 obtain ⟨lw, rm, now, l, os⟩ := s1
 subst h2
 exact tlive_set t w hT ha hpo hf hq hx hk hsc rfl hl
open Go.RowKit

theorem made2 (v : Int) (w : World) : Sl (w.alloc (.cells #[.int .u8 (v / 256 % 256), .int .u8 (v % 256)] 5)) (some ⟨w.heap.size, 0, none⟩) 2 2 (two v) := by
 have h := Sl.made w 5 (two v) (by simp [two, maxLen])
 simpa [two, u8v, byteOf_val] using h
theorem made4 (v : Int) (w : World) (h0 : 0 ≤ v) (h1 : v < 4294967296) :
  Sl (w.alloc (.cells #[.int .u8 (v / 16777216), .int .u8 (v / 65536 % 256), .int .u8 (v / 256 % 256), .int .u8 (v % 256)] 5)) (some ⟨w.heap.size, 0, none⟩) 4 4 (four v) := by
 have h := Sl.made w 5 (four v) (by simp [four, maxLen])
 have e : v / 16777216 % 256 = v / 16777216 := by omega
 simpa [four, u8v, byteOf_val, e] using h

theorem w16_any (A : Option Addr) (n c : Nat) (l : List UInt8) (v : Int) (w : World) (hl : Sl w A n c l) (hs : n + 2 ≤ 140737488355328) :
  Calls Tryz.prog 80 #[.slice A n c, .int .i64 v] w fun e w' => ∃ A' c', e = .returned (.slice A' (n + 2) c') ∧ Sl w' A' (n + 2) c' (l ++ two v) ∧ Below w.heap.size w w' := by
 have hm := made2 v w
 have bel := (Below.refl w.heap.size w).alloc (Nat.le_refl _) (.cells #[.int .u8 (v / 256 % 256), .int .u8 (v % 256)] 5)
 have hl1 := hl.below bel
 go_enter Tryz.func80, Tryz.ntmps80
 go_wp2_with (go_at_call 81; refine (join_any A _ n c 2 2 l (two v) _ hl1 hm hs).mono ?_; rintro e w1 ⟨A', c', rfl, hsl, bel1⟩)
 go_ret
 exact ⟨A', c', rfl, hsl, bel.trans (bel1.mono bel.size)⟩
theorem w32_any (A : Option Addr) (n c : Nat) (l : List UInt8) (v : Int) (w : World) (h0 : 0 ≤ v) (h1 : v < 4294967296) (hl : Sl w A n c l) (hs : n + 4 ≤ 140737488355328) :
  Calls Tryz.prog 78 #[.slice A n c, .int .u32 v] w fun e w' => ∃ A' c', e = .returned (.slice A' (n + 4) c') ∧ Sl w' A' (n + 4) c' (l ++ four v) ∧ Below w.heap.size w w' := by
 have hm := made4 v w h0 h1
 have bel := (Below.refl w.heap.size w).alloc (Nat.le_refl _) (.cells #[.int .u8 (v / 16777216), .int .u8 (v / 65536 % 256), .int .u8 (v / 256 % 256), .int .u8 (v % 256)] 5)
 have hl1 := hl.below bel
 go_enter Tryz.func78, Tryz.ntmps78
 go_wp2_with (go_at_call 81; refine (join_any A _ n c 4 4 l (four v) _ hl1 hm hs).mono ?_; rintro e w1 ⟨A', c', rfl, hsl, bel1⟩)
 go_ret
 exact ⟨A', c', rfl, hsl, bel.trans (bel1.mono bel.size)⟩

/-- The ones' complement reading of a plain sum: what is left of it by 65535, where only 0 is 0. -/
def nrm (n : Nat) : Nat := if n = 0 then 0 else (n - 1) % 65535 + 1
theorem nrm_le (n : Nat) : nrm n ≤ 65535 := by unfold nrm; split <;> omega
theorem nrm_zero : nrm 0 = 0 := rfl
theorem nrm_eq {n m : Nat} (h : n % 65535 = m % 65535) (hz : n = 0 ↔ m = 0) : nrm n = nrm m := by
 unfold nrm
 by_cases h0 : n = 0
 ·rw [if_pos h0, if_pos (hz.1 h0)]
 ·rw [if_neg h0, if_neg (fun e => h0 (hz.2 e))]
  have : m ≠ 0 := fun e => h0 (hz.2 e)
  omega
theorem nrm_mod (n : Nat) : nrm n % 65535 = n % 65535 := by unfold nrm; split <;> omega
theorem nrm_pos {n : Nat} (h : 0 < n) : 0 < nrm n := by unfold nrm; split <;> omega
theorem nrm_add (a b : Nat) : nrm (nrm a + b) = nrm (a + b) := by
 have h := nrm_mod a
 refine nrm_eq (by omega) ?_
 rcases Nat.eq_zero_or_pos a with h0 | h0
 ·subst h0; rw [nrm_zero]
 ·have := nrm_pos h0; omega

/-- The sum that the document's Add gives. -/
def addI (a b : Int) : Int := (a % 65536 + b % 65536) % 65536 + (a % 65536 + b % 65536) / 65536
theorem addI_nat (x y : Nat) (hx : x ≤ 65535) (hy : y ≤ 65535) : addI x y = nrm (x + y) := by
 unfold addI nrm; split <;> omega
theorem addI_nrm (x y : Nat) (hy : y ≤ 65535) : addI (nrm x) y = nrm (x + y) := by
 rw [addI_nat _ _ (nrm_le x) hy, nrm_add]
/-- The weighted sum of bytes: the first one (if so told) of a pair is the greater. -/
def ws : Bool → List UInt8 → Nat
 | _, [] => 0
 | true, a :: t => a.toNat * 256 + ws false t
 | false, a :: t => a.toNat + ws true t
def par (h : Bool) (n : Nat) : Bool := if n % 2 = 0 then h else !h
theorem par_succ (h : Bool) (n : Nat) : par h (n + 1) = !par h n := by
 unfold par
 rcases Nat.mod_two_eq_zero_or_one n with e | e
 ·rw [if_neg (by omega), if_pos e]
 ·rw [if_pos (by omega), if_neg (by omega)]; simp
theorem par_not (h : Bool) (n : Nat) : par (!h) n = !par h n := by
 unfold par; split <;> rfl
theorem ws_append (l t : List UInt8) : ∀ h, ws h (l ++ t) = ws h l + ws (par h l.length) t := by
 induction l with
 | nil => intro h; cases h <;> simp [ws, par]
 | cons a l ih =>
  intro h
  cases h
  ·rw [List.cons_append, ws, ih, ws, List.length_cons, par_succ, ← par_not]; simp; omega
  ·rw [List.cons_append, ws, ih, ws, List.length_cons, par_succ, ← par_not]; simp; omega
theorem ws_one (h : Bool) (b : UInt8) : ws h [b] = if h then b.toNat * 256 else b.toNat := by cases h <;> simp [ws]
theorem ws_pair (a b : UInt8) (t : List UInt8) : ws true (a :: b :: t) = a.toNat * 256 + b.toNat + ws true t := by simp [ws]; omega
theorem ws_even (l t : List UInt8) (h : l.length % 2 = 0) : ws true (l ++ t) = ws true l + ws true t := by
 rw [ws_append, par, if_pos h]
/-- The checksum. -/
def ck (l : List UInt8) : Int := 65535 - (nrm (ws true l) : Int)
theorem ck_bounds (l : List UInt8) : 0 ≤ ck l ∧ ck l ≤ 65535 := by
 have := nrm_le (ws true l); unfold ck; omega
theorem ck_of_ws {l t : List UInt8} (h : ws true l = ws true t) : ck l = ck t := by unfold ck; rw [h]

/-- The sum behind a turn: from b on, each old pair out, each new one in. -/
def ts : Nat → List UInt8 → List UInt8 → Nat
 | s, a :: b :: o, c :: d :: n => ts (s + (65535 - (a.toNat * 256 + b.toNat)) + (c.toNat * 256 + d.toNat)) o n
 | s, _, _ => s
def tk (s : Int) (o n : List UInt8) : Int := if o.length ≠ n.length ∨ o.length % 2 = 1 then s else 65535 - (nrm (ts (65535 - (s % 65536).toNat) o n) : Int)

/-- Bytes with a pair at an even place. -/
theorem ws_at (p q : List UInt8) (a b : UInt8) (hp : p.length % 2 = 0) : ws true (p ++ a :: b :: q) = ws true p + (a.toNat * 256 + b.toNat) + ws true q := by
 rw [ws_even _ _ hp, ws_pair]; omega

theorem ws_set : ∀ (l : List UInt8) (j : Nat) (x b : UInt8) (h : Bool), l[j]? = some x → ws h (l.set j b) + (if par h j then 256 else 1) * x.toNat = ws h l + (if par h j then 256 else 1) * b.toNat := by
 intro l
 induction l with
 | nil => intro j x b h hj; simp at hj
 | cons a l ih =>
  intro j x b h hj
  cases j with
  | zero =>
   obtain rfl : a = x := by simpa using hj
   cases h <;> simp [par, ws] <;> omega
  | succ j =>
   have hj' : l[j]? = some x := by simpa using hj
   have e := ih j x b (!h) hj'
   have ep : par h (j + 1) = par (!h) j := by rw [par_succ, par_not]
   rw [ep, List.set_cons_succ]
   cases h
   ·rw [ws, ws]; simp only [Bool.not_false] at e ⊢; omega
   ·rw [ws, ws]; simp only [Bool.not_true] at e ⊢; omega
theorem ck_zero (l : List UInt8) : ck l = 0 ↔ 0 < ws true l ∧ ws true l % 65535 = 0 := by
 unfold ck nrm
 split <;> omega
theorem par_even {j : Nat} (h : j % 2 = 0) : par true j = true := if_pos h
theorem par_odd {j : Nat} (h : j % 2 = 1) : par true j = false := if_neg (by omega)

/-- Bytes with noughts at an even place, and their sum put there: they fit. -/
theorem seal_fits (l : List UInt8) (k s : Nat) (a b : UInt8) (hk : k % 2 = 0) (h0 : l[k]? = some 0) (h1 : l[k + 1]? = some 0) (hs : ck l = s) (ha : a.toNat = s / 256) (hb : b.toNat = s % 256) :
  ck ((l.set k a).set (k + 1) b) = 0 := by
 have e1 := ws_set l k 0 a true h0
 have e2 := ws_set (l.set k a) (k + 1) 0 b true (by rw [List.getElem?_set_ne (by omega)]; exact h1)
 rw [par_even hk] at e1
 rw [par_odd (by omega)] at e2
 have hz : (0 : UInt8).toNat = 0 := rfl
 rw [hz] at e1 e2
 simp only [if_true, Bool.false_eq_true, if_false] at e1 e2
 rw [ck_zero]
 have hn := nrm_mod (ws true l)
 have hl := nrm_le (ws true l)
 have hp : ws true l = 0 → nrm (ws true l) = 0 := fun e => by rw [e]; rfl
 unfold ck at hs
 omega
open Go.RowKit

theorem ret_i64 {a b : Int} (h : a = b) : Ending.returned (.int .i64 a) = .returned (.int .i64 b) := by rw [h]

theorem add_any (a b : Int) (w : World) : Calls Tryz.prog 113 #[.int .i64 a, .int .i64 b] w fun e w' => e = .returned (.int .i64 (addI a b)) ∧ w = w' := by
 have e1 := i64_and65535 a
 have e2 := i64_and65535 b
 have e3 := i64_and65535 (a % 65536 + b % 65536)
 have b1 : 0 ≤ a % 65536 := by omega
 have b2 : a % 65536 ≤ 65535 := by omega
 have b3 : 0 ≤ b % 65536 := by omega
 have b4 : b % 65536 ≤ 65535 := by omega
 have b5 : 0 ≤ (a % 65536 + b % 65536) % 65536 := by omega
 have b6 : (a % 65536 + b % 65536) % 65536 ≤ 65535 := by omega
 go_enter Tryz.func113, Tryz.ntmps113
 go_wp2
 go_ret
 exact ⟨ret_i64 (by unfold addI; omega), rfl⟩
/-- A slice of slices of bytes. -/
def Sls (w : World) (A : Option Addr) (m : Nat) (ls : List (List UInt8)) : Prop :=
 ls.length = m ∧ (0 < m → ∃ g o, A = some ⟨g, o, none⟩ ∧ ∀ j l, ls[j]? = some l → ∃ B n d, w.cell? ⟨g, o + j, none⟩ = some (.slice B n d) ∧ Sl w B n d l)

def shf (n : Nat) : Int := if n % 2 = 0 then 8 else 0
theorem shf_even {n : Nat} (h : n % 2 = 0) : shf n = 8 := if_pos h
theorem shf_odd {n : Nat} (h : ¬ n % 2 = 0) : shf n = 0 := if_neg h

theorem flat_succ {ls : List (List UInt8)} {k : Nat} (h : k < ls.length) : (ls.take (k + 1)).flatten = (ls.take k).flatten ++ ls[k] := by
 rw [List.take_succ_eq_append_getElem h, List.flatten_append]; simp

set_option maxHeartbeats 400000 in
theorem many_any (A : Option Addr) (m c : Nat) (ls : List (List UInt8)) (w : World) (hm : m ≤ maxLen) (hl : Sls w A m ls) :
  Calls Tryz.prog 79 #[.slice A m c] w fun e w' => e = .returned (.int .i64 (ck ls.flatten)) ∧ w = w' := by
 unfold maxLen at hm
 obtain ⟨hlen, hcell⟩ := hl
 go_enter Tryz.func79, Tryz.ntmps79
 go_wp2
 go_loop [3, 4, 11] (fun s sh i => ∃ (k : Nat) (v : Int), k ≤ m ∧ i = .int .i64 k ∧ s = .int .i64 (nrm (ws true (ls.take k).flatten)) ∧ sh = .int .i64 v ∧ v = shf (ls.take k).flatten.length) (fun _ _ i => m - (intOf i).toNat)
 case atStart => exact ⟨0, 8, by omega, rfl, rfl, rfl, rfl⟩
 case round =>
  obtain ⟨k, v, hk, rfl, rfl, rfl, hv⟩ := hrel
  by_cases hlt : k < m
  ·have hkl : k < ls.length := by omega
   obtain ⟨g, o, rfl, hc⟩ := hcell (by omega)
   obtain ⟨B, n, d, hb, hsl⟩ := hc k _ (List.getElem?_eq_getElem hkl)
   have hfs := Lib.hid (flat_succ hkl)
   obtain ⟨p, hp⟩ : ∃ p, Hid ((ls.take k).flatten = p) := ⟨_, Lib.hid rfl⟩
   obtain ⟨l, hlk⟩ : ∃ l, Hid (ls[k] = l) := ⟨_, Lib.hid rfl⟩
   rw [hp.out] at hv ⊢
   rw [hp.out, hlk.out] at hfs
   rw [hlk.out] at hsl
   obtain ⟨h1, h2, h3, h4⟩ := hsl
   unfold maxLen at h3
   have b0 : (0 : Int) ≤ k := by omega
   have b1 : (k : Int) < m := by omega
   have b2 : (0 : Int) ≤ n := by omega
   have b3 : (n : Int) ≤ 9223372036854775807 := by omega
   have hv' := Lib.hid hv
   have h1' := Lib.hid h1
   have hlen' := Lib.hid hlen
   clear hv hcell hc h1 h2 hlen hp hlk
   go_wp2
   go_loop [3, 4, 17] (fun s sh i => ∃ (j : Nat) (v : Int), j ≤ n ∧ i = .int .i64 j ∧ s = .int .i64 (nrm (ws true (p ++ l.take j))) ∧ sh = .int .i64 v ∧ v = shf (p.length + j)) (fun _ _ i => n - (intOf i).toNat)
   case atStart => exact ⟨0, v, by omega, rfl, by simp, rfl, hv'.out⟩
   case round =>
    obtain ⟨j, u, hj, rfl, rfl, rfl, hu⟩ := hrel
    by_cases hjn : j < n
    ·obtain ⟨g', o', rfl, hc⟩ := h4 (by omega)
     have hl1 := h1'.out
     have hjl : j < l.length := by omega
     have hcell := hc j _ (List.getElem?_eq_getElem hjl)
     have hsn : Hid (l.take (j + 1) = l.take j ++ [l[j]]) := Lib.hid (List.take_succ_eq_append_getElem hjl)
     obtain ⟨x, hx⟩ : ∃ x, Hid (l[j] = x) := ⟨_, Lib.hid rfl⟩
     rw [hx.out] at hcell hsn
     have hsum : Hid (ws true (p ++ l.take (j + 1)) = ws true (p ++ l.take j) + (if par true (p.length + j) then x.toNat * 256 else x.toNat)) := Lib.hid (by
      rw [hsn.out, ← List.append_assoc, ws_append, ws_one]
      rw [show (p ++ l.take j).length = p.length + j by rw [List.length_append, List.length_take]; omega])
     have hlx := x.toNat_lt
     unfold u8v at hcell
     have b4 : (0 : Int) ≤ j := by omega
     have b5 : (j : Int) < n := by omega
     have b6 : (0 : Int) ≤ x.toNat := by omega
     have b7 : (x.toNat : Int) < 256 := by omega
     clear hl1 hjl hc hx h4
     obtain ⟨y, hy⟩ : ∃ y, Hid (ws true (p ++ l.take j) = y) := ⟨_, Lib.hid rfl⟩
     rw [hy.out] at hsum ⊢
     have hny := nrm_le y
     by_cases hp : (p.length + j) % 2 = 0
     ·obtain rfl : u = 8 := hu.trans (shf_even hp)
      have hs8 : Hid (shf (p.length + (j + 1)) = 0) := Lib.hid (shf_odd (by omega))
      have hadd : Hid (addI (nrm y) ((x.toNat : Int) * 256) = nrm (ws true (p ++ l.take (j + 1)))) := Lib.hid (by
       have h := addI_nrm y (x.toNat * 256) (by omega)
       rw [Int.natCast_mul] at h
       rw [hsum.out, show par true (p.length + j) = true from if_pos hp]
       exact h)
      clear hu hp hny hsum hsn
      go_wp2_with (go_at_call 113; refine (add_any _ _ _).mono ?_; rintro e w1 ⟨rfl, rfl⟩)
      go_round
      case rel => exact ⟨j + 1, 0, by omega, by go_num, by rw [hadd.out], rfl, hs8.out.symm⟩
      case measure => simp [intOf]; omega
     ·obtain rfl : u = 0 := hu.trans (shf_odd hp)
      have hs8 : Hid (shf (p.length + (j + 1)) = 8) := Lib.hid (shf_even (by omega))
      have hadd : Hid (addI (nrm y) (x.toNat : Int) = nrm (ws true (p ++ l.take (j + 1)))) := Lib.hid (by
       have h := addI_nrm y x.toNat (by omega)
       rw [hsum.out, show par true (p.length + j) = false from if_neg hp]
       exact h)
      clear hu hp hny hsum hsn
      go_wp2_with (go_at_call 113; refine (add_any _ _ _).mono ?_; rintro e w1 ⟨rfl, rfl⟩)
      go_round
      case rel => exact ⟨j + 1, 8, by omega, by go_num, by rw [hadd.out], rfl, hs8.out.symm⟩
      case measure => simp [intOf]; omega
    ·obtain rfl : j = n := by omega
     have e1 : l.take j = l := List.take_of_length_le (by have := h1'.out; omega)
     rw [e1]
     have hu' := Lib.hid hu
     clear hu e1
     go_wp2
     go_round
     case rel => exact ⟨k + 1, u, by omega, by go_num, by rw [hfs.out], rfl, by rw [hfs.out, hu'.out, List.length_append, h1'.out]⟩
     case measure => simp [intOf]; omega
  ·obtain rfl : k = m := by omega
   have e1 : ls.take k = ls := List.take_of_length_le (by omega)
   rw [e1]
   have hb := ck_bounds ls.flatten
   have hck : (65535 : Int) - (nrm (ws true ls.flatten) : Int) = ck ls.flatten := rfl
   have hn := nrm_le (ws true ls.flatten)
   generalize nrm (ws true ls.flatten) = x at *
   have HK := Lib.hid hck
   clear hck e1 hv hlen hcell
   go_wp2
   go_ret
   exact ⟨ret_i64 HK.out, rfl⟩

theorem Sls.one {w : World} {A : Option Addr} {n c : Nat} {l : List UInt8} (h : Sl w A n c l) :
  Sls (w.alloc (.cells #[.slice A n c] 36)) (some ⟨w.heap.size, 0, none⟩) 1 [l] := by
 refine ⟨rfl, fun _ => ⟨_, _, rfl, fun j x hj => ?_⟩⟩
 match j, hj with
 | 0, hj =>
  obtain rfl : l = x := by simpa using hj
  refine ⟨A, n, c, ?_, h.below ((Below.refl _ _).alloc (Nat.le_refl _) _)⟩
  have h1 := heap_alloc_new w (.cells #[.slice A n c] 36)
  simp only [World.cell?, h1]; simp
 | j + 1, hj => simp at hj
theorem Sls.two {w : World} {A B : Option Addr} {n c m d : Nat} {l t : List UInt8} (h : Sl w A n c l) (h2 : Sl w B m d t) :
  Sls (w.alloc (.cells #[.slice A n c, .slice B m d] 36)) (some ⟨w.heap.size, 0, none⟩) 2 [l, t] := by
 have h1 := heap_alloc_new w (.cells #[.slice A n c, .slice B m d] 36)
 have bel := (Below.refl w.heap.size w).alloc (Nat.le_refl _) (.cells #[.slice A n c, .slice B m d] 36)
 refine ⟨rfl, fun _ => ⟨_, _, rfl, fun j x hj => ?_⟩⟩
 match j, hj with
 | 0, hj =>
  obtain rfl : l = x := by simpa using hj
  exact ⟨A, n, c, by simp only [World.cell?, h1]; simp, h.below bel⟩
 | 1, hj =>
  obtain rfl : t = x := by simpa using hj
  exact ⟨B, m, d, by simp only [World.cell?, h1]; simp, h2.below bel⟩
 | j + 2, hj => simp at hj

theorem of_any (A : Option Addr) (n c : Nat) (l : List UInt8) (w : World) (hl : Sl w A n c l) :
  Calls Tryz.prog 83 #[.slice A n c] w fun e w' => e = .returned (.int .i64 (ck l)) ∧ Below w.heap.size w w' := by
 have hs := Sls.one hl
 have bel := (Below.refl w.heap.size w).alloc (Nat.le_refl _) (.cells #[.slice A n c] 36)
 have hf : Hid ([l].flatten = l) := Lib.hid (by simp)
 go_enter Tryz.func83, Tryz.ntmps83
 go_wp2_with fail
 refine (many_any _ 1 1 [l] _ (by unfold maxLen; omega) hs).mono ?_
 rintro e w1 ⟨rfl, rfl⟩
 rw [hf.out]
 go_wp2
 go_ret
 exact ⟨rfl, bel⟩
theorem fits_yes (A : Option Addr) (n c : Nat) (l : List UInt8) (w : World) (hl : Sl w A n c l) (h : ck l = 0) :
  Calls Tryz.prog 46 #[.slice A n c] w fun e w' => e = .returned (.bool true) ∧ Below w.heap.size w w' := by
 have h0 := Lib.hid h
 clear h
 go_enter Tryz.func46, Tryz.ntmps46
 go_wp2_with fail
 refine (of_any A n c l _ hl).mono ?_
 rintro e w1 ⟨rfl, bel⟩
 rw [h0.out]
 go_wp2
 go_ret
 exact ⟨rfl, bel⟩
theorem fits_no (A : Option Addr) (n c : Nat) (l : List UInt8) (w : World) (hl : Sl w A n c l) (h : ck l ≠ 0) :
  Calls Tryz.prog 46 #[.slice A n c] w fun e w' => e = .returned (.bool false) ∧ Below w.heap.size w w' := by
 have h0 : ((ck l) == 0) = false := by simpa using h
 go_enter Tryz.func46, Tryz.ntmps46
 go_wp2_with fail
 refine (of_any A n c l _ hl).mono ?_
 rintro e w1 ⟨rfl, bel⟩
 go_wp2
 go_ret
 exact ⟨rfl, bel⟩
open Go.RowKit

open Go.RowKit

open Go.RowKit

/-- A piece of a slice: from the front, to the end, from p to p + k. -/
theorem slice_front {w : World} {A : Option Addr} {n c : Nat} {l : List UInt8} (h : Sl w A n c l) {k : Nat} (hk : k ≤ n) :
  ∃ A' c', (∀ W, (Instr.slice 36 (.slice A n c) none (some (.int .i64 (k : Int))) none).run Tryz.prog W = .ok (.slice A' k c') W) ∧ Sl w A' k c' (l.take k) := by
 have h2 := h.2.1
 have hd := h.drop (k := 0) (by omega)
 have ht := hd.take (k := k) (by omega)
 rw [List.drop_zero] at ht
 refine ⟨_, _, fun W => ?_, ht⟩
 have hz : ∀ w, (Go.sizeOf 5).run Tryz.prog w = .ok 1 w := fun w => by kernel_rfl
 have hu : Tryz.prog.underlying 36 = some (.slice (Tryz.prog.elem 36)) := by kernel_rfl
 have he : Tryz.prog.elem 36 = 5 := by kernel_rfl
 rw [run_slice_h W 36 A n c hu .i64 _ (by omega) (by omega), he, hz]
 simp [Result.andThen, sliced]
theorem slice_mid {w : World} {A : Option Addr} {n c : Nat} {l : List UInt8} (h : Sl w A n c l) {p k : Nat} (hk : p + k ≤ n) :
  ∃ A' c', (∀ W, (Instr.slice 36 (.slice A n c) (some (.int .i64 (p : Int))) (some (.int .i64 ((p : Int) + k))) none).run Tryz.prog W = .ok (.slice A' k c') W) ∧ Sl w A' k c' ((l.drop p).take k) := by
 have h2 := h.2.1
 have hd := h.drop (k := p) (by omega)
 have ht := hd.take (k := k) (by omega)
 refine ⟨_, _, fun W => ?_, ht⟩
 have hz : ∀ w, (Go.sizeOf 5).run Tryz.prog w = .ok 1 w := fun w => by kernel_rfl
 have hu : Tryz.prog.underlying 36 = some (.slice (Tryz.prog.elem 36)) := by kernel_rfl
 have he : Tryz.prog.elem 36 = 5 := by kernel_rfl
 rw [run_slice_lh W 36 A n c hu .i64 .i64 _ _ (by omega) (by omega) (by omega), he, hz]
 have e1 : ((p : Int) + k).toNat = p + k := by omega
 simp [Result.andThen, sliced, e1]
open Go.RowKit

open Go.RowKit
open Go.RowKit
open Go.RowKit

/-- A packet of zeros. -/
abbrev packz : Value := .agg #[.int .i64 0, .int .i64 0, .int .i64 0, .int .i64 0, .int .i64 0, .int .i64 0, .int .u8 0, .int .u8 0, .int .u8 0, .int .u8 0, .int .u8 0, .int .u8 0, .int .u8 0, .int .u8 0, .slice none 0 0, .slice none 0 0]
/-- The length of the header that the first byte tells. -/
def hlen (x : UInt8) : Nat := x.toNat % 16 * 4
/-- The error of Get (0: none). -/
def ipErr (l : List UInt8) : Int :=
 if l.length < 20 then 3
 else if (l.getD 0 0).toNat / 16 ≠ 4 ∨ hlen (l.getD 0 0) < 20 then 4
 else if l.length < hlen (l.getD 0 0) then 3
 else if ck (l.take (hlen (l.getD 0 0))) ≠ 0 then 5
 else if be ((l.drop 2).take 2) < hlen (l.getD 0 0) then 4
 else if l.length < be ((l.drop 2).take 2) then 3
 else 0
theorem and8191 (n : Nat) (_ : n < 65536) : bits .and .i64 (n : Int) 8191 = ((n % 8192 : Nat) : Int) := by
 show IntKind.i64.wrap ((BitVec.ofInt 64 (n : Int) &&& BitVec.ofInt 64 8191).toNat : Int) = _
 rw [BitVec.toNat_and, BitVec.ofInt_natCast, BitVec.toNat_ofNat, show (BitVec.ofInt 64 8191).toNat = 2 ^ 13 - 1 from rfl, Nat.and_two_pow_sub_one_eq_mod]
 rw [IntKind.wrap_i64]
 omega
open Go.RowKit

/-- What bytes are as a packet: the six numbers, the eight bytes of the addresses, the options, the body, the error. -/
def ipGet (l : List UInt8) : (List Int × List UInt8) × (List UInt8 × List UInt8) × Int :=
 if ipErr l ≠ 0 then (([0, 0, 0, 0, 0, 0], [0, 0, 0, 0, 0, 0, 0, 0]), ([], []), ipErr l)
 else (([((l.getD 1 0).toNat : Int), (be ((l.drop 4).take 2) : Nat), ((be ((l.drop 6).take 2) : Nat) : Int) / 8192, ((be ((l.drop 6).take 2) : Nat) : Int) % 8192, ((l.getD 8 0).toNat : Int), ((l.getD 9 0).toNat : Int)], (l.drop 12).take 8),
  ((l.drop 20).take (hlen (l.getD 0 0) - 20), (l.drop (hlen (l.getD 0 0))).take (be ((l.drop 2).take 2) - hlen (l.getD 0 0))), 0)
/-- What Get answers. -/
def IpPost (l : List UInt8) (w : World) (e : Ending) (w' : World) : Prop :=
 ∃ (f0 f1 f2 f3 f4 f5 : Int) (a0 a1 a2 a3 a4 a5 a6 a7 : UInt8) (lo lb : List UInt8) (Ao Ab : Option Addr) (co cb : Nat) (er : Int), e = .returned (.tuple #[.agg #[.int .i64 f0, .int .i64 f1, .int .i64 f2, .int .i64 f3, .int .i64 f4, .int .i64 f5, .int .u8 (a0.toNat : Int), .int .u8 (a1.toNat : Int), .int .u8 (a2.toNat : Int), .int .u8 (a3.toNat : Int), .int .u8 (a4.toNat : Int), .int .u8 (a5.toNat : Int), .int .u8 (a6.toNat : Int), .int .u8 (a7.toNat : Int), .slice Ao lo.length co, .slice Ab lb.length cb], .int .i64 er]) ∧ Sl w' Ao lo.length co lo ∧ Sl w' Ab lb.length cb lb ∧ Below w.heap.size w w' ∧ (([f0, f1, f2, f3, f4, f5], [a0, a1, a2, a3, a4, a5, a6, a7]), (lo, lb), er) = ipGet l
theorem list20 (l : List UInt8) (h : 20 ≤ l.length) : ∃ h0 h1 h2 h3 h4 h5 h6 h7 h8 h9 h10 h11 h12 h13 h14 h15 h16 h17 h18 h19 r, l = h0 :: h1 :: h2 :: h3 :: h4 :: h5 :: h6 :: h7 :: h8 :: h9 :: h10 :: h11 :: h12 :: h13 :: h14 :: h15 :: h16 :: h17 :: h18 :: h19 :: r := by
 rcases l with _ | ⟨x0, l⟩
 ·simp at h
 rcases l with _ | ⟨x1, l⟩
 ·simp at h
 rcases l with _ | ⟨x2, l⟩
 ·simp at h
 rcases l with _ | ⟨x3, l⟩
 ·simp at h
 rcases l with _ | ⟨x4, l⟩
 ·simp at h
 rcases l with _ | ⟨x5, l⟩
 ·simp at h
 rcases l with _ | ⟨x6, l⟩
 ·simp at h
 rcases l with _ | ⟨x7, l⟩
 ·simp at h
 rcases l with _ | ⟨x8, l⟩
 ·simp at h
 rcases l with _ | ⟨x9, l⟩
 ·simp at h
 rcases l with _ | ⟨x10, l⟩
 ·simp at h
 rcases l with _ | ⟨x11, l⟩
 ·simp at h
 rcases l with _ | ⟨x12, l⟩
 ·simp at h
 rcases l with _ | ⟨x13, l⟩
 ·simp at h
 rcases l with _ | ⟨x14, l⟩
 ·simp at h
 rcases l with _ | ⟨x15, l⟩
 ·simp at h
 rcases l with _ | ⟨x16, l⟩
 ·simp at h
 rcases l with _ | ⟨x17, l⟩
 ·simp at h
 rcases l with _ | ⟨x18, l⟩
 ·simp at h
 rcases l with _ | ⟨x19, l⟩
 ·simp at h
 exact ⟨_, _, _, _, _, _, _, _, _, _, _, _, _, _, _, _, _, _, _, _, _, rfl⟩
theorem IpPost.err {l : List UInt8} {w w' : World} {er : Int} (h : ipErr l = er) (he : er ≠ 0) (b : Below w.heap.size w w') : IpPost l w (.returned (.tuple #[packz, .int .i64 er])) w' :=
 ⟨0, 0, 0, 0, 0, 0, 0, 0, 0, 0, 0, 0, 0, 0, [], [], none, none, 0, 0, er, rfl, Sl.nil _, Sl.nil _, b, by unfold ipGet; rw [if_pos (by rw [h]; exact he), h]⟩
open Go.RowKit

theorem ok_parts {h0 h1 h2 h3 : UInt8} {r : List UInt8} (h : ipErr (h0 :: h1 :: h2 :: h3 :: r) = 0) :
  h0.toNat / 16 = 4 ∧ 20 ≤ hlen h0 ∧ hlen h0 ≤ (h0 :: h1 :: h2 :: h3 :: r).length ∧ ck ((h0 :: h1 :: h2 :: h3 :: r).take (hlen h0)) = 0 ∧ hlen h0 ≤ be [h2, h3] ∧ be [h2, h3] ≤ (h0 :: h1 :: h2 :: h3 :: r).length := by
 unfold ipErr at h
 split at h; · cases h
 split at h; · cases h
 split at h; · cases h
 split at h; · cases h
 split at h; · cases h
 split at h; · cases h
 rename_i g1 g2 g3 g4 g5 g6
 have e0 : (h0 :: h1 :: h2 :: h3 :: r).getD 0 0 = h0 := rfl
 have e1 : ((h0 :: h1 :: h2 :: h3 :: r).drop 2).take 2 = [h2, h3] := rfl
 rw [e0] at g2 g3 g4 g5
 rw [e1] at g5 g6
 refine ⟨?_, ?_, by omega, ?_, by omega, by omega⟩
 ·exact Classical.byContradiction fun h => g2 (.inl h)
 ·exact Nat.le_of_not_lt fun h => g2 (.inr h)
 ·exact Classical.byContradiction fun h => g4 h
theorem guard4 (op : BinOp) (x y : Operand) (a b : Array Value) (W : World) : (eqGuard op 35 x y (.agg a) (.agg b)).run Tryz.prog W = .ok () W := run_eqGuard_agg W op 35 x y _ _ (by kernel_rfl)
open Go.RowKit

theorem ok_of {h0 h1 h2 h3 h4 h5 h6 h7 h8 h9 h10 h11 h12 h13 h14 h15 h16 h17 h18 h19 : UInt8} {r : List UInt8} (g1 : h0.toNat / 16 = 4) (g2 : 20 ≤ hlen h0) (g3 : hlen h0 ≤ (h0 :: h1 :: h2 :: h3 :: h4 :: h5 :: h6 :: h7 :: h8 :: h9 :: h10 :: h11 :: h12 :: h13 :: h14 :: h15 :: h16 :: h17 :: h18 :: h19 :: r).length) (g4 : ck ((h0 :: h1 :: h2 :: h3 :: h4 :: h5 :: h6 :: h7 :: h8 :: h9 :: h10 :: h11 :: h12 :: h13 :: h14 :: h15 :: h16 :: h17 :: h18 :: h19 :: r).take (hlen h0)) = 0) (g5 : hlen h0 ≤ be [h2, h3]) (g6 : be [h2, h3] ≤ (h0 :: h1 :: h2 :: h3 :: h4 :: h5 :: h6 :: h7 :: h8 :: h9 :: h10 :: h11 :: h12 :: h13 :: h14 :: h15 :: h16 :: h17 :: h18 :: h19 :: r).length) : ipErr (h0 :: h1 :: h2 :: h3 :: h4 :: h5 :: h6 :: h7 :: h8 :: h9 :: h10 :: h11 :: h12 :: h13 :: h14 :: h15 :: h16 :: h17 :: h18 :: h19 :: r) = 0 := by
 unfold ipErr
 have e0 : (h0 :: h1 :: h2 :: h3 :: h4 :: h5 :: h6 :: h7 :: h8 :: h9 :: h10 :: h11 :: h12 :: h13 :: h14 :: h15 :: h16 :: h17 :: h18 :: h19 :: r).getD 0 0 = h0 := rfl
 have e1 : ((h0 :: h1 :: h2 :: h3 :: h4 :: h5 :: h6 :: h7 :: h8 :: h9 :: h10 :: h11 :: h12 :: h13 :: h14 :: h15 :: h16 :: h17 :: h18 :: h19 :: r).drop 2).take 2 = [h2, h3] := rfl
 rw [e0, e1, if_neg (by simp), if_neg (fun h => h.elim (fun h => h g1) (fun h => Nat.lt_irrefl _ (Nat.lt_of_lt_of_le h g2))), if_neg (by omega), if_neg (fun h => h g4), if_neg (by omega), if_neg (by omega)]
theorem drop20 {h0 h1 h2 h3 h4 h5 h6 h7 h8 h9 h10 h11 h12 h13 h14 h15 h16 h17 h18 h19 : UInt8} {r : List UInt8} (k : Nat) (h : 20 ≤ k) : (h0 :: h1 :: h2 :: h3 :: h4 :: h5 :: h6 :: h7 :: h8 :: h9 :: h10 :: h11 :: h12 :: h13 :: h14 :: h15 :: h16 :: h17 :: h18 :: h19 :: r).drop k = r.drop (k - 20) := by
 obtain ⟨j, rfl⟩ : ∃ j, k = j + 20 := ⟨k - 20, by omega⟩
 rw [Nat.add_sub_cancel]; rfl
theorem take20 {h0 h1 h2 h3 h4 h5 h6 h7 h8 h9 h10 h11 h12 h13 h14 h15 h16 h17 h18 h19 : UInt8} {r : List UInt8} (k : Nat) (h : 20 ≤ k) : (h0 :: h1 :: h2 :: h3 :: h4 :: h5 :: h6 :: h7 :: h8 :: h9 :: h10 :: h11 :: h12 :: h13 :: h14 :: h15 :: h16 :: h17 :: h18 :: h19 :: r).take k = h0 :: h1 :: h2 :: h3 :: h4 :: h5 :: h6 :: h7 :: h8 :: h9 :: h10 :: h11 :: h12 :: h13 :: h14 :: h15 :: h16 :: h17 :: h18 :: h19 :: r.take (k - 20) := by
 obtain ⟨j, rfl⟩ : ∃ j, k = j + 20 := ⟨k - 20, by omega⟩
 rw [Nat.add_sub_cancel]; rfl
theorem ipGet_at {h0 h1 h2 h3 h4 h5 h6 h7 h8 h9 h10 h11 h12 h13 h14 h15 h16 h17 h18 h19 : UInt8} {r : List UInt8} (h : ipErr (h0 :: h1 :: h2 :: h3 :: h4 :: h5 :: h6 :: h7 :: h8 :: h9 :: h10 :: h11 :: h12 :: h13 :: h14 :: h15 :: h16 :: h17 :: h18 :: h19 :: r) = 0) : ipGet (h0 :: h1 :: h2 :: h3 :: h4 :: h5 :: h6 :: h7 :: h8 :: h9 :: h10 :: h11 :: h12 :: h13 :: h14 :: h15 :: h16 :: h17 :: h18 :: h19 :: r) = (([(h1.toNat : Int), (be [h4, h5] : Nat), ((be [h6, h7] : Nat) : Int) / 8192, ((be [h6, h7] : Nat) : Int) % 8192, (h8.toNat : Int), (h9.toNat : Int)], [h12, h13, h14, h15, h16, h17, h18, h19]), (r.take (hlen h0 - 20), (r.drop (hlen h0 - 20)).take (be [h2, h3] - hlen h0)), 0) := by
 have g := (ok_parts h).2.1
 unfold ipGet
 rw [if_neg (by rw [h]; simp), ← drop20 (hlen h0) g]
 rfl

/-- The header of a packet with no sum yet. -/
def ipHd (tos id fl pt ttl pr : Int) (a0 a1 a2 a3 a4 a5 a6 a7 : UInt8) (op : List UInt8) (n : Nat) : List UInt8 :=
 byteOf (64 + (20 + op.length : Nat) / 4) :: byteOf tos :: byteOf ((20 + op.length + n : Nat) / 256) :: byteOf (20 + op.length + n : Nat) :: byteOf (id / 256) :: byteOf id :: byteOf ((fl * 8192 + pt) / 256) :: byteOf (fl * 8192 + pt) :: byteOf ttl :: byteOf pr :: 0 :: 0 :: a0 :: a1 :: a2 :: a3 :: a4 :: a5 :: a6 :: a7 :: op
/-- The bytes of a packet. -/
def ipBytes (tos id fl pt ttl pr : Int) (a0 a1 a2 a3 a4 a5 a6 a7 : UInt8) (op body : List UInt8) : List UInt8 :=
 (((ipHd tos id fl pt ttl pr a0 a1 a2 a3 a4 a5 a6 a7 op body.length).set 10 (byteOf (ck (ipHd tos id fl pt ttl pr a0 a1 a2 a3 a4 a5 a6 a7 op body.length) / 256))).set 11 (byteOf (ck (ipHd tos id fl pt ttl pr a0 a1 a2 a3 a4 a5 a6 a7 op body.length)))) ++ body
/-- Does every number fit its field? -/
def ipFits (tos id fl pt ttl pr : Int) (op : List UInt8) : Bool :=
 decide ((0 ≤ tos ∧ tos ≤ 255) ∧ (0 ≤ id ∧ id ≤ 65535) ∧ (0 ≤ fl ∧ fl ≤ 7) ∧ (0 ≤ pt ∧ pt ≤ 8191) ∧ (0 ≤ ttl ∧ ttl ≤ 255) ∧ (0 ≤ pr ∧ pr ≤ 255) ∧ op.length ≤ 40 ∧ op.length % 4 = 0)
/-- What Put answers: the bytes, the error. -/
def ipPut (tos id fl pt ttl pr : Int) (a0 a1 a2 a3 a4 a5 a6 a7 : UInt8) (op body : List UInt8) : List UInt8 × Int :=
 if ipFits tos id fl pt ttl pr op = false then ([], 1) else if 1500 < 20 + op.length + body.length then ([], 2) else (ipBytes tos id fl pt ttl pr a0 a1 a2 a3 a4 a5 a6 a7 op body, 0)

theorem byte_nat (v : Int) (h0 : 0 ≤ v) (h1 : v ≤ 255) : ((byteOf v).toNat : Int) = v := by rw [byteOf_val]; omega
theorem be_bytes (v : Int) (h0 : 0 ≤ v) (h1 : v ≤ 65535) : ((be [byteOf (v / 256), byteOf v] : Nat) : Int) = v := by
 have := be_byteOf v
 unfold two at this
 rw [this]; omega
/-- What is written is a packet, whatever stands behind it. -/
theorem put_good {tos id fl pt ttl pr : Int} {a0 a1 a2 a3 a4 a5 a6 a7 : UInt8} {op body : List UInt8} (hf : ipFits tos id fl pt ttl pr op = true) (hn : 20 + op.length + body.length ≤ 1500) (more : List UInt8) :
  ipErr (ipBytes tos id fl pt ttl pr a0 a1 a2 a3 a4 a5 a6 a7 op body ++ more) = 0 ∧ ipGet (ipBytes tos id fl pt ttl pr a0 a1 a2 a3 a4 a5 a6 a7 op body ++ more) = (([tos, id, fl, pt, ttl, pr], [a0, a1, a2, a3, a4, a5, a6, a7]), (op, body), 0) ∧
   (ipBytes tos id fl pt ttl pr a0 a1 a2 a3 a4 a5 a6 a7 op body).length = 20 + op.length + body.length ∧ hlen ((ipBytes tos id fl pt ttl pr a0 a1 a2 a3 a4 a5 a6 a7 op body).getD 0 0) = 20 + op.length ∧ be (((ipBytes tos id fl pt ttl pr a0 a1 a2 a3 a4 a5 a6 a7 op body).drop 2).take 2) = 20 + op.length + body.length := by
 obtain ⟨⟨t0, t1⟩, ⟨i0, i1⟩, ⟨f0, f1⟩, ⟨p0, p1⟩, ⟨l0, l1⟩, ⟨r0, r1⟩, o0, o1⟩ := of_decide_eq_true hf
 obtain ⟨s, hs⟩ : ∃ s : Nat, ck (ipHd tos id fl pt ttl pr a0 a1 a2 a3 a4 a5 a6 a7 op body.length) = s := ⟨(ck (ipHd tos id fl pt ttl pr a0 a1 a2 a3 a4 a5 a6 a7 op body.length)).toNat, by have := ck_bounds (ipHd tos id fl pt ttl pr a0 a1 a2 a3 a4 a5 a6 a7 op body.length); omega⟩
 have hs1 : s ≤ 65535 := by have := ck_bounds (ipHd tos id fl pt ttl pr a0 a1 a2 a3 a4 a5 a6 a7 op body.length); omega
 have ea : (byteOf ((s : Int) / 256)).toNat = s / 256 := by have := byteOf_val ((s : Int) / 256); omega
 have eb : (byteOf (s : Int)).toNat = s % 256 := by have := byteOf_val (s : Int); omega
 have fit := seal_fits (ipHd tos id fl pt ttl pr a0 a1 a2 a3 a4 a5 a6 a7 op body.length) 10 s _ _ rfl rfl rfl hs ea eb
 have ex : (64 : Int) + (20 + op.length : Nat) / 4 = ((64 + (20 + op.length) / 4 : Nat) : Int) := by omega
 have e0 : (byteOf (64 + (20 + op.length : Nat) / 4)).toNat = 64 + (20 + op.length) / 4 := by have := byteOf_val (64 + (20 + op.length : Nat) / 4); omega
 have eh : hlen (byteOf (64 + (20 + op.length : Nat) / 4)) = 20 + op.length := by unfold hlen; rw [e0]; omega
 have en : be [byteOf ((20 + op.length + body.length : Nat) / 256), byteOf (20 + op.length + body.length : Nat)] = 20 + op.length + body.length := by
  have := be_bytes (20 + op.length + body.length : Nat) (by omega) (by omega)
  exact Int.ofNat_inj.1 this
 have eL : ipBytes tos id fl pt ttl pr a0 a1 a2 a3 a4 a5 a6 a7 op body = byteOf (64 + (20 + op.length : Nat) / 4) :: byteOf tos :: byteOf ((20 + op.length + body.length : Nat) / 256) :: byteOf (20 + op.length + body.length : Nat) :: byteOf (id / 256) :: byteOf id :: byteOf ((fl * 8192 + pt) / 256) :: byteOf (fl * 8192 + pt) :: byteOf ttl :: byteOf pr :: byteOf ((s : Int) / 256) :: byteOf (s : Int) :: a0 :: a1 :: a2 :: a3 :: a4 :: a5 :: a6 :: a7 :: (op ++ body) := by
  unfold ipBytes
  rw [hs]
  rfl
 have eF : ((ipHd tos id fl pt ttl pr a0 a1 a2 a3 a4 a5 a6 a7 op body.length).set 10 (byteOf ((s : Int) / 256))).set 11 (byteOf (s : Int)) = byteOf (64 + (20 + op.length : Nat) / 4) :: byteOf tos :: byteOf ((20 + op.length + body.length : Nat) / 256) :: byteOf (20 + op.length + body.length : Nat) :: byteOf (id / 256) :: byteOf id :: byteOf ((fl * 8192 + pt) / 256) :: byteOf (fl * 8192 + pt) :: byteOf ttl :: byteOf pr :: byteOf ((s : Int) / 256) :: byteOf (s : Int) :: a0 :: a1 :: a2 :: a3 :: a4 :: a5 :: a6 :: a7 :: op := rfl
 rw [eF] at fit
 clear hs ea eb eF
 generalize byteOf ((s : Int) / 256) = sa at *
 generalize byteOf (s : Int) = sb at *
 have eT : (ipBytes tos id fl pt ttl pr a0 a1 a2 a3 a4 a5 a6 a7 op body ++ more) = byteOf (64 + (20 + op.length : Nat) / 4) :: byteOf tos :: byteOf ((20 + op.length + body.length : Nat) / 256) :: byteOf (20 + op.length + body.length : Nat) :: byteOf (id / 256) :: byteOf id :: byteOf ((fl * 8192 + pt) / 256) :: byteOf (fl * 8192 + pt) :: byteOf ttl :: byteOf pr :: sa :: sb :: a0 :: a1 :: a2 :: a3 :: a4 :: a5 :: a6 :: a7 :: (op ++ (body ++ more)) := by
  rw [eL]; simp
 have hlen0 : ipErr (ipBytes tos id fl pt ttl pr a0 a1 a2 a3 a4 a5 a6 a7 op body ++ more) = 0 := by
  rw [eT]
  refine ok_of (by rw [e0]; omega) (by rw [eh]; omega) (by rw [eh]; simp; omega) ?_ (by rw [eh, en]; omega) (by rw [en]; simp; omega)
  rw [eh, take20 _ (by omega), show 20 + op.length - 20 = op.length by omega, List.take_left]
  exact fit
 refine ⟨hlen0, ?_, by rw [eL]; simp; omega, by rw [eL]; exact eh, by rw [eL]; exact en⟩
 rw [eT] at hlen0 ⊢
 rw [ipGet_at hlen0, eh, en, show 20 + op.length - 20 = op.length by omega, List.take_left, List.drop_left, show 20 + op.length + body.length - (20 + op.length) = body.length by omega, List.take_left,
  byte_nat tos t0 t1, byte_nat ttl l0 l1, byte_nat pr r0 r1, be_bytes id i0 i1, be_bytes (fl * 8192 + pt) (by omega) (by omega), show (fl * 8192 + pt) / 8192 = fl by omega, show (fl * 8192 + pt) % 8192 = pt by omega]

end Go.Proofs.YtbdaejodbcjmfaaGreat
