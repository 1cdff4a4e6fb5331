/- Texts put together: Law19. -/
import Derived.Test.YtbdaejodbcjmfaaGreatK1
import Derived.Test.YtbdaejodbcjmfaaGreatK11
namespace Go.Proofs.YtbdaejodbcjmfaaGreat
open Go.RowKit
set_option linter.unusedVariables false
set_option linter.unusedSimpArgs false
set_option maxRecDepth 100000
set_option maxHeartbeats 16000000

def nQ (p : Int) : Int := if 40000 ≤ p then p else 40000
def nM (n p un : Int) : Mp := ⟨17, nQ p, ⟨10, 0, 0, byteOf n⟩, p, 1, un⟩
def nS (n p now un : Int) : Ts := ⟨40000, 128, now, [nM n p un], []⟩
def nS0 : Ts := ⟨40000, 128, 0, [], []⟩
def nK0 : Ks := ⟨128, []⟩
theorem nQ_ok {p : Int} (h : p ≤ 65535) : 40000 ≤ nQ p ∧ nQ p ≤ 65535 := by
 unfold nQ
 split <;> omega
theorem portB_17 {p : Int} (h1 : 1 ≤ p) (h2 : p ≤ 65535) : portB 17 p = true := by
 show (decide (1 ≤ p) && decide (p ≤ 65535)) = true
 rw [decide_eq_true h1, decide_eq_true h2]; rfl
theorem portOk_of {p : Int} (h1 : 0 ≤ p) (h2 : p ≤ 65535) : portOk p = true := by
 unfold portOk
 rw [decide_eq_true h1, decide_eq_true h2]; rfl
theorem okP_17 {p : Int} (h1 : 0 ≤ p) (h2 : p ≤ 65535) : okP 17 p := ⟨by decide, by decide, h1, h2⟩
theorem msrt_one (m : Mp) : MSrt [m] := List.pairwise_singleton _ _
theorem one_mk {lo gt : Nat} {n p : Int} (h1 : 1 ≤ p) (h2 : p ≤ 65535) : MakeC lo gt nS0 (nS n p 0 120) 17 10 0 0 (byteOf n) p 0 120 (nM n p 120) 0 := by
 by_cases h : 40000 ≤ p
 ·have e : nM n p 120 = ⟨17, p, ⟨10, 0, 0, byteOf n⟩, p, 1, 120⟩ := by unfold nM nQ; rw [if_pos h]
  have e2 : nS n p 0 120 = ⟨40000, 128, 0, [⟨17, p, ⟨10, 0, 0, byteOf n⟩, p, 1, 120⟩], []⟩ := by unfold nS; rw [e]
  rw [e, e2]
  exact fun W hT => mk_own (s1 := nS0) (ad := ⟨10, 0, 0, byteOf n⟩) W hT rfl (portB_17 h1 h2) (by decide) rfl rfl (by decide) h rfl rfl
 ·have e : nM n p 120 = ⟨17, 40000, ⟨10, 0, 0, byteOf n⟩, p, 1, 120⟩ := by unfold nM nQ; rw [if_neg h]
  have e2 : nS n p 0 120 = ⟨40000, 128, 0, [⟨17, 40000, ⟨10, 0, 0, byteOf n⟩, p, 1, 120⟩], []⟩ := by unfold nS; rw [e]
  rw [e, e2]
  exact fun W hT => mk_least (s1 := nS0) (q := 40000) (ad := ⟨10, 0, 0, byteOf n⟩) W hT rfl (portB_17 h1 h2) (by decide) rfl rfl (by decide) (fun h' => absurd h' h) (by decide) (by decide) (fun o h1 h2 => by have h1' : (40000 : Int) ≤ o := h1; omega) rfl rfl
theorem one_adv {n p a un t : Int} (h1 : a ≤ t) (h2 : t ≤ 1099511627776) (h3 : t < un) : (nS n p a un).adv t = nS n p t un := by
 by_cases h : a < t
 ·rw [Ts.adv_yes h h2]
  have hl : liveB t (nM n p un) = true := decide_eq_true h3
  have hd : deadB t (nM n p un) = false := by unfold deadB; rw [hl]; rfl
  show (⟨40000, 128, t, [nM n p un].filter (liveB t), ([nM n p un].filter (deadB t)).foldl oput []⟩ : Ts) = _
  rw [List.filter_cons_of_pos hl, List.filter_cons_of_neg (by rw [hd]; decide)]
  rfl
 ·obtain rfl : a = t := by omega
  exact Ts.adv_no h
theorem one_in {lo gt : Nat} {n p a un t : Int} (hp : p ≤ 65535) (h1 : a ≤ t) (h2 : t ≤ 1099511627776) (h3 : t < un) : InC lo gt (nS n p a un) (nS n p t un) 17 (nQ p) t (nM n p un) := fun W hT => by
 have hq := nQ_ok hp
 have hf := (msrt_one (nM n p un)).found (j := 0) (x := kn 17 (nQ p)) rfl rfl
 exact in_some (s1 := nS n p t un) (i := 0) W hT (one_adv h1 h2 h3) (okP_17 (by omega) hq.2) hf.2 hf.1 rfl
theorem one_live {lo gt : Nat} {n p un t u2 : Int} (hp : p ≤ 65535) (h2 : t ≤ 1099511627776) (h3 : t < un) (hu : t + 120 = u2) (h4 : un < u2) : LiveC lo gt (nS n p t un) (nS n p t u2) 17 (nQ p) t 120 true := fun W hT => by
 have hq := nQ_ok hp
 have hf := (msrt_one (nM n p un)).found (j := 0) (x := kn 17 (nQ p)) rfl rfl
 subst hu
 exact lv_set (s1 := nS n p t un) (i := 0) W hT (one_adv (Int.le_refl t) h2 h3) (okP_17 (by omega) hq.2) hf.2 hf.1 rfl rfl (by decide) h4 rfl
theorem an_zero {gn gt gk : Nat} {w : World} {A : Option Addr} : An gn gt gk w A 0 := fun h => absurd h (by decide)
theorem wan19 (w : World) : Calls Tryz.prog 17 #[] w fun e w' => e = .returned (.agg #[.int .u8 203, .int .u8 0, .int .u8 113, .int .u8 7]) ∧ Below w.heap.size w w' := by
 have bel := Below.refl w.heap.size w
 go_enter Tryz.func17, Tryz.ntmps17
 go_wp2_with (first | ((with_reducible show wpList _ _ _ (⟨some 0, _, _, _, _, _⟩ :: _) _ _); refine wpList_new_a rfl 35 rfl #[.int .u8 0, .int .u8 0, .int .u8 0, .int .u8 0] (by kernel_rfl) ?_; intro g0 w1 ge hh bb; have orb := Nat.le_trans bel.size ge; replace bel := bel.trans (bb.mono bel.size); have hrb := hh; clear hh ge bb) | ((with_reducible show wpList _ _ _ (⟨none, Op.store _ (.tmp 0) _, _, _, _, _⟩ :: _) _ _); refine wpList_store_blk rfl 35 (.tmp 0) (.tmp 1) rfl g0 rfl _ rfl _ 35 hrb (by rfl) (by kernel_rfl) (by kernel_rfl) ?_; intro w2 hq gr; replace bel := below_grown bel gr orb bel.size; clear hrb; have hrb := hq; clear hq gr))
 exact bodyPost_ret (results_cell_row' rfl _ _ _ _ _ _ _ rfl hrb Tryz.underlying35 rfl (by kernel_rfl)) rfl ⟨rfl, bel⟩
theorem far19 (w : World) : Calls Tryz.prog 16 #[] w fun e w' => e = .returned (.agg #[.int .u8 8, .int .u8 8, .int .u8 8, .int .u8 8]) ∧ Below w.heap.size w w' := by
 have bel := Below.refl w.heap.size w
 go_enter Tryz.func16, Tryz.ntmps16
 go_wp2_with (first | ((with_reducible show wpList _ _ _ (⟨some 0, _, _, _, _, _⟩ :: _) _ _); refine wpList_new_a rfl 35 rfl #[.int .u8 0, .int .u8 0, .int .u8 0, .int .u8 0] (by kernel_rfl) ?_; intro g0 w1 ge hh bb; have orb := Nat.le_trans bel.size ge; replace bel := bel.trans (bb.mono bel.size); have hrb := hh; clear hh ge bb) | ((with_reducible show wpList _ _ _ (⟨none, Op.store _ (.tmp 0) _, _, _, _, _⟩ :: _) _ _); refine wpList_store_blk rfl 35 (.tmp 0) (.tmp 1) rfl g0 rfl _ rfl _ 35 hrb (by rfl) (by kernel_rfl) (by kernel_rfl) ?_; intro w2 hq gr; replace bel := below_grown bel gr orb bel.size; clear hrb; have hrb := hq; clear hq gr))
 exact bodyPost_ret (results_cell_row' rfl _ _ _ _ _ _ _ rfl hrb Tryz.underlying35 rfl (by kernel_rfl)) rfl ⟨rfl, bel⟩
theorem at19 (k : Int) (w : World) : Calls Tryz.prog 18 #[.int .i64 k] w fun e w' => e = .returned (.agg #[.int .u8 10, .int .u8 0, .int .u8 0, .int .u8 ((byteOf k).toNat : Int)]) ∧ Below w.heap.size w w' := by
 have bel := Below.refl w.heap.size w
 go_enter Tryz.func18, Tryz.ntmps18
 go_wp2_with (first | ((with_reducible show wpList _ _ _ (⟨some 2, _, _, _, _, _⟩ :: _) _ _); refine wpList_new_a rfl 35 rfl #[.int .u8 0, .int .u8 0, .int .u8 0, .int .u8 0] (by kernel_rfl) ?_; intro g2 w1 ge hh bb; have orb := Nat.le_trans bel.size ge; replace bel := bel.trans (bb.mono bel.size); have hrb := hh; clear hh ge bb) | ((with_reducible show wpList _ _ _ (⟨none, Op.store _ (.tmp 2) _, _, _, _, _⟩ :: _) _ _); refine wpList_store_blk rfl 35 (.tmp 2) (.tmp 5) rfl g2 rfl _ rfl _ 35 hrb (by rfl) (by kernel_rfl) (by kernel_rfl) ?_; intro w2 hq gr; replace bel := below_grown bel gr orb bel.size; clear hrb; have hrb := hq; clear hq gr))
 exact bodyPost_ret (results_cell_row' rfl _ _ _ _ _ _ _ rfl hrb Tryz.underlying35 rfl (by kernel_rfl)) rfl ⟨by show Ending.returned (.agg #[.int .u8 10, .int .u8 0, .int .u8 0, .int .u8 (k % 256)]) = .returned (.agg #[.int .u8 10, .int .u8 0, .int .u8 0, .int .u8 ((byteOf k).toNat : Int)]); rw [byteOf_val], bel⟩
theorem dg_any (a0 a1 a2 a3 b0 b1 b2 b3 : UInt8) (port tp : Int) (w : World) (h1 : portOk port = true) (h2 : portOk tp = true) : Calls Tryz.prog 15 #[.agg #[.int .u8 (a0.toNat : Int), .int .u8 (a1.toNat : Int), .int .u8 (a2.toNat : Int), .int .u8 (a3.toNat : Int)], .int .i64 port, .agg #[.int .u8 (b0.toNat : Int), .int .u8 (b1.toNat : Int), .int .u8 (b2.toNat : Int), .int .u8 (b3.toNat : Int)], .int .i64 tp] w fun e w' => ∃ Ao co Ab cb, e = .returned (.agg #[.int .i64 0, .int .i64 0, .int .i64 0, .int .i64 0, .int .i64 64, .int .i64 17, .int .u8 (a0.toNat : Int), .int .u8 (a1.toNat : Int), .int .u8 (a2.toNat : Int), .int .u8 (a3.toNat : Int), .int .u8 (b0.toNat : Int), .int .u8 (b1.toNat : Int), .int .u8 (b2.toNat : Int), .int .u8 (b3.toNat : Int), .slice Ao 0 co, .slice Ab 9 cb]) ∧ Sl w' Ao 0 co [] ∧ Sl w' Ab 9 cb (udBytes a0 a1 a2 a3 b0 b1 b2 b3 port tp [120]) ∧ Fr w.heap.size Ao 0 ∧ Fr w.heap.size Ab 9 ∧ Below w.heap.size w w' := by
 obtain ⟨ii, hii, hz0, hz1, hz2⟩ := info_parts Tryz.info5
 have H1 := Lib.hid h1
 have H2 := Lib.hid h2
 clear h1 h2
 have bel := Below.refl w.heap.size w
 go_enter Tryz.func15, Tryz.ntmps15
 go_wp2_with (first | ((with_reducible show wpList _ _ _ (⟨some 4, _, _, _, _, _⟩ :: _) _ _); refine wpList_box_n rfl 35 (.tmp 0) rfl #[.int .u8 (a0.toNat : Int), .int .u8 (a1.toNat : Int), .int .u8 (a2.toNat : Int), .int .u8 (a3.toNat : Int)] rfl ?_; intro g4 w1 ge lt hh bb; have ofB := Nat.le_trans bel.size ge; replace bel := bel.trans (bb.mono bel.size); have hfB := hh; clear hh lt ge bb) | ((with_reducible show wpList _ _ _ (⟨some 6, _, _, _, _, _⟩ :: _) _ _); refine wpList_box_n rfl 35 (.tmp 2) rfl #[.int .u8 (b0.toNat : Int), .int .u8 (b1.toNat : Int), .int .u8 (b2.toNat : Int), .int .u8 (b3.toNat : Int)] rfl ?_; intro g6 w2 ge lt hh bb; have d_fB_tB := ne_new (hlt hfB) ge; have otB := Nat.le_trans bel.size ge; replace hfB := blk_u hfB bb; replace bel := bel.trans (bb.mono bel.size); have htB := hh; clear hh lt ge bb) | ((with_reducible show wpList _ _ _ (⟨some 8, _, _, _, _, _⟩ :: _) _ _); refine wpList_new_a rfl 38 rfl #[.int .i64 0, .int .i64 0, .int .i64 0, .int .i64 0, .int .i64 0, .int .i64 0, .int .u8 0, .int .u8 0, .int .u8 0, .int .u8 0, .int .u8 0, .int .u8 0, .int .u8 0, .int .u8 0, .slice none 0 0, .slice none 0 0] (by kernel_rfl) ?_; intro g8 w3 ge hh bb; have d_fB_rB := ne_new (hlt hfB) ge; have d_tB_rB := ne_new (hlt htB) ge; have orB := Nat.le_trans bel.size ge; replace hfB := blk_u hfB bb; replace htB := blk_u htB bb; replace bel := bel.trans (bb.mono bel.size); have hrB := hh; clear hh ge bb; have R12 := Lib.hid (range_lit hfB 0 4 [.int .u8 (a0.toNat : Int), .int .u8 (a1.toNat : Int), .int .u8 (a2.toNat : Int), .int .u8 (a3.toNat : Int)] rfl)) | ((with_reducible show wpList _ _ _ (⟨some 12, _, _, _, _, _⟩ :: _) _ _); refine wpList_load_rng 35 (.tmp 4) rfl (by kernel_rfl) _ _ rfl _ R12.out _ Tryz.underlying35 rfl (by kernel_rfl) ?_; have R13 := Lib.hid (range_lit htB 0 4 [.int .u8 (b0.toNat : Int), .int .u8 (b1.toNat : Int), .int .u8 (b2.toNat : Int), .int .u8 (b3.toNat : Int)] rfl)) | ((with_reducible show wpList _ _ _ (⟨some 13, _, _, _, _, _⟩ :: _) _ _); refine wpList_load_rng 35 (.tmp 6) rfl (by kernel_rfl) _ _ rfl _ R13.out _ Tryz.underlying35 rfl (by kernel_rfl) ?_) | ((with_reducible show wpList _ _ _ (⟨some 17, _, _, _, _, _⟩ :: _) _ _); refine wpList_lit_n rfl 36 5 1 _ rfl #[.int .u8 120] (.int .u8 0) Tryz.underlying36 (by kernel_rfl) 1 (by kernel_rfl) (by decide) (by kernel_rfl) ?_; intro g17 w4 ge lt hh bb; have hl : w4.heap[g17]? = some (.cells (([120] : List UInt8).map u8v).toArray 5 (0, 0)) := (by simpa [u8v, byteOf_val] using hh); have sxw := own_lit (B := w3.heap.size) ([120]) hl ge 1 rfl (by simp [maxLen]); have sx := (own_sl sxw).1; have sxlo := bel.size; clear hl; have sxge := ge; have lz_sx := bb.size; have y_sx_fB := Lib.hid (hlt hfB); have y_sx_tB := Lib.hid (hlt htB); have y_sx_rB := Lib.hid (hlt hrB); have d_fB_b17 := ne_new (hlt hfB) ge; have d_tB_b17 := ne_new (hlt htB) ge; have d_rB_b17 := ne_new (hlt hrB) ge; have ob17 := Nat.le_trans bel.size ge; replace hfB := blk_u hfB bb; replace htB := blk_u htB bb; replace hrB := blk_u hrB bb; replace bel := bel.trans (bb.mono bel.size); have hb17 := hh; clear hh lt ge bb; have av_sx_fB := (own_sl sxw).2.av y_sx_fB.out; have av_sx_tB := (own_sl sxw).2.av y_sx_tB.out; have av_sx_rB := (own_sl sxw).2.av y_sx_rB.out) | ((with_reducible show wpList _ _ _ (⟨some 18, _, _, _, _, _⟩ :: _) _ _); refine wpList_mark_n rfl 36 5 (.tmp 17) rfl Tryz.underlying36 Tryz.underlying5 g17 #[.int .u8 120] _ _ rfl hb17 ?_; intro w5 hq gr; replace lz_sx := Nat.le_trans lz_sx gr.size; replace hfB := blk_a hfB gr d_fB_b17; replace htB := blk_a htB gr d_tB_b17; replace hrB := blk_a hrB gr d_rB_b17; replace bel := below_grown bel gr ob17 bel.size; clear hb17; have hb17 := hq; clear hq gr; replace sx : Sl w5 (some ⟨g17, 0, none⟩) 1 1 ([120]) := sl_lit ([120]) hb17 rfl (by simp [maxLen]); clear sxw lz_sx; clear hb17))
 try clear R12
 try clear R13
 have hsz_ := bel.size
 with_reducible refine (udput_is _ _ _ _ _ _ _ _ _ _ _ _ _ _ _ _ _ _ _ _ _ _ _ _ _ _  (Sl.nil _) sx H1.out H2.out (by decide) (by decide)).mono ?_
 rintro e w6 ⟨Ao, co2, Ab, cb2, rfl, qo, qb, fqo_, fqb_, b6⟩
 have av_qo_fB := fqo_.av (hlt hfB)
 have av_qo_tB := fqo_.av (hlt htB)
 have av_qo_rB := fqo_.av (hlt hrB)
 have av_qb_fB := fqb_.av (hlt hfB)
 have av_qb_tB := fqb_.av (hlt htB)
 have av_qb_rB := fqb_.av (hlt hrB)
 replace hfB := blk_u hfB b6
 replace htB := blk_u htB b6
 replace hrB := blk_u hrB b6
 replace sx := sx.below b6
 replace bel := bel.trans (b6.mono bel.size)
 clear b6
 replace qo : Sl w6 (Ao) (0) (co2) ([]) := qo
 replace qb : Sl w6 (Ab) (9) (cb2) (udBytes a0 a1 a2 a3 b0 b1 b2 b3 port tp [120]) := qb
 have fqo := Fr.mono fqo_ hsz_
 have fqb := Fr.mono fqb_ hsz_
 clear fqo_ fqb_ hsz_
 go_wp2_with (first | ((with_reducible show wpList _ _ _ (⟨some 9, _, _, _, _, _⟩ :: _) _ _); refine wpList_new_a rfl 38 rfl #[.int .i64 0, .int .i64 0, .int .i64 0, .int .i64 0, .int .i64 0, .int .i64 0, .int .u8 0, .int .u8 0, .int .u8 0, .int .u8 0, .int .u8 0, .int .u8 0, .int .u8 0, .int .u8 0, .slice none 0 0, .slice none 0 0] (by kernel_rfl) ?_; intro g9 w7 ge hh bb; have d_fB_pB := ne_new (hlt hfB) ge; have d_tB_pB := ne_new (hlt htB) ge; have d_rB_pB := ne_new (hlt hrB) ge; have av_sx_pB := sx.av_new ge; have av_qo_pB := qo.av_new ge; have av_qb_pB := qb.av_new ge; have opB := Nat.le_trans bel.size ge; replace hfB := blk_u hfB bb; replace htB := blk_u htB bb; replace hrB := blk_u hrB bb; replace sx := sx.below bb; replace qo := qo.below bb; replace qb := qb.below bb; replace bel := bel.trans (bb.mono bel.size); have hpB := hh; clear hh ge bb) | ((with_reducible show wpList _ _ _ (⟨none, Op.store _ (.tmp 9) _, _, _, _, _⟩ :: _) _ _); refine wpList_store_blk rfl 38 (.tmp 9) (.tmp 21) rfl g9 rfl _ rfl _ 38 hpB (by rfl) (by kernel_rfl) (by kernel_rfl) ?_; intro w8 hq gr; replace sx := sx.away av_sx_pB gr; replace qo := qo.away av_qo_pB gr; replace qb := qb.away av_qb_pB gr; replace hfB := blk_a hfB gr d_fB_pB; replace htB := blk_a htB gr d_tB_pB; replace hrB := blk_a hrB gr d_rB_pB; replace bel := below_grown bel gr opB bel.size; clear hpB; have hpB := hq; clear hq gr; have R23 := Lib.hid (range_lit hpB 0 16 [.int .i64 0, .int .i64 0, .int .i64 0, .int .i64 0, .int .i64 64, .int .i64 17, .int .u8 (a0.toNat : Int), .int .u8 (a1.toNat : Int), .int .u8 (a2.toNat : Int), .int .u8 (a3.toNat : Int), .int .u8 (b0.toNat : Int), .int .u8 (b1.toNat : Int), .int .u8 (b2.toNat : Int), .int .u8 (b3.toNat : Int), .slice Ao 0 co2, .slice Ab 9 cb2] rfl)) | ((with_reducible show wpList _ _ _ (⟨some 23, _, _, _, _, _⟩ :: _) _ _); refine wpList_load_rng 38 (.tmp 9) rfl (by kernel_rfl) _ _ rfl _ R23.out _ Tryz.underlying38 rfl (by kernel_rfl) ?_) | ((with_reducible show wpList _ _ _ (⟨none, Op.store _ (.tmp 8) _, _, _, _, _⟩ :: _) _ _); refine wpList_store_blk rfl 38 (.tmp 8) (.tmp 23) rfl g8 rfl _ rfl _ 38 hrB (by rfl) (by kernel_rfl) (by kernel_rfl) ?_; intro w9 hq gr; replace sx := sx.away av_sx_rB gr; replace qo := qo.away av_qo_rB gr; replace qb := qb.away av_qb_rB gr; replace hfB := blk_a hfB gr d_fB_rB; replace htB := blk_a htB gr d_tB_rB; replace hpB := blk_a hpB gr (ne_symm d_rB_pB); replace bel := below_grown bel gr orB bel.size; clear hrB; have hrB := hq; clear hq gr))
 try clear R23
 exact bodyPost_ret (results_cell_row' rfl _ _ _ _ _ _ _ rfl hrB Tryz.underlying38 rfl (by kernel_rfl)) rfl ⟨Ao, co2, Ab, cb2, rfl, qo, qb, fqo, fqb, bel⟩
theorem dg_out (n : Int) (port : Int) (w : World) (h1 : portOk port = true) : Calls Tryz.prog 15 #[.agg #[.int .u8 10, .int .u8 0, .int .u8 0, .int .u8 ((byteOf n).toNat : Int)], .int .i64 port, .agg #[.int .u8 8, .int .u8 8, .int .u8 8, .int .u8 8], .int .i64 53] w fun e w' => ∃ Ao co Ab cb, e = .returned (.agg #[.int .i64 0, .int .i64 0, .int .i64 0, .int .i64 0, .int .i64 64, .int .i64 17, .int .u8 10, .int .u8 0, .int .u8 0, .int .u8 ((byteOf n).toNat : Int), .int .u8 8, .int .u8 8, .int .u8 8, .int .u8 8, .slice Ao 0 co, .slice Ab 9 cb]) ∧ Sl w' Ao 0 co [] ∧ Sl w' Ab 9 cb (udBytes 10 0 0 (byteOf n) 8 8 8 8 port 53 [120]) ∧ Fr w.heap.size Ao 0 ∧ Fr w.heap.size Ab 9 ∧ Below w.heap.size w w' := dg_any 10 0 0 (byteOf n) 8 8 8 8 port 53 w h1 (by decide)
theorem dg_in (tp : Int) (w : World) (h1 : portOk tp = true) : Calls Tryz.prog 15 #[.agg #[.int .u8 8, .int .u8 8, .int .u8 8, .int .u8 8], .int .i64 53, .agg #[.int .u8 203, .int .u8 0, .int .u8 113, .int .u8 7], .int .i64 tp] w fun e w' => ∃ Ao co Ab cb, e = .returned (.agg #[.int .i64 0, .int .i64 0, .int .i64 0, .int .i64 0, .int .i64 64, .int .i64 17, .int .u8 8, .int .u8 8, .int .u8 8, .int .u8 8, .int .u8 203, .int .u8 0, .int .u8 113, .int .u8 7, .slice Ao 0 co, .slice Ab 9 cb]) ∧ Sl w' Ao 0 co [] ∧ Sl w' Ab 9 cb (udBytes 8 8 8 8 203 0 113 7 53 tp [120]) ∧ Fr w.heap.size Ao 0 ∧ Fr w.heap.size Ab 9 ∧ Below w.heap.size w w' := dg_any 8 8 8 8 203 0 113 7 53 tp w (by decide) h1
theorem begun19 (w : World) : Calls Tryz.prog 13 #[] w fun e w' => ∃ gn gt gk, e = .returned (.tuple #[.pointer (some ⟨gn, 0, none⟩), .pointer (some ⟨gt, 0, none⟩)]) ∧ Np w.heap.size gn gt gk w' nS0 nK0 ∧ Below w.heap.size w w' := by
 have bel := Below.refl w.heap.size w
 go_enter Tryz.func13, Tryz.ntmps13
 go_wp2_with fail
 have HLO_ := bel.size
 with_reducible refine (tnew_any (lw := 40000) (rm := 128) _ (by decide) (by decide) (by decide) (by decide)).mono ?_
 rintro e w1 ⟨gt, rfl, hP, b1⟩
 replace bel := bel.trans (b1.mono bel.size)
 clear b1
 replace hP : Tp w.heap.size gt w1 nS0 := hP.lo_mono HLO_
 clear HLO_
 go_wp2_with fail
 with_reducible refine (nnew_any _ hP).mono ?_
 rintro e w2 ⟨gn, gk, rfl, hT, b2⟩
 replace hP := hP.below b2
 replace bel := bel.trans (b2.mono bel.size)
 clear b2
 go_wp2_with fail
 exact bodyPost_ret (v := .tuple #[.pointer (some ⟨gn, 0, none⟩), .pointer (some ⟨gt, 0, none⟩)]) (by simp [results, Tryz.results13, go_sem]) rfl ⟨gn, gt, gk, rfl, hT, bel⟩
theorem o_dg {lo gn gt gk : Nat} {n port : Int} {Ao Ab : Option Addr} {co cb : Nat} (w : World) (hT : Np lo gn gt gk w nS0 nK0) (po : Sl w Ao 0 co []) (pb : Sl w Ab 9 cb (udBytes 10 0 0 (byteOf n) 8 8 8 8 port 53 [120])) (h1 : 1 ≤ port) (h2 : port ≤ 65535) : Calls Tryz.prog 19 #[.pointer (some ⟨gn, 0, none⟩), .agg #[.int .i64 0, .int .i64 0, .int .i64 0, .int .i64 0, .int .i64 64, .int .i64 17, .int .u8 10, .int .u8 0, .int .u8 0, .int .u8 ((byteOf n).toNat : Int), .int .u8 8, .int .u8 8, .int .u8 8, .int .u8 8, .slice Ao 0 co, .slice Ab 9 cb], .agg #[.int .u8 203, .int .u8 0, .int .u8 113, .int .u8 7], .int .i64 0] w fun e w' => ∃ Ao co' Ab cb', e = .returned (.tuple #[.agg #[.int .i64 0, .int .i64 0, .int .i64 0, .int .i64 0, .int .i64 64, .int .i64 17, .int .u8 203, .int .u8 0, .int .u8 113, .int .u8 7, .int .u8 8, .int .u8 8, .int .u8 8, .int .u8 8, .slice Ao 0 co', .slice Ab 9 cb'], .int .i64 0]) ∧ Np lo gn gt gk w' (nS n port 0 120) nK0 ∧ Fn gn gt gk w w' ∧ Below lo w w' ∧ Sl w' Ao 0 co' [] ∧ Sl w' Ab 9 cb' (udBytes 203 0 113 7 8 8 8 8 (nQ port) 53 [120]) ∧ An gn gt gk w' Ao 0 ∧ An gn gt gk w' Ab 9 ∧ Fr w.heap.size Ao 0 ∧ Fr w.heap.size Ab 9 := by
 have h_ := nout_ok (m := nM n port 120) (tos := 0) (id := 0) (fl := 0) (pt := 0) (ttl := 64) (t := 0) (df := port) (dt := 53) (ld := [120]) (nd := 1) (lp := []) (a0 := 10) (a1 := 0) (a2 := 0) (a3 := (byteOf n)) (b0 := 8) (b1 := 8) (b2 := 8) (b3 := 8) (c0 := 203) (c1 := 0) (c2 := 113) (c3 := 7) w hT po pb an_zero (by decide) (by decide) (by decide) (udp_back (by decide) 10 0 0 (byteOf n) 8 8 8 8 (portOk_of (Int.le_trans (by decide) h1) h2) (by decide) [120] (by decide)) rfl (Int.ne_of_gt (Int.lt_of_lt_of_le (by decide) h1)) (one_mk h1 h2) (portOk_of (Int.le_trans (by decide) (nQ_ok h2).1) (nQ_ok h2).2) (by decide) (by decide)
 exact h_
theorem o_aw {lo gn gt gk : Nat} {Ao Ab : Option Addr} {co cb : Nat} (w : World) (hT : Np lo gn gt gk w nS0 nK0) (po : Sl w Ao 0 co []) (pb : Sl w Ab 9 cb (udBytes 10 0 0 (byteOf 5) 8 8 8 8 777 53 [120]))  : Calls Tryz.prog 19 #[.pointer (some ⟨gn, 0, none⟩), .agg #[.int .i64 0, .int .i64 0, .int .i64 0, .int .i64 0, .int .i64 64, .int .i64 17, .int .u8 10, .int .u8 0, .int .u8 0, .int .u8 ((byteOf 5).toNat : Int), .int .u8 8, .int .u8 8, .int .u8 8, .int .u8 8, .slice Ao 0 co, .slice Ab 9 cb], .agg #[.int .u8 203, .int .u8 0, .int .u8 113, .int .u8 7], .int .i64 0] w fun e w' => ∃ Ao co' Ab cb', e = .returned (.tuple #[.agg #[.int .i64 0, .int .i64 0, .int .i64 0, .int .i64 0, .int .i64 64, .int .i64 17, .int .u8 203, .int .u8 0, .int .u8 113, .int .u8 7, .int .u8 8, .int .u8 8, .int .u8 8, .int .u8 8, .slice Ao 0 co', .slice Ab 9 cb'], .int .i64 0]) ∧ Np lo gn gt gk w' (nS 5 777 0 120) nK0 ∧ Fn gn gt gk w w' ∧ Below lo w w' ∧ Sl w' Ao 0 co' [] ∧ Sl w' Ab 9 cb' (udBytes 203 0 113 7 8 8 8 8 40000 53 [120]) ∧ An gn gt gk w' Ao 0 ∧ An gn gt gk w' Ab 9 ∧ Fr w.heap.size Ao 0 ∧ Fr w.heap.size Ab 9 := o_dg (port := 777) w hT po pb (by decide) (by decide)
theorem i_aw {lo gn gt gk : Nat} {Ao Ab : Option Addr} {co cb : Nat} (w : World) (hT : Np lo gn gt gk w (nS 5 777 0 120) nK0) (po : Sl w Ao 0 co []) (pb : Sl w Ab 9 cb (udBytes 8 8 8 8 203 0 113 7 53 40000 [120]))  : Calls Tryz.prog 14 #[.pointer (some ⟨gn, 0, none⟩), .agg #[.int .i64 0, .int .i64 0, .int .i64 0, .int .i64 0, .int .i64 64, .int .i64 17, .int .u8 8, .int .u8 8, .int .u8 8, .int .u8 8, .int .u8 203, .int .u8 0, .int .u8 113, .int .u8 7, .slice Ao 0 co, .slice Ab 9 cb], .agg #[.int .u8 203, .int .u8 0, .int .u8 113, .int .u8 7], .int .i64 1] w fun e w' => ∃ Ao co' Ab cb', e = .returned (.tuple #[.agg #[.int .i64 0, .int .i64 0, .int .i64 0, .int .i64 0, .int .i64 64, .int .i64 17, .int .u8 8, .int .u8 8, .int .u8 8, .int .u8 8, .int .u8 10, .int .u8 0, .int .u8 0, .int .u8 ((byteOf 5).toNat : Int), .slice Ao 0 co', .slice Ab 9 cb'], .int .i64 0]) ∧ Np lo gn gt gk w' (nS 5 777 1 121) nK0 ∧ Fn gn gt gk w w' ∧ Below lo w w' ∧ Sl w' Ao 0 co' [] ∧ Sl w' Ab 9 cb' (udBytes 8 8 8 8 10 0 0 (byteOf 5) 53 777 [120]) ∧ An gn gt gk w' Ao 0 ∧ An gn gt gk w' Ab 9 ∧ Fr w.heap.size Ao 0 ∧ Fr w.heap.size Ab 9 := by
 have h_ := nin_ok (m := nM 5 777 120) (tos := 0) (id := 0) (fl := 0) (pt := 0) (ttl := 64) (t := 1) (df := 53) (dt := 40000) (ld := [120]) (nd := 1) (lp := []) (a0 := 8) (a1 := 8) (a2 := 8) (a3 := 8) (b0 := 203) (b1 := 0) (b2 := 113) (b3 := 7) w hT po pb an_zero (by decide) (by decide) (by decide) (udp_back (by decide) 8 8 8 8 203 0 113 7 (by decide) (by decide) [120] (by decide)) rfl (one_in (by decide) (by decide) (by decide) (by decide)) (one_live (by decide) (by decide) (by decide) rfl (by decide)) (by decide) (by decide) (by decide)
 exact h_
theorem l_aw1 {lo gn gt gk : Nat} (w : World) (hT : Np lo gn gt gk w (nS 5 777 1 121) nK0) : Calls Tryz.prog 26 #[.pointer (some ⟨gt, 0, none⟩), .int .i64 120] w fun e w' => e = .returned (.int .i64 1) ∧ Np lo gn gt gk w' (nS 5 777 120 121) nK0 ∧ Fn gn gt gk w w' ∧ Below lo w w' := np_t hT (len_is (s1 := (nS 5 777 120 121)) w hT.tp (by kernel_rfl) rfl)
theorem l_aw2 {lo gn gt gk : Nat} (w : World) (hT : Np lo gn gt gk w (nS 5 777 120 121) nK0) : Calls Tryz.prog 26 #[.pointer (some ⟨gt, 0, none⟩), .int .i64 121] w fun e w' => e = .returned (.int .i64 0) ∧ Np lo gn gt gk w' ⟨40000, 128, 121, [], [nM 5 777 121]⟩ nK0 ∧ Fn gn gt gk w w' ∧ Below lo w w' := np_t hT (len_is (s1 := ⟨40000, 128, 121, [], [nM 5 777 121]⟩) w hT.tp (by kernel_rfl) rfl)
theorem g_aw1 {So Sb : Option Addr} {no co cb : Nat} (w : World) (pb : Sl w Sb 9 cb (udBytes 203 0 113 7 8 8 8 8 40000 53 [120]))  : Calls Tryz.prog 24 #[.agg #[.int .i64 0, .int .i64 0, .int .i64 0, .int .i64 0, .int .i64 64, .int .i64 17, .int .u8 203, .int .u8 0, .int .u8 113, .int .u8 7, .int .u8 8, .int .u8 8, .int .u8 8, .int .u8 8, .slice So no co, .slice Sb 9 cb]] w fun e w' => ∃ A c, e = .returned (.tuple #[.agg #[.int .i64 40000, .int .i64 53, .slice A 1 c], .int .i64 0]) ∧ Sl w' A 1 c [120] ∧ Fr w.heap.size A 1 ∧ Below w.heap.size w w' := udget_is _ _ 0 0 _ 203 0 113 7 8 8 8 8 _ _ _ _ _ _ w pb (by decide) (udp_back (by decide) 203 0 113 7 8 8 8 8 (by decide) (by decide) [120] (by decide)) rfl
theorem g_aw2 {So Sb : Option Addr} {no co cb : Nat} (w : World) (pb : Sl w Sb 9 cb (udBytes 8 8 8 8 10 0 0 (byteOf 5) 53 777 [120]))  : Calls Tryz.prog 24 #[.agg #[.int .i64 0, .int .i64 0, .int .i64 0, .int .i64 0, .int .i64 64, .int .i64 17, .int .u8 8, .int .u8 8, .int .u8 8, .int .u8 8, .int .u8 10, .int .u8 0, .int .u8 0, .int .u8 ((byteOf 5).toNat : Int), .slice So no co, .slice Sb 9 cb]] w fun e w' => ∃ A c, e = .returned (.tuple #[.agg #[.int .i64 53, .int .i64 777, .slice A 1 c], .int .i64 0]) ∧ Sl w' A 1 c [120] ∧ Fr w.heap.size A 1 ∧ Below w.heap.size w w' := udget_is _ _ 0 0 _ 8 8 8 8 10 0 0 (byteOf 5) _ _ _ _ _ _ w pb (by decide) (udp_back (by decide) 8 8 8 8 10 0 0 (byteOf 5) (by decide) (by decide) [120] (by decide)) rfl
theorem awake19 (w : World) : Calls Tryz.prog 10 #[] w fun e w' => e = .returned (.bool true) ∧ Below w.heap.size w w' := by
 have e1 : ∀ W, (binOp .eql 35 (.agg #[.int .u8 203, .int .u8 0, .int .u8 113, .int .u8 7]) (.agg #[.int .u8 203, .int .u8 0, .int .u8 113, .int .u8 7])).run Tryz.prog W = .ok (.bool true) W := fun W => by kernel_rfl
 have e2 : ∀ W, (binOp .eql 35 (.agg #[.int .u8 8, .int .u8 8, .int .u8 8, .int .u8 8]) (.agg #[.int .u8 8, .int .u8 8, .int .u8 8, .int .u8 8])).run Tryz.prog W = .ok (.bool true) W := fun W => by kernel_rfl
 have e3 : ∀ W, (binOp .eql 35 (.agg #[.int .u8 10, .int .u8 0, .int .u8 0, .int .u8 ((byteOf 5).toNat : Int)]) (.agg #[.int .u8 10, .int .u8 0, .int .u8 0, .int .u8 ((byteOf 5).toNat : Int)])).run Tryz.prog W = .ok (.bool true) W := fun W => by kernel_rfl
 have bel := Below.refl w.heap.size w
 go_enter Tryz.func10, Tryz.ntmps10
 go_wp2_with fail
 have HLO_ := bel.size
 with_reducible refine (begun19 _).mono ?_
 rintro e w1 ⟨gn, gt, gk, rfl, hT, b1⟩
 replace bel := bel.trans (b1.mono bel.size)
 clear b1
 replace hT : Np w.heap.size gn gt gk w1 nS0 nK0 := hT.lo_mono HLO_
 clear HLO_
 go_wp2_with fail
 with_reducible refine (at19 5 _).mono ?_
 rintro e w2 ⟨rfl, b2⟩
 replace hT := hT.below b2
 replace bel := bel.trans (b2.mono bel.size)
 clear b2
 go_wp2_with fail
 with_reducible refine (far19 _).mono ?_
 rintro e w3 ⟨rfl, b3⟩
 replace hT := hT.below b3
 replace bel := bel.trans (b3.mono bel.size)
 clear b3
 go_wp2_with fail
 with_reducible refine (dg_out 5 777 _ (by decide)).mono ?_
 rintro e w4 ⟨Auo, cuo, Aub, cub, rfl, uo, ub, fuo, fub, b4⟩
 have an_uo := hT.an fuo
 have an_ub := hT.an fub
 replace hT := hT.below b4
 replace an_uo := an_uo.below b4
 replace an_ub := an_ub.below b4
 replace bel := bel.trans (b4.mono bel.size)
 clear b4
 replace uo : Sl w4 (Auo) (0) (cuo) ([]) := uo
 replace ub : Sl w4 (Aub) (9) (cub) (udBytes 10 0 0 (byteOf 5) 8 8 8 8 777 53 [120]) := ub
 go_wp2_with fail
 with_reducible refine (wan19 _).mono ?_
 rintro e w5 ⟨rfl, b5⟩
 replace uo := uo.below b5
 replace ub := ub.below b5
 replace hT := hT.below b5
 replace an_uo := an_uo.below b5
 replace an_ub := an_ub.below b5
 replace bel := bel.trans (b5.mono bel.size)
 clear b5
 go_wp2_with fail
 with_reducible refine (o_aw _ hT uo ub).mono ?_
 rintro e w6 ⟨Apo, cpo, Apb, cpb, rfl, hT_, f_, bb, po, pb, an_po, an_pb, fpo, fpb⟩
 have x_ := f_.sl uo an_uo
 replace uo := x_.1
 replace an_uo := x_.2
 clear x_
 have x_ := f_.sl ub an_ub
 replace ub := x_.1
 replace an_ub := x_.2
 clear x_
 clear hT
 have hT := hT_
 replace bel := bel.trans bb
 clear bb f_ hT_
 clear fpo fpb
 go_wp2_with (first | ((with_reducible show wpList _ _ _ (⟨some 3, _, _, _, _, _⟩ :: _) _ _); refine wpList_new_a rfl 38 rfl #[.int .i64 0, .int .i64 0, .int .i64 0, .int .i64 0, .int .i64 0, .int .i64 0, .int .u8 0, .int .u8 0, .int .u8 0, .int .u8 0, .int .u8 0, .int .u8 0, .int .u8 0, .int .u8 0, .slice none 0 0, .slice none 0 0] (by kernel_rfl) ?_; intro g3 w7 ge hh bb; have ap_pB := hT.ap ge; have av_uo_pB := uo.av_new ge; have av_ub_pB := ub.av_new ge; have av_po_pB := po.av_new ge; have av_pb_pB := pb.av_new ge; have opB := Nat.le_trans bel.size ge; replace uo := uo.below bb; replace ub := ub.below bb; replace po := po.below bb; replace pb := pb.below bb; replace hT := hT.below bb; replace an_uo := an_uo.below bb; replace an_ub := an_ub.below bb; replace an_po := an_po.below bb; replace an_pb := an_pb.below bb; replace ap_pB := ap_pB.below bb; replace bel := bel.trans (bb.mono bel.size); have hpB := hh; clear hh ge bb) | ((with_reducible show wpList _ _ _ (⟨none, Op.store _ (.tmp 3) _, _, _, _, _⟩ :: _) _ _); refine wpList_store_blk rfl 38 (.tmp 3) (.tmp 28) rfl g3 rfl _ rfl _ 38 hpB (by rfl) (by kernel_rfl) (by kernel_rfl) ?_; intro w8 hq gr; replace uo := uo.away av_uo_pB gr; replace ub := ub.away av_ub_pB gr; replace po := po.away av_po_pB gr; replace pb := pb.away av_pb_pB gr; replace hT := hT.away ap_pB gr hpB; replace an_uo := an_uo.grown ap_pB gr; replace an_ub := an_ub.grown ap_pB gr; replace an_po := an_po.grown ap_pB gr; replace an_pb := an_pb.grown ap_pB gr; replace ap_pB := ap_pB.grown ap_pB gr; replace bel := below_grown bel gr opB bel.size; clear hpB; have hpB := hq; clear hq gr; have R31 := Lib.hid (range_lit hpB 0 16 [.int .i64 0, .int .i64 0, .int .i64 0, .int .i64 0, .int .i64 64, .int .i64 17, .int .u8 203, .int .u8 0, .int .u8 113, .int .u8 7, .int .u8 8, .int .u8 8, .int .u8 8, .int .u8 8, .slice Apo 0 cpo, .slice Apb 9 cpb] rfl)) | ((with_reducible show wpList _ _ _ (⟨some 31, _, _, _, _, _⟩ :: _) _ _); refine wpList_load_rng 38 (.tmp 3) rfl (by kernel_rfl) _ _ rfl _ R31.out _ Tryz.underlying38 rfl (by kernel_rfl) ?_))
 try clear R31
 with_reducible refine (g_aw1 _ pb).mono ?_
 rintro e w9 ⟨Agd, cgd, rfl, gd, fgd, b9⟩
 have av_gd_pB := fgd.av (hlt hpB)
 have an_gd := hT.an fgd
 replace hpB := blk_u hpB b9
 replace uo := uo.below b9
 replace ub := ub.below b9
 replace po := po.below b9
 replace pb := pb.below b9
 replace hT := hT.below b9
 replace an_uo := an_uo.below b9
 replace an_ub := an_ub.below b9
 replace an_po := an_po.below b9
 replace an_pb := an_pb.below b9
 replace ap_pB := ap_pB.below b9
 replace an_gd := an_gd.below b9
 replace bel := bel.trans (b9.mono bel.size)
 clear b9
 replace gd : Sl w9 (Agd) (1) (cgd) ([120]) := gd
 go_wp2_with (first | ((with_reducible show wpList _ _ _ (⟨some 5, _, _, _, _, _⟩ :: _) _ _); refine wpList_new_a rfl 54 rfl #[.int .i64 0, .int .i64 0, .slice none 0 0] (by kernel_rfl) ?_; intro g5 w10 ge hh bb; have ap_dB := hT.ap ge; have d_pB_dB := ne_new (hlt hpB) ge; have av_uo_dB := uo.av_new ge; have av_ub_dB := ub.av_new ge; have av_po_dB := po.av_new ge; have av_pb_dB := pb.av_new ge; have av_gd_dB := gd.av_new ge; have odB := Nat.le_trans bel.size ge; replace hpB := blk_u hpB bb; replace uo := uo.below bb; replace ub := ub.below bb; replace po := po.below bb; replace pb := pb.below bb; replace gd := gd.below bb; replace hT := hT.below bb; replace an_uo := an_uo.below bb; replace an_ub := an_ub.below bb; replace an_po := an_po.below bb; replace an_pb := an_pb.below bb; replace ap_pB := ap_pB.below bb; replace an_gd := an_gd.below bb; replace ap_dB := ap_dB.below bb; replace bel := bel.trans (bb.mono bel.size); have hdB := hh; clear hh ge bb) | ((with_reducible show wpList _ _ _ (⟨none, Op.store _ (.tmp 5) _, _, _, _, _⟩ :: _) _ _); refine wpList_store_blk rfl 54 (.tmp 5) (.tmp 33) rfl g5 rfl _ rfl _ 54 hdB (by rfl) (by kernel_rfl) (by kernel_rfl) ?_; intro w11 hq gr; replace uo := uo.away av_uo_dB gr; replace ub := ub.away av_ub_dB gr; replace po := po.away av_po_dB gr; replace pb := pb.away av_pb_dB gr; replace gd := gd.away av_gd_dB gr; replace hpB := blk_a hpB gr d_pB_dB; replace hT := hT.away ap_dB gr hdB; replace an_uo := an_uo.grown ap_dB gr; replace an_ub := an_ub.grown ap_dB gr; replace an_po := an_po.grown ap_dB gr; replace an_pb := an_pb.grown ap_dB gr; replace ap_pB := ap_pB.grown ap_dB gr; replace an_gd := an_gd.grown ap_dB gr; replace ap_dB := ap_dB.grown ap_dB gr; replace bel := below_grown bel gr odB bel.size; clear hdB; have hdB := hq; clear hq gr))
 go_cut [7, 8] from 9999 (fun s7 s8 W => ∃ g7 : Nat, ∃ Avo : Option Addr, ∃ cvo : Nat, ∃ Avb : Option Addr, ∃ cvb : Nat, ∃ Aqo : Option Addr, ∃ cqo : Nat, ∃ Aqb : Option Addr, ∃ cqb : Nat, s7 = .pointer (some ⟨g7, 0, none⟩) ∧ s8 = .int .i64 0 ∧ W.heap[g3]? = some (.cells #[.int .i64 0, .int .i64 0, .int .i64 0, .int .i64 0, .int .i64 64, .int .i64 17, .int .u8 203, .int .u8 0, .int .u8 113, .int .u8 7, .int .u8 8, .int .u8 8, .int .u8 8, .int .u8 8, .slice Apo 0 cpo, .slice Apb 9 cpb] 38 (0, 0)) ∧ W.heap[g5]? = some (.cells #[.int .i64 40000, .int .i64 53, .slice Agd 1 cgd] 54 (0, 0)) ∧ W.heap[g7]? = some (.cells #[.int .i64 0, .int .i64 0, .int .i64 0, .int .i64 0, .int .i64 64, .int .i64 17, .int .u8 8, .int .u8 8, .int .u8 8, .int .u8 8, .int .u8 10, .int .u8 0, .int .u8 0, .int .u8 ((byteOf 5).toNat : Int), .slice Aqo 0 cqo, .slice Aqb 9 cqb] 38 (0, 0)) ∧ w.heap.size ≤ g7 ∧ Hid (g5 ≠ g3) ∧ Hid (g5 ≠ g7) ∧ Hid (g3 ≠ g7) ∧ Sl W (Auo) (0) (cuo) ([]) ∧ Av (Auo) (0) g5 ∧ Av (Auo) (0) g3 ∧ Av (Auo) (0) g7 ∧ Sl W (Aub) (9) (cub) (udBytes 10 0 0 (byteOf 5) 8 8 8 8 777 53 [120]) ∧ Av (Aub) (9) g5 ∧ Av (Aub) (9) g3 ∧ Av (Aub) (9) g7 ∧ Sl W (Apo) (0) (cpo) ([]) ∧ Av (Apo) (0) g5 ∧ Av (Apo) (0) g3 ∧ Av (Apo) (0) g7 ∧ Sl W (Apb) (9) (cpb) (udBytes 203 0 113 7 8 8 8 8 40000 53 [120]) ∧ Av (Apb) (9) g5 ∧ Av (Apb) (9) g3 ∧ Av (Apb) (9) g7 ∧ Sl W (Agd) (1) (cgd) ([120]) ∧ Av (Agd) (1) g5 ∧ Av (Agd) (1) g3 ∧ Av (Agd) (1) g7 ∧ Sl W (Avo) (0) (cvo) ([]) ∧ Av (Avo) (0) g5 ∧ Av (Avo) (0) g3 ∧ Av (Avo) (0) g7 ∧ Sl W (Avb) (9) (cvb) (udBytes 8 8 8 8 203 0 113 7 53 40000 [120]) ∧ Av (Avb) (9) g5 ∧ Av (Avb) (9) g3 ∧ Av (Avb) (9) g7 ∧ Sl W (Aqo) (0) (cqo) ([]) ∧ Av (Aqo) (0) g5 ∧ Av (Aqo) (0) g3 ∧ Av (Aqo) (0) g7 ∧ Sl W (Aqb) (9) (cqb) (udBytes 8 8 8 8 10 0 0 (byteOf 5) 53 777 [120]) ∧ Av (Aqb) (9) g5 ∧ Av (Aqb) (9) g3 ∧ Av (Aqb) (9) g7 ∧ Np w.heap.size gn gt gk W (nS 5 777 1 121) nK0 ∧ An gn gt gk W (Auo) (0) ∧ An gn gt gk W (Aub) (9) ∧ An gn gt gk W (Apo) (0) ∧ An gn gt gk W (Apb) (9) ∧ Anp gn gt gk W g3 ∧ An gn gt gk W (Agd) (1) ∧ Anp gn gt gk W g5 ∧ An gn gt gk W (Avo) (0) ∧ An gn gt gk W (Avb) (9) ∧ An gn gt gk W (Aqo) (0) ∧ An gn gt gk W (Aqb) (9) ∧ Anp gn gt gk W g7 ∧ Below w.heap.size w W)
 case first =>
  replace bel := bel.drew
  replace hpB : w11.drew.heap[g3]? = _ := hpB
  replace hdB : w11.drew.heap[g5]? = _ := hdB
  replace uo := uo.drew
  replace ub := ub.drew
  replace po := po.drew
  replace pb := pb.drew
  replace gd := gd.drew
  replace hT := np_drew hT
  replace an_uo := an_drew an_uo
  replace an_ub := an_drew an_ub
  replace an_po := an_drew an_po
  replace an_pb := an_drew an_pb
  replace ap_pB := anp_drew ap_pB
  replace an_gd := an_drew an_gd
  replace ap_dB := anp_drew ap_dB
  refine wp_region_held_drew (S := fun W => W.heap[g5]? = some (.cells #[.int .i64 40000, .int .i64 53, .slice Agd 1 cgd] 54 (0, 0))) (by kernel_rfl) hdB (fun hH => ?_)
  generalize w11.drew = w12 at bel hpB hdB uo ub po pb gd hT an_uo an_ub an_po an_pb ap_pB an_gd ap_dB hH ⊢
  refine wpAnyH_take (i := 0) (v := ?_) rfl (by kernel_rfl) (by kernel_rfl) (by kernel_rfl) (fun _ _ _ h => h) (Or.inl ⟨by rfl, ?_⟩) hH ?_
  rotate_left
  ·((intro W hW; clear hW; go_simp) <;> with_reducible rfl)
  simp only [Act.put, List.getElem_toArray, List.getElem_cons_zero, List.setIfInBounds_toArray, List.set_cons_zero, List.set_cons_succ]
  refine wpAnyH_take (i := 3) (v := ?_) rfl (by kernel_rfl) (by kernel_rfl) (by kernel_rfl) (fun _ _ _ h => h) (Or.inl ⟨by rfl, ?_⟩) hH ?_
  rotate_left
  ·((intro W hW; clear hW; go_simp) <;> with_reducible rfl)
  simp only [sq3, sq4]
  refine wpAnyH_take (i := 4) (v := ?_) rfl (by kernel_rfl) (by kernel_rfl) (by kernel_rfl) (fun _ _ _ h => h) (Or.inl ⟨by rfl, ?_⟩) hH ?_
  rotate_left
  ·((intro W hW; have hk := cell_lit (hW) 0 _ rfl; clear hW; go_simp) <;> with_reducible rfl)
  simp only [sq3, sq4]
  refine wpAnyH_ready (rs := [1, 11]) (by kernel_rfl) (by simp) ?_
  refine AllReadyH.cons (o := _) rfl (fun K hK => ?_) (AllReadyH.cons (o := _) rfl (fun K hK => ?_) AllReadyH.nil)
  rotate_left
  ·simp only [sq3]
   rw [if_pos (by rfl)]
   refine wp_new_a 38 rfl #[.int .i64 0, .int .i64 0, .int .i64 0, .int .i64 0, .int .i64 0, .int .i64 0, .int .u8 0, .int .u8 0, .int .u8 0, .int .u8 0, .int .u8 0, .int .u8 0, .int .u8 0, .int .u8 0, .slice none 0 0, .slice none 0 0] (by kernel_rfl) ?_
   intro g7 w13 ge hh bb
   have ap_qB := hT.ap ge
   have d_pB_qB := ne_new (hlt hpB) ge
   have d_dB_qB := ne_new (hlt hdB) ge
   have av_uo_qB := uo.av_new ge
   have av_ub_qB := ub.av_new ge
   have av_po_qB := po.av_new ge
   have av_pb_qB := pb.av_new ge
   have av_gd_qB := gd.av_new ge
   have oqB := Nat.le_trans bel.size ge
   replace hpB := blk_u hpB bb
   replace hdB := blk_u hdB bb
   replace uo := uo.below bb
   replace ub := ub.below bb
   replace po := po.below bb
   replace pb := pb.below bb
   replace gd := gd.below bb
   replace hT := hT.below bb
   replace an_uo := an_uo.below bb
   replace an_ub := an_ub.below bb
   replace an_po := an_po.below bb
   replace an_pb := an_pb.below bb
   replace ap_pB := ap_pB.below bb
   replace an_gd := an_gd.below bb
   replace ap_dB := ap_dB.below bb
   replace ap_qB := ap_qB.below bb
   replace bel := bel.trans (bb.mono bel.size)
   have hqB := hh
   clear hh ge bb
   refine hK.out _ _ hdB (fun hH14 => ?_)
   clear hK K
   simp only [sq4]
   refine wpAnyH_ready (rs := [1]) (by kernel_rfl) (by simp) ?_
   refine AllReadyH.cons (o := _) rfl (fun K hK => ?_) AllReadyH.nil
   simp only [sq3]
   go_simp
   with_reducible refine (far19 _).mono ?_
   rintro e w15 ⟨rfl, b15⟩
   dsimp only
   replace hpB := blk_u hpB b15
   replace hdB := blk_u hdB b15
   replace hqB := blk_u hqB b15
   replace uo := uo.below b15
   replace ub := ub.below b15
   replace po := po.below b15
   replace pb := pb.below b15
   replace gd := gd.below b15
   replace hT := hT.below b15
   replace an_uo := an_uo.below b15
   replace an_ub := an_ub.below b15
   replace an_po := an_po.below b15
   replace an_pb := an_pb.below b15
   replace ap_pB := ap_pB.below b15
   replace an_gd := an_gd.below b15
   replace ap_dB := ap_dB.below b15
   replace ap_qB := ap_qB.below b15
   replace bel := bel.trans (b15.mono bel.size)
   clear b15
   refine hK.out _ _ hdB (fun hH16 => ?_)
   clear hK K
   refine wpAnyH_ready (rs := [2]) (by kernel_rfl) (by simp) ?_
   refine AllReadyH.cons (o := _) rfl (fun K hK => ?_) AllReadyH.nil
   simp only [sq3]
   go_simp
   with_reducible refine (wan19 _).mono ?_
   rintro e w17 ⟨rfl, b17⟩
   dsimp only
   replace hpB := blk_u hpB b17
   replace hdB := blk_u hdB b17
   replace hqB := blk_u hqB b17
   replace uo := uo.below b17
   replace ub := ub.below b17
   replace po := po.below b17
   replace pb := pb.below b17
   replace gd := gd.below b17
   replace hT := hT.below b17
   replace an_uo := an_uo.below b17
   replace an_ub := an_ub.below b17
   replace an_po := an_po.below b17
   replace an_pb := an_pb.below b17
   replace ap_pB := ap_pB.below b17
   replace an_gd := an_gd.below b17
   replace ap_dB := ap_dB.below b17
   replace ap_qB := ap_qB.below b17
   replace bel := bel.trans (b17.mono bel.size)
   clear b17
   refine hK.out _ _ hdB (fun hH18 => ?_)
   clear hK K
   refine wpAnyH_ready (rs := [5]) (by kernel_rfl) (by simp) ?_
   refine AllReadyH.cons (o := _) rfl (fun K hK => ?_) AllReadyH.nil
   simp only [sq3]
   go_simp
   with_reducible refine (dg_in 40000 _ (by decide)).mono ?_
   rintro e w19 ⟨Avo, cvo, Avb, cvb, rfl, vo, vb, fvo, fvb, b19⟩
   dsimp only
   have av_vo_pB := fvo.av (hlt hpB)
   have av_vo_dB := fvo.av (hlt hdB)
   have av_vo_qB := fvo.av (hlt hqB)
   have av_vb_pB := fvb.av (hlt hpB)
   have av_vb_dB := fvb.av (hlt hdB)
   have av_vb_qB := fvb.av (hlt hqB)
   have an_vo := hT.an fvo
   have an_vb := hT.an fvb
   replace hpB := blk_u hpB b19
   replace hdB := blk_u hdB b19
   replace hqB := blk_u hqB b19
   replace uo := uo.below b19
   replace ub := ub.below b19
   replace po := po.below b19
   replace pb := pb.below b19
   replace gd := gd.below b19
   replace hT := hT.below b19
   replace an_uo := an_uo.below b19
   replace an_ub := an_ub.below b19
   replace an_po := an_po.below b19
   replace an_pb := an_pb.below b19
   replace ap_pB := ap_pB.below b19
   replace an_gd := an_gd.below b19
   replace ap_dB := ap_dB.below b19
   replace ap_qB := ap_qB.below b19
   replace an_vo := an_vo.below b19
   replace an_vb := an_vb.below b19
   replace bel := bel.trans (b19.mono bel.size)
   clear b19
   replace vo : Sl w19 (Avo) (0) (cvo) ([]) := vo
   replace vb : Sl w19 (Avb) (9) (cvb) (udBytes 8 8 8 8 203 0 113 7 53 40000 [120]) := vb
   refine hK.out _ _ hdB (fun hH20 => ?_)
   clear hK K
   refine wpAnyH_ready (rs := [6]) (by kernel_rfl) (by simp) ?_
   refine AllReadyH.cons (o := _) rfl (fun K hK => ?_) AllReadyH.nil
   simp only [sq3]
   go_simp
   with_reducible refine (wan19 _).mono ?_
   rintro e w21 ⟨rfl, b21⟩
   dsimp only
   replace hpB := blk_u hpB b21
   replace hdB := blk_u hdB b21
   replace hqB := blk_u hqB b21
   replace uo := uo.below b21
   replace ub := ub.below b21
   replace po := po.below b21
   replace pb := pb.below b21
   replace gd := gd.below b21
   replace vo := vo.below b21
   replace vb := vb.below b21
   replace hT := hT.below b21
   replace an_uo := an_uo.below b21
   replace an_ub := an_ub.below b21
   replace an_po := an_po.below b21
   replace an_pb := an_pb.below b21
   replace ap_pB := ap_pB.below b21
   replace an_gd := an_gd.below b21
   replace ap_dB := ap_dB.below b21
   replace ap_qB := ap_qB.below b21
   replace an_vo := an_vo.below b21
   replace an_vb := an_vb.below b21
   replace bel := bel.trans (b21.mono bel.size)
   clear b21
   refine hK.out _ _ hdB (fun hH22 => ?_)
   clear hK K
   refine wpAnyH_ready (rs := [7]) (by kernel_rfl) (by simp) ?_
   refine AllReadyH.cons (o := _) rfl (fun K hK => ?_) AllReadyH.nil
   simp only [sq3]
   go_simp
   have lt_pB := hlt hpB
   have lt_dB := hlt hdB
   have lt_qB := hlt hqB
   with_reducible refine (i_aw _ hT vo vb).mono ?_
   rintro e w23 ⟨Aqo, cqo, Aqb, cqb, rfl, hT_, f_, bb, qo, qb, an_qo, an_qb, fqo, fqb⟩
   dsimp only
   have x_ := f_ _ _ _ _ hpB ap_pB
   replace hpB := x_.1
   replace ap_pB := x_.2
   clear x_
   have x_ := f_ _ _ _ _ hdB ap_dB
   replace hdB := x_.1
   replace ap_dB := x_.2
   clear x_
   have x_ := f_ _ _ _ _ hqB ap_qB
   replace hqB := x_.1
   replace ap_qB := x_.2
   clear x_
   have x_ := f_.sl uo an_uo
   replace uo := x_.1
   replace an_uo := x_.2
   clear x_
   have x_ := f_.sl ub an_ub
   replace ub := x_.1
   replace an_ub := x_.2
   clear x_
   have x_ := f_.sl po an_po
   replace po := x_.1
   replace an_po := x_.2
   clear x_
   have x_ := f_.sl pb an_pb
   replace pb := x_.1
   replace an_pb := x_.2
   clear x_
   have x_ := f_.sl gd an_gd
   replace gd := x_.1
   replace an_gd := x_.2
   clear x_
   have x_ := f_.sl vo an_vo
   replace vo := x_.1
   replace an_vo := x_.2
   clear x_
   have x_ := f_.sl vb an_vb
   replace vb := x_.1
   replace an_vb := x_.2
   clear x_
   clear hT
   have hT := hT_
   replace bel := bel.trans bb
   clear bb f_ hT_
   have av_qo_pB := fqo.av lt_pB
   have av_qo_dB := fqo.av lt_dB
   have av_qo_qB := fqo.av lt_qB
   have av_qb_pB := fqb.av lt_pB
   have av_qb_dB := fqb.av lt_dB
   have av_qb_qB := fqb.av lt_qB
   clear lt_pB lt_dB lt_qB
   clear fqo fqb
   refine hK.out _ _ hdB (fun hH24 => ?_)
   clear hK K
   refine wpAnyH_take (i := 8) (v := ?_) rfl (by kernel_rfl) (by kernel_rfl) (by kernel_rfl) (fun _ _ _ h => h) (Or.inl ⟨by rfl, ?_⟩) hH24 ?_
   rotate_left
   ·((intro W hW; clear hW; go_simp) <;> with_reducible rfl)
   simp only [sq3, sq4]
   refine wpAnyH_take (i := 9) (v := ?_) rfl (by kernel_rfl) (by kernel_rfl) (by kernel_rfl) (fun _ _ _ h => h) (Or.inl ⟨by rfl, ?_⟩) hH24 ?_
   rotate_left
   ·((intro W hW; clear hW; go_simp) <;> with_reducible rfl)
   simp only [sq3, sq4]
   refine wpAnyH_take (i := 10) (v := ?_) rfl (by kernel_rfl) (by kernel_rfl) (by kernel_rfl) (fun _ _ _ h => h) (Or.inl ⟨by rfl, ?_⟩) hH24 ?_
   rotate_left
   ·((intro W hW; clear hW; go_simp) <;> with_reducible rfl)
   simp only [sq3, sq4]
   refine wpAnyH_ready (rs := [12]) (by kernel_rfl) (by simp) ?_
   refine AllReadyH.cons (o := _) rfl (fun K hK => ?_) AllReadyH.nil
   simp only [sq3]
   rw [if_pos (by rfl)]
   refine wp_store_blk 38 (.tmp 7) (.tmp 44) rfl g7 rfl _ rfl _ 38 hqB (by rfl) (by kernel_rfl) (by kernel_rfl) ?_
   intro w25 hq gr
   replace uo := uo.away av_uo_qB gr
   replace ub := ub.away av_ub_qB gr
   replace po := po.away av_po_qB gr
   replace pb := pb.away av_pb_qB gr
   replace gd := gd.away av_gd_qB gr
   replace vo := vo.away av_vo_qB gr
   replace vb := vb.away av_vb_qB gr
   replace qo := qo.away av_qo_qB gr
   replace qb := qb.away av_qb_qB gr
   replace hpB := blk_a hpB gr d_pB_qB
   replace hdB := blk_a hdB gr d_dB_qB
   replace hT := hT.away ap_qB gr hqB
   replace an_uo := an_uo.grown ap_qB gr
   replace an_ub := an_ub.grown ap_qB gr
   replace an_po := an_po.grown ap_qB gr
   replace an_pb := an_pb.grown ap_qB gr
   replace ap_pB := ap_pB.grown ap_qB gr
   replace an_gd := an_gd.grown ap_qB gr
   replace ap_dB := ap_dB.grown ap_qB gr
   replace ap_qB := ap_qB.grown ap_qB gr
   replace an_vo := an_vo.grown ap_qB gr
   replace an_vb := an_vb.grown ap_qB gr
   replace an_qo := an_qo.grown ap_qB gr
   replace an_qb := an_qb.grown ap_qB gr
   replace bel := below_grown bel gr oqB bel.size
   clear hqB
   have hqB := hq
   clear hq gr
   refine hK.out _ _ hdB (fun hH26 => ?_)
   clear hK K
   simp only [Act.put]
   refine wpAnyH_take (i := 13) (v := ?_) rfl (by kernel_rfl) (by kernel_rfl) (by kernel_rfl) (fun _ _ _ h => h) (Or.inl ⟨by rfl, ?_⟩) hH26 ?_
   rotate_left
   ·((intro W hW; clear hW; go_simp) <;> with_reducible rfl)
   simp only [sq3, sq4]
   refine wpAnyH_done (by kernel_rfl) ?_ _
   go_wp2_with fail
   go_meet
   case rel => exact ⟨g7, Avo, cvo, Avb, cvb, Aqo, cqo, Aqb, cqb, rfl, rfl, hpB, hdB, hqB, oqB, (ne_symm d_pB_dB), d_dB_qB, d_pB_qB, uo, av_uo_dB, av_uo_pB, av_uo_qB, ub, av_ub_dB, av_ub_pB, av_ub_qB, po, av_po_dB, av_po_pB, av_po_qB, pb, av_pb_dB, av_pb_pB, av_pb_qB, gd, av_gd_dB, av_gd_pB, av_gd_qB, vo, av_vo_dB, av_vo_pB, av_vo_qB, vb, av_vb_dB, av_vb_pB, av_vb_qB, qo, av_qo_dB, av_qo_pB, av_qo_qB, qb, av_qb_dB, av_qb_pB, av_qb_qB, hT, an_uo, an_ub, an_po, an_pb, ap_pB, an_gd, ap_dB, an_vo, an_vb, an_qo, an_qb, ap_qB, bel⟩
  simp only [sq3]
  go_simp
  with_reducible refine (far19 _).mono ?_
  rintro e w13 ⟨rfl, b13⟩
  dsimp only
  replace hpB := blk_u hpB b13
  replace hdB := blk_u hdB b13
  replace uo := uo.below b13
  replace ub := ub.below b13
  replace po := po.below b13
  replace pb := pb.below b13
  replace gd := gd.below b13
  replace hT := hT.below b13
  replace an_uo := an_uo.below b13
  replace an_ub := an_ub.below b13
  replace an_po := an_po.below b13
  replace an_pb := an_pb.below b13
  replace ap_pB := ap_pB.below b13
  replace an_gd := an_gd.below b13
  replace ap_dB := ap_dB.below b13
  replace bel := bel.trans (b13.mono bel.size)
  clear b13
  refine hK.out _ _ hdB (fun hH14 => ?_)
  clear hK K
  refine wpAnyH_ready (rs := [2, 11]) (by kernel_rfl) (by simp) ?_
  refine AllReadyH.cons (o := _) rfl (fun K hK => ?_) (AllReadyH.cons (o := _) rfl (fun K hK => ?_) AllReadyH.nil)
  rotate_left
  ·simp only [sq3]
   rw [if_pos (by rfl)]
   refine wp_new_a 38 rfl #[.int .i64 0, .int .i64 0, .int .i64 0, .int .i64 0, .int .i64 0, .int .i64 0, .int .u8 0, .int .u8 0, .int .u8 0, .int .u8 0, .int .u8 0, .int .u8 0, .int .u8 0, .int .u8 0, .slice none 0 0, .slice none 0 0] (by kernel_rfl) ?_
   intro g7 w15 ge hh bb
   have ap_qB := hT.ap ge
   have d_pB_qB := ne_new (hlt hpB) ge
   have d_dB_qB := ne_new (hlt hdB) ge
   have av_uo_qB := uo.av_new ge
   have av_ub_qB := ub.av_new ge
   have av_po_qB := po.av_new ge
   have av_pb_qB := pb.av_new ge
   have av_gd_qB := gd.av_new ge
   have oqB := Nat.le_trans bel.size ge
   replace hpB := blk_u hpB bb
   replace hdB := blk_u hdB bb
   replace uo := uo.below bb
   replace ub := ub.below bb
   replace po := po.below bb
   replace pb := pb.below bb
   replace gd := gd.below bb
   replace hT := hT.below bb
   replace an_uo := an_uo.below bb
   replace an_ub := an_ub.below bb
   replace an_po := an_po.below bb
   replace an_pb := an_pb.below bb
   replace ap_pB := ap_pB.below bb
   replace an_gd := an_gd.below bb
   replace ap_dB := ap_dB.below bb
   replace ap_qB := ap_qB.below bb
   replace bel := bel.trans (bb.mono bel.size)
   have hqB := hh
   clear hh ge bb
   refine hK.out _ _ hdB (fun hH16 => ?_)
   clear hK K
   simp only [sq4]
   refine wpAnyH_ready (rs := [2]) (by kernel_rfl) (by simp) ?_
   refine AllReadyH.cons (o := _) rfl (fun K hK => ?_) AllReadyH.nil
   simp only [sq3]
   go_simp
   with_reducible refine (wan19 _).mono ?_
   rintro e w17 ⟨rfl, b17⟩
   dsimp only
   replace hpB := blk_u hpB b17
   replace hdB := blk_u hdB b17
   replace hqB := blk_u hqB b17
   replace uo := uo.below b17
   replace ub := ub.below b17
   replace po := po.below b17
   replace pb := pb.below b17
   replace gd := gd.below b17
   replace hT := hT.below b17
   replace an_uo := an_uo.below b17
   replace an_ub := an_ub.below b17
   replace an_po := an_po.below b17
   replace an_pb := an_pb.below b17
   replace ap_pB := ap_pB.below b17
   replace an_gd := an_gd.below b17
   replace ap_dB := ap_dB.below b17
   replace ap_qB := ap_qB.below b17
   replace bel := bel.trans (b17.mono bel.size)
   clear b17
   refine hK.out _ _ hdB (fun hH18 => ?_)
   clear hK K
   refine wpAnyH_ready (rs := [5]) (by kernel_rfl) (by simp) ?_
   refine AllReadyH.cons (o := _) rfl (fun K hK => ?_) AllReadyH.nil
   simp only [sq3]
   go_simp
   with_reducible refine (dg_in 40000 _ (by decide)).mono ?_
   rintro e w19 ⟨Avo, cvo, Avb, cvb, rfl, vo, vb, fvo, fvb, b19⟩
   dsimp only
   have av_vo_pB := fvo.av (hlt hpB)
   have av_vo_dB := fvo.av (hlt hdB)
   have av_vo_qB := fvo.av (hlt hqB)
   have av_vb_pB := fvb.av (hlt hpB)
   have av_vb_dB := fvb.av (hlt hdB)
   have av_vb_qB := fvb.av (hlt hqB)
   have an_vo := hT.an fvo
   have an_vb := hT.an fvb
   replace hpB := blk_u hpB b19
   replace hdB := blk_u hdB b19
   replace hqB := blk_u hqB b19
   replace uo := uo.below b19
   replace ub := ub.below b19
   replace po := po.below b19
   replace pb := pb.below b19
   replace gd := gd.below b19
   replace hT := hT.below b19
   replace an_uo := an_uo.below b19
   replace an_ub := an_ub.below b19
   replace an_po := an_po.below b19
   replace an_pb := an_pb.below b19
   replace ap_pB := ap_pB.below b19
   replace an_gd := an_gd.below b19
   replace ap_dB := ap_dB.below b19
   replace ap_qB := ap_qB.below b19
   replace an_vo := an_vo.below b19
   replace an_vb := an_vb.below b19
   replace bel := bel.trans (b19.mono bel.size)
   clear b19
   replace vo : Sl w19 (Avo) (0) (cvo) ([]) := vo
   replace vb : Sl w19 (Avb) (9) (cvb) (udBytes 8 8 8 8 203 0 113 7 53 40000 [120]) := vb
   refine hK.out _ _ hdB (fun hH20 => ?_)
   clear hK K
   refine wpAnyH_ready (rs := [6]) (by kernel_rfl) (by simp) ?_
   refine AllReadyH.cons (o := _) rfl (fun K hK => ?_) AllReadyH.nil
   simp only [sq3]
   go_simp
   with_reducible refine (wan19 _).mono ?_
   rintro e w21 ⟨rfl, b21⟩
   dsimp only
   replace hpB := blk_u hpB b21
   replace hdB := blk_u hdB b21
   replace hqB := blk_u hqB b21
   replace uo := uo.below b21
   replace ub := ub.below b21
   replace po := po.below b21
   replace pb := pb.below b21
   replace gd := gd.below b21
   replace vo := vo.below b21
   replace vb := vb.below b21
   replace hT := hT.below b21
   replace an_uo := an_uo.below b21
   replace an_ub := an_ub.below b21
   replace an_po := an_po.below b21
   replace an_pb := an_pb.below b21
   replace ap_pB := ap_pB.below b21
   replace an_gd := an_gd.below b21
   replace ap_dB := ap_dB.below b21
   replace ap_qB := ap_qB.below b21
   replace an_vo := an_vo.below b21
   replace an_vb := an_vb.below b21
   replace bel := bel.trans (b21.mono bel.size)
   clear b21
   refine hK.out _ _ hdB (fun hH22 => ?_)
   clear hK K
   refine wpAnyH_ready (rs := [7]) (by kernel_rfl) (by simp) ?_
   refine AllReadyH.cons (o := _) rfl (fun K hK => ?_) AllReadyH.nil
   simp only [sq3]
   go_simp
   have lt_pB := hlt hpB
   have lt_dB := hlt hdB
   have lt_qB := hlt hqB
   with_reducible refine (i_aw _ hT vo vb).mono ?_
   rintro e w23 ⟨Aqo, cqo, Aqb, cqb, rfl, hT_, f_, bb, qo, qb, an_qo, an_qb, fqo, fqb⟩
   dsimp only
   have x_ := f_ _ _ _ _ hpB ap_pB
   replace hpB := x_.1
   replace ap_pB := x_.2
   clear x_
   have x_ := f_ _ _ _ _ hdB ap_dB
   replace hdB := x_.1
   replace ap_dB := x_.2
   clear x_
   have x_ := f_ _ _ _ _ hqB ap_qB
   replace hqB := x_.1
   replace ap_qB := x_.2
   clear x_
   have x_ := f_.sl uo an_uo
   replace uo := x_.1
   replace an_uo := x_.2
   clear x_
   have x_ := f_.sl ub an_ub
   replace ub := x_.1
   replace an_ub := x_.2
   clear x_
   have x_ := f_.sl po an_po
   replace po := x_.1
   replace an_po := x_.2
   clear x_
   have x_ := f_.sl pb an_pb
   replace pb := x_.1
   replace an_pb := x_.2
   clear x_
   have x_ := f_.sl gd an_gd
   replace gd := x_.1
   replace an_gd := x_.2
   clear x_
   have x_ := f_.sl vo an_vo
   replace vo := x_.1
   replace an_vo := x_.2
   clear x_
   have x_ := f_.sl vb an_vb
   replace vb := x_.1
   replace an_vb := x_.2
   clear x_
   clear hT
   have hT := hT_
   replace bel := bel.trans bb
   clear bb f_ hT_
   have av_qo_pB := fqo.av lt_pB
   have av_qo_dB := fqo.av lt_dB
   have av_qo_qB := fqo.av lt_qB
   have av_qb_pB := fqb.av lt_pB
   have av_qb_dB := fqb.av lt_dB
   have av_qb_qB := fqb.av lt_qB
   clear lt_pB lt_dB lt_qB
   clear fqo fqb
   refine hK.out _ _ hdB (fun hH24 => ?_)
   clear hK K
   refine wpAnyH_take (i := 8) (v := ?_) rfl (by kernel_rfl) (by kernel_rfl) (by kernel_rfl) (fun _ _ _ h => h) (Or.inl ⟨by rfl, ?_⟩) hH24 ?_
   rotate_left
   ·((intro W hW; clear hW; go_simp) <;> with_reducible rfl)
   simp only [sq3, sq4]
   refine wpAnyH_take (i := 9) (v := ?_) rfl (by kernel_rfl) (by kernel_rfl) (by kernel_rfl) (fun _ _ _ h => h) (Or.inl ⟨by rfl, ?_⟩) hH24 ?_
   rotate_left
   ·((intro W hW; clear hW; go_simp) <;> with_reducible rfl)
   simp only [sq3, sq4]
   refine wpAnyH_take (i := 10) (v := ?_) rfl (by kernel_rfl) (by kernel_rfl) (by kernel_rfl) (fun _ _ _ h => h) (Or.inl ⟨by rfl, ?_⟩) hH24 ?_
   rotate_left
   ·((intro W hW; clear hW; go_simp) <;> with_reducible rfl)
   simp only [sq3, sq4]
   refine wpAnyH_ready (rs := [12]) (by kernel_rfl) (by simp) ?_
   refine AllReadyH.cons (o := _) rfl (fun K hK => ?_) AllReadyH.nil
   simp only [sq3]
   rw [if_pos (by rfl)]
   refine wp_store_blk 38 (.tmp 7) (.tmp 44) rfl g7 rfl _ rfl _ 38 hqB (by rfl) (by kernel_rfl) (by kernel_rfl) ?_
   intro w25 hq gr
   replace uo := uo.away av_uo_qB gr
   replace ub := ub.away av_ub_qB gr
   replace po := po.away av_po_qB gr
   replace pb := pb.away av_pb_qB gr
   replace gd := gd.away av_gd_qB gr
   replace vo := vo.away av_vo_qB gr
   replace vb := vb.away av_vb_qB gr
   replace qo := qo.away av_qo_qB gr
   replace qb := qb.away av_qb_qB gr
   replace hpB := blk_a hpB gr d_pB_qB
   replace hdB := blk_a hdB gr d_dB_qB
   replace hT := hT.away ap_qB gr hqB
   replace an_uo := an_uo.grown ap_qB gr
   replace an_ub := an_ub.grown ap_qB gr
   replace an_po := an_po.grown ap_qB gr
   replace an_pb := an_pb.grown ap_qB gr
   replace ap_pB := ap_pB.grown ap_qB gr
   replace an_gd := an_gd.grown ap_qB gr
   replace ap_dB := ap_dB.grown ap_qB gr
   replace ap_qB := ap_qB.grown ap_qB gr
   replace an_vo := an_vo.grown ap_qB gr
   replace an_vb := an_vb.grown ap_qB gr
   replace an_qo := an_qo.grown ap_qB gr
   replace an_qb := an_qb.grown ap_qB gr
   replace bel := below_grown bel gr oqB bel.size
   clear hqB
   have hqB := hq
   clear hq gr
   refine hK.out _ _ hdB (fun hH26 => ?_)
   clear hK K
   simp only [Act.put]
   refine wpAnyH_take (i := 13) (v := ?_) rfl (by kernel_rfl) (by kernel_rfl) (by kernel_rfl) (fun _ _ _ h => h) (Or.inl ⟨by rfl, ?_⟩) hH26 ?_
   rotate_left
   ·((intro W hW; clear hW; go_simp) <;> with_reducible rfl)
   simp only [sq3, sq4]
   refine wpAnyH_done (by kernel_rfl) ?_ _
   go_wp2_with fail
   go_meet
   case rel => exact ⟨g7, Avo, cvo, Avb, cvb, Aqo, cqo, Aqb, cqb, rfl, rfl, hpB, hdB, hqB, oqB, (ne_symm d_pB_dB), d_dB_qB, d_pB_qB, uo, av_uo_dB, av_uo_pB, av_uo_qB, ub, av_ub_dB, av_ub_pB, av_ub_qB, po, av_po_dB, av_po_pB, av_po_qB, pb, av_pb_dB, av_pb_pB, av_pb_qB, gd, av_gd_dB, av_gd_pB, av_gd_qB, vo, av_vo_dB, av_vo_pB, av_vo_qB, vb, av_vb_dB, av_vb_pB, av_vb_qB, qo, av_qo_dB, av_qo_pB, av_qo_qB, qb, av_qb_dB, av_qb_pB, av_qb_qB, hT, an_uo, an_ub, an_po, an_pb, ap_pB, an_gd, ap_dB, an_vo, an_vb, an_qo, an_qb, ap_qB, bel⟩
  simp only [sq3]
  go_simp
  with_reducible refine (wan19 _).mono ?_
  rintro e w15 ⟨rfl, b15⟩
  dsimp only
  replace hpB := blk_u hpB b15
  replace hdB := blk_u hdB b15
  replace uo := uo.below b15
  replace ub := ub.below b15
  replace po := po.below b15
  replace pb := pb.below b15
  replace gd := gd.below b15
  replace hT := hT.below b15
  replace an_uo := an_uo.below b15
  replace an_ub := an_ub.below b15
  replace an_po := an_po.below b15
  replace an_pb := an_pb.below b15
  replace ap_pB := ap_pB.below b15
  replace an_gd := an_gd.below b15
  replace ap_dB := ap_dB.below b15
  replace bel := bel.trans (b15.mono bel.size)
  clear b15
  refine hK.out _ _ hdB (fun hH16 => ?_)
  clear hK K
  refine wpAnyH_ready (rs := [5, 11]) (by kernel_rfl) (by simp) ?_
  refine AllReadyH.cons (o := _) rfl (fun K hK => ?_) (AllReadyH.cons (o := _) rfl (fun K hK => ?_) AllReadyH.nil)
  rotate_left
  ·simp only [sq3]
   rw [if_pos (by rfl)]
   refine wp_new_a 38 rfl #[.int .i64 0, .int .i64 0, .int .i64 0, .int .i64 0, .int .i64 0, .int .i64 0, .int .u8 0, .int .u8 0, .int .u8 0, .int .u8 0, .int .u8 0, .int .u8 0, .int .u8 0, .int .u8 0, .slice none 0 0, .slice none 0 0] (by kernel_rfl) ?_
   intro g7 w17 ge hh bb
   have ap_qB := hT.ap ge
   have d_pB_qB := ne_new (hlt hpB) ge
   have d_dB_qB := ne_new (hlt hdB) ge
   have av_uo_qB := uo.av_new ge
   have av_ub_qB := ub.av_new ge
   have av_po_qB := po.av_new ge
   have av_pb_qB := pb.av_new ge
   have av_gd_qB := gd.av_new ge
   have oqB := Nat.le_trans bel.size ge
   replace hpB := blk_u hpB bb
   replace hdB := blk_u hdB bb
   replace uo := uo.below bb
   replace ub := ub.below bb
   replace po := po.below bb
   replace pb := pb.below bb
   replace gd := gd.below bb
   replace hT := hT.below bb
   replace an_uo := an_uo.below bb
   replace an_ub := an_ub.below bb
   replace an_po := an_po.below bb
   replace an_pb := an_pb.below bb
   replace ap_pB := ap_pB.below bb
   replace an_gd := an_gd.below bb
   replace ap_dB := ap_dB.below bb
   replace ap_qB := ap_qB.below bb
   replace bel := bel.trans (bb.mono bel.size)
   have hqB := hh
   clear hh ge bb
   refine hK.out _ _ hdB (fun hH18 => ?_)
   clear hK K
   simp only [sq4]
   refine wpAnyH_ready (rs := [5]) (by kernel_rfl) (by simp) ?_
   refine AllReadyH.cons (o := _) rfl (fun K hK => ?_) AllReadyH.nil
   simp only [sq3]
   go_simp
   with_reducible refine (dg_in 40000 _ (by decide)).mono ?_
   rintro e w19 ⟨Avo, cvo, Avb, cvb, rfl, vo, vb, fvo, fvb, b19⟩
   dsimp only
   have av_vo_pB := fvo.av (hlt hpB)
   have av_vo_dB := fvo.av (hlt hdB)
   have av_vo_qB := fvo.av (hlt hqB)
   have av_vb_pB := fvb.av (hlt hpB)
   have av_vb_dB := fvb.av (hlt hdB)
   have av_vb_qB := fvb.av (hlt hqB)
   have an_vo := hT.an fvo
   have an_vb := hT.an fvb
   replace hpB := blk_u hpB b19
   replace hdB := blk_u hdB b19
   replace hqB := blk_u hqB b19
   replace uo := uo.below b19
   replace ub := ub.below b19
   replace po := po.below b19
   replace pb := pb.below b19
   replace gd := gd.below b19
   replace hT := hT.below b19
   replace an_uo := an_uo.below b19
   replace an_ub := an_ub.below b19
   replace an_po := an_po.below b19
   replace an_pb := an_pb.below b19
   replace ap_pB := ap_pB.below b19
   replace an_gd := an_gd.below b19
   replace ap_dB := ap_dB.below b19
   replace ap_qB := ap_qB.below b19
   replace an_vo := an_vo.below b19
   replace an_vb := an_vb.below b19
   replace bel := bel.trans (b19.mono bel.size)
   clear b19
   replace vo : Sl w19 (Avo) (0) (cvo) ([]) := vo
   replace vb : Sl w19 (Avb) (9) (cvb) (udBytes 8 8 8 8 203 0 113 7 53 40000 [120]) := vb
   refine hK.out _ _ hdB (fun hH20 => ?_)
   clear hK K
   refine wpAnyH_ready (rs := [6]) (by kernel_rfl) (by simp) ?_
   refine AllReadyH.cons (o := _) rfl (fun K hK => ?_) AllReadyH.nil
   simp only [sq3]
   go_simp
   with_reducible refine (wan19 _).mono ?_
   rintro e w21 ⟨rfl, b21⟩
   dsimp only
   replace hpB := blk_u hpB b21
   replace hdB := blk_u hdB b21
   replace hqB := blk_u hqB b21
   replace uo := uo.below b21
   replace ub := ub.below b21
   replace po := po.below b21
   replace pb := pb.below b21
   replace gd := gd.below b21
   replace vo := vo.below b21
   replace vb := vb.below b21
   replace hT := hT.below b21
   replace an_uo := an_uo.below b21
   replace an_ub := an_ub.below b21
   replace an_po := an_po.below b21
   replace an_pb := an_pb.below b21
   replace ap_pB := ap_pB.below b21
   replace an_gd := an_gd.below b21
   replace ap_dB := ap_dB.below b21
   replace ap_qB := ap_qB.below b21
   replace an_vo := an_vo.below b21
   replace an_vb := an_vb.below b21
   replace bel := bel.trans (b21.mono bel.size)
   clear b21
   refine hK.out _ _ hdB (fun hH22 => ?_)
   clear hK K
   refine wpAnyH_ready (rs := [7]) (by kernel_rfl) (by simp) ?_
   refine AllReadyH.cons (o := _) rfl (fun K hK => ?_) AllReadyH.nil
   simp only [sq3]
   go_simp
   have lt_pB := hlt hpB
   have lt_dB := hlt hdB
   have lt_qB := hlt hqB
   with_reducible refine (i_aw _ hT vo vb).mono ?_
   rintro e w23 ⟨Aqo, cqo, Aqb, cqb, rfl, hT_, f_, bb, qo, qb, an_qo, an_qb, fqo, fqb⟩
   dsimp only
   have x_ := f_ _ _ _ _ hpB ap_pB
   replace hpB := x_.1
   replace ap_pB := x_.2
   clear x_
   have x_ := f_ _ _ _ _ hdB ap_dB
   replace hdB := x_.1
   replace ap_dB := x_.2
   clear x_
   have x_ := f_ _ _ _ _ hqB ap_qB
   replace hqB := x_.1
   replace ap_qB := x_.2
   clear x_
   have x_ := f_.sl uo an_uo
   replace uo := x_.1
   replace an_uo := x_.2
   clear x_
   have x_ := f_.sl ub an_ub
   replace ub := x_.1
   replace an_ub := x_.2
   clear x_
   have x_ := f_.sl po an_po
   replace po := x_.1
   replace an_po := x_.2
   clear x_
   have x_ := f_.sl pb an_pb
   replace pb := x_.1
   replace an_pb := x_.2
   clear x_
   have x_ := f_.sl gd an_gd
   replace gd := x_.1
   replace an_gd := x_.2
   clear x_
   have x_ := f_.sl vo an_vo
   replace vo := x_.1
   replace an_vo := x_.2
   clear x_
   have x_ := f_.sl vb an_vb
   replace vb := x_.1
   replace an_vb := x_.2
   clear x_
   clear hT
   have hT := hT_
   replace bel := bel.trans bb
   clear bb f_ hT_
   have av_qo_pB := fqo.av lt_pB
   have av_qo_dB := fqo.av lt_dB
   have av_qo_qB := fqo.av lt_qB
   have av_qb_pB := fqb.av lt_pB
   have av_qb_dB := fqb.av lt_dB
   have av_qb_qB := fqb.av lt_qB
   clear lt_pB lt_dB lt_qB
   clear fqo fqb
   refine hK.out _ _ hdB (fun hH24 => ?_)
   clear hK K
   refine wpAnyH_take (i := 8) (v := ?_) rfl (by kernel_rfl) (by kernel_rfl) (by kernel_rfl) (fun _ _ _ h => h) (Or.inl ⟨by rfl, ?_⟩) hH24 ?_
   rotate_left
   ·((intro W hW; clear hW; go_simp) <;> with_reducible rfl)
   simp only [sq3, sq4]
   refine wpAnyH_take (i := 9) (v := ?_) rfl (by kernel_rfl) (by kernel_rfl) (by kernel_rfl) (fun _ _ _ h => h) (Or.inl ⟨by rfl, ?_⟩) hH24 ?_
   rotate_left
   ·((intro W hW; clear hW; go_simp) <;> with_reducible rfl)
   simp only [sq3, sq4]
   refine wpAnyH_take (i := 10) (v := ?_) rfl (by kernel_rfl) (by kernel_rfl) (by kernel_rfl) (fun _ _ _ h => h) (Or.inl ⟨by rfl, ?_⟩) hH24 ?_
   rotate_left
   ·((intro W hW; clear hW; go_simp) <;> with_reducible rfl)
   simp only [sq3, sq4]
   refine wpAnyH_ready (rs := [12]) (by kernel_rfl) (by simp) ?_
   refine AllReadyH.cons (o := _) rfl (fun K hK => ?_) AllReadyH.nil
   simp only [sq3]
   rw [if_pos (by rfl)]
   refine wp_store_blk 38 (.tmp 7) (.tmp 44) rfl g7 rfl _ rfl _ 38 hqB (by rfl) (by kernel_rfl) (by kernel_rfl) ?_
   intro w25 hq gr
   replace uo := uo.away av_uo_qB gr
   replace ub := ub.away av_ub_qB gr
   replace po := po.away av_po_qB gr
   replace pb := pb.away av_pb_qB gr
   replace gd := gd.away av_gd_qB gr
   replace vo := vo.away av_vo_qB gr
   replace vb := vb.away av_vb_qB gr
   replace qo := qo.away av_qo_qB gr
   replace qb := qb.away av_qb_qB gr
   replace hpB := blk_a hpB gr d_pB_qB
   replace hdB := blk_a hdB gr d_dB_qB
   replace hT := hT.away ap_qB gr hqB
   replace an_uo := an_uo.grown ap_qB gr
   replace an_ub := an_ub.grown ap_qB gr
   replace an_po := an_po.grown ap_qB gr
   replace an_pb := an_pb.grown ap_qB gr
   replace ap_pB := ap_pB.grown ap_qB gr
   replace an_gd := an_gd.grown ap_qB gr
   replace ap_dB := ap_dB.grown ap_qB gr
   replace ap_qB := ap_qB.grown ap_qB gr
   replace an_vo := an_vo.grown ap_qB gr
   replace an_vb := an_vb.grown ap_qB gr
   replace an_qo := an_qo.grown ap_qB gr
   replace an_qb := an_qb.grown ap_qB gr
   replace bel := below_grown bel gr oqB bel.size
   clear hqB
   have hqB := hq
   clear hq gr
   refine hK.out _ _ hdB (fun hH26 => ?_)
   clear hK K
   simp only [Act.put]
   refine wpAnyH_take (i := 13) (v := ?_) rfl (by kernel_rfl) (by kernel_rfl) (by kernel_rfl) (fun _ _ _ h => h) (Or.inl ⟨by rfl, ?_⟩) hH26 ?_
   rotate_left
   ·((intro W hW; clear hW; go_simp) <;> with_reducible rfl)
   simp only [sq3, sq4]
   refine wpAnyH_done (by kernel_rfl) ?_ _
   go_wp2_with fail
   go_meet
   case rel => exact ⟨g7, Avo, cvo, Avb, cvb, Aqo, cqo, Aqb, cqb, rfl, rfl, hpB, hdB, hqB, oqB, (ne_symm d_pB_dB), d_dB_qB, d_pB_qB, uo, av_uo_dB, av_uo_pB, av_uo_qB, ub, av_ub_dB, av_ub_pB, av_ub_qB, po, av_po_dB, av_po_pB, av_po_qB, pb, av_pb_dB, av_pb_pB, av_pb_qB, gd, av_gd_dB, av_gd_pB, av_gd_qB, vo, av_vo_dB, av_vo_pB, av_vo_qB, vb, av_vb_dB, av_vb_pB, av_vb_qB, qo, av_qo_dB, av_qo_pB, av_qo_qB, qb, av_qb_dB, av_qb_pB, av_qb_qB, hT, an_uo, an_ub, an_po, an_pb, ap_pB, an_gd, ap_dB, an_vo, an_vb, an_qo, an_qb, ap_qB, bel⟩
  simp only [sq3]
  go_simp
  with_reducible refine (dg_in 40000 _ (by decide)).mono ?_
  rintro e w17 ⟨Avo, cvo, Avb, cvb, rfl, vo, vb, fvo, fvb, b17⟩
  dsimp only
  have av_vo_pB := fvo.av (hlt hpB)
  have av_vo_dB := fvo.av (hlt hdB)
  have av_vb_pB := fvb.av (hlt hpB)
  have av_vb_dB := fvb.av (hlt hdB)
  have an_vo := hT.an fvo
  have an_vb := hT.an fvb
  replace hpB := blk_u hpB b17
  replace hdB := blk_u hdB b17
  replace uo := uo.below b17
  replace ub := ub.below b17
  replace po := po.below b17
  replace pb := pb.below b17
  replace gd := gd.below b17
  replace hT := hT.below b17
  replace an_uo := an_uo.below b17
  replace an_ub := an_ub.below b17
  replace an_po := an_po.below b17
  replace an_pb := an_pb.below b17
  replace ap_pB := ap_pB.below b17
  replace an_gd := an_gd.below b17
  replace ap_dB := ap_dB.below b17
  replace an_vo := an_vo.below b17
  replace an_vb := an_vb.below b17
  replace bel := bel.trans (b17.mono bel.size)
  clear b17
  replace vo : Sl w17 (Avo) (0) (cvo) ([]) := vo
  replace vb : Sl w17 (Avb) (9) (cvb) (udBytes 8 8 8 8 203 0 113 7 53 40000 [120]) := vb
  refine hK.out _ _ hdB (fun hH18 => ?_)
  clear hK K
  refine wpAnyH_ready (rs := [6, 11]) (by kernel_rfl) (by simp) ?_
  refine AllReadyH.cons (o := _) rfl (fun K hK => ?_) (AllReadyH.cons (o := _) rfl (fun K hK => ?_) AllReadyH.nil)
  rotate_left
  ·simp only [sq3]
   rw [if_pos (by rfl)]
   refine wp_new_a 38 rfl #[.int .i64 0, .int .i64 0, .int .i64 0, .int .i64 0, .int .i64 0, .int .i64 0, .int .u8 0, .int .u8 0, .int .u8 0, .int .u8 0, .int .u8 0, .int .u8 0, .int .u8 0, .int .u8 0, .slice none 0 0, .slice none 0 0] (by kernel_rfl) ?_
   intro g7 w19 ge hh bb
   have ap_qB := hT.ap ge
   have d_pB_qB := ne_new (hlt hpB) ge
   have d_dB_qB := ne_new (hlt hdB) ge
   have av_uo_qB := uo.av_new ge
   have av_ub_qB := ub.av_new ge
   have av_po_qB := po.av_new ge
   have av_pb_qB := pb.av_new ge
   have av_gd_qB := gd.av_new ge
   have av_vo_qB := vo.av_new ge
   have av_vb_qB := vb.av_new ge
   have oqB := Nat.le_trans bel.size ge
   replace hpB := blk_u hpB bb
   replace hdB := blk_u hdB bb
   replace uo := uo.below bb
   replace ub := ub.below bb
   replace po := po.below bb
   replace pb := pb.below bb
   replace gd := gd.below bb
   replace vo := vo.below bb
   replace vb := vb.below bb
   replace hT := hT.below bb
   replace an_uo := an_uo.below bb
   replace an_ub := an_ub.below bb
   replace an_po := an_po.below bb
   replace an_pb := an_pb.below bb
   replace ap_pB := ap_pB.below bb
   replace an_gd := an_gd.below bb
   replace ap_dB := ap_dB.below bb
   replace an_vo := an_vo.below bb
   replace an_vb := an_vb.below bb
   replace ap_qB := ap_qB.below bb
   replace bel := bel.trans (bb.mono bel.size)
   have hqB := hh
   clear hh ge bb
   refine hK.out _ _ hdB (fun hH20 => ?_)
   clear hK K
   simp only [sq4]
   refine wpAnyH_ready (rs := [6]) (by kernel_rfl) (by simp) ?_
   refine AllReadyH.cons (o := _) rfl (fun K hK => ?_) AllReadyH.nil
   simp only [sq3]
   go_simp
   with_reducible refine (wan19 _).mono ?_
   rintro e w21 ⟨rfl, b21⟩
   dsimp only
   replace hpB := blk_u hpB b21
   replace hdB := blk_u hdB b21
   replace hqB := blk_u hqB b21
   replace uo := uo.below b21
   replace ub := ub.below b21
   replace po := po.below b21
   replace pb := pb.below b21
   replace gd := gd.below b21
   replace vo := vo.below b21
   replace vb := vb.below b21
   replace hT := hT.below b21
   replace an_uo := an_uo.below b21
   replace an_ub := an_ub.below b21
   replace an_po := an_po.below b21
   replace an_pb := an_pb.below b21
   replace ap_pB := ap_pB.below b21
   replace an_gd := an_gd.below b21
   replace ap_dB := ap_dB.below b21
   replace an_vo := an_vo.below b21
   replace an_vb := an_vb.below b21
   replace ap_qB := ap_qB.below b21
   replace bel := bel.trans (b21.mono bel.size)
   clear b21
   refine hK.out _ _ hdB (fun hH22 => ?_)
   clear hK K
   refine wpAnyH_ready (rs := [7]) (by kernel_rfl) (by simp) ?_
   refine AllReadyH.cons (o := _) rfl (fun K hK => ?_) AllReadyH.nil
   simp only [sq3]
   go_simp
   have lt_pB := hlt hpB
   have lt_dB := hlt hdB
   have lt_qB := hlt hqB
   with_reducible refine (i_aw _ hT vo vb).mono ?_
   rintro e w23 ⟨Aqo, cqo, Aqb, cqb, rfl, hT_, f_, bb, qo, qb, an_qo, an_qb, fqo, fqb⟩
   dsimp only
   have x_ := f_ _ _ _ _ hpB ap_pB
   replace hpB := x_.1
   replace ap_pB := x_.2
   clear x_
   have x_ := f_ _ _ _ _ hdB ap_dB
   replace hdB := x_.1
   replace ap_dB := x_.2
   clear x_
   have x_ := f_ _ _ _ _ hqB ap_qB
   replace hqB := x_.1
   replace ap_qB := x_.2
   clear x_
   have x_ := f_.sl uo an_uo
   replace uo := x_.1
   replace an_uo := x_.2
   clear x_
   have x_ := f_.sl ub an_ub
   replace ub := x_.1
   replace an_ub := x_.2
   clear x_
   have x_ := f_.sl po an_po
   replace po := x_.1
   replace an_po := x_.2
   clear x_
   have x_ := f_.sl pb an_pb
   replace pb := x_.1
   replace an_pb := x_.2
   clear x_
   have x_ := f_.sl gd an_gd
   replace gd := x_.1
   replace an_gd := x_.2
   clear x_
   have x_ := f_.sl vo an_vo
   replace vo := x_.1
   replace an_vo := x_.2
   clear x_
   have x_ := f_.sl vb an_vb
   replace vb := x_.1
   replace an_vb := x_.2
   clear x_
   clear hT
   have hT := hT_
   replace bel := bel.trans bb
   clear bb f_ hT_
   have av_qo_pB := fqo.av lt_pB
   have av_qo_dB := fqo.av lt_dB
   have av_qo_qB := fqo.av lt_qB
   have av_qb_pB := fqb.av lt_pB
   have av_qb_dB := fqb.av lt_dB
   have av_qb_qB := fqb.av lt_qB
   clear lt_pB lt_dB lt_qB
   clear fqo fqb
   refine hK.out _ _ hdB (fun hH24 => ?_)
   clear hK K
   refine wpAnyH_take (i := 8) (v := ?_) rfl (by kernel_rfl) (by kernel_rfl) (by kernel_rfl) (fun _ _ _ h => h) (Or.inl ⟨by rfl, ?_⟩) hH24 ?_
   rotate_left
   ·((intro W hW; clear hW; go_simp) <;> with_reducible rfl)
   simp only [sq3, sq4]
   refine wpAnyH_take (i := 9) (v := ?_) rfl (by kernel_rfl) (by kernel_rfl) (by kernel_rfl) (fun _ _ _ h => h) (Or.inl ⟨by rfl, ?_⟩) hH24 ?_
   rotate_left
   ·((intro W hW; clear hW; go_simp) <;> with_reducible rfl)
   simp only [sq3, sq4]
   refine wpAnyH_take (i := 10) (v := ?_) rfl (by kernel_rfl) (by kernel_rfl) (by kernel_rfl) (fun _ _ _ h => h) (Or.inl ⟨by rfl, ?_⟩) hH24 ?_
   rotate_left
   ·((intro W hW; clear hW; go_simp) <;> with_reducible rfl)
   simp only [sq3, sq4]
   refine wpAnyH_ready (rs := [12]) (by kernel_rfl) (by simp) ?_
   refine AllReadyH.cons (o := _) rfl (fun K hK => ?_) AllReadyH.nil
   simp only [sq3]
   rw [if_pos (by rfl)]
   refine wp_store_blk 38 (.tmp 7) (.tmp 44) rfl g7 rfl _ rfl _ 38 hqB (by rfl) (by kernel_rfl) (by kernel_rfl) ?_
   intro w25 hq gr
   replace uo := uo.away av_uo_qB gr
   replace ub := ub.away av_ub_qB gr
   replace po := po.away av_po_qB gr
   replace pb := pb.away av_pb_qB gr
   replace gd := gd.away av_gd_qB gr
   replace vo := vo.away av_vo_qB gr
   replace vb := vb.away av_vb_qB gr
   replace qo := qo.away av_qo_qB gr
   replace qb := qb.away av_qb_qB gr
   replace hpB := blk_a hpB gr d_pB_qB
   replace hdB := blk_a hdB gr d_dB_qB
   replace hT := hT.away ap_qB gr hqB
   replace an_uo := an_uo.grown ap_qB gr
   replace an_ub := an_ub.grown ap_qB gr
   replace an_po := an_po.grown ap_qB gr
   replace an_pb := an_pb.grown ap_qB gr
   replace ap_pB := ap_pB.grown ap_qB gr
   replace an_gd := an_gd.grown ap_qB gr
   replace ap_dB := ap_dB.grown ap_qB gr
   replace an_vo := an_vo.grown ap_qB gr
   replace an_vb := an_vb.grown ap_qB gr
   replace ap_qB := ap_qB.grown ap_qB gr
   replace an_qo := an_qo.grown ap_qB gr
   replace an_qb := an_qb.grown ap_qB gr
   replace bel := below_grown bel gr oqB bel.size
   clear hqB
   have hqB := hq
   clear hq gr
   refine hK.out _ _ hdB (fun hH26 => ?_)
   clear hK K
   simp only [Act.put]
   refine wpAnyH_take (i := 13) (v := ?_) rfl (by kernel_rfl) (by kernel_rfl) (by kernel_rfl) (fun _ _ _ h => h) (Or.inl ⟨by rfl, ?_⟩) hH26 ?_
   rotate_left
   ·((intro W hW; clear hW; go_simp) <;> with_reducible rfl)
   simp only [sq3, sq4]
   refine wpAnyH_done (by kernel_rfl) ?_ _
   go_wp2_with fail
   go_meet
   case rel => exact ⟨g7, Avo, cvo, Avb, cvb, Aqo, cqo, Aqb, cqb, rfl, rfl, hpB, hdB, hqB, oqB, (ne_symm d_pB_dB), d_dB_qB, d_pB_qB, uo, av_uo_dB, av_uo_pB, av_uo_qB, ub, av_ub_dB, av_ub_pB, av_ub_qB, po, av_po_dB, av_po_pB, av_po_qB, pb, av_pb_dB, av_pb_pB, av_pb_qB, gd, av_gd_dB, av_gd_pB, av_gd_qB, vo, av_vo_dB, av_vo_pB, av_vo_qB, vb, av_vb_dB, av_vb_pB, av_vb_qB, qo, av_qo_dB, av_qo_pB, av_qo_qB, qb, av_qb_dB, av_qb_pB, av_qb_qB, hT, an_uo, an_ub, an_po, an_pb, ap_pB, an_gd, ap_dB, an_vo, an_vb, an_qo, an_qb, ap_qB, bel⟩
  simp only [sq3]
  go_simp
  with_reducible refine (wan19 _).mono ?_
  rintro e w19 ⟨rfl, b19⟩
  dsimp only
  replace hpB := blk_u hpB b19
  replace hdB := blk_u hdB b19
  replace uo := uo.below b19
  replace ub := ub.below b19
  replace po := po.below b19
  replace pb := pb.below b19
  replace gd := gd.below b19
  replace vo := vo.below b19
  replace vb := vb.below b19
  replace hT := hT.below b19
  replace an_uo := an_uo.below b19
  replace an_ub := an_ub.below b19
  replace an_po := an_po.below b19
  replace an_pb := an_pb.below b19
  replace ap_pB := ap_pB.below b19
  replace an_gd := an_gd.below b19
  replace ap_dB := ap_dB.below b19
  replace an_vo := an_vo.below b19
  replace an_vb := an_vb.below b19
  replace bel := bel.trans (b19.mono bel.size)
  clear b19
  refine hK.out _ _ hdB (fun hH20 => ?_)
  clear hK K
  refine wpAnyH_ready (rs := [7, 11]) (by kernel_rfl) (by simp) ?_
  refine AllReadyH.cons (o := _) rfl (fun K hK => ?_) (AllReadyH.cons (o := _) rfl (fun K hK => ?_) AllReadyH.nil)
  rotate_left
  ·simp only [sq3]
   rw [if_pos (by rfl)]
   refine wp_new_a 38 rfl #[.int .i64 0, .int .i64 0, .int .i64 0, .int .i64 0, .int .i64 0, .int .i64 0, .int .u8 0, .int .u8 0, .int .u8 0, .int .u8 0, .int .u8 0, .int .u8 0, .int .u8 0, .int .u8 0, .slice none 0 0, .slice none 0 0] (by kernel_rfl) ?_
   intro g7 w21 ge hh bb
   have ap_qB := hT.ap ge
   have d_pB_qB := ne_new (hlt hpB) ge
   have d_dB_qB := ne_new (hlt hdB) ge
   have av_uo_qB := uo.av_new ge
   have av_ub_qB := ub.av_new ge
   have av_po_qB := po.av_new ge
   have av_pb_qB := pb.av_new ge
   have av_gd_qB := gd.av_new ge
   have av_vo_qB := vo.av_new ge
   have av_vb_qB := vb.av_new ge
   have oqB := Nat.le_trans bel.size ge
   replace hpB := blk_u hpB bb
   replace hdB := blk_u hdB bb
   replace uo := uo.below bb
   replace ub := ub.below bb
   replace po := po.below bb
   replace pb := pb.below bb
   replace gd := gd.below bb
   replace vo := vo.below bb
   replace vb := vb.below bb
   replace hT := hT.below bb
   replace an_uo := an_uo.below bb
   replace an_ub := an_ub.below bb
   replace an_po := an_po.below bb
   replace an_pb := an_pb.below bb
   replace ap_pB := ap_pB.below bb
   replace an_gd := an_gd.below bb
   replace ap_dB := ap_dB.below bb
   replace an_vo := an_vo.below bb
   replace an_vb := an_vb.below bb
   replace ap_qB := ap_qB.below bb
   replace bel := bel.trans (bb.mono bel.size)
   have hqB := hh
   clear hh ge bb
   refine hK.out _ _ hdB (fun hH22 => ?_)
   clear hK K
   simp only [sq4]
   refine wpAnyH_ready (rs := [7]) (by kernel_rfl) (by simp) ?_
   refine AllReadyH.cons (o := _) rfl (fun K hK => ?_) AllReadyH.nil
   simp only [sq3]
   go_simp
   have lt_pB := hlt hpB
   have lt_dB := hlt hdB
   have lt_qB := hlt hqB
   with_reducible refine (i_aw _ hT vo vb).mono ?_
   rintro e w23 ⟨Aqo, cqo, Aqb, cqb, rfl, hT_, f_, bb, qo, qb, an_qo, an_qb, fqo, fqb⟩
   dsimp only
   have x_ := f_ _ _ _ _ hpB ap_pB
   replace hpB := x_.1
   replace ap_pB := x_.2
   clear x_
   have x_ := f_ _ _ _ _ hdB ap_dB
   replace hdB := x_.1
   replace ap_dB := x_.2
   clear x_
   have x_ := f_ _ _ _ _ hqB ap_qB
   replace hqB := x_.1
   replace ap_qB := x_.2
   clear x_
   have x_ := f_.sl uo an_uo
   replace uo := x_.1
   replace an_uo := x_.2
   clear x_
   have x_ := f_.sl ub an_ub
   replace ub := x_.1
   replace an_ub := x_.2
   clear x_
   have x_ := f_.sl po an_po
   replace po := x_.1
   replace an_po := x_.2
   clear x_
   have x_ := f_.sl pb an_pb
   replace pb := x_.1
   replace an_pb := x_.2
   clear x_
   have x_ := f_.sl gd an_gd
   replace gd := x_.1
   replace an_gd := x_.2
   clear x_
   have x_ := f_.sl vo an_vo
   replace vo := x_.1
   replace an_vo := x_.2
   clear x_
   have x_ := f_.sl vb an_vb
   replace vb := x_.1
   replace an_vb := x_.2
   clear x_
   clear hT
   have hT := hT_
   replace bel := bel.trans bb
   clear bb f_ hT_
   have av_qo_pB := fqo.av lt_pB
   have av_qo_dB := fqo.av lt_dB
   have av_qo_qB := fqo.av lt_qB
   have av_qb_pB := fqb.av lt_pB
   have av_qb_dB := fqb.av lt_dB
   have av_qb_qB := fqb.av lt_qB
   clear lt_pB lt_dB lt_qB
   clear fqo fqb
   refine hK.out _ _ hdB (fun hH24 => ?_)
   clear hK K
   refine wpAnyH_take (i := 8) (v := ?_) rfl (by kernel_rfl) (by kernel_rfl) (by kernel_rfl) (fun _ _ _ h => h) (Or.inl ⟨by rfl, ?_⟩) hH24 ?_
   rotate_left
   ·((intro W hW; clear hW; go_simp) <;> with_reducible rfl)
   simp only [sq3, sq4]
   refine wpAnyH_take (i := 9) (v := ?_) rfl (by kernel_rfl) (by kernel_rfl) (by kernel_rfl) (fun _ _ _ h => h) (Or.inl ⟨by rfl, ?_⟩) hH24 ?_
   rotate_left
   ·((intro W hW; clear hW; go_simp) <;> with_reducible rfl)
   simp only [sq3, sq4]
   refine wpAnyH_take (i := 10) (v := ?_) rfl (by kernel_rfl) (by kernel_rfl) (by kernel_rfl) (fun _ _ _ h => h) (Or.inl ⟨by rfl, ?_⟩) hH24 ?_
   rotate_left
   ·((intro W hW; clear hW; go_simp) <;> with_reducible rfl)
   simp only [sq3, sq4]
   refine wpAnyH_ready (rs := [12]) (by kernel_rfl) (by simp) ?_
   refine AllReadyH.cons (o := _) rfl (fun K hK => ?_) AllReadyH.nil
   simp only [sq3]
   rw [if_pos (by rfl)]
   refine wp_store_blk 38 (.tmp 7) (.tmp 44) rfl g7 rfl _ rfl _ 38 hqB (by rfl) (by kernel_rfl) (by kernel_rfl) ?_
   intro w25 hq gr
   replace uo := uo.away av_uo_qB gr
   replace ub := ub.away av_ub_qB gr
   replace po := po.away av_po_qB gr
   replace pb := pb.away av_pb_qB gr
   replace gd := gd.away av_gd_qB gr
   replace vo := vo.away av_vo_qB gr
   replace vb := vb.away av_vb_qB gr
   replace qo := qo.away av_qo_qB gr
   replace qb := qb.away av_qb_qB gr
   replace hpB := blk_a hpB gr d_pB_qB
   replace hdB := blk_a hdB gr d_dB_qB
   replace hT := hT.away ap_qB gr hqB
   replace an_uo := an_uo.grown ap_qB gr
   replace an_ub := an_ub.grown ap_qB gr
   replace an_po := an_po.grown ap_qB gr
   replace an_pb := an_pb.grown ap_qB gr
   replace ap_pB := ap_pB.grown ap_qB gr
   replace an_gd := an_gd.grown ap_qB gr
   replace ap_dB := ap_dB.grown ap_qB gr
   replace an_vo := an_vo.grown ap_qB gr
   replace an_vb := an_vb.grown ap_qB gr
   replace ap_qB := ap_qB.grown ap_qB gr
   replace an_qo := an_qo.grown ap_qB gr
   replace an_qb := an_qb.grown ap_qB gr
   replace bel := below_grown bel gr oqB bel.size
   clear hqB
   have hqB := hq
   clear hq gr
   refine hK.out _ _ hdB (fun hH26 => ?_)
   clear hK K
   simp only [Act.put]
   refine wpAnyH_take (i := 13) (v := ?_) rfl (by kernel_rfl) (by kernel_rfl) (by kernel_rfl) (fun _ _ _ h => h) (Or.inl ⟨by rfl, ?_⟩) hH26 ?_
   rotate_left
   ·((intro W hW; clear hW; go_simp) <;> with_reducible rfl)
   simp only [sq3, sq4]
   refine wpAnyH_done (by kernel_rfl) ?_ _
   go_wp2_with fail
   go_meet
   case rel => exact ⟨g7, Avo, cvo, Avb, cvb, Aqo, cqo, Aqb, cqb, rfl, rfl, hpB, hdB, hqB, oqB, (ne_symm d_pB_dB), d_dB_qB, d_pB_qB, uo, av_uo_dB, av_uo_pB, av_uo_qB, ub, av_ub_dB, av_ub_pB, av_ub_qB, po, av_po_dB, av_po_pB, av_po_qB, pb, av_pb_dB, av_pb_pB, av_pb_qB, gd, av_gd_dB, av_gd_pB, av_gd_qB, vo, av_vo_dB, av_vo_pB, av_vo_qB, vb, av_vb_dB, av_vb_pB, av_vb_qB, qo, av_qo_dB, av_qo_pB, av_qo_qB, qb, av_qb_dB, av_qb_pB, av_qb_qB, hT, an_uo, an_ub, an_po, an_pb, ap_pB, an_gd, ap_dB, an_vo, an_vb, an_qo, an_qb, ap_qB, bel⟩
  simp only [sq3]
  go_simp
  have lt_pB := hlt hpB
  have lt_dB := hlt hdB
  with_reducible refine (i_aw _ hT vo vb).mono ?_
  rintro e w21 ⟨Aqo, cqo, Aqb, cqb, rfl, hT_, f_, bb, qo, qb, an_qo, an_qb, fqo, fqb⟩
  dsimp only
  have x_ := f_ _ _ _ _ hpB ap_pB
  replace hpB := x_.1
  replace ap_pB := x_.2
  clear x_
  have x_ := f_ _ _ _ _ hdB ap_dB
  replace hdB := x_.1
  replace ap_dB := x_.2
  clear x_
  have x_ := f_.sl uo an_uo
  replace uo := x_.1
  replace an_uo := x_.2
  clear x_
  have x_ := f_.sl ub an_ub
  replace ub := x_.1
  replace an_ub := x_.2
  clear x_
  have x_ := f_.sl po an_po
  replace po := x_.1
  replace an_po := x_.2
  clear x_
  have x_ := f_.sl pb an_pb
  replace pb := x_.1
  replace an_pb := x_.2
  clear x_
  have x_ := f_.sl gd an_gd
  replace gd := x_.1
  replace an_gd := x_.2
  clear x_
  have x_ := f_.sl vo an_vo
  replace vo := x_.1
  replace an_vo := x_.2
  clear x_
  have x_ := f_.sl vb an_vb
  replace vb := x_.1
  replace an_vb := x_.2
  clear x_
  clear hT
  have hT := hT_
  replace bel := bel.trans bb
  clear bb f_ hT_
  have av_qo_pB := fqo.av lt_pB
  have av_qo_dB := fqo.av lt_dB
  have av_qb_pB := fqb.av lt_pB
  have av_qb_dB := fqb.av lt_dB
  clear lt_pB lt_dB
  clear fqo fqb
  refine hK.out _ _ hdB (fun hH22 => ?_)
  clear hK K
  refine wpAnyH_take (i := 8) (v := ?_) rfl (by kernel_rfl) (by kernel_rfl) (by kernel_rfl) (fun _ _ _ h => h) (Or.inl ⟨by rfl, ?_⟩) hH22 ?_
  rotate_left
  ·((intro W hW; clear hW; go_simp) <;> with_reducible rfl)
  simp only [sq3, sq4]
  refine wpAnyH_take (i := 9) (v := ?_) rfl (by kernel_rfl) (by kernel_rfl) (by kernel_rfl) (fun _ _ _ h => h) (Or.inl ⟨by rfl, ?_⟩) hH22 ?_
  rotate_left
  ·((intro W hW; clear hW; go_simp) <;> with_reducible rfl)
  simp only [sq3, sq4]
  refine wpAnyH_take (i := 10) (v := ?_) rfl (by kernel_rfl) (by kernel_rfl) (by kernel_rfl) (fun _ _ _ h => h) (Or.inl ⟨by rfl, ?_⟩) hH22 ?_
  rotate_left
  ·((intro W hW; clear hW; go_simp) <;> with_reducible rfl)
  simp only [sq3, sq4]
  refine wpAnyH_ready (rs := [11]) (by kernel_rfl) (by simp) ?_
  refine AllReadyH.cons (o := _) rfl (fun K hK => ?_) AllReadyH.nil
  simp only [sq3]
  rw [if_pos (by rfl)]
  refine wp_new_a 38 rfl #[.int .i64 0, .int .i64 0, .int .i64 0, .int .i64 0, .int .i64 0, .int .i64 0, .int .u8 0, .int .u8 0, .int .u8 0, .int .u8 0, .int .u8 0, .int .u8 0, .int .u8 0, .int .u8 0, .slice none 0 0, .slice none 0 0] (by kernel_rfl) ?_
  intro g7 w23 ge hh bb
  have ap_qB := hT.ap ge
  have d_pB_qB := ne_new (hlt hpB) ge
  have d_dB_qB := ne_new (hlt hdB) ge
  have av_uo_qB := uo.av_new ge
  have av_ub_qB := ub.av_new ge
  have av_po_qB := po.av_new ge
  have av_pb_qB := pb.av_new ge
  have av_gd_qB := gd.av_new ge
  have av_vo_qB := vo.av_new ge
  have av_vb_qB := vb.av_new ge
  have av_qo_qB := qo.av_new ge
  have av_qb_qB := qb.av_new ge
  have oqB := Nat.le_trans bel.size ge
  replace hpB := blk_u hpB bb
  replace hdB := blk_u hdB bb
  replace uo := uo.below bb
  replace ub := ub.below bb
  replace po := po.below bb
  replace pb := pb.below bb
  replace gd := gd.below bb
  replace vo := vo.below bb
  replace vb := vb.below bb
  replace qo := qo.below bb
  replace qb := qb.below bb
  replace hT := hT.below bb
  replace an_uo := an_uo.below bb
  replace an_ub := an_ub.below bb
  replace an_po := an_po.below bb
  replace an_pb := an_pb.below bb
  replace ap_pB := ap_pB.below bb
  replace an_gd := an_gd.below bb
  replace ap_dB := ap_dB.below bb
  replace an_vo := an_vo.below bb
  replace an_vb := an_vb.below bb
  replace an_qo := an_qo.below bb
  replace an_qb := an_qb.below bb
  replace ap_qB := ap_qB.below bb
  replace bel := bel.trans (bb.mono bel.size)
  have hqB := hh
  clear hh ge bb
  refine hK.out _ _ hdB (fun hH24 => ?_)
  clear hK K
  simp only [sq4]
  refine wpAnyH_ready (rs := [12]) (by kernel_rfl) (by simp) ?_
  refine AllReadyH.cons (o := _) rfl (fun K hK => ?_) AllReadyH.nil
  simp only [sq3]
  rw [if_pos (by rfl)]
  refine wp_store_blk 38 (.tmp 7) (.tmp 44) rfl g7 rfl _ rfl _ 38 hqB (by rfl) (by kernel_rfl) (by kernel_rfl) ?_
  intro w25 hq gr
  replace uo := uo.away av_uo_qB gr
  replace ub := ub.away av_ub_qB gr
  replace po := po.away av_po_qB gr
  replace pb := pb.away av_pb_qB gr
  replace gd := gd.away av_gd_qB gr
  replace vo := vo.away av_vo_qB gr
  replace vb := vb.away av_vb_qB gr
  replace qo := qo.away av_qo_qB gr
  replace qb := qb.away av_qb_qB gr
  replace hpB := blk_a hpB gr d_pB_qB
  replace hdB := blk_a hdB gr d_dB_qB
  replace hT := hT.away ap_qB gr hqB
  replace an_uo := an_uo.grown ap_qB gr
  replace an_ub := an_ub.grown ap_qB gr
  replace an_po := an_po.grown ap_qB gr
  replace an_pb := an_pb.grown ap_qB gr
  replace ap_pB := ap_pB.grown ap_qB gr
  replace an_gd := an_gd.grown ap_qB gr
  replace ap_dB := ap_dB.grown ap_qB gr
  replace an_vo := an_vo.grown ap_qB gr
  replace an_vb := an_vb.grown ap_qB gr
  replace an_qo := an_qo.grown ap_qB gr
  replace an_qb := an_qb.grown ap_qB gr
  replace ap_qB := ap_qB.grown ap_qB gr
  replace bel := below_grown bel gr oqB bel.size
  clear hqB
  have hqB := hq
  clear hq gr
  refine hK.out _ _ hdB (fun hH26 => ?_)
  clear hK K
  simp only [Act.put]
  refine wpAnyH_take (i := 13) (v := ?_) rfl (by kernel_rfl) (by kernel_rfl) (by kernel_rfl) (fun _ _ _ h => h) (Or.inl ⟨by rfl, ?_⟩) hH26 ?_
  rotate_left
  ·((intro W hW; clear hW; go_simp) <;> with_reducible rfl)
  simp only [sq3, sq4]
  refine wpAnyH_done (by kernel_rfl) ?_ _
  go_wp2_with fail
  go_meet
  case rel => exact ⟨g7, Avo, cvo, Avb, cvb, Aqo, cqo, Aqb, cqb, rfl, rfl, hpB, hdB, hqB, oqB, (ne_symm d_pB_dB), d_dB_qB, d_pB_qB, uo, av_uo_dB, av_uo_pB, av_uo_qB, ub, av_ub_dB, av_ub_pB, av_ub_qB, po, av_po_dB, av_po_pB, av_po_qB, pb, av_pb_dB, av_pb_pB, av_pb_qB, gd, av_gd_dB, av_gd_pB, av_gd_qB, vo, av_vo_dB, av_vo_pB, av_vo_qB, vb, av_vb_dB, av_vb_pB, av_vb_qB, qo, av_qo_dB, av_qo_pB, av_qo_qB, qb, av_qb_dB, av_qb_pB, av_qb_qB, hT, an_uo, an_ub, an_po, an_pb, ap_pB, an_gd, ap_dB, an_vo, an_vb, an_qo, an_qb, ap_qB, bel⟩
 obtain ⟨w27, hw_⟩ : ∃ x, x = wc := ⟨_, rfl⟩
 subst hw_
 obtain ⟨g7, Avo, cvo, Avb, cvb, Aqo, cqo, Aqb, cqb, rfl, rfl, hpB, hdB, hqB, oqB, d_dB_pB, d_dB_qB, d_pB_qB, uo, av_uo_dB, av_uo_pB, av_uo_qB, ub, av_ub_dB, av_ub_pB, av_ub_qB, po, av_po_dB, av_po_pB, av_po_qB, pb, av_pb_dB, av_pb_pB, av_pb_qB, gd, av_gd_dB, av_gd_pB, av_gd_qB, vo, av_vo_dB, av_vo_pB, av_vo_qB, vb, av_vb_dB, av_vb_pB, av_vb_qB, qo, av_qo_dB, av_qo_pB, av_qo_qB, qb, av_qb_dB, av_qb_pB, av_qb_qB, hT, an_uo, an_ub, an_po, an_pb, ap_pB, an_gd, ap_dB, an_vo, an_vb, an_qo, an_qb, ap_qB, bel⟩ := hcut
 have R47 := Lib.hid (range_lit hqB 0 16 [.int .i64 0, .int .i64 0, .int .i64 0, .int .i64 0, .int .i64 64, .int .i64 17, .int .u8 8, .int .u8 8, .int .u8 8, .int .u8 8, .int .u8 10, .int .u8 0, .int .u8 0, .int .u8 ((byteOf 5).toNat : Int), .slice Aqo 0 cqo, .slice Aqb 9 cqb] rfl)
 go_wp2_with (first | ((with_reducible show wpList _ _ _ (⟨some 47, _, _, _, _, _⟩ :: _) _ _); refine wpList_load_rng 38 (.tmp 7) rfl (by kernel_rfl) _ _ rfl _ R47.out _ Tryz.underlying38 rfl (by kernel_rfl) ?_))
 try clear R47
 with_reducible refine (g_aw2 _ qb).mono ?_
 rintro e w28 ⟨Agx, cgx, rfl, gx, fgx, b28⟩
 have av_gx_pB := fgx.av (hlt hpB)
 have av_gx_dB := fgx.av (hlt hdB)
 have av_gx_qB := fgx.av (hlt hqB)
 have an_gx := hT.an fgx
 replace hpB := blk_u hpB b28
 replace hdB := blk_u hdB b28
 replace hqB := blk_u hqB b28
 replace uo := uo.below b28
 replace ub := ub.below b28
 replace po := po.below b28
 replace pb := pb.below b28
 replace gd := gd.below b28
 replace vo := vo.below b28
 replace vb := vb.below b28
 replace qo := qo.below b28
 replace qb := qb.below b28
 replace hT := hT.below b28
 replace an_uo := an_uo.below b28
 replace an_ub := an_ub.below b28
 replace an_po := an_po.below b28
 replace an_pb := an_pb.below b28
 replace ap_pB := ap_pB.below b28
 replace an_gd := an_gd.below b28
 replace ap_dB := ap_dB.below b28
 replace an_vo := an_vo.below b28
 replace an_vb := an_vb.below b28
 replace an_qo := an_qo.below b28
 replace an_qb := an_qb.below b28
 replace ap_qB := ap_qB.below b28
 replace an_gx := an_gx.below b28
 replace bel := bel.trans (b28.mono bel.size)
 clear b28
 replace gx : Sl w28 (Agx) (1) (cgx) ([120]) := gx
 go_wp2_with (first | ((with_reducible show wpList _ _ _ (⟨some 9, _, _, _, _, _⟩ :: _) _ _); refine wpList_new_a rfl 54 rfl #[.int .i64 0, .int .i64 0, .slice none 0 0] (by kernel_rfl) ?_; intro g9 w29 ge hh bb; have ap_xB := hT.ap ge; have d_pB_xB := ne_new (hlt hpB) ge; have d_dB_xB := ne_new (hlt hdB) ge; have d_qB_xB := ne_new (hlt hqB) ge; have av_uo_xB := uo.av_new ge; have av_ub_xB := ub.av_new ge; have av_po_xB := po.av_new ge; have av_pb_xB := pb.av_new ge; have av_gd_xB := gd.av_new ge; have av_vo_xB := vo.av_new ge; have av_vb_xB := vb.av_new ge; have av_qo_xB := qo.av_new ge; have av_qb_xB := qb.av_new ge; have av_gx_xB := gx.av_new ge; have oxB := Nat.le_trans bel.size ge; replace hpB := blk_u hpB bb; replace hdB := blk_u hdB bb; replace hqB := blk_u hqB bb; replace uo := uo.below bb; replace ub := ub.below bb; replace po := po.below bb; replace pb := pb.below bb; replace gd := gd.below bb; replace vo := vo.below bb; replace vb := vb.below bb; replace qo := qo.below bb; replace qb := qb.below bb; replace gx := gx.below bb; replace hT := hT.below bb; replace an_uo := an_uo.below bb; replace an_ub := an_ub.below bb; replace an_po := an_po.below bb; replace an_pb := an_pb.below bb; replace ap_pB := ap_pB.below bb; replace an_gd := an_gd.below bb; replace ap_dB := ap_dB.below bb; replace an_vo := an_vo.below bb; replace an_vb := an_vb.below bb; replace an_qo := an_qo.below bb; replace an_qb := an_qb.below bb; replace ap_qB := ap_qB.below bb; replace an_gx := an_gx.below bb; replace ap_xB := ap_xB.below bb; replace bel := bel.trans (bb.mono bel.size); have hxB := hh; clear hh ge bb) | ((with_reducible show wpList _ _ _ (⟨none, Op.store _ (.tmp 9) _, _, _, _, _⟩ :: _) _ _); refine wpList_store_blk rfl 54 (.tmp 9) (.tmp 49) rfl g9 rfl _ rfl _ 54 hxB (by rfl) (by kernel_rfl) (by kernel_rfl) ?_; intro w30 hq gr; replace uo := uo.away av_uo_xB gr; replace ub := ub.away av_ub_xB gr; replace po := po.away av_po_xB gr; replace pb := pb.away av_pb_xB gr; replace gd := gd.away av_gd_xB gr; replace vo := vo.away av_vo_xB gr; replace vb := vb.away av_vb_xB gr; replace qo := qo.away av_qo_xB gr; replace qb := qb.away av_qb_xB gr; replace gx := gx.away av_gx_xB gr; replace hpB := blk_a hpB gr d_pB_xB; replace hdB := blk_a hdB gr d_dB_xB; replace hqB := blk_a hqB gr d_qB_xB; replace hT := hT.away ap_xB gr hxB; replace an_uo := an_uo.grown ap_xB gr; replace an_ub := an_ub.grown ap_xB gr; replace an_po := an_po.grown ap_xB gr; replace an_pb := an_pb.grown ap_xB gr; replace ap_pB := ap_pB.grown ap_xB gr; replace an_gd := an_gd.grown ap_xB gr; replace ap_dB := ap_dB.grown ap_xB gr; replace an_vo := an_vo.grown ap_xB gr; replace an_vb := an_vb.grown ap_xB gr; replace an_qo := an_qo.grown ap_xB gr; replace an_qb := an_qb.grown ap_xB gr; replace ap_qB := ap_qB.grown ap_xB gr; replace an_gx := an_gx.grown ap_xB gr; replace ap_xB := ap_xB.grown ap_xB gr; replace bel := below_grown bel gr oxB bel.size; clear hxB; have hxB := hq; clear hq gr))
 replace bel := bel.drew
 replace hpB : w30.drew.heap[g3]? = _ := hpB
 replace hdB : w30.drew.heap[g5]? = _ := hdB
 replace hqB : w30.drew.heap[g7]? = _ := hqB
 replace hxB : w30.drew.heap[g9]? = _ := hxB
 replace uo := uo.drew
 replace ub := ub.drew
 replace po := po.drew
 replace pb := pb.drew
 replace gd := gd.drew
 replace vo := vo.drew
 replace vb := vb.drew
 replace qo := qo.drew
 replace qb := qb.drew
 replace gx := gx.drew
 replace hT := np_drew hT
 replace an_uo := an_drew an_uo
 replace an_ub := an_drew an_ub
 replace an_po := an_drew an_po
 replace an_pb := an_drew an_pb
 replace ap_pB := anp_drew ap_pB
 replace an_gd := an_drew an_gd
 replace ap_dB := anp_drew ap_dB
 replace an_vo := an_drew an_vo
 replace an_vb := an_drew an_vb
 replace an_qo := an_drew an_qo
 replace an_qb := an_drew an_qb
 replace ap_qB := anp_drew ap_qB
 replace an_gx := an_drew an_gx
 replace ap_xB := anp_drew ap_xB
 refine wp_region_held_drew (S := fun W => W.heap[g3]? = some (.cells #[.int .i64 0, .int .i64 0, .int .i64 0, .int .i64 0, .int .i64 64, .int .i64 17, .int .u8 203, .int .u8 0, .int .u8 113, .int .u8 7, .int .u8 8, .int .u8 8, .int .u8 8, .int .u8 8, .slice Apo 0 cpo, .slice Apb 9 cpb] 38 (0, 0)) ∧ W.heap[g5]? = some (.cells #[.int .i64 40000, .int .i64 53, .slice Agd 1 cgd] 54 (0, 0)) ∧ W.heap[g7]? = some (.cells #[.int .i64 0, .int .i64 0, .int .i64 0, .int .i64 0, .int .i64 64, .int .i64 17, .int .u8 8, .int .u8 8, .int .u8 8, .int .u8 8, .int .u8 10, .int .u8 0, .int .u8 0, .int .u8 ((byteOf 5).toNat : Int), .slice Aqo 0 cqo, .slice Aqb 9 cqb] 38 (0, 0)) ∧ W.heap[g9]? = some (.cells #[.int .i64 53, .int .i64 777, .slice Agx 1 cgx] 54 (0, 0))) (by kernel_rfl) ⟨hpB, hdB, hqB, hxB⟩ (fun hH => ?_)
 generalize w30.drew = w31 at bel hpB hdB hqB hxB uo ub po pb gd vo vb qo qb gx hT an_uo an_ub an_po an_pb ap_pB an_gd ap_dB an_vo an_vb an_qo an_qb ap_qB an_gx ap_xB hH ⊢
 refine wpAnyH_take (i := 0) (v := ?_) rfl (by kernel_rfl) (by kernel_rfl) (by kernel_rfl) (fun _ _ _ h => h) (Or.inl ⟨by rfl, ?_⟩) hH ?_
 rotate_left
 ·((intro W hW; clear hW; go_simp) <;> with_reducible rfl)
 simp only [Act.put, List.getElem_toArray, List.getElem_cons_zero, List.setIfInBounds_toArray, List.set_cons_zero, List.set_cons_succ]
 refine wpAnyH_take (i := 1) (v := ?_) rfl (by kernel_rfl) (by kernel_rfl) (by kernel_rfl) (fun _ _ _ h => h) (Or.inl ⟨by rfl, ?_⟩) hH ?_
 rotate_left
 ·((intro W hW; clear hW; go_simp) <;> with_reducible rfl)
 simp only [sq3, sq4]
 refine wpAnyH_take (i := 2) (v := ?_) rfl (by kernel_rfl) (by kernel_rfl) (by kernel_rfl) (fun _ _ _ h => h) (Or.inl ⟨by rfl, ?_⟩) hH ?_
 rotate_left
 ·((intro W hW; clear hW; go_simp) <;> with_reducible rfl)
 simp only [sq3, sq4]
 refine wpAnyH_take (i := 3) (v := ?_) rfl (by kernel_rfl) (by kernel_rfl) (by kernel_rfl) (fun _ _ _ h => h) (Or.inl ⟨by rfl, ?_⟩) hH ?_
 rotate_left
 ·((intro W hW; clear hW; go_simp) <;> with_reducible rfl)
 simp only [sq3, sq4]
 refine wpAnyH_take (i := 4) (v := ?_) rfl (by kernel_rfl) (by kernel_rfl) (by kernel_rfl) (fun _ _ _ h => h) (Or.inl ⟨by rfl, ?_⟩) hH ?_
 rotate_left
 ·((intro W hW; clear hW; go_simp) <;> with_reducible rfl)
 simp only [sq3, sq4]
 refine wpAnyH_take (i := 5) (v := ?_) rfl (by kernel_rfl) (by kernel_rfl) (by kernel_rfl) (fun _ _ _ h => h) (Or.inl ⟨by rfl, ?_⟩) hH ?_
 rotate_left
 ·((intro W hW; clear hW; go_simp) <;> with_reducible rfl)
 simp only [sq3, sq4]
 refine wpAnyH_take (i := 6) (v := ?_) rfl (by kernel_rfl) (by kernel_rfl) (by kernel_rfl) (fun _ _ _ h => h) (Or.inl ⟨by rfl, ?_⟩) hH ?_
 rotate_left
 ·((intro W hW; clear hW; go_simp) <;> with_reducible rfl)
 simp only [sq3, sq4]
 refine wpAnyH_take (i := 7) (v := ?_) rfl (by kernel_rfl) (by kernel_rfl) (by kernel_rfl) (fun _ _ _ h => h) (Or.inl ⟨by rfl, ?_⟩) hH ?_
 rotate_left
 ·((intro W hW; clear hW; go_simp) <;> with_reducible rfl)
 simp only [sq3, sq4]
 refine wpAnyH_take (i := 8) (v := .agg #[.int .u8 203, .int .u8 0, .int .u8 113, .int .u8 7]) rfl (by kernel_rfl) (by kernel_rfl) (by kernel_rfl) (fun _ _ _ h => h) (yieldsIf_load_part (by kernel_rfl) 35 _ rfl g3 6 4 rfl _ 38 (0, 0) (fun W hW => hW.1) _ rfl _ Tryz.underlying35 rfl (by kernel_rfl)) hH ?_
 simp only [sq3, sq4]
 refine wpAnyH_ready (rs := [9]) (by kernel_rfl) (by simp) ?_
 refine AllReadyH.cons (o := _) rfl (fun K hK => ?_) AllReadyH.nil
 simp only [sq3]
 go_simp
 with_reducible refine (wan19 _).mono ?_
 rintro e w32 ⟨rfl, b32⟩
 dsimp only
 replace hpB := blk_u hpB b32
 replace hdB := blk_u hdB b32
 replace hqB := blk_u hqB b32
 replace hxB := blk_u hxB b32
 replace uo := uo.below b32
 replace ub := ub.below b32
 replace po := po.below b32
 replace pb := pb.below b32
 replace gd := gd.below b32
 replace vo := vo.below b32
 replace vb := vb.below b32
 replace qo := qo.below b32
 replace qb := qb.below b32
 replace gx := gx.below b32
 replace hT := hT.below b32
 replace an_uo := an_uo.below b32
 replace an_ub := an_ub.below b32
 replace an_po := an_po.below b32
 replace an_pb := an_pb.below b32
 replace ap_pB := ap_pB.below b32
 replace an_gd := an_gd.below b32
 replace ap_dB := ap_dB.below b32
 replace an_vo := an_vo.below b32
 replace an_vb := an_vb.below b32
 replace an_qo := an_qo.below b32
 replace an_qb := an_qb.below b32
 replace ap_qB := ap_qB.below b32
 replace an_gx := an_gx.below b32
 replace ap_xB := ap_xB.below b32
 replace bel := bel.trans (b32.mono bel.size)
 clear b32
 refine hK.out _ _ ⟨hpB, hdB, hqB, hxB⟩ (fun hH33 => ?_)
 clear hK K
 refine wpAnyH_take (i := 10) (v := ?_) rfl (by kernel_rfl) (by kernel_rfl) (by kernel_rfl) (fun _ _ _ h => h) (Or.inl ⟨by rfl, ?_⟩) hH33 ?_
 rotate_left
 ·((intro W hW; clear hW; go_simp) <;> with_reducible rfl)
 simp only [sq3, sq4]
 refine wpAnyH_take (i := 11) (v := ?_) rfl (by kernel_rfl) (by kernel_rfl) (by kernel_rfl) (fun _ _ _ h => h) (Or.inl ⟨by rfl, ?_⟩) hH33 ?_
 rotate_left
 ·((intro W hW; clear hW; go_simp) <;> with_reducible rfl)
 simp only [sq3, sq4]
 refine wpAnyH_take (i := 12) (v := ?_) rfl (by kernel_rfl) (by kernel_rfl) (by kernel_rfl) (fun _ _ _ h => h) (Or.inl ⟨by rfl, ?_⟩) hH33 ?_
 rotate_left
 ·((intro W hW; clear hW; go_simp) <;> with_reducible rfl)
 simp only [sq3, sq4]
 refine wpAnyH_take (i := 13) (v := ?_) rfl (by kernel_rfl) (by kernel_rfl) (by kernel_rfl) (fun _ _ _ h => h) (Or.inl ⟨by rfl, ?_⟩) hH33 ?_
 rotate_left
 ·((intro W hW; clear hW; go_simp) <;> with_reducible rfl)
 simp only [sq3, sq4]
 refine wpAnyH_take (i := 14) (v := .agg #[.int .u8 8, .int .u8 8, .int .u8 8, .int .u8 8]) rfl (by kernel_rfl) (by kernel_rfl) (by kernel_rfl) (fun _ _ _ h => h) (yieldsIf_load_part (by kernel_rfl) 35 _ rfl g3 10 4 rfl _ 38 (0, 0) (fun W hW => hW.1) _ rfl _ Tryz.underlying35 rfl (by kernel_rfl)) hH33 ?_
 simp only [sq3, sq4]
 refine wpAnyH_ready (rs := [15]) (by kernel_rfl) (by simp) ?_
 refine AllReadyH.cons (o := _) rfl (fun K hK => ?_) AllReadyH.nil
 simp only [sq3]
 go_simp
 with_reducible refine (far19 _).mono ?_
 rintro e w34 ⟨rfl, b34⟩
 dsimp only
 replace hpB := blk_u hpB b34
 replace hdB := blk_u hdB b34
 replace hqB := blk_u hqB b34
 replace hxB := blk_u hxB b34
 replace uo := uo.below b34
 replace ub := ub.below b34
 replace po := po.below b34
 replace pb := pb.below b34
 replace gd := gd.below b34
 replace vo := vo.below b34
 replace vb := vb.below b34
 replace qo := qo.below b34
 replace qb := qb.below b34
 replace gx := gx.below b34
 replace hT := hT.below b34
 replace an_uo := an_uo.below b34
 replace an_ub := an_ub.below b34
 replace an_po := an_po.below b34
 replace an_pb := an_pb.below b34
 replace ap_pB := ap_pB.below b34
 replace an_gd := an_gd.below b34
 replace ap_dB := ap_dB.below b34
 replace an_vo := an_vo.below b34
 replace an_vb := an_vb.below b34
 replace an_qo := an_qo.below b34
 replace an_qb := an_qb.below b34
 replace ap_qB := ap_qB.below b34
 replace an_gx := an_gx.below b34
 replace ap_xB := ap_xB.below b34
 replace bel := bel.trans (b34.mono bel.size)
 clear b34
 refine hK.out _ _ ⟨hpB, hdB, hqB, hxB⟩ (fun hH35 => ?_)
 clear hK K
 refine wpAnyH_take (i := 16) (v := ?_) rfl (by kernel_rfl) (by kernel_rfl) (by kernel_rfl) (fun _ _ _ h => h) (Or.inl ⟨by rfl, ?_⟩) hH35 ?_
 rotate_left
 ·((intro W hW; clear hW; go_simp) <;> with_reducible rfl)
 simp only [sq3, sq4]
 refine wpAnyH_take (i := 17) (v := ?_) rfl (by kernel_rfl) (by kernel_rfl) (by kernel_rfl) (fun _ _ _ h => h) (Or.inl ⟨by rfl, ?_⟩) hH35 ?_
 rotate_left
 ·((intro W hW; clear hW; go_simp) <;> with_reducible rfl)
 simp only [sq3, sq4]
 refine wpAnyH_take (i := 18) (v := ?_) rfl (by kernel_rfl) (by kernel_rfl) (by kernel_rfl) (fun _ _ _ h => h) (Or.inl ⟨by rfl, ?_⟩) hH35 ?_
 rotate_left
 ·((intro W hW; clear hW; go_simp) <;> with_reducible rfl)
 simp only [sq3, sq4]
 refine wpAnyH_take (i := 19) (v := ?_) rfl (by kernel_rfl) (by kernel_rfl) (by kernel_rfl) (fun _ _ _ h => h) (Or.inl ⟨by rfl, ?_⟩) hH35 ?_
 rotate_left
 ·((intro W hW; clear hW; go_simp) <;> with_reducible rfl)
 simp only [sq3, sq4]
 refine wpAnyH_take (i := 20) (v := ?_) rfl (by kernel_rfl) (by kernel_rfl) (by kernel_rfl) (fun _ _ _ h => h) (Or.inl ⟨by rfl, ?_⟩) hH35 ?_
 rotate_left
 ·((intro W hW; have hk := cell_lit (hW.2.1) 0 _ rfl; clear hW; go_simp) <;> with_reducible rfl)
 simp only [sq3, sq4]
 refine wpAnyH_take (i := 21) (v := ?_) rfl (by kernel_rfl) (by kernel_rfl) (by kernel_rfl) (fun _ _ _ h => h) (Or.inl ⟨by rfl, ?_⟩) hH35 ?_
 rotate_left
 ·((intro W hW; clear hW; go_simp) <;> with_reducible rfl)
 simp only [sq3, sq4]
 refine wpAnyH_take (i := 22) (v := ?_) rfl (by kernel_rfl) (by kernel_rfl) (by kernel_rfl) (fun _ _ _ h => h) (Or.inl ⟨by rfl, ?_⟩) hH35 ?_
 rotate_left
 ·((intro W hW; clear hW; go_simp) <;> with_reducible rfl)
 simp only [sq3, sq4]
 refine wpAnyH_take (i := 23) (v := ?_) rfl (by kernel_rfl) (by kernel_rfl) (by kernel_rfl) (fun _ _ _ h => h) (Or.inl ⟨by rfl, ?_⟩) hH35 ?_
 rotate_left
 ·((intro W hW; clear hW; go_simp) <;> with_reducible rfl)
 simp only [sq3, sq4]
 refine wpAnyH_take (i := 24) (v := ?_) rfl (by kernel_rfl) (by kernel_rfl) (by kernel_rfl) (fun _ _ _ h => h) (Or.inl ⟨by rfl, ?_⟩) hH35 ?_
 rotate_left
 ·((intro W hW; clear hW; go_simp) <;> with_reducible rfl)
 simp only [sq3, sq4]
 refine wpAnyH_take (i := 25) (v := ?_) rfl (by kernel_rfl) (by kernel_rfl) (by kernel_rfl) (fun _ _ _ h => h) (Or.inl ⟨by rfl, ?_⟩) hH35 ?_
 rotate_left
 ·((intro W hW; have hk := cell_lit (hW.2.1) 1 _ rfl; clear hW; go_simp) <;> with_reducible rfl)
 simp only [sq3, sq4]
 refine wpAnyH_take (i := 26) (v := ?_) rfl (by kernel_rfl) (by kernel_rfl) (by kernel_rfl) (fun _ _ _ h => h) (Or.inl ⟨by rfl, ?_⟩) hH35 ?_
 rotate_left
 ·((intro W hW; clear hW; go_simp) <;> with_reducible rfl)
 simp only [sq3, sq4]
 refine wpAnyH_take (i := 27) (v := ?_) rfl (by kernel_rfl) (by kernel_rfl) (by kernel_rfl) (fun _ _ _ h => h) (Or.inl ⟨by rfl, ?_⟩) hH35 ?_
 rotate_left
 ·((intro W hW; clear hW; go_simp) <;> with_reducible rfl)
 simp only [sq3, sq4]
 refine wpAnyH_take (i := 28) (v := ?_) rfl (by kernel_rfl) (by kernel_rfl) (by kernel_rfl) (fun _ _ _ h => h) (Or.inl ⟨by rfl, ?_⟩) hH35 ?_
 rotate_left
 ·((intro W hW; clear hW; go_simp) <;> with_reducible rfl)
 simp only [sq3, sq4]
 refine wpAnyH_take (i := 29) (v := ?_) rfl (by kernel_rfl) (by kernel_rfl) (by kernel_rfl) (fun _ _ _ h => h) (Or.inl ⟨by rfl, ?_⟩) hH35 ?_
 rotate_left
 ·((intro W hW; clear hW; go_simp) <;> with_reducible rfl)
 simp only [sq3, sq4]
 refine wpAnyH_take (i := 30) (v := ?_) rfl (by kernel_rfl) (by kernel_rfl) (by kernel_rfl) (fun _ _ _ h => h) (Or.inl ⟨by rfl, ?_⟩) hH35 ?_
 rotate_left
 ·((intro W hW; clear hW; go_simp) <;> with_reducible rfl)
 simp only [sq3, sq4]
 refine wpAnyH_take (i := 31) (v := ?_) rfl (by kernel_rfl) (by kernel_rfl) (by kernel_rfl) (fun _ _ _ h => h) (Or.inl ⟨by rfl, ?_⟩) hH35 ?_
 rotate_left
 ·((intro W hW; clear hW; go_simp) <;> with_reducible rfl)
 simp only [sq3, sq4]
 refine wpAnyH_take (i := 32) (v := ?_) rfl (by kernel_rfl) (by kernel_rfl) (by kernel_rfl) (fun _ _ _ h => h) (Or.inl ⟨by rfl, ?_⟩) hH35 ?_
 rotate_left
 ·((intro W hW; clear hW; go_simp) <;> with_reducible rfl)
 simp only [sq3, sq4]
 refine wpAnyH_take (i := 33) (v := ?_) rfl (by kernel_rfl) (by kernel_rfl) (by kernel_rfl) (fun _ _ _ h => h) (Or.inl ⟨by rfl, ?_⟩) hH35 ?_
 rotate_left
 ·((intro W hW; clear hW; go_simp) <;> with_reducible rfl)
 simp only [sq3, sq4]
 refine wpAnyH_take (i := 34) (v := ?_) rfl (by kernel_rfl) (by kernel_rfl) (by kernel_rfl) (fun _ _ _ h => h) (Or.inl ⟨by rfl, ?_⟩) hH35 ?_
 rotate_left
 ·((intro W hW; clear hW; go_simp) <;> with_reducible rfl)
 simp only [sq3, sq4]
 refine wpAnyH_take (i := 35) (v := ?_) rfl (by kernel_rfl) (by kernel_rfl) (by kernel_rfl) (fun _ _ _ h => h) (Or.inl ⟨by rfl, ?_⟩) hH35 ?_
 rotate_left
 ·((intro W hW; clear hW; go_simp) <;> with_reducible rfl)
 simp only [sq3, sq4]
 refine wpAnyH_take (i := 36) (v := ?_) rfl (by kernel_rfl) (by kernel_rfl) (by kernel_rfl) (fun _ _ _ h => h) (Or.inl ⟨by rfl, ?_⟩) hH35 ?_
 rotate_left
 ·((intro W hW; clear hW; go_simp) <;> with_reducible rfl)
 simp only [sq3, sq4]
 refine wpAnyH_take (i := 37) (v := ?_) rfl (by kernel_rfl) (by kernel_rfl) (by kernel_rfl) (fun _ _ _ h => h) (Or.inl ⟨by rfl, ?_⟩) hH35 ?_
 rotate_left
 ·((intro W hW; clear hW; go_simp) <;> with_reducible rfl)
 simp only [sq3, sq4]
 refine wpAnyH_take (i := 38) (v := .agg #[.int .u8 10, .int .u8 0, .int .u8 0, .int .u8 ((byteOf 5).toNat : Int)]) rfl (by kernel_rfl) (by kernel_rfl) (by kernel_rfl) (fun _ _ _ h => h) (yieldsIf_load_part (by kernel_rfl) 35 _ rfl g7 10 4 rfl _ 38 (0, 0) (fun W hW => hW.2.2.1) _ rfl _ Tryz.underlying35 rfl (by kernel_rfl)) hH35 ?_
 simp only [sq3, sq4]
 refine wpAnyH_ready (rs := [39]) (by kernel_rfl) (by simp) ?_
 refine AllReadyH.cons (o := _) rfl (fun K hK => ?_) AllReadyH.nil
 simp only [sq3]
 go_simp
 with_reducible refine (at19 5 _).mono ?_
 rintro e w36 ⟨rfl, b36⟩
 dsimp only
 replace hpB := blk_u hpB b36
 replace hdB := blk_u hdB b36
 replace hqB := blk_u hqB b36
 replace hxB := blk_u hxB b36
 replace uo := uo.below b36
 replace ub := ub.below b36
 replace po := po.below b36
 replace pb := pb.below b36
 replace gd := gd.below b36
 replace vo := vo.below b36
 replace vb := vb.below b36
 replace qo := qo.below b36
 replace qb := qb.below b36
 replace gx := gx.below b36
 replace hT := hT.below b36
 replace an_uo := an_uo.below b36
 replace an_ub := an_ub.below b36
 replace an_po := an_po.below b36
 replace an_pb := an_pb.below b36
 replace ap_pB := ap_pB.below b36
 replace an_gd := an_gd.below b36
 replace ap_dB := ap_dB.below b36
 replace an_vo := an_vo.below b36
 replace an_vb := an_vb.below b36
 replace an_qo := an_qo.below b36
 replace an_qb := an_qb.below b36
 replace ap_qB := ap_qB.below b36
 replace an_gx := an_gx.below b36
 replace ap_xB := ap_xB.below b36
 replace bel := bel.trans (b36.mono bel.size)
 clear b36
 refine hK.out _ _ ⟨hpB, hdB, hqB, hxB⟩ (fun hH37 => ?_)
 clear hK K
 refine wpAnyH_take (i := 40) (v := ?_) rfl (by kernel_rfl) (by kernel_rfl) (by kernel_rfl) (fun _ _ _ h => h) (Or.inl ⟨by rfl, ?_⟩) hH37 ?_
 rotate_left
 ·((intro W hW; clear hW; go_simp) <;> with_reducible rfl)
 simp only [sq3, sq4]
 refine wpAnyH_take (i := 41) (v := ?_) rfl (by kernel_rfl) (by kernel_rfl) (by kernel_rfl) (fun _ _ _ h => h) (Or.inl ⟨by rfl, ?_⟩) hH37 ?_
 rotate_left
 ·((intro W hW; clear hW; go_simp) <;> with_reducible rfl)
 simp only [sq3, sq4]
 refine wpAnyH_take (i := 42) (v := ?_) rfl (by kernel_rfl) (by kernel_rfl) (by kernel_rfl) (fun _ _ _ h => h) (Or.inl ⟨by rfl, ?_⟩) hH37 ?_
 rotate_left
 ·((intro W hW; clear hW; go_simp) <;> with_reducible rfl)
 simp only [sq3, sq4]
 refine wpAnyH_take (i := 43) (v := ?_) rfl (by kernel_rfl) (by kernel_rfl) (by kernel_rfl) (fun _ _ _ h => h) (Or.inl ⟨by rfl, ?_⟩) hH37 ?_
 rotate_left
 ·((intro W hW; clear hW; go_simp) <;> with_reducible rfl)
 simp only [sq3, sq4]
 refine wpAnyH_take (i := 44) (v := ?_) rfl (by kernel_rfl) (by kernel_rfl) (by kernel_rfl) (fun _ _ _ h => h) (Or.inl ⟨by rfl, ?_⟩) hH37 ?_
 rotate_left
 ·((intro W hW; have hk := cell_lit (hW.2.2.2) 1 _ rfl; clear hW; go_simp) <;> with_reducible rfl)
 simp only [sq3, sq4]
 refine wpAnyH_take (i := 45) (v := ?_) rfl (by kernel_rfl) (by kernel_rfl) (by kernel_rfl) (fun _ _ _ h => h) (Or.inl ⟨by rfl, ?_⟩) hH37 ?_
 rotate_left
 ·((intro W hW; clear hW; go_simp) <;> with_reducible rfl)
 simp only [sq3, sq4]
 refine wpAnyH_take (i := 46) (v := ?_) rfl (by kernel_rfl) (by kernel_rfl) (by kernel_rfl) (fun _ _ _ h => h) (Or.inl ⟨by rfl, ?_⟩) hH37 ?_
 rotate_left
 ·((intro W hW; clear hW; go_simp) <;> with_reducible rfl)
 simp only [sq3, sq4]
 refine wpAnyH_take (i := 47) (v := ?_) rfl (by kernel_rfl) (by kernel_rfl) (by kernel_rfl) (fun _ _ _ h => h) (Or.inl ⟨by rfl, ?_⟩) hH37 ?_
 rotate_left
 ·((intro W hW; clear hW; go_simp) <;> with_reducible rfl)
 simp only [sq3, sq4]
 refine wpAnyH_take (i := 48) (v := ?_) rfl (by kernel_rfl) (by kernel_rfl) (by kernel_rfl) (fun _ _ _ h => h) (Or.inl ⟨by rfl, ?_⟩) hH37 ?_
 rotate_left
 ·((intro W hW; clear hW; go_simp) <;> with_reducible rfl)
 simp only [sq3, sq4]
 refine wpAnyH_take (i := 49) (v := .agg #[.int .u8 8, .int .u8 8, .int .u8 8, .int .u8 8]) rfl (by kernel_rfl) (by kernel_rfl) (by kernel_rfl) (fun _ _ _ h => h) (yieldsIf_load_part (by kernel_rfl) 35 _ rfl g7 6 4 rfl _ 38 (0, 0) (fun W hW => hW.2.2.1) _ rfl _ Tryz.underlying35 rfl (by kernel_rfl)) hH37 ?_
 simp only [sq3, sq4]
 refine wpAnyH_ready (rs := [50]) (by kernel_rfl) (by simp) ?_
 refine AllReadyH.cons (o := _) rfl (fun K hK => ?_) AllReadyH.nil
 simp only [sq3]
 go_simp
 with_reducible refine (far19 _).mono ?_
 rintro e w38 ⟨rfl, b38⟩
 dsimp only
 replace hpB := blk_u hpB b38
 replace hdB := blk_u hdB b38
 replace hqB := blk_u hqB b38
 replace hxB := blk_u hxB b38
 replace uo := uo.below b38
 replace ub := ub.below b38
 replace po := po.below b38
 replace pb := pb.below b38
 replace gd := gd.below b38
 replace vo := vo.below b38
 replace vb := vb.below b38
 replace qo := qo.below b38
 replace qb := qb.below b38
 replace gx := gx.below b38
 replace hT := hT.below b38
 replace an_uo := an_uo.below b38
 replace an_ub := an_ub.below b38
 replace an_po := an_po.below b38
 replace an_pb := an_pb.below b38
 replace ap_pB := ap_pB.below b38
 replace an_gd := an_gd.below b38
 replace ap_dB := ap_dB.below b38
 replace an_vo := an_vo.below b38
 replace an_vb := an_vb.below b38
 replace an_qo := an_qo.below b38
 replace an_qb := an_qb.below b38
 replace ap_qB := ap_qB.below b38
 replace an_gx := an_gx.below b38
 replace ap_xB := ap_xB.below b38
 replace bel := bel.trans (b38.mono bel.size)
 clear b38
 refine hK.out _ _ ⟨hpB, hdB, hqB, hxB⟩ (fun hH39 => ?_)
 clear hK K
 refine wpAnyH_take (i := 51) (v := ?_) rfl (by kernel_rfl) (by kernel_rfl) (by kernel_rfl) (fun _ _ _ h => h) (Or.inl ⟨by rfl, ?_⟩) hH39 ?_
 rotate_left
 ·((intro W hW; clear hW; go_simp) <;> with_reducible rfl)
 simp only [sq3, sq4]
 refine wpAnyH_take (i := 52) (v := ?_) rfl (by kernel_rfl) (by kernel_rfl) (by kernel_rfl) (fun _ _ _ h => h) (Or.inl ⟨by rfl, ?_⟩) hH39 ?_
 rotate_left
 ·((intro W hW; clear hW; go_simp) <;> with_reducible rfl)
 simp only [sq3, sq4]
 refine wpAnyH_take (i := 53) (v := ?_) rfl (by kernel_rfl) (by kernel_rfl) (by kernel_rfl) (fun _ _ _ h => h) (Or.inl ⟨by rfl, ?_⟩) hH39 ?_
 rotate_left
 ·((intro W hW; clear hW; go_simp) <;> with_reducible rfl)
 simp only [sq3, sq4]
 refine wpAnyH_take (i := 54) (v := ?_) rfl (by kernel_rfl) (by kernel_rfl) (by kernel_rfl) (fun _ _ _ h => h) (Or.inl ⟨by rfl, ?_⟩) hH39 ?_
 rotate_left
 ·((intro W hW; clear hW; go_simp) <;> with_reducible rfl)
 simp only [sq3, sq4]
 refine wpAnyH_ready (rs := [55]) (by kernel_rfl) (by simp) ?_
 refine AllReadyH.cons (o := _) rfl (fun K hK => ?_) AllReadyH.nil
 simp only [sq3]
 go_simp
 with_reducible refine (l_aw1 _ hT).mono ?_
 rintro e w40 ⟨rfl, hT_, f_, bb⟩
 dsimp only
 have x_ := f_ _ _ _ _ hpB ap_pB
 replace hpB := x_.1
 replace ap_pB := x_.2
 clear x_
 have x_ := f_ _ _ _ _ hdB ap_dB
 replace hdB := x_.1
 replace ap_dB := x_.2
 clear x_
 have x_ := f_ _ _ _ _ hqB ap_qB
 replace hqB := x_.1
 replace ap_qB := x_.2
 clear x_
 have x_ := f_ _ _ _ _ hxB ap_xB
 replace hxB := x_.1
 replace ap_xB := x_.2
 clear x_
 have x_ := f_.sl uo an_uo
 replace uo := x_.1
 replace an_uo := x_.2
 clear x_
 have x_ := f_.sl ub an_ub
 replace ub := x_.1
 replace an_ub := x_.2
 clear x_
 have x_ := f_.sl po an_po
 replace po := x_.1
 replace an_po := x_.2
 clear x_
 have x_ := f_.sl pb an_pb
 replace pb := x_.1
 replace an_pb := x_.2
 clear x_
 have x_ := f_.sl gd an_gd
 replace gd := x_.1
 replace an_gd := x_.2
 clear x_
 have x_ := f_.sl vo an_vo
 replace vo := x_.1
 replace an_vo := x_.2
 clear x_
 have x_ := f_.sl vb an_vb
 replace vb := x_.1
 replace an_vb := x_.2
 clear x_
 have x_ := f_.sl qo an_qo
 replace qo := x_.1
 replace an_qo := x_.2
 clear x_
 have x_ := f_.sl qb an_qb
 replace qb := x_.1
 replace an_qb := x_.2
 clear x_
 have x_ := f_.sl gx an_gx
 replace gx := x_.1
 replace an_gx := x_.2
 clear x_
 clear hT
 have hT := hT_
 replace bel := bel.trans bb
 clear bb f_ hT_
 refine hK.out _ _ ⟨hpB, hdB, hqB, hxB⟩ (fun hH41 => ?_)
 clear hK K
 refine wpAnyH_take (i := 56) (v := ?_) rfl (by kernel_rfl) (by kernel_rfl) (by kernel_rfl) (fun _ _ _ h => h) (Or.inl ⟨by rfl, ?_⟩) hH41 ?_
 rotate_left
 ·((intro W hW; clear hW; go_simp) <;> with_reducible rfl)
 simp only [sq3, sq4]
 refine wpAnyH_take (i := 57) (v := ?_) rfl (by kernel_rfl) (by kernel_rfl) (by kernel_rfl) (fun _ _ _ h => h) (Or.inl ⟨by rfl, ?_⟩) hH41 ?_
 rotate_left
 ·((intro W hW; clear hW; go_simp) <;> with_reducible rfl)
 simp only [sq3, sq4]
 refine wpAnyH_take (i := 58) (v := ?_) rfl (by kernel_rfl) (by kernel_rfl) (by kernel_rfl) (fun _ _ _ h => h) (Or.inl ⟨by rfl, ?_⟩) hH41 ?_
 rotate_left
 ·((intro W hW; clear hW; go_simp) <;> with_reducible rfl)
 simp only [sq3, sq4]
 refine wpAnyH_take (i := 59) (v := ?_) rfl (by kernel_rfl) (by kernel_rfl) (by kernel_rfl) (fun _ _ _ h => h) (Or.inl ⟨by rfl, ?_⟩) hH41 ?_
 rotate_left
 ·((intro W hW; clear hW; go_simp) <;> with_reducible rfl)
 simp only [sq3, sq4]
 refine wpAnyH_ready (rs := [60]) (by kernel_rfl) (by simp) ?_
 refine AllReadyH.cons (o := _) rfl (fun K hK => ?_) AllReadyH.nil
 simp only [sq3]
 go_simp
 with_reducible refine (l_aw2 _ hT).mono ?_
 rintro e w42 ⟨rfl, hT_, f_, bb⟩
 dsimp only
 have x_ := f_ _ _ _ _ hpB ap_pB
 replace hpB := x_.1
 replace ap_pB := x_.2
 clear x_
 have x_ := f_ _ _ _ _ hdB ap_dB
 replace hdB := x_.1
 replace ap_dB := x_.2
 clear x_
 have x_ := f_ _ _ _ _ hqB ap_qB
 replace hqB := x_.1
 replace ap_qB := x_.2
 clear x_
 have x_ := f_ _ _ _ _ hxB ap_xB
 replace hxB := x_.1
 replace ap_xB := x_.2
 clear x_
 have x_ := f_.sl uo an_uo
 replace uo := x_.1
 replace an_uo := x_.2
 clear x_
 have x_ := f_.sl ub an_ub
 replace ub := x_.1
 replace an_ub := x_.2
 clear x_
 have x_ := f_.sl po an_po
 replace po := x_.1
 replace an_po := x_.2
 clear x_
 have x_ := f_.sl pb an_pb
 replace pb := x_.1
 replace an_pb := x_.2
 clear x_
 have x_ := f_.sl gd an_gd
 replace gd := x_.1
 replace an_gd := x_.2
 clear x_
 have x_ := f_.sl vo an_vo
 replace vo := x_.1
 replace an_vo := x_.2
 clear x_
 have x_ := f_.sl vb an_vb
 replace vb := x_.1
 replace an_vb := x_.2
 clear x_
 have x_ := f_.sl qo an_qo
 replace qo := x_.1
 replace an_qo := x_.2
 clear x_
 have x_ := f_.sl qb an_qb
 replace qb := x_.1
 replace an_qb := x_.2
 clear x_
 have x_ := f_.sl gx an_gx
 replace gx := x_.1
 replace an_gx := x_.2
 clear x_
 clear hT
 have hT := hT_
 replace bel := bel.trans bb
 clear bb f_ hT_
 refine hK.out _ _ ⟨hpB, hdB, hqB, hxB⟩ (fun hH43 => ?_)
 clear hK K
 refine wpAnyH_take (i := 61) (v := ?_) rfl (by kernel_rfl) (by kernel_rfl) (by kernel_rfl) (fun _ _ _ h => h) (Or.inl ⟨by rfl, ?_⟩) hH43 ?_
 rotate_left
 ·((intro W hW; clear hW; go_simp) <;> with_reducible rfl)
 simp only [sq3, sq4]
 refine wpAnyH_take (i := 62) (v := ?_) rfl (by kernel_rfl) (by kernel_rfl) (by kernel_rfl) (fun _ _ _ h => h) (Or.inl ⟨by rfl, ?_⟩) hH43 ?_
 rotate_left
 ·((intro W hW; clear hW; go_simp) <;> with_reducible rfl)
 simp only [sq3, sq4]
 refine wpAnyH_take (i := 63) (v := ?_) rfl (by kernel_rfl) (by kernel_rfl) (by kernel_rfl) (fun _ _ _ h => h) (Or.inl ⟨by rfl, ?_⟩) hH43 ?_
 rotate_left
 ·((intro W hW; clear hW; go_simp) <;> with_reducible rfl)
 simp only [Act.put, List.getElem_toArray, List.getElem_cons_zero, List.getElem_cons_succ, List.setIfInBounds_toArray, List.set_cons_zero]
 refine wpAnyH_done (by kernel_rfl) ?_ _
 go_wp2_with fail
 go_ret
 exact ⟨rfl, bel⟩
end Go.Proofs.YtbdaejodbcjmfaaGreat
