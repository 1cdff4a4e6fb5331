/- Texts put together: Na1. -/
import Derived.Test.YtbdaejodbcjmfaaGreatK1
import Derived.Test.YtbdaejodbcjmfaaGreatK6
import Derived.Test.YtbdaejodbcjmfaaGreatK8
import Derived.Deep.CutRange
namespace Go.Proofs.YtbdaejodbcjmfaaGreat
open Go.RowKit
set_option linter.unusedVariables false
set_option linter.unusedSimpArgs false
set_option maxRecDepth 100000
set_option maxHeartbeats 16000000

theorem udGet_er (fl pt pr : Int) (a0 a1 a2 a3 b0 b1 b2 b3 : UInt8) (b : List UInt8) : (udGet fl pt pr a0 a1 a2 a3 b0 b1 b2 b3 b).2.2 = udErr fl pt pr a0 a1 a2 a3 b0 b1 b2 b3 b := by
 unfold udGet
 split
 ·rfl
 ·rename_i h
  simp only [ne_eq, Decidable.not_not] at h
  exact h.symm
theorem udget_pos (tos id fl pt ttl : Int) (a0 a1 a2 a3 b0 b1 b2 b3 : UInt8) (So Sb : Option Addr) (no co nb cb : Nat) {lb : List UInt8} (w : World) (hb : Sl w Sb nb cb lb) (hm : nb ≤ 100000) (he : udErr fl pt 17 a0 a1 a2 a3 b0 b1 b2 b3 lb = 0) : Calls Tryz.prog 24 #[.agg #[.int .i64 tos, .int .i64 id, .int .i64 fl, .int .i64 pt, .int .i64 ttl, .int .i64 17, .int .u8 (a0.toNat : Int), .int .u8 (a1.toNat : Int), .int .u8 (a2.toNat : Int), .int .u8 (a3.toNat : Int), .int .u8 (b0.toNat : Int), .int .u8 (b1.toNat : Int), .int .u8 (b2.toNat : Int), .int .u8 (b3.toNat : Int), .slice So no co, .slice Sb nb cb]] w (UdPost (udGet fl pt 17 a0 a1 a2 a3 b0 b1 b2 b3 lb) w) := by
 have h9 : pt = 0 ∧ fl % 2 = 0 := by
  by_cases h : pt = 0 ∧ fl % 2 = 0
  ·exact h
  ·unfold udErr at he
   rw [if_neg (by decide), if_pos h] at he
   cases he
 have hw : (decide (pt = 0) && decide (fl % 2 = 0)) = true := by rw [decide_eq_true h9.1, decide_eq_true h9.2]; rfl
 have hn : 8 ≤ lb.length := by
  rcases Nat.lt_or_ge lb.length 8 with h | h
  ·unfold udErr at he
   rw [if_neg (by decide), if_neg (not_not_intro h9), if_pos h] at he
   cases he
  ·exact h
 obtain ⟨h0, h1, h2, h3, h4, h5, h6, h7, r, rfl⟩ := list8 lb hn
 have hl := hb.1
 rw [ud_at rfl rfl hw] at he
 split at he
 ·cases he
 rename_i g1
 split at he
 ·cases he
 rename_i g2
 split at he
 ·cases he
 rename_i g3
 by_cases hz : be [h6, h7] = 0
 ·exact udget_7 tos id fl pt ttl a0 a1 a2 a3 b0 b1 b2 b3 So Sb no co nb cb h0 h1 h2 h3 h4 h5 h6 h7 r _ _ w hb hm rfl rfl hw (by omega) (by omega) hz
 ·exact udget_8 tos id fl pt ttl a0 a1 a2 a3 b0 b1 b2 b3 So Sb no co nb cb h0 h1 h2 h3 h4 h5 h6 h7 r _ _ w hb hm rfl rfl hw (by omega) (by omega) hz (Decidable.not_not.1 (fun hc => g3 ⟨hz, hc⟩))
theorem udget_is (tos id fl pt ttl : Int) (a0 a1 a2 a3 b0 b1 b2 b3 : UInt8) (So Sb : Option Addr) (no co nb cb : Nat) {lb ld : List UInt8} {df dt : Int} {nd : Nat} (w : World) (hb : Sl w Sb nb cb lb) (hm : nb ≤ 100000) (hg : udGet fl pt 17 a0 a1 a2 a3 b0 b1 b2 b3 lb = ((df, dt), ld, 0)) (hl : ld.length = nd) : Calls Tryz.prog 24 #[.agg #[.int .i64 tos, .int .i64 id, .int .i64 fl, .int .i64 pt, .int .i64 ttl, .int .i64 17, .int .u8 (a0.toNat : Int), .int .u8 (a1.toNat : Int), .int .u8 (a2.toNat : Int), .int .u8 (a3.toNat : Int), .int .u8 (b0.toNat : Int), .int .u8 (b1.toNat : Int), .int .u8 (b2.toNat : Int), .int .u8 (b3.toNat : Int), .slice So no co, .slice Sb nb cb]] w fun e w' => ∃ A c, e = .returned (.tuple #[.agg #[.int .i64 df, .int .i64 dt, .slice A nd c], .int .i64 0]) ∧ Sl w' A nd c ld ∧ Fr w.heap.size A nd ∧ Below w.heap.size w w' := by
 refine (udget_pos tos id fl pt ttl a0 a1 a2 a3 b0 b1 b2 b3 So Sb no co nb cb w hb hm (by rw [← udGet_er, hg])).mono ?_
 rintro e w' ⟨x, y, q, A, c, er, rfl, hs, hf, bel, hq⟩
 rw [hg] at hq
 simp only [Prod.mk.injEq] at hq
 obtain ⟨⟨rfl, rfl⟩, rfl, rfl⟩ := hq
 rw [hl] at hs hf ⊢
 exact ⟨A, c, rfl, hs, hf, bel⟩
theorem udput_is (tos id fl pt ttl pr : Int) (a0 a1 a2 a3 b0 b1 b2 b3 : UInt8) (So Sb : Option Addr) (no co nb cb : Nat) (df dt : Int) (D : Option Addr) (nd cd : Nat) {lo ld : List UInt8} (w : World) (ho : Sl w So no co lo) (hb : Sl w D nd cd ld) (h1 : portOk df = true) (h2 : portOk dt = true) (hn : nd ≤ 1472) (hno : no ≤ 100000) : Calls Tryz.prog 25 #[.agg #[.int .i64 tos, .int .i64 id, .int .i64 fl, .int .i64 pt, .int .i64 ttl, .int .i64 pr, .int .u8 (a0.toNat : Int), .int .u8 (a1.toNat : Int), .int .u8 (a2.toNat : Int), .int .u8 (a3.toNat : Int), .int .u8 (b0.toNat : Int), .int .u8 (b1.toNat : Int), .int .u8 (b2.toNat : Int), .int .u8 (b3.toNat : Int), .slice So no co, .slice Sb nb cb], .agg #[.int .i64 df, .int .i64 dt, .slice D nd cd]] w fun e w' => ∃ Ao co' Ab cb', e = .returned (.tuple #[.agg #[.int .i64 tos, .int .i64 id, .int .i64 fl, .int .i64 pt, .int .i64 ttl, .int .i64 17, .int .u8 (a0.toNat : Int), .int .u8 (a1.toNat : Int), .int .u8 (a2.toNat : Int), .int .u8 (a3.toNat : Int), .int .u8 (b0.toNat : Int), .int .u8 (b1.toNat : Int), .int .u8 (b2.toNat : Int), .int .u8 (b3.toNat : Int), .slice Ao no co', .slice Ab (8 + nd) cb'], .int .i64 0]) ∧ Sl w' Ao no co' lo ∧ Sl w' Ab (8 + nd) cb' (udBytes a0 a1 a2 a3 b0 b1 b2 b3 df dt ld) ∧ Fr w.heap.size Ao no ∧ Fr w.heap.size Ab (8 + nd) ∧ Below w.heap.size w w' := by
 refine (udput_ok tos id fl pt ttl pr a0 a1 a2 a3 b0 b1 b2 b3 So Sb no co nb cb df dt D nd cd lo ld w ho hb h1 h2 hn hno).mono ?_
 rintro e w' ⟨f0, f1, f2, f3, f4, f5, g0, g1, g2, g3, g4, g5, g6, g7, lo', lb', Ao, Ab, co', cb', er', rfl, ho', hbb, fo, fb, bel, hq⟩
 have hP : udPut tos id fl pt ttl a0 a1 a2 a3 b0 b1 b2 b3 lo df dt ld = (([tos, id, fl, pt, ttl, 17], [a0, a1, a2, a3, b0, b1, b2, b3]), (lo, udBytes a0 a1 a2 a3 b0 b1 b2 b3 df dt ld), 0) := by
  unfold udPut
  rw [if_neg (by rw [h1, h2]; decide), if_neg (by rw [hb.1]; omega)]
 rw [hP] at hq
 simp only [Prod.mk.injEq, List.cons.injEq, and_true] at hq
 obtain ⟨⟨⟨rfl, rfl, rfl, rfl, rfl, rfl⟩, rfl, rfl, rfl, rfl, rfl, rfl, rfl, rfl⟩, ⟨rfl, rfl⟩, rfl⟩ := hq
 have hl : (udBytes g0 g1 g2 g3 g4 g5 g6 g7 df dt ld).length = 8 + nd := by rw [udBytes_len, hb.1]
 have hl2 := ho.1
 rw [hl] at hbb fb ⊢
 rw [hl2] at ho' fo ⊢
 exact ⟨Ao, co', Ab, cb', rfl, ho', hbb, fo, fb, bel⟩
/-- What ports' Make, In, Live answer (told for the walk of nat's own functions). -/
abbrev MakeC (lo gt : Nat) (s s' : Ts) (pr : Int) (a0 a1 a2 a3 : UInt8) (p t sc : Int) (m : Mp) (r : Int) : Prop := ∀ W, Tp lo gt W s → Calls Tryz.prog 110 #[.pointer (some ⟨gt, 0, none⟩), .agg #[.int .i64 pr, .int .u8 (a0.toNat : Int), .int .u8 (a1.toNat : Int), .int .u8 (a2.toNat : Int), .int .u8 (a3.toNat : Int), .int .i64 p], .int .i64 t, .int .i64 sc] W fun e w' => e = .returned (.tuple #[.agg #[.int .i64 m.pr, .int .i64 m.o, .int .u8 (m.ad.a.toNat : Int), .int .u8 (m.ad.b.toNat : Int), .int .u8 (m.ad.c.toNat : Int), .int .u8 (m.ad.d.toNat : Int), .int .i64 m.i, .int .i64 m.k, .int .i64 m.u], .int .i64 r]) ∧ Tp lo gt w' s' ∧ Fap gt W w' ∧ Below lo W w'
abbrev InC (lo gt : Nat) (s s' : Ts) (pr o t : Int) (m : Mp) : Prop := ∀ W, Tp lo gt W s → Calls Tryz.prog 29 #[.pointer (some ⟨gt, 0, none⟩), .int .i64 pr, .int .i64 o, .int .i64 t] W fun e w' => e = .returned (.tuple #[.agg #[.int .i64 m.pr, .int .i64 m.o, .int .u8 (m.ad.a.toNat : Int), .int .u8 (m.ad.b.toNat : Int), .int .u8 (m.ad.c.toNat : Int), .int .u8 (m.ad.d.toNat : Int), .int .i64 m.i, .int .i64 m.k, .int .i64 m.u], .bool true]) ∧ Tp lo gt w' s' ∧ Fap gt W w' ∧ Below lo W w'
abbrev InE (lo gt : Nat) (s s' : Ts) (pr o t : Int) : Prop := ∀ W, Tp lo gt W s → Calls Tryz.prog 29 #[.pointer (some ⟨gt, 0, none⟩), .int .i64 pr, .int .i64 o, .int .i64 t] W fun e w' => e = .returned (.tuple #[.agg #[.int .i64 0, .int .i64 0, .int .u8 0, .int .u8 0, .int .u8 0, .int .u8 0, .int .i64 0, .int .i64 0, .int .i64 0], .bool false]) ∧ Tp lo gt w' s' ∧ Fap gt W w' ∧ Below lo W w'
abbrev LiveC (lo gt : Nat) (s s' : Ts) (pr o t sc : Int) (b : Bool) : Prop := ∀ W, Tp lo gt W s → Calls Tryz.prog 67 #[.pointer (some ⟨gt, 0, none⟩), .int .i64 pr, .int .i64 o, .int .i64 t, .int .i64 sc] W fun e w' => e = .returned (.bool b) ∧ Tp lo gt w' s' ∧ Fap gt W w' ∧ Below lo W w'
theorem nperm_y {x : Int} (w : World) (h1 : x ≥ 10) (h2 : x ≤ 86400) : Calls Tryz.prog 30 #[.int .i64 x] w fun e w' => e = .returned (.bool true) ∧ w = w' := by
 skip
 skip
 go_enter Tryz.func30, Tryz.ntmps30
 go_wp2_with fail
 go_ret
 exact ⟨rfl, rfl⟩
theorem nperm_n {x : Int} (w : World) (h1 : x < 10) : Calls Tryz.prog 30 #[.int .i64 x] w fun e w' => e = .returned (.bool false) ∧ w = w' := by
 have h1_ : decide (x ≥ 10) = false := decide_eq_false (by omega)
 have h2_ : decide (10 ≤ x) = false := decide_eq_false (by omega)
 clear h1
 skip
 go_enter Tryz.func30, Tryz.ntmps30
 go_wp2_with fail
 go_ret
 exact ⟨rfl, rfl⟩
theorem nnew_any {lo gt : Nat} {s : Ts} (w : World) (hT : Tp lo gt w s) : Calls Tryz.prog 12 #[.pointer (some ⟨gt, 0, none⟩), .agg #[.int .i64 120, .int .i64 7200, .int .i64 30]] w fun e w' => ∃ gn gk, e = .returned (.tuple #[.pointer (some ⟨gn, 0, none⟩), .int .i64 0]) ∧ Np lo gn gt gk w' s ⟨128, []⟩ ∧ Below w.heap.size w w' := by
 have hlo := hT.lo_le
 have hP := hT
 clear hT
 have bel := Below.refl w.heap.size w
 go_enter Tryz.func12, Tryz.ntmps12
 go_wp2_with (first | ((with_reducible show wpList _ _ _ (⟨some 3, _, _, _, _, _⟩ :: _) _ _); refine wpList_box_n rfl 31 (.tmp 1) rfl #[.int .i64 120, .int .i64 7200, .int .i64 30] rfl ?_; intro g3 w1 ge lt hh bb; have oxB := Nat.le_trans bel.size ge; replace hP := hP.below bb; replace bel := bel.trans (bb.mono bel.size); have hxB := hh; clear hh lt ge bb; have R9 := cell_lit hxB 0 _ rfl))
 try clear R9
 with_reducible refine (nperm_y (x := 120) _ (by decide) (by decide)).mono ?_
 rintro e _ ⟨rfl, rfl⟩
 have R14 := cell_lit hxB 1 _ rfl
 go_wp2_with fail
 clear R14
 with_reducible refine (nperm_y (x := 7200) _ (by decide) (by decide)).mono ?_
 rintro e _ ⟨rfl, rfl⟩
 have R20 := cell_lit hxB 2 _ rfl
 go_wp2_with fail
 clear R20
 with_reducible refine (nperm_y (x := 30) _ (by decide) (by decide)).mono ?_
 rintro e _ ⟨rfl, rfl⟩
 go_wp2_with fail
 have HLO_ := Nat.le_trans hlo bel.size
 with_reducible refine (knew_any (rm := 128) _ (by decide) (by decide)).mono ?_
 rintro e w2 ⟨gk, rfl, hK, b2⟩
 replace hxB := blk_u hxB b2
 replace hP := hP.below b2
 replace bel := bel.trans (b2.mono bel.size)
 clear b2
 replace hK : Tk lo gk w2 ⟨128, []⟩ := hK.lo_mono HLO_
 clear HLO_
 have R33 := Lib.hid (range_lit hxB 0 3 [.int .i64 120, .int .i64 7200, .int .i64 30] rfl)
 go_wp2_with (first | ((with_reducible show wpList _ _ _ (⟨some 33, _, _, _, _, _⟩ :: _) _ _); refine wpList_load_rng 31 (.tmp 3) rfl (by kernel_rfl) _ _ rfl _ R33.out _ Tryz.underlying31 rfl (by kernel_rfl) ?_) | ((with_reducible show wpList _ _ _ (⟨some 35, _, _, _, _, _⟩ :: _) _ _); refine wpList_box_n rfl 82 (.tmp 34) rfl #[.pointer (some ⟨gt, 0, none⟩), .pointer (some ⟨gk, 0, none⟩), .int .i64 120, .int .i64 7200, .int .i64 30] rfl ?_; intro g35 w3 ge lt hh bb; have d_xB_nt := ne_new (hlt hxB) ge; have ont := Nat.le_trans bel.size ge; replace hxB := blk_u hxB bb; replace hP := hP.below bb; replace hK := hK.below bb; replace bel := bel.trans (bb.mono bel.size); have hnt := hh; clear hh lt ge bb))
 try clear R33
 exact bodyPost_ret (v := .tuple #[.pointer (some ⟨g35, 0, none⟩), .int .i64 0]) (by simp [results, Tryz.results12, go_sem]) rfl ⟨g35, gk, rfl, ⟨hnt, Nat.le_trans hlo ont, hP, hK⟩, bel⟩
theorem nnew_no {gt : Nat} (w : World) : Calls Tryz.prog 12 #[.pointer (some ⟨gt, 0, none⟩), .agg #[.int .i64 9, .int .i64 7200, .int .i64 30]] w fun e w' => e = .returned (.tuple #[.pointer none, .int .i64 1]) ∧ Below w.heap.size w w' := by
 have bel := Below.refl w.heap.size w
 go_enter Tryz.func12, Tryz.ntmps12
 go_wp2_with (first | ((with_reducible show wpList _ _ _ (⟨some 3, _, _, _, _, _⟩ :: _) _ _); refine wpList_box_n rfl 31 (.tmp 1) rfl #[.int .i64 9, .int .i64 7200, .int .i64 30] rfl ?_; intro g3 w1 ge lt hh bb; have oxB := Nat.le_trans bel.size ge; replace bel := bel.trans (bb.mono bel.size); have hxB := hh; clear hh lt ge bb; have R9 := cell_lit hxB 0 _ rfl))
 try clear R9
 with_reducible refine (nperm_n (x := 9) _ (by decide)).mono ?_
 rintro e _ ⟨rfl, rfl⟩
 go_wp2_with fail
 exact bodyPost_ret (v := .tuple #[.pointer none, .int .i64 1]) (by simp [results, Tryz.results12, go_sem]) rfl ⟨rfl, bel⟩
theorem nat_some {lo gn gt gk : Nat} {s : Ts} {k : Ks} {s' : Ts} {pr o t : Int} {m : Mp} (w : World) (hT : Np lo gn gt gk w s k) (hc : InC lo gt s s' pr o t m) : Calls Tryz.prog 66 #[.pointer (some ⟨gn, 0, none⟩), .int .i64 pr, .int .i64 o, .int .i64 t] w fun e w' => e = .returned (.tuple #[.agg #[.int .i64 m.pr, .int .i64 m.o, .int .u8 (m.ad.a.toNat : Int), .int .u8 (m.ad.b.toNat : Int), .int .u8 (m.ad.c.toNat : Int), .int .u8 (m.ad.d.toNat : Int), .int .i64 m.i, .int .i64 m.k, .int .i64 m.u], .int .i64 0]) ∧ Np lo gn gt gk w' s' k ∧ Fn gn gt gk w w' ∧ Below lo w w' := by
 have hlo : lo ≤ w.heap.size := hT.lo_le
 have HLO := Lib.hid hlo
 have hnt := hT.nat
 have fr := Fn.refl gn gt gk w
 have bel := Below.refl lo w
 go_enter Tryz.func66, Tryz.ntmps66
 go_wp2_with (first | ((with_reducible show wpList _ _ _ (⟨some 8, _, _, _, _, _⟩ :: _) _ _); refine wpList_new_a rfl 65 rfl #[.int .i64 0, .int .i64 0, .int .u8 0, .int .u8 0, .int .u8 0, .int .u8 0, .int .i64 0, .int .i64 0, .int .i64 0] (by kernel_rfl) ?_; intro g8 w1 ge hh bb; have ap_rB := hT.ap ge; have d_nt_rB := ne_new (hlt hnt) ge; have orB := Nat.le_trans (Nat.le_trans hlo bel.size) ge; have prB := Nat.le_trans bel.size ge; replace hnt := blk_u hnt bb; replace hT := hT.below bb; replace fr := fr.below bb; replace ap_rB := ap_rB.below bb; replace bel := bel.trans (bb.mono (Nat.le_trans hlo bel.size)); have hrB := hh; clear hh ge bb; have R16 := cell_lit hnt 0 _ rfl))
 try clear R16
 with_reducible refine (np_t hT (hc _ hT.tp)).mono ?_
 rintro e w2 ⟨rfl, hT_, f_, bb⟩
 clear hnt
 have x_ := f_ _ _ _ _ hrB ap_rB
 replace hrB := x_.1
 replace ap_rB := x_.2
 clear x_
 replace fr := fr.trans f_
 clear hT
 have hT := hT_
 replace bel := bel.trans bb
 clear bb f_ hT_
 have hnt := hT.nat
 go_wp2_with (first | ((with_reducible show wpList _ _ _ (⟨some 10, _, _, _, _, _⟩ :: _) _ _); refine wpList_new_a rfl 65 rfl #[.int .i64 0, .int .i64 0, .int .u8 0, .int .u8 0, .int .u8 0, .int .u8 0, .int .i64 0, .int .i64 0, .int .i64 0] (by kernel_rfl) ?_; intro g10 w3 ge hh bb; have ap_mB := hT.ap ge; have d_rB_mB := ne_new (hlt hrB) ge; have d_nt_mB := ne_new (hlt hnt) ge; have omB := Nat.le_trans (Nat.le_trans hlo bel.size) ge; have pmB := Nat.le_trans bel.size ge; replace hrB := blk_u hrB bb; replace hnt := blk_u hnt bb; replace hT := hT.below bb; replace fr := fr.below bb; replace ap_rB := ap_rB.below bb; replace ap_mB := ap_mB.below bb; replace bel := bel.trans (bb.mono (Nat.le_trans hlo bel.size)); have hmB := hh; clear hh ge bb) | ((with_reducible show wpList _ _ _ (⟨none, Op.store _ (.tmp 10) _, _, _, _, _⟩ :: _) _ _); refine wpList_store_blk rfl 65 (.tmp 10) (.tmp 21) rfl g10 rfl _ rfl _ 65 hmB (by rfl) (by kernel_rfl) (by kernel_rfl) ?_; intro w4 hq gr; replace hrB := blk_a hrB gr d_rB_mB; replace hnt := blk_a hnt gr d_nt_mB; replace hT := hT.away ap_mB gr hmB; replace fr := fr.newer ap_mB gr pmB; replace ap_rB := ap_rB.grown ap_mB gr; replace ap_mB := ap_mB.grown ap_mB gr; replace bel := below_grown bel gr omB (Nat.le_trans hlo bel.size); clear hmB; have hmB := hq; clear hq gr; have R26 := Lib.hid (range_lit hmB 0 9 [.int .i64 m.pr, .int .i64 m.o, .int .u8 (m.ad.a.toNat : Int), .int .u8 (m.ad.b.toNat : Int), .int .u8 (m.ad.c.toNat : Int), .int .u8 (m.ad.d.toNat : Int), .int .i64 m.i, .int .i64 m.k, .int .i64 m.u] rfl)) | ((with_reducible show wpList _ _ _ (⟨some 26, _, _, _, _, _⟩ :: _) _ _); refine wpList_load_rng 65 (.tmp 10) rfl (by kernel_rfl) _ _ rfl _ R26.out _ Tryz.underlying65 rfl (by kernel_rfl) ?_) | ((with_reducible show wpList _ _ _ (⟨none, Op.store _ (.tmp 8) _, _, _, _, _⟩ :: _) _ _); refine wpList_store_blk rfl 65 (.tmp 8) (.tmp 26) rfl g8 rfl _ rfl _ 65 hrB (by rfl) (by kernel_rfl) (by kernel_rfl) ?_; intro w5 hq gr; replace hnt := blk_a hnt gr d_nt_rB; replace hmB := blk_a hmB gr (ne_symm d_rB_mB); replace hT := hT.away ap_rB gr hrB; replace fr := fr.newer ap_rB gr prB; replace ap_rB := ap_rB.grown ap_rB gr; replace ap_mB := ap_mB.grown ap_rB gr; replace bel := below_grown bel gr orB (Nat.le_trans hlo bel.size); clear hrB; have hrB := hq; clear hq gr))
 try clear R26
 exact bodyPost_ret (results_cell_tmp_row rfl _ _ _ _ _ _ _ rfl hrB Tryz.underlying65 rfl (by kernel_rfl) (.int .i64 0) rfl) rfl ⟨rfl, hT, fr, bel⟩
theorem nat_none {lo gn gt gk : Nat} {s : Ts} {k : Ks} {s' : Ts} {pr o t : Int} (w : World) (hT : Np lo gn gt gk w s k) (hc : InE lo gt s s' pr o t) : Calls Tryz.prog 66 #[.pointer (some ⟨gn, 0, none⟩), .int .i64 pr, .int .i64 o, .int .i64 t] w fun e w' => e = .returned (.tuple #[.agg #[.int .i64 0, .int .i64 0, .int .u8 0, .int .u8 0, .int .u8 0, .int .u8 0, .int .i64 0, .int .i64 0, .int .i64 0], .int .i64 6]) ∧ Np lo gn gt gk w' s' k ∧ Fn gn gt gk w w' ∧ Below lo w w' := by
 have hlo : lo ≤ w.heap.size := hT.lo_le
 have HLO := Lib.hid hlo
 have hnt := hT.nat
 have fr := Fn.refl gn gt gk w
 have bel := Below.refl lo w
 go_enter Tryz.func66, Tryz.ntmps66
 go_wp2_with (first | ((with_reducible show wpList _ _ _ (⟨some 8, _, _, _, _, _⟩ :: _) _ _); refine wpList_new_a rfl 65 rfl #[.int .i64 0, .int .i64 0, .int .u8 0, .int .u8 0, .int .u8 0, .int .u8 0, .int .i64 0, .int .i64 0, .int .i64 0] (by kernel_rfl) ?_; intro g8 w1 ge hh bb; have ap_rB := hT.ap ge; have d_nt_rB := ne_new (hlt hnt) ge; have orB := Nat.le_trans (Nat.le_trans hlo bel.size) ge; have prB := Nat.le_trans bel.size ge; replace hnt := blk_u hnt bb; replace hT := hT.below bb; replace fr := fr.below bb; replace ap_rB := ap_rB.below bb; replace bel := bel.trans (bb.mono (Nat.le_trans hlo bel.size)); have hrB := hh; clear hh ge bb; have R16 := cell_lit hnt 0 _ rfl))
 try clear R16
 with_reducible refine (np_t hT (hc _ hT.tp)).mono ?_
 rintro e w2 ⟨rfl, hT_, f_, bb⟩
 clear hnt
 have x_ := f_ _ _ _ _ hrB ap_rB
 replace hrB := x_.1
 replace ap_rB := x_.2
 clear x_
 replace fr := fr.trans f_
 clear hT
 have hT := hT_
 replace bel := bel.trans bb
 clear bb f_ hT_
 have hnt := hT.nat
 go_wp2_with (first | ((with_reducible show wpList _ _ _ (⟨some 10, _, _, _, _, _⟩ :: _) _ _); refine wpList_new_a rfl 65 rfl #[.int .i64 0, .int .i64 0, .int .u8 0, .int .u8 0, .int .u8 0, .int .u8 0, .int .i64 0, .int .i64 0, .int .i64 0] (by kernel_rfl) ?_; intro g10 w3 ge hh bb; have ap_mB := hT.ap ge; have d_rB_mB := ne_new (hlt hrB) ge; have d_nt_mB := ne_new (hlt hnt) ge; have omB := Nat.le_trans (Nat.le_trans hlo bel.size) ge; have pmB := Nat.le_trans bel.size ge; replace hrB := blk_u hrB bb; replace hnt := blk_u hnt bb; replace hT := hT.below bb; replace fr := fr.below bb; replace ap_rB := ap_rB.below bb; replace ap_mB := ap_mB.below bb; replace bel := bel.trans (bb.mono (Nat.le_trans hlo bel.size)); have hmB := hh; clear hh ge bb) | ((with_reducible show wpList _ _ _ (⟨none, Op.store _ (.tmp 10) _, _, _, _, _⟩ :: _) _ _); refine wpList_store_blk rfl 65 (.tmp 10) (.tmp 21) rfl g10 rfl _ rfl _ 65 hmB (by rfl) (by kernel_rfl) (by kernel_rfl) ?_; intro w4 hq gr; replace hrB := blk_a hrB gr d_rB_mB; replace hnt := blk_a hnt gr d_nt_mB; replace hT := hT.away ap_mB gr hmB; replace fr := fr.newer ap_mB gr pmB; replace ap_rB := ap_rB.grown ap_mB gr; replace ap_mB := ap_mB.grown ap_mB gr; replace bel := below_grown bel gr omB (Nat.le_trans hlo bel.size); clear hmB; have hmB := hq; clear hq gr) | ((with_reducible show wpList _ _ _ (⟨none, Op.store _ (.tmp 8) _, _, _, _, _⟩ :: _) _ _); refine wpList_store_blk rfl 65 (.tmp 8) (.tmp 25) rfl g8 rfl _ rfl _ 65 hrB (by rfl) (by kernel_rfl) (by kernel_rfl) ?_; intro w5 hq gr; replace hnt := blk_a hnt gr d_nt_rB; replace hmB := blk_a hmB gr (ne_symm d_rB_mB); replace hT := hT.away ap_rB gr hrB; replace fr := fr.newer ap_rB gr prB; replace ap_rB := ap_rB.grown ap_rB gr; replace ap_mB := ap_mB.grown ap_rB gr; replace bel := below_grown bel gr orB (Nat.le_trans hlo bel.size); clear hrB; have hrB := hq; clear hq gr))
 exact bodyPost_ret (results_cell_tmp_row rfl _ _ _ _ _ _ _ rfl hrB Tryz.underlying65 rfl (by kernel_rfl) (.int .i64 6) rfl) rfl ⟨rfl, hT, fr, bel⟩
theorem nmap_ok {lo gn gt gk : Nat} {s : Ts} {k : Ks} {s' : Ts} {tos id fl pt ttl pr p t sc : Int} {a0 a1 a2 a3 b0 b1 b2 b3 : UInt8} {So Sb : Option Addr} {no co nb cb : Nat} {m : Mp} (w : World) (hT : Np lo gn gt gk w s k) (hp : p ≠ 0) (hc : MakeC lo gt s s' pr a0 a1 a2 a3 p t sc m 0) : Calls Tryz.prog 75 #[.pointer (some ⟨gn, 0, none⟩), .agg #[.int .i64 tos, .int .i64 id, .int .i64 fl, .int .i64 pt, .int .i64 ttl, .int .i64 pr, .int .u8 (a0.toNat : Int), .int .u8 (a1.toNat : Int), .int .u8 (a2.toNat : Int), .int .u8 (a3.toNat : Int), .int .u8 (b0.toNat : Int), .int .u8 (b1.toNat : Int), .int .u8 (b2.toNat : Int), .int .u8 (b3.toNat : Int), .slice So no co, .slice Sb nb cb], .int .i64 p, .int .i64 t, .int .i64 sc] w fun e w' => e = .returned (.tuple #[.agg #[.int .i64 m.pr, .int .i64 m.o, .int .u8 (m.ad.a.toNat : Int), .int .u8 (m.ad.b.toNat : Int), .int .u8 (m.ad.c.toNat : Int), .int .u8 (m.ad.d.toNat : Int), .int .i64 m.i, .int .i64 m.k, .int .i64 m.u], .int .i64 0]) ∧ Np lo gn gt gk w' s' k ∧ Fn gn gt gk w w' ∧ Below lo w w' := by
 have hlo : lo ≤ w.heap.size := hT.lo_le
 have HLO := Lib.hid hlo
 have hnt := hT.nat
 have fr := Fn.refl gn gt gk w
 have hp1 : (p == 0) = false := beq_eq_false_iff_ne.2 hp
 clear hp
 have bel := Below.refl lo w
 go_enter Tryz.func75, Tryz.ntmps75
 go_wp2_with (first | ((with_reducible show wpList _ _ _ (⟨some 6, _, _, _, _, _⟩ :: _) _ _); refine wpList_box_n rfl 38 (.tmp 1) rfl #[.int .i64 tos, .int .i64 id, .int .i64 fl, .int .i64 pt, .int .i64 ttl, .int .i64 pr, .int .u8 (a0.toNat : Int), .int .u8 (a1.toNat : Int), .int .u8 (a2.toNat : Int), .int .u8 (a3.toNat : Int), .int .u8 (b0.toNat : Int), .int .u8 (b1.toNat : Int), .int .u8 (b2.toNat : Int), .int .u8 (b3.toNat : Int), .slice So no co, .slice Sb nb cb] rfl ?_; intro g6 w1 ge lt hh bb; have ap_pB := hT.ap ge; have d_nt_pB := ne_new (hlt hnt) ge; have opB := Nat.le_trans (Nat.le_trans hlo bel.size) ge; have ppB := Nat.le_trans bel.size ge; replace hnt := blk_u hnt bb; replace hT := hT.below bb; replace fr := fr.below bb; replace ap_pB := ap_pB.below bb; replace bel := bel.trans (bb.mono (Nat.le_trans hlo bel.size)); have hpB := hh; clear hh lt ge bb) | ((with_reducible show wpList _ _ _ (⟨some 10, _, _, _, _, _⟩ :: _) _ _); refine wpList_new_a rfl 65 rfl #[.int .i64 0, .int .i64 0, .int .u8 0, .int .u8 0, .int .u8 0, .int .u8 0, .int .i64 0, .int .i64 0, .int .i64 0] (by kernel_rfl) ?_; intro g10 w2 ge hh bb; have ap_rB := hT.ap ge; have d_nt_rB := ne_new (hlt hnt) ge; have d_pB_rB := ne_new (hlt hpB) ge; have orB := Nat.le_trans (Nat.le_trans hlo bel.size) ge; have prB := Nat.le_trans bel.size ge; replace hnt := blk_u hnt bb; replace hpB := blk_u hpB bb; replace hT := hT.below bb; replace fr := fr.below bb; replace ap_pB := ap_pB.below bb; replace ap_rB := ap_rB.below bb; replace bel := bel.trans (bb.mono (Nat.le_trans hlo bel.size)); have hrB := hh; clear hh ge bb))
 replace bel := bel.drew
 replace hnt : w2.drew.heap[gn]? = _ := hnt
 replace hpB : w2.drew.heap[g6]? = _ := hpB
 replace hrB : w2.drew.heap[g10]? = _ := hrB
 replace hT := np_drew hT
 replace fr := fn_drew fr
 replace ap_pB := anp_drew ap_pB
 replace ap_rB := anp_drew ap_rB
 refine wp_region_held_drew (S := fun W => W.heap[gn]? = some (.cells #[.pointer (some ⟨gt, 0, none⟩), .pointer (some ⟨gk, 0, none⟩), .int .i64 120, .int .i64 7200, .int .i64 30] 82 (0, 0)) ∧ W.heap[g6]? = some (.cells #[.int .i64 tos, .int .i64 id, .int .i64 fl, .int .i64 pt, .int .i64 ttl, .int .i64 pr, .int .u8 (a0.toNat : Int), .int .u8 (a1.toNat : Int), .int .u8 (a2.toNat : Int), .int .u8 (a3.toNat : Int), .int .u8 (b0.toNat : Int), .int .u8 (b1.toNat : Int), .int .u8 (b2.toNat : Int), .int .u8 (b3.toNat : Int), .slice So no co, .slice Sb nb cb] 38 (0, 0))) (by kernel_rfl) ⟨hnt, hpB⟩ (fun hH => ?_)
 generalize w2.drew = w3 at bel hnt hpB hrB hT fr ap_pB ap_rB hH ⊢
 refine wpAnyH_take (i := 0) (v := ?_) rfl (by kernel_rfl) (by kernel_rfl) (by kernel_rfl) (fun _ _ _ h => h) (Or.inl ⟨by rfl, ?_⟩) hH ?_
 rotate_left
 ·((intro W hW; clear hW; go_simp) <;> with_reducible rfl)
 simp only [Act.put, List.getElem_toArray, List.getElem_cons_zero, List.setIfInBounds_toArray, List.set_cons_zero, List.set_cons_succ]
 refine wpAnyH_take (i := 1) (v := ?_) rfl (by kernel_rfl) (by kernel_rfl) (by kernel_rfl) (fun _ _ _ h => h) (Or.inl ⟨by rfl, ?_⟩) hH ?_
 rotate_left
 ·((intro W hW; clear hW; go_simp) <;> with_reducible rfl)
 simp only [sq3, sq4]
 refine wpAnyH_take (i := 2) (v := ?_) rfl (by kernel_rfl) (by kernel_rfl) (by kernel_rfl) (fun _ _ _ h => h) (Or.inl ⟨by rfl, ?_⟩) hH ?_
 rotate_left
 ·((intro W hW; clear hW; go_simp) <;> with_reducible rfl)
 simp only [sq3, sq4]
 refine wpAnyH_take (i := 3) (v := ?_) rfl (by kernel_rfl) (by kernel_rfl) (by kernel_rfl) (fun _ _ _ h => h) (Or.inl ⟨by rfl, ?_⟩) hH ?_
 rotate_left
 ·((intro W hW; have hk := cell_lit (hW.1) 0 _ rfl; clear hW; go_simp) <;> with_reducible rfl)
 simp only [sq3, sq4]
 refine wpAnyH_take (i := 4) (v := ?_) rfl (by kernel_rfl) (by kernel_rfl) (by kernel_rfl) (fun _ _ _ h => h) (Or.inl ⟨by rfl, ?_⟩) hH ?_
 rotate_left
 ·((intro W hW; clear hW; go_simp) <;> with_reducible rfl)
 simp only [sq3, sq4]
 refine wpAnyH_take (i := 5) (v := ?_) rfl (by kernel_rfl) (by kernel_rfl) (by kernel_rfl) (fun _ _ _ h => h) (Or.inl ⟨by rfl, ?_⟩) hH ?_
 rotate_left
 ·((intro W hW; have hk := cell_lit (hW.2) 5 _ rfl; clear hW; go_simp) <;> with_reducible rfl)
 simp only [sq3, sq4]
 refine wpAnyH_take (i := 6) (v := ?_) rfl (by kernel_rfl) (by kernel_rfl) (by kernel_rfl) (fun _ _ _ h => h) (Or.inl ⟨by rfl, ?_⟩) hH ?_
 rotate_left
 ·((intro W hW; clear hW; go_simp) <;> with_reducible rfl)
 simp only [sq3, sq4]
 refine wpAnyH_take (i := 7) (v := .agg #[.int .u8 (a0.toNat : Int), .int .u8 (a1.toNat : Int), .int .u8 (a2.toNat : Int), .int .u8 (a3.toNat : Int)]) rfl (by kernel_rfl) (by kernel_rfl) (by kernel_rfl) (fun _ _ _ h => h) (yieldsIf_load_part (by kernel_rfl) 35 _ rfl g6 6 4 rfl _ 38 (0, 0) (fun W hW => hW.2) _ rfl _ Tryz.underlying35 rfl (by kernel_rfl)) hH ?_
 simp only [sq3, sq4]
 refine wpAnyH_take (i := 8) (v := ?_) rfl (by kernel_rfl) (by kernel_rfl) (by kernel_rfl) (fun _ _ _ h => h) (Or.inl ⟨by rfl, ?_⟩) hH ?_
 rotate_left
 ·((intro W hW; clear hW; go_simp) <;> with_reducible rfl)
 simp only [sq3, sq4]
 refine wpAnyH_take (i := 9) (v := ?_) rfl (by kernel_rfl) (by kernel_rfl) (by kernel_rfl) (fun _ _ _ h => h) (Or.inl ⟨by rfl, ?_⟩) hH ?_
 rotate_left
 ·((intro W hW; clear hW; go_simp) <;> with_reducible rfl)
 simp only [sq3, sq4]
 refine wpAnyH_take (i := 10) (v := ?_) rfl (by kernel_rfl) (by kernel_rfl) (by kernel_rfl) (fun _ _ _ h => h) (Or.inl ⟨by rfl, ?_⟩) hH ?_
 rotate_left
 ·((intro W hW; clear hW; go_simp) <;> with_reducible rfl)
 simp only [sq3, sq4]
 refine wpAnyH_take (i := 11) (v := ?_) rfl (by kernel_rfl) (by kernel_rfl) (by kernel_rfl) (fun _ _ _ h => h) (Or.inl ⟨by rfl, ?_⟩) hH ?_
 rotate_left
 ·((intro W hW; clear hW; go_simp) <;> with_reducible rfl)
 simp only [sq3, sq4]
 refine wpAnyH_ready (rs := [12]) (by kernel_rfl) (by simp) ?_
 refine AllReadyH.cons (o := _) rfl (fun K hK => ?_) AllReadyH.nil
 simp only [sq3]
 go_simp
 with_reducible refine (np_t hT (hc _ hT.tp)).mono ?_
 rintro e w4 ⟨rfl, hT_, f_, bb⟩
 dsimp only
 clear hnt
 have x_ := f_ _ _ _ _ hpB ap_pB
 replace hpB := x_.1
 replace ap_pB := x_.2
 clear x_
 have x_ := f_ _ _ _ _ hrB ap_rB
 replace hrB := x_.1
 replace ap_rB := x_.2
 clear x_
 replace fr := fr.trans f_
 clear hT
 have hT := hT_
 replace bel := bel.trans bb
 clear bb f_ hT_
 have hnt := hT.nat
 refine hK.out _ _ ⟨hnt, hpB⟩ (fun hH5 => ?_)
 clear hK K
 refine wpAnyH_take (i := 13) (v := ?_) rfl (by kernel_rfl) (by kernel_rfl) (by kernel_rfl) (fun _ _ _ h => h) (Or.inl ⟨by rfl, ?_⟩) hH5 ?_
 rotate_left
 ·((intro W hW; clear hW; go_simp) <;> with_reducible rfl)
 simp only [sq3, sq4]
 refine wpAnyH_take (i := 14) (v := ?_) rfl (by kernel_rfl) (by kernel_rfl) (by kernel_rfl) (fun _ _ _ h => h) (Or.inl ⟨by rfl, ?_⟩) hH5 ?_
 rotate_left
 ·((intro W hW; clear hW; go_simp) <;> with_reducible rfl)
 simp only [sq3, sq4]
 refine wpAnyH_ready (rs := [15]) (by kernel_rfl) (by simp) ?_
 refine AllReadyH.cons (o := _) rfl (fun K hK => ?_) AllReadyH.nil
 simp only [sq3]
 rw [if_pos (by rfl)]
 refine wp_store_blk 65 (.tmp 10) (.tmp 28) rfl g10 rfl _ rfl _ 65 hrB (by rfl) (by kernel_rfl) (by kernel_rfl) ?_
 intro w6 hq gr
 replace hpB := blk_a hpB gr d_pB_rB
 replace hnt := blk_a hnt gr d_nt_rB
 replace hT := hT.away ap_rB gr hrB
 replace fr := fr.newer ap_rB gr prB
 replace ap_pB := ap_pB.grown ap_rB gr
 replace ap_rB := ap_rB.grown ap_rB gr
 replace bel := below_grown bel gr orB (Nat.le_trans hlo bel.size)
 clear hrB
 have hrB := hq
 clear hq gr
 refine hK.out _ _ ⟨hnt, hpB⟩ (fun hH7 => ?_)
 clear hK K
 simp only [Act.put]
 refine wpAnyH_take (i := 16) (v := ?_) rfl (by kernel_rfl) (by kernel_rfl) (by kernel_rfl) (fun _ _ _ h => h) (Or.inl ⟨by rfl, ?_⟩) hH7 ?_
 rotate_left
 ·((intro W hW; clear hW; go_simp) <;> with_reducible rfl)
 simp only [sq3, sq4]
 refine wpAnyH_done (by kernel_rfl) ?_ _
 go_wp2_with fail
 exact bodyPost_ret (results_cell_tmp_row rfl _ _ _ _ _ _ _ rfl hrB Tryz.underlying65 rfl (by kernel_rfl) (.int .i64 0) rfl) rfl ⟨rfl, hT, fr, bel⟩
theorem nmap_0 {lo gn gt gk : Nat} {s : Ts} {k : Ks} {tos id fl pt ttl pr t sc : Int} {a0 a1 a2 a3 b0 b1 b2 b3 : UInt8} {So Sb : Option Addr} {no co nb cb : Nat} (w : World) (hT : Np lo gn gt gk w s k)  : Calls Tryz.prog 75 #[.pointer (some ⟨gn, 0, none⟩), .agg #[.int .i64 tos, .int .i64 id, .int .i64 fl, .int .i64 pt, .int .i64 ttl, .int .i64 pr, .int .u8 (a0.toNat : Int), .int .u8 (a1.toNat : Int), .int .u8 (a2.toNat : Int), .int .u8 (a3.toNat : Int), .int .u8 (b0.toNat : Int), .int .u8 (b1.toNat : Int), .int .u8 (b2.toNat : Int), .int .u8 (b3.toNat : Int), .slice So no co, .slice Sb nb cb], .int .i64 0, .int .i64 t, .int .i64 sc] w fun e w' => e = .returned (.tuple #[.agg #[.int .i64 0, .int .i64 0, .int .u8 0, .int .u8 0, .int .u8 0, .int .u8 0, .int .i64 0, .int .i64 0, .int .i64 0], .int .i64 1]) ∧ Np lo gn gt gk w' s k ∧ Fn gn gt gk w w' ∧ Below lo w w' := by
 have hlo : lo ≤ w.heap.size := hT.lo_le
 have HLO := Lib.hid hlo
 have hnt := hT.nat
 have fr := Fn.refl gn gt gk w
 have bel := Below.refl lo w
 go_enter Tryz.func75, Tryz.ntmps75
 go_wp2_with (first | ((with_reducible show wpList _ _ _ (⟨some 6, _, _, _, _, _⟩ :: _) _ _); refine wpList_box_n rfl 38 (.tmp 1) rfl #[.int .i64 tos, .int .i64 id, .int .i64 fl, .int .i64 pt, .int .i64 ttl, .int .i64 pr, .int .u8 (a0.toNat : Int), .int .u8 (a1.toNat : Int), .int .u8 (a2.toNat : Int), .int .u8 (a3.toNat : Int), .int .u8 (b0.toNat : Int), .int .u8 (b1.toNat : Int), .int .u8 (b2.toNat : Int), .int .u8 (b3.toNat : Int), .slice So no co, .slice Sb nb cb] rfl ?_; intro g6 w1 ge lt hh bb; have ap_pB := hT.ap ge; have d_nt_pB := ne_new (hlt hnt) ge; have opB := Nat.le_trans (Nat.le_trans hlo bel.size) ge; have ppB := Nat.le_trans bel.size ge; replace hnt := blk_u hnt bb; replace hT := hT.below bb; replace fr := fr.below bb; replace ap_pB := ap_pB.below bb; replace bel := bel.trans (bb.mono (Nat.le_trans hlo bel.size)); have hpB := hh; clear hh lt ge bb) | ((with_reducible show wpList _ _ _ (⟨some 10, _, _, _, _, _⟩ :: _) _ _); refine wpList_new_a rfl 65 rfl #[.int .i64 0, .int .i64 0, .int .u8 0, .int .u8 0, .int .u8 0, .int .u8 0, .int .i64 0, .int .i64 0, .int .i64 0] (by kernel_rfl) ?_; intro g10 w2 ge hh bb; have ap_rB := hT.ap ge; have d_nt_rB := ne_new (hlt hnt) ge; have d_pB_rB := ne_new (hlt hpB) ge; have orB := Nat.le_trans (Nat.le_trans hlo bel.size) ge; have prB := Nat.le_trans bel.size ge; replace hnt := blk_u hnt bb; replace hpB := blk_u hpB bb; replace hT := hT.below bb; replace fr := fr.below bb; replace ap_pB := ap_pB.below bb; replace ap_rB := ap_rB.below bb; replace bel := bel.trans (bb.mono (Nat.le_trans hlo bel.size)); have hrB := hh; clear hh ge bb) | ((with_reducible show wpList _ _ _ (⟨none, Op.store _ (.tmp 10) _, _, _, _, _⟩ :: _) _ _); refine wpList_store_blk rfl 65 (.tmp 10) (.tmp 14) rfl g10 rfl _ rfl _ 65 hrB (by rfl) (by kernel_rfl) (by kernel_rfl) ?_; intro w3 hq gr; replace hnt := blk_a hnt gr d_nt_rB; replace hpB := blk_a hpB gr d_pB_rB; replace hT := hT.away ap_rB gr hrB; replace fr := fr.newer ap_rB gr prB; replace ap_pB := ap_pB.grown ap_rB gr; replace ap_rB := ap_rB.grown ap_rB gr; replace bel := below_grown bel gr orB (Nat.le_trans hlo bel.size); clear hrB; have hrB := hq; clear hq gr))
 exact bodyPost_ret (results_cell_tmp_row rfl _ _ _ _ _ _ _ rfl hrB Tryz.underlying65 rfl (by kernel_rfl) (.int .i64 1) rfl) rfl ⟨rfl, hT, fr, bel⟩
end Go.Proofs.YtbdaejodbcjmfaaGreat
