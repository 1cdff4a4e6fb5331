/- Texts put together: Na6. -/
import Derived.Test.YtbdaejodbcjmfaaGreatQ1
import Derived.Test.YtbdaejodbcjmfaaGreatQ2
import Derived.Test.YtbdaejodbcjmfaaGreatQ3
import Derived.Test.YtbdaejodbcjmfaaGreatQ4
import Derived.Test.YtbdaejodbcjmfaaGreatQ5
import Derived.Test.YtbdaejodbcjmfaaGreatQ6
import Derived.Test.YtbdaejodbcjmfaaGreatQ7
import Derived.Test.YtbdaejodbcjmfaaGreatQ8
import Derived.Test.YtbdaejodbcjmfaaGreatQ9
import Derived.Test.YtbdaejodbcjmfaaGreatQ10
import Derived.Test.YtbdaejodbcjmfaaGreatQ11
import Derived.Test.YtbdaejodbcjmfaaGreatQ12
import Derived.Test.YtbdaejodbcjmfaaGreatQ13
import Derived.Test.YtbdaejodbcjmfaaGreatV1
import Derived.Test.YtbdaejodbcjmfaaGreatV2
import Derived.Deep.RegionHeld3
import Derived.Deep.CutRange
namespace Go.Proofs.YtbdaejodbcjmfaaGreat
open Go.RowKit
open Go.RowKit

theorem tcGet_er (fl pt pr : Int) (a0 a1 a2 a3 b0 b1 b2 b3 : UInt8) (b : List UInt8) : (tcGet fl pt pr a0 a1 a2 a3 b0 b1 b2 b3 b).2.2 = tcErr fl pt pr a0 a1 a2 a3 b0 b1 b2 b3 b := by
  unfold tcGet
  split
  · rfl
  · rename_i h
    simp only [ne_eq, Decidable.not_not] at h
    exact h.symm
theorem tcget_pos (tos id fl pt ttl : Int) (a0 a1 a2 a3 b0 b1 b2 b3 : UInt8) (So Sb : Option Addr) (no co nb cb : Nat) {lb : List UInt8} (w : World) (hb : Sl w Sb nb cb lb) (hm : nb ≤ 100000) (he : tcErr fl pt 6 a0 a1 a2 a3 b0 b1 b2 b3 lb = 0) : Calls Tryz.prog 68 #[.agg #[.int .i64 tos, .int .i64 id, .int .i64 fl, .int .i64 pt, .int .i64 ttl, .int .i64 6, .int .u8 (a0.toNat : Int), .int .u8 (a1.toNat : Int), .int .u8 (a2.toNat : Int), .int .u8 (a3.toNat : Int), .int .u8 (b0.toNat : Int), .int .u8 (b1.toNat : Int), .int .u8 (b2.toNat : Int), .int .u8 (b3.toNat : Int), .slice So no co, .slice Sb nb cb]] w (SgPost (tcGet fl pt 6 a0 a1 a2 a3 b0 b1 b2 b3 lb) w) := by
  have h9 : pt = 0 ∧ fl % 2 = 0 := by
    by_cases h : pt = 0 ∧ fl % 2 = 0
    · exact h
    · unfold tcErr at he
      rw [if_neg (by decide), if_pos h] at he
      cases he
  have hw : (decide (pt = 0) && decide (fl % 2 = 0)) = true := by rw [decide_eq_true h9.1, decide_eq_true h9.2]; rfl
  have hn : 20 ≤ lb.length := by
    rcases Nat.lt_or_ge lb.length 20 with h | h
    · unfold tcErr at he
      rw [if_neg (by decide), if_neg (not_not_intro h9), if_pos h] at he
      cases he
    · exact h
  obtain ⟨h0, h1, h2, h3, h4, h5, h6, h7, h8, h9, h10, h11, h12, h13, h14, h15, h16, h17, h18, h19, r, rfl⟩ := list20 lb hn
  have hl := hb.1
  have h63 := i64_and63 (h13.toNat : Int)
  have h64 : ((h13.toNat % 64 : Nat) : Int) = (h13.toNat : Int) % 64 := by omega
  rw [tc_at rfl hw] at he
  split at he
  · cases he
  rename_i g1
  split at he
  · cases he
  rename_i g2
  split at he
  · cases he
  rename_i g3
  exact tcget_7 tos id fl pt ttl a0 a1 a2 a3 b0 b1 b2 b3 So Sb no co nb cb h0 h1 h2 h3 h4 h5 h6 h7 h8 h9 h10 h11 h12 h13 h14 h15 h16 h17 h18 h19 r _ _ _ w hb hm rfl rfl h63 h64 hw (by omega) (by omega) (by rw [← hl]; exact Decidable.not_not.1 g3)
theorem tcget_is (tos id fl pt ttl : Int) (a0 a1 a2 a3 b0 b1 b2 b3 : UInt8) (So Sb : Option Addr) (no co nb cb : Nat) {lb lq ld : List UInt8} {sf st se ak fg wn ug : Int} {nq nd : Nat} (w : World) (hb : Sl w Sb nb cb lb) (hm : nb ≤ 100000) (hg : tcGet fl pt 6 a0 a1 a2 a3 b0 b1 b2 b3 lb = ([sf, st, se, ak, fg, wn, ug], (lq, ld), 0)) (hq : lq.length = nq) (hl : ld.length = nd) : Calls Tryz.prog 68 #[.agg #[.int .i64 tos, .int .i64 id, .int .i64 fl, .int .i64 pt, .int .i64 ttl, .int .i64 6, .int .u8 (a0.toNat : Int), .int .u8 (a1.toNat : Int), .int .u8 (a2.toNat : Int), .int .u8 (a3.toNat : Int), .int .u8 (b0.toNat : Int), .int .u8 (b1.toNat : Int), .int .u8 (b2.toNat : Int), .int .u8 (b3.toNat : Int), .slice So no co, .slice Sb nb cb]] w fun e w' => ∃ Q cq D cd, e = .returned (.tuple #[.agg #[.int .i64 sf, .int .i64 st, .int .u32 se, .int .u32 ak, .int .i64 fg, .int .i64 wn, .int .i64 ug, .slice Q nq cq, .slice D nd cd], .int .i64 0]) ∧ Sl w' Q nq cq lq ∧ Sl w' D nd cd ld ∧ Fr w.heap.size Q nq ∧ Fr w.heap.size D nd ∧ Below w.heap.size w w' := by
  refine (tcget_pos tos id fl pt ttl a0 a1 a2 a3 b0 b1 b2 b3 So Sb no co nb cb w hb hm (by rw [← tcGet_er, hg])).mono ?_
  rintro e w' ⟨f0, f1, f2, f3, f4, f5, f6, l1, l2, Q, D, cq, cd, er', rfl, s1, s2, r1, r2, bel, hh⟩
  rw [hg] at hh
  simp only [Prod.mk.injEq, List.cons.injEq, and_true] at hh
  obtain ⟨⟨rfl, rfl, rfl, rfl, rfl, rfl, rfl⟩, ⟨rfl, rfl⟩, rfl⟩ := hh
  rw [hq] at s1 r1 ⊢
  rw [hl] at s2 r2 ⊢
  exact ⟨Q, cq, D, cd, rfl, s1, s2, r1, r2, bel⟩
theorem tcput_is (tos id fl pt ttl pr : Int) (a0 a1 a2 a3 b0 b1 b2 b3 : UInt8) (So Sb : Option Addr) (no co nb cb : Nat) (sf st se ak fg wn ug : Int) (Q : Option Addr) (nq cq : Nat) (D : Option Addr) (nd cd : Nat) {lo lq ld : List UInt8} (w : World) (ho : Sl w So no co lo) (hv : Sl w Q nq cq lq) (hb : Sl w D nd cd ld) (hg : segOk sf st fg wn ug nq = true) (hn : nq + nd ≤ 1460) (hno : no ≤ 100000) (e0 : 0 ≤ se) (e1 : se < 4294967296) (k0 : 0 ≤ ak) (k1 : ak < 4294967296) : Calls Tryz.prog 64 #[.agg #[.int .i64 tos, .int .i64 id, .int .i64 fl, .int .i64 pt, .int .i64 ttl, .int .i64 pr, .int .u8 (a0.toNat : Int), .int .u8 (a1.toNat : Int), .int .u8 (a2.toNat : Int), .int .u8 (a3.toNat : Int), .int .u8 (b0.toNat : Int), .int .u8 (b1.toNat : Int), .int .u8 (b2.toNat : Int), .int .u8 (b3.toNat : Int), .slice So no co, .slice Sb nb cb], .agg #[.int .i64 sf, .int .i64 st, .int .u32 se, .int .u32 ak, .int .i64 fg, .int .i64 wn, .int .i64 ug, .slice Q nq cq, .slice D nd cd]] w fun e w' => ∃ Ao co' Ab cb', e = .returned (.tuple #[.agg #[.int .i64 tos, .int .i64 id, .int .i64 fl, .int .i64 pt, .int .i64 ttl, .int .i64 6, .int .u8 (a0.toNat : Int), .int .u8 (a1.toNat : Int), .int .u8 (a2.toNat : Int), .int .u8 (a3.toNat : Int), .int .u8 (b0.toNat : Int), .int .u8 (b1.toNat : Int), .int .u8 (b2.toNat : Int), .int .u8 (b3.toNat : Int), .slice Ao no co', .slice Ab (20 + nq + nd) cb'], .int .i64 0]) ∧ Sl w' Ao no co' lo ∧ Sl w' Ab (20 + nq + nd) cb' (tcBytes a0 a1 a2 a3 b0 b1 b2 b3 sf st se ak fg wn ug lq ld) ∧ Fr w.heap.size Ao no ∧ Fr w.heap.size Ab (20 + nq + nd) ∧ Below w.heap.size w w' := by
  have h4 := segOk_bnd hg
  refine (tcput_ok tos id fl pt ttl pr a0 a1 a2 a3 b0 b1 b2 b3 So Sb no co nb cb sf st se ak fg wn ug Q nq cq D nd cd lo lq ld w ho hv hb hg h4.1 h4.2 hn hno e0 e1 k0 k1).mono ?_
  rintro e w' ⟨f0, f1, f2, f3, f4, f5, g0, g1, g2, g3, g4, g5, g6, g7, lo', lb', Ao, Ab, co', cb', er', rfl, ho', hbb, fo, fb, bel, hq⟩
  have hP : tcPut tos id fl pt ttl a0 a1 a2 a3 b0 b1 b2 b3 lo sf st se ak fg wn ug lq ld = (([tos, id, fl, pt, ttl, 6], [a0, a1, a2, a3, b0, b1, b2, b3]), (lo, tcBytes a0 a1 a2 a3 b0 b1 b2 b3 sf st se ak fg wn ug lq ld), 0) := by
    unfold tcPut
    rw [if_neg (by rw [hv.1, hg]; decide), if_neg (by rw [hv.1, hb.1]; omega)]
  rw [hP] at hq
  simp only [Prod.mk.injEq, List.cons.injEq, and_true] at hq
  obtain ⟨⟨⟨rfl, rfl, rfl, rfl, rfl, rfl⟩, rfl, rfl, rfl, rfl, rfl, rfl, rfl, rfl⟩, ⟨rfl, rfl⟩, rfl⟩ := hq
  have hl : (tcBytes g0 g1 g2 g3 g4 g5 g6 g7 sf st se ak fg wn ug lq ld).length = 20 + nq + nd := by rw [tcBytes_len, hv.1, hb.1]
  have hl2 := ho.1
  rw [hl] at hbb fb ⊢
  rw [hl2] at ho' fo ⊢
  exact ⟨Ao, co', Ab, cb', rfl, ho', hbb, fo, fb, bel⟩
abbrev SeeC (lo gk : Nat) (k k' : Ks) (o : Int) (a0 a1 a2 a3 : UInt8) (p : Int) (b : Bool) (sf st se ak fg wn ug : Int) (nq nd : Nat) (r : Int) : Prop := ∀ (W : World) (Q : Option Addr) (cq : Nat) (D : Option Addr) (cd : Nat), Tk lo gk W k → Calls Tryz.prog 69 #[.pointer (some ⟨gk, 0, none⟩), .int .i64 o, .agg #[.int .u8 (a0.toNat : Int), .int .u8 (a1.toNat : Int), .int .u8 (a2.toNat : Int), .int .u8 (a3.toNat : Int)], .int .i64 p, .bool b, .agg #[.int .i64 sf, .int .i64 st, .int .u32 se, .int .u32 ak, .int .i64 fg, .int .i64 wn, .int .i64 ug, .slice Q nq cq, .slice D nd cd]] W fun e w' => e = .returned (.int .i64 r) ∧ Tk lo gk w' k' ∧ Kap gk W w' ∧ Below lo W w'
set_option linter.unusedVariables false in
set_option linter.unusedVariables false in
set_option linter.unusedSimpArgs false in
set_option maxRecDepth 100000 in
set_option maxHeartbeats 16000000 in
theorem nlive_is {lo gn gt gk : Nat} {s : Ts} {k : Ks} {s' : Ts} {m : Mp} {st t : Int} {b : Bool} (w : World) (hT : Np lo gn gt gk w s k) (hv : LiveC lo gt s s' 6 m.o t (secV st 7200) b)  : Calls Tryz.prog 70 #[.pointer (some ⟨gn, 0, none⟩), .agg #[.int .i64 m.pr, .int .i64 m.o, .int .u8 (m.ad.a.toNat : Int), .int .u8 (m.ad.b.toNat : Int), .int .u8 (m.ad.c.toNat : Int), .int .u8 (m.ad.d.toNat : Int), .int .i64 m.i, .int .i64 m.k, .int .i64 m.u], .int .i64 st, .int .i64 t] w fun e w' => e = .returned (.tuple #[]) ∧ Np lo gn gt gk w' s' k ∧ Fn gn gt gk w w' ∧ Below lo w w' := by
  have hlo : lo ≤ w.heap.size := hT.lo_le
  have HLO := Lib.hid hlo
  have hnt := hT.nat
  have fr := Fn.refl gn gt gk w
  have bel := Below.refl lo w
  go_enter Tryz.func70, Tryz.ntmps70
  go_wp2_with (first | ((with_reducible show wpList _ _ _ (⟨some 5, _, _, _, _, _⟩ :: _) _ _); refine wpList_box_n rfl 65 (.tmp 1) rfl #[.int .i64 m.pr, .int .i64 m.o, .int .u8 (m.ad.a.toNat : Int), .int .u8 (m.ad.b.toNat : Int), .int .u8 (m.ad.c.toNat : Int), .int .u8 (m.ad.d.toNat : Int), .int .i64 m.i, .int .i64 m.k, .int .i64 m.u] rfl ?_; intro g5 w1 ge lt hh bb; have ap_mB := hT.ap ge; have d_nt_mB := ne_new (hlt hnt) ge; have omB := Nat.le_trans (Nat.le_trans hlo bel.size) ge; have pmB := Nat.le_trans bel.size ge; replace hnt := blk_u hnt bb; replace hT := hT.below bb; replace fr := fr.below bb; replace ap_mB := ap_mB.below bb; replace bel := bel.trans (bb.mono (Nat.le_trans hlo bel.size)); have hmB := hh; clear hh lt ge bb))
  replace bel := bel.drew
  replace hnt : w1.drew.heap[gn]? = _ := hnt
  replace hmB : w1.drew.heap[g5]? = _ := hmB
  replace hT := np_drew hT
  replace fr := fn_drew fr
  replace ap_mB := anp_drew ap_mB
  refine wp_region_held_drew (S := fun W => W.heap[gn]? = some (.cells #[.pointer (some ⟨gt, 0, none⟩), .pointer (some ⟨gk, 0, none⟩), .int .i64 120, .int .i64 7200, .int .i64 30] 82 (0, 0)) ∧ W.heap[g5]? = some (.cells #[.int .i64 m.pr, .int .i64 m.o, .int .u8 (m.ad.a.toNat : Int), .int .u8 (m.ad.b.toNat : Int), .int .u8 (m.ad.c.toNat : Int), .int .u8 (m.ad.d.toNat : Int), .int .i64 m.i, .int .i64 m.k, .int .i64 m.u] 65 (0, 0))) (by kernel_rfl) ⟨hnt, hmB⟩ (fun hH => ?_)
  generalize w1.drew = w2 at bel hnt hmB hT fr ap_mB hH ⊢
  refine wpAnyH_take (i := 0) (v := ?_) rfl (by kernel_rfl) (by kernel_rfl) (by kernel_rfl) (fun _ _ _ h => h) (Or.inl ⟨by rfl, ?_⟩) hH ?_
  rotate_left
  · ((intro W hW; clear hW; go_simp) <;> with_reducible rfl)
  simp only [Act.put, List.getElem_toArray, List.getElem_cons_zero, List.setIfInBounds_toArray, List.set_cons_zero, List.set_cons_succ]
  refine wpAnyH_take (i := 1) (v := ?_) rfl (by kernel_rfl) (by kernel_rfl) (by kernel_rfl) (fun _ _ _ h => h) (Or.inl ⟨by rfl, ?_⟩) hH ?_
  rotate_left
  · ((intro W hW; clear hW; go_simp) <;> with_reducible rfl)
  simp only [sq3, sq4]
  refine wpAnyH_take (i := 2) (v := ?_) rfl (by kernel_rfl) (by kernel_rfl) (by kernel_rfl) (fun _ _ _ h => h) (Or.inl ⟨by rfl, ?_⟩) hH ?_
  rotate_left
  · ((intro W hW; clear hW; go_simp) <;> with_reducible rfl)
  simp only [sq3, sq4]
  refine wpAnyH_take (i := 3) (v := ?_) rfl (by kernel_rfl) (by kernel_rfl) (by kernel_rfl) (fun _ _ _ h => h) (Or.inl ⟨by rfl, ?_⟩) hH ?_
  rotate_left
  · ((intro W hW; have hk := cell_lit (hW.1) 0 _ rfl; clear hW; go_simp) <;> with_reducible rfl)
  simp only [sq3, sq4]
  refine wpAnyH_take (i := 4) (v := ?_) rfl (by kernel_rfl) (by kernel_rfl) (by kernel_rfl) (fun _ _ _ h => h) (Or.inl ⟨by rfl, ?_⟩) hH ?_
  rotate_left
  · ((intro W hW; clear hW; go_simp) <;> with_reducible rfl)
  simp only [sq3, sq4]
  refine wpAnyH_take (i := 5) (v := ?_) rfl (by kernel_rfl) (by kernel_rfl) (by kernel_rfl) (fun _ _ _ h => h) (Or.inl ⟨by rfl, ?_⟩) hH ?_
  rotate_left
  · ((intro W hW; have hk := cell_lit (hW.2) 1 _ rfl; clear hW; go_simp) <;> with_reducible rfl)
  simp only [sq3, sq4]
  refine wpAnyH_take (i := 6) (v := ?_) rfl (by kernel_rfl) (by kernel_rfl) (by kernel_rfl) (fun _ _ _ h => h) (Or.inl ⟨by rfl, ?_⟩) hH ?_
  rotate_left
  · ((intro W hW; clear hW; go_simp) <;> with_reducible rfl)
  simp only [sq3, sq4]
  refine wpAnyH_take (i := 7) (v := ?_) rfl (by kernel_rfl) (by kernel_rfl) (by kernel_rfl) (fun _ _ _ h => h) (Or.inl ⟨by rfl, ?_⟩) hH ?_
  rotate_left
  · ((intro W hW; clear hW; go_simp) <;> with_reducible rfl)
  simp only [sq3, sq4]
  refine wpAnyH_take (i := 8) (v := ?_) rfl (by kernel_rfl) (by kernel_rfl) (by kernel_rfl) (fun _ _ _ h => h) (Or.inl ⟨by rfl, ?_⟩) hH ?_
  rotate_left
  · ((intro W hW; clear hW; go_simp) <;> with_reducible rfl)
  simp only [sq3, sq4]
  refine wpAnyH_take (i := 9) (v := ?_) rfl (by kernel_rfl) (by kernel_rfl) (by kernel_rfl) (fun _ _ _ h => h) (Or.inl ⟨by rfl, ?_⟩) hH ?_
  rotate_left
  · ((intro W hW; clear hW; go_simp) <;> with_reducible rfl)
  simp only [sq3, sq4]
  refine wpAnyH_take (i := 10) (v := ?_) rfl (by kernel_rfl) (by kernel_rfl) (by kernel_rfl) (fun _ _ _ h => h) (Or.inl ⟨by rfl, ?_⟩) hH ?_
  rotate_left
  · ((intro W hW; clear hW; go_simp) <;> with_reducible rfl)
  simp only [sq3, sq4]
  refine wpAnyH_take (i := 11) (v := ?_) rfl (by kernel_rfl) (by kernel_rfl) (by kernel_rfl) (fun _ _ _ h => h) (Or.inl ⟨by rfl, ?_⟩) hH ?_
  rotate_left
  · ((intro W hW; clear hW; go_simp) <;> with_reducible rfl)
  simp only [sq3, sq4]
  refine wpAnyH_take (i := 12) (v := ?_) rfl (by kernel_rfl) (by kernel_rfl) (by kernel_rfl) (fun _ _ _ h => h) (Or.inl ⟨by rfl, ?_⟩) hH ?_
  rotate_left
  · ((intro W hW; have hk := cell_lit (hW.1) 3 _ rfl; clear hW; go_simp) <;> with_reducible rfl)
  simp only [sq3, sq4]
  refine wpAnyH_ready (rs := [13]) (by kernel_rfl) (by simp) ?_
  refine AllReadyH.cons (o := _) rfl (fun K hK => ?_) AllReadyH.nil
  simp only [sq3]
  go_simp
  with_reducible refine (ksecs_any st 7200 _).mono ?_
  rintro e _ ⟨rfl, rfl⟩
  dsimp only
  refine hK.out _ _ ⟨hnt, hmB⟩ (fun hH3 => ?_)
  clear hK K
  refine wpAnyH_ready (rs := [14]) (by kernel_rfl) (by simp) ?_
  refine AllReadyH.cons (o := _) rfl (fun K hK => ?_) AllReadyH.nil
  simp only [sq3]
  go_simp
  with_reducible refine (np_t hT (hv _ hT.tp)).mono ?_
  rintro e w4 ⟨rfl, hT_, f_, bb⟩
  dsimp only
  clear hnt
  have x_ := f_ _ _ _ _ hmB ap_mB
  replace hmB := x_.1
  replace ap_mB := x_.2
  clear x_
  replace fr := fr.trans f_
  clear hT
  have hT := hT_
  replace bel := bel.trans bb
  clear bb f_ hT_
  have hnt := hT.nat
  refine hK.out _ _ ⟨hnt, hmB⟩ (fun hH5 => ?_)
  clear hK K
  refine wpAnyH_done (by kernel_rfl) ?_ _
  go_wp2_with fail
  exact bodyPost_end (results_none rfl _ _ _) rfl ⟨rfl, hT, fr, bel⟩
set_option linter.unusedVariables false in
set_option linter.unusedVariables false in
set_option linter.unusedSimpArgs false in
set_option maxRecDepth 100000 in
set_option maxHeartbeats 16000000 in
theorem nsout_ok {lo gn gt gk : Nat} {s : Ts} {k : Ks} {s' s2 : Ts} {k' : Ks} {m : Mp} {r : Int} {b : Bool} {tos id fl pt ttl : Int} {a0 a1 a2 a3 b0 b1 b2 b3 : UInt8} {So Sb : Option Addr} {no co nb cb : Nat} {lp lb : List UInt8} {c0 c1 c2 c3 : UInt8} {t : Int} {sf st se ak fg wn ug : Int} {lq ld : List UInt8} {nq nd : Nat} (w : World) (hT : Np lo gn gt gk w s k) (po : Sl w So no co lp) (pb : Sl w Sb nb cb lb) (an_po : An gn gt gk w So no) (hm : nb ≤ 100000) (hno : no ≤ 100000) (hg : tcGet fl pt 6 a0 a1 a2 a3 b0 b1 b2 b3 lb = ([sf, st, se, ak, fg, wn, ug], (lq, ld), 0)) (hlq : lq.length = nq) (hld : ld.length = nd) (hd : sf ≠ 0) (hc : MakeC lo gt s s' 6 a0 a1 a2 a3 sf t 10 m 0) (hs : SeeC lo gk k k' m.o b0 b1 b2 b3 st false sf st se ak fg wn ug nq nd r) (hv : LiveC lo gt s' s2 6 m.o t (secV r 7200) b) (hsg : segOk m.o st fg wn ug nq = true) (hn : nq + nd ≤ 1460) (hse : 0 ≤ se ∧ se < 4294967296) (hak : 0 ≤ ak ∧ ak < 4294967296)  : Calls Tryz.prog 37 #[.pointer (some ⟨gn, 0, none⟩), .agg #[.int .i64 tos, .int .i64 id, .int .i64 fl, .int .i64 pt, .int .i64 ttl, .int .i64 6, .int .u8 (a0.toNat : Int), .int .u8 (a1.toNat : Int), .int .u8 (a2.toNat : Int), .int .u8 (a3.toNat : Int), .int .u8 (b0.toNat : Int), .int .u8 (b1.toNat : Int), .int .u8 (b2.toNat : Int), .int .u8 (b3.toNat : Int), .slice So no co, .slice Sb nb cb], .agg #[.int .u8 (c0.toNat : Int), .int .u8 (c1.toNat : Int), .int .u8 (c2.toNat : Int), .int .u8 (c3.toNat : Int)], .int .i64 t] w fun e w' => ∃ Ao co' Ab cb', e = .returned (.tuple #[.agg #[.int .i64 tos, .int .i64 id, .int .i64 fl, .int .i64 pt, .int .i64 ttl, .int .i64 6, .int .u8 (c0.toNat : Int), .int .u8 (c1.toNat : Int), .int .u8 (c2.toNat : Int), .int .u8 (c3.toNat : Int), .int .u8 (b0.toNat : Int), .int .u8 (b1.toNat : Int), .int .u8 (b2.toNat : Int), .int .u8 (b3.toNat : Int), .slice Ao no co', .slice Ab (20 + nq + nd) cb'], .int .i64 0]) ∧ Np lo gn gt gk w' s2 k' ∧ Fn gn gt gk w w' ∧ Below lo w w' ∧ Sl w' Ao no co' lp ∧ Sl w' Ab (20 + nq + nd) cb' (tcBytes c0 c1 c2 c3 b0 b1 b2 b3 m.o st se ak fg wn ug lq ld) ∧ An gn gt gk w' Ao no ∧ An gn gt gk w' Ab (20 + nq + nd) ∧ Fr w.heap.size Ao no ∧ Fr w.heap.size Ab (20 + nq + nd) := by
  have hlo : lo ≤ w.heap.size := hT.lo_le
  have HLO := Lib.hid hlo
  have hnt := hT.nat
  have fr := Fn.refl gn gt gk w
  have HM := Lib.hid hm
  clear hm
  have HNO := Lib.hid hno
  clear hno
  have HG := Lib.hid hg
  clear hg
  have HLQ := Lib.hid hlq
  clear hlq
  have HLD := Lib.hid hld
  clear hld
  have HD := Lib.hid hd
  clear hd
  have HN4 := Lib.hid hn
  clear hn
  have HSE := Lib.hid hse
  clear hse
  have HAK := Lib.hid hak
  clear hak
  have HSG := Lib.hid hsg
  clear hsg
  have bel := Below.refl lo w
  go_enter Tryz.func37, Tryz.ntmps37
  go_wp2_with (first | ((with_reducible show wpList _ _ _ (⟨some 5, _, _, _, _, _⟩ :: _) _ _); refine wpList_box_n rfl 38 (.tmp 1) rfl #[.int .i64 tos, .int .i64 id, .int .i64 fl, .int .i64 pt, .int .i64 ttl, .int .i64 6, .int .u8 (a0.toNat : Int), .int .u8 (a1.toNat : Int), .int .u8 (a2.toNat : Int), .int .u8 (a3.toNat : Int), .int .u8 (b0.toNat : Int), .int .u8 (b1.toNat : Int), .int .u8 (b2.toNat : Int), .int .u8 (b3.toNat : Int), .slice So no co, .slice Sb nb cb] rfl ?_; intro g5 w1 ge lt hh bb; have ap_pB := hT.ap ge; have d_nt_pB := ne_new (hlt hnt) ge; have av_po_pB := po.av_new ge; have av_pb_pB := pb.av_new ge; have opB := Nat.le_trans (Nat.le_trans hlo bel.size) ge; have ppB := Nat.le_trans bel.size ge; replace hnt := blk_u hnt bb; replace po := po.below bb; replace pb := pb.below bb; replace hT := hT.below bb; replace fr := fr.below bb; replace an_po := an_po.below bb; replace ap_pB := ap_pB.below bb; replace bel := bel.trans (bb.mono (Nat.le_trans hlo bel.size)); have hpB := hh; clear hh lt ge bb) | ((with_reducible show wpList _ _ _ (⟨some 6, _, _, _, _, _⟩ :: _) _ _); refine wpList_box_n rfl 35 (.tmp 2) rfl #[.int .u8 (c0.toNat : Int), .int .u8 (c1.toNat : Int), .int .u8 (c2.toNat : Int), .int .u8 (c3.toNat : Int)] rfl ?_; intro g6 w2 ge lt hh bb; have ap_wB := hT.ap ge; have d_nt_wB := ne_new (hlt hnt) ge; have d_pB_wB := ne_new (hlt hpB) ge; have av_po_wB := po.av_new ge; have av_pb_wB := pb.av_new ge; have owB := Nat.le_trans (Nat.le_trans hlo bel.size) ge; have pwB := Nat.le_trans bel.size ge; replace hnt := blk_u hnt bb; replace hpB := blk_u hpB bb; replace po := po.below bb; replace pb := pb.below bb; replace hT := hT.below bb; replace fr := fr.below bb; replace an_po := an_po.below bb; replace ap_pB := ap_pB.below bb; replace ap_wB := ap_wB.below bb; replace bel := bel.trans (bb.mono (Nat.le_trans hlo bel.size)); have hwB := hh; clear hh lt ge bb) | ((with_reducible show wpList _ _ _ (⟨some 8, _, _, _, _, _⟩ :: _) _ _); refine wpList_new_a rfl 38 rfl #[.int .i64 0, .int .i64 0, .int .i64 0, .int .i64 0, .int .i64 0, .int .i64 0, .int .u8 0, .int .u8 0, .int .u8 0, .int .u8 0, .int .u8 0, .int .u8 0, .int .u8 0, .int .u8 0, .slice none 0 0, .slice none 0 0] (by kernel_rfl) ?_; intro g8 w3 ge hh bb; have ap_rB := hT.ap ge; have d_nt_rB := ne_new (hlt hnt) ge; have d_pB_rB := ne_new (hlt hpB) ge; have d_wB_rB := ne_new (hlt hwB) ge; have av_po_rB := po.av_new ge; have av_pb_rB := pb.av_new ge; have orB := Nat.le_trans (Nat.le_trans hlo bel.size) ge; have prB := Nat.le_trans bel.size ge; replace hnt := blk_u hnt bb; replace hpB := blk_u hpB bb; replace hwB := blk_u hwB bb; replace po := po.below bb; replace pb := pb.below bb; replace hT := hT.below bb; replace fr := fr.below bb; replace an_po := an_po.below bb; replace ap_pB := ap_pB.below bb; replace ap_wB := ap_wB.below bb; replace ap_rB := ap_rB.below bb; replace bel := bel.trans (bb.mono (Nat.le_trans hlo bel.size)); have hrB := hh; clear hh ge bb; have R15 := Lib.hid (range_lit hpB 0 16 [.int .i64 tos, .int .i64 id, .int .i64 fl, .int .i64 pt, .int .i64 ttl, .int .i64 6, .int .u8 (a0.toNat : Int), .int .u8 (a1.toNat : Int), .int .u8 (a2.toNat : Int), .int .u8 (a3.toNat : Int), .int .u8 (b0.toNat : Int), .int .u8 (b1.toNat : Int), .int .u8 (b2.toNat : Int), .int .u8 (b3.toNat : Int), .slice So no co, .slice Sb nb cb] rfl)) | ((with_reducible show wpList _ _ _ (⟨some 15, _, _, _, _, _⟩ :: _) _ _); refine wpList_load_rng 38 (.tmp 5) rfl (by kernel_rfl) _ _ rfl _ R15.out _ Tryz.underlying38 rfl (by kernel_rfl) ?_))
  try clear R15
  with_reducible refine (tcget_is _ _ _ _ _ _ _ _ _ _ _ _ _ _ _ _ _ _ _ _  pb HM.out HG.out HLQ.out HLD.out).mono ?_
  rintro e w4 ⟨Q, cq, D, cd, rfl, gq, gd, fq, fd, b4⟩
  have av_gq_nt := fq.av (hlt hnt)
  have av_gq_pB := fq.av (hlt hpB)
  have av_gq_wB := fq.av (hlt hwB)
  have av_gq_rB := fq.av (hlt hrB)
  have av_gd_nt := fd.av (hlt hnt)
  have av_gd_pB := fd.av (hlt hpB)
  have av_gd_wB := fd.av (hlt hwB)
  have av_gd_rB := fd.av (hlt hrB)
  have an_gq := hT.an fq
  have an_gd := hT.an fd
  replace hnt := blk_u hnt b4
  replace hpB := blk_u hpB b4
  replace hwB := blk_u hwB b4
  replace hrB := blk_u hrB b4
  replace po := po.below b4
  replace pb := pb.below b4
  replace hT := hT.below b4
  replace fr := fr.below b4
  replace an_po := an_po.below b4
  replace ap_pB := ap_pB.below b4
  replace ap_wB := ap_wB.below b4
  replace ap_rB := ap_rB.below b4
  replace an_gq := an_gq.below b4
  replace an_gd := an_gd.below b4
  replace bel := bel.trans (b4.mono (Nat.le_trans hlo bel.size))
  clear b4
  replace gq : Sl w4 (Q) (nq) (cq) (lq) := gq
  replace gd : Sl w4 (D) (nd) (cd) (ld) := gd
  go_wp2_with (first | ((with_reducible show wpList _ _ _ (⟨some 10, _, _, _, _, _⟩ :: _) _ _); refine wpList_new_a rfl 105 rfl #[.int .i64 0, .int .i64 0, .int .u32 0, .int .u32 0, .int .i64 0, .int .i64 0, .int .i64 0, .slice none 0 0, .slice none 0 0] (by kernel_rfl) ?_; intro g10 w5 ge hh bb; have ap_sB := hT.ap ge; have d_nt_sB := ne_new (hlt hnt) ge; have d_pB_sB := ne_new (hlt hpB) ge; have d_wB_sB := ne_new (hlt hwB) ge; have d_rB_sB := ne_new (hlt hrB) ge; have av_po_sB := po.av_new ge; have av_pb_sB := pb.av_new ge; have av_gq_sB := gq.av_new ge; have av_gd_sB := gd.av_new ge; have osB := Nat.le_trans (Nat.le_trans hlo bel.size) ge; have psB := Nat.le_trans bel.size ge; replace hnt := blk_u hnt bb; replace hpB := blk_u hpB bb; replace hwB := blk_u hwB bb; replace hrB := blk_u hrB bb; replace po := po.below bb; replace pb := pb.below bb; replace gq := gq.below bb; replace gd := gd.below bb; replace hT := hT.below bb; replace fr := fr.below bb; replace an_po := an_po.below bb; replace ap_pB := ap_pB.below bb; replace ap_wB := ap_wB.below bb; replace ap_rB := ap_rB.below bb; replace an_gq := an_gq.below bb; replace an_gd := an_gd.below bb; replace ap_sB := ap_sB.below bb; replace bel := bel.trans (bb.mono (Nat.le_trans hlo bel.size)); have hsB := hh; clear hh ge bb) | ((with_reducible show wpList _ _ _ (⟨none, Op.store _ (.tmp 10) _, _, _, _, _⟩ :: _) _ _); refine wpList_store_blk rfl 105 (.tmp 10) (.tmp 17) rfl g10 rfl _ rfl _ 105 hsB (by rfl) (by kernel_rfl) (by kernel_rfl) ?_; intro w6 hq gr; replace po := po.away av_po_sB gr; replace pb := pb.away av_pb_sB gr; replace gq := gq.away av_gq_sB gr; replace gd := gd.away av_gd_sB gr; replace hnt := blk_a hnt gr d_nt_sB; replace hpB := blk_a hpB gr d_pB_sB; replace hwB := blk_a hwB gr d_wB_sB; replace hrB := blk_a hrB gr d_rB_sB; replace hT := hT.away ap_sB gr hsB; replace fr := fr.newer ap_sB gr psB; replace an_po := an_po.grown ap_sB gr; replace ap_pB := ap_pB.grown ap_sB gr; replace ap_wB := ap_wB.grown ap_sB gr; replace ap_rB := ap_rB.grown ap_sB gr; replace an_gq := an_gq.grown ap_sB gr; replace an_gd := an_gd.grown ap_sB gr; replace ap_sB := ap_sB.grown ap_sB gr; replace bel := below_grown bel gr osB (Nat.le_trans hlo bel.size); clear hsB; have hsB := hq; clear hq gr; have R25 := Lib.hid (range_lit hpB 0 16 [.int .i64 tos, .int .i64 id, .int .i64 fl, .int .i64 pt, .int .i64 ttl, .int .i64 6, .int .u8 (a0.toNat : Int), .int .u8 (a1.toNat : Int), .int .u8 (a2.toNat : Int), .int .u8 (a3.toNat : Int), .int .u8 (b0.toNat : Int), .int .u8 (b1.toNat : Int), .int .u8 (b2.toNat : Int), .int .u8 (b3.toNat : Int), .slice So no co, .slice Sb nb cb] rfl)) | ((with_reducible show wpList _ _ _ (⟨some 25, _, _, _, _, _⟩ :: _) _ _); refine wpList_load_rng 38 (.tmp 5) rfl (by kernel_rfl) _ _ rfl _ R25.out _ Tryz.underlying38 rfl (by kernel_rfl) ?_; have R27 := cell_lit hsB 0 _ rfl))
  try clear R25
  try clear R27
  with_reducible refine (nmap_ok _ hT HD.out hc).mono ?_
  rintro e w7 ⟨rfl, hT_, f_, bb⟩
  clear hnt
  have x_ := f_ _ _ _ _ hpB ap_pB
  replace hpB := x_.1
  replace ap_pB := x_.2
  clear x_
  have x_ := f_ _ _ _ _ hwB ap_wB
  replace hwB := x_.1
  replace ap_wB := x_.2
  clear x_
  have x_ := f_ _ _ _ _ hrB ap_rB
  replace hrB := x_.1
  replace ap_rB := x_.2
  clear x_
  have x_ := f_ _ _ _ _ hsB ap_sB
  replace hsB := x_.1
  replace ap_sB := x_.2
  clear x_
  have x_ := f_.sl po an_po
  replace po := x_.1
  replace an_po := x_.2
  clear x_
  clear pb
  have x_ := f_.sl gq an_gq
  replace gq := x_.1
  replace an_gq := x_.2
  clear x_
  have x_ := f_.sl gd an_gd
  replace gd := x_.1
  replace an_gd := x_.2
  clear x_
  replace fr := fr.trans f_
  clear hT
  have hT := hT_
  replace bel := bel.trans bb
  clear bb f_ hT_
  have hnt := hT.nat
  go_wp2_with (first | ((with_reducible show wpList _ _ _ (⟨some 12, _, _, _, _, _⟩ :: _) _ _); refine wpList_new_a rfl 65 rfl #[.int .i64 0, .int .i64 0, .int .u8 0, .int .u8 0, .int .u8 0, .int .u8 0, .int .i64 0, .int .i64 0, .int .i64 0] (by kernel_rfl) ?_; intro g12 w8 ge hh bb; have ap_mB := hT.ap ge; have d_pB_mB := ne_new (hlt hpB) ge; have d_wB_mB := ne_new (hlt hwB) ge; have d_rB_mB := ne_new (hlt hrB) ge; have d_sB_mB := ne_new (hlt hsB) ge; have d_nt_mB := ne_new (hlt hnt) ge; have av_po_mB := po.av_new ge; have av_gq_mB := gq.av_new ge; have av_gd_mB := gd.av_new ge; have omB := Nat.le_trans (Nat.le_trans hlo bel.size) ge; have pmB := Nat.le_trans bel.size ge; replace hpB := blk_u hpB bb; replace hwB := blk_u hwB bb; replace hrB := blk_u hrB bb; replace hsB := blk_u hsB bb; replace hnt := blk_u hnt bb; replace po := po.below bb; replace gq := gq.below bb; replace gd := gd.below bb; replace hT := hT.below bb; replace fr := fr.below bb; replace an_po := an_po.below bb; replace ap_pB := ap_pB.below bb; replace ap_wB := ap_wB.below bb; replace ap_rB := ap_rB.below bb; replace an_gq := an_gq.below bb; replace an_gd := an_gd.below bb; replace ap_sB := ap_sB.below bb; replace ap_mB := ap_mB.below bb; replace bel := bel.trans (bb.mono (Nat.le_trans hlo bel.size)); have hmB := hh; clear hh ge bb) | ((with_reducible show wpList _ _ _ (⟨none, Op.store _ (.tmp 12) _, _, _, _, _⟩ :: _) _ _); refine wpList_store_blk rfl 65 (.tmp 12) (.tmp 30) rfl g12 rfl _ rfl _ 65 hmB (by rfl) (by kernel_rfl) (by kernel_rfl) ?_; intro w9 hq gr; replace po := po.away av_po_mB gr; replace gq := gq.away av_gq_mB gr; replace gd := gd.away av_gd_mB gr; replace hpB := blk_a hpB gr d_pB_mB; replace hwB := blk_a hwB gr d_wB_mB; replace hrB := blk_a hrB gr d_rB_mB; replace hsB := blk_a hsB gr d_sB_mB; replace hnt := blk_a hnt gr d_nt_mB; replace hT := hT.away ap_mB gr hmB; replace fr := fr.newer ap_mB gr pmB; replace an_po := an_po.grown ap_mB gr; replace ap_pB := ap_pB.grown ap_mB gr; replace ap_wB := ap_wB.grown ap_mB gr; replace ap_rB := ap_rB.grown ap_mB gr; replace an_gq := an_gq.grown ap_mB gr; replace an_gd := an_gd.grown ap_mB gr; replace ap_sB := ap_sB.grown ap_mB gr; replace ap_mB := ap_mB.grown ap_mB gr; replace bel := below_grown bel gr omB (Nat.le_trans hlo bel.size); clear hmB; have hmB := hq; clear hq gr))
  replace bel := bel.drew
  replace hpB : w9.drew.heap[g5]? = _ := hpB
  replace hwB : w9.drew.heap[g6]? = _ := hwB
  replace hrB : w9.drew.heap[g8]? = _ := hrB
  replace hsB : w9.drew.heap[g10]? = _ := hsB
  replace hnt : w9.drew.heap[gn]? = _ := hnt
  replace hmB : w9.drew.heap[g12]? = _ := hmB
  replace po := po.drew
  replace gq := gq.drew
  replace gd := gd.drew
  replace hT := np_drew hT
  replace fr := fn_drew fr
  replace an_po := an_drew an_po
  replace ap_pB := anp_drew ap_pB
  replace ap_wB := anp_drew ap_wB
  replace ap_rB := anp_drew ap_rB
  replace an_gq := an_drew an_gq
  replace an_gd := an_drew an_gd
  replace ap_sB := anp_drew ap_sB
  replace ap_mB := anp_drew ap_mB
  refine wp_region_held_drew (S := fun W => W.heap[gn]? = some (.cells #[.pointer (some ⟨gt, 0, none⟩), .pointer (some ⟨gk, 0, none⟩), .int .i64 120, .int .i64 7200, .int .i64 30] 82 (0, 0)) ∧ W.heap[g12]? = some (.cells #[.int .i64 m.pr, .int .i64 m.o, .int .u8 (m.ad.a.toNat : Int), .int .u8 (m.ad.b.toNat : Int), .int .u8 (m.ad.c.toNat : Int), .int .u8 (m.ad.d.toNat : Int), .int .i64 m.i, .int .i64 m.k, .int .i64 m.u] 65 (0, 0)) ∧ W.heap[g5]? = some (.cells #[.int .i64 tos, .int .i64 id, .int .i64 fl, .int .i64 pt, .int .i64 ttl, .int .i64 6, .int .u8 (a0.toNat : Int), .int .u8 (a1.toNat : Int), .int .u8 (a2.toNat : Int), .int .u8 (a3.toNat : Int), .int .u8 (b0.toNat : Int), .int .u8 (b1.toNat : Int), .int .u8 (b2.toNat : Int), .int .u8 (b3.toNat : Int), .slice So no co, .slice Sb nb cb] 38 (0, 0)) ∧ W.heap[g10]? = some (.cells #[.int .i64 sf, .int .i64 st, .int .u32 se, .int .u32 ak, .int .i64 fg, .int .i64 wn, .int .i64 ug, .slice Q nq cq, .slice D nd cd] 105 (0, 0))) (by kernel_rfl) ⟨hnt, hmB, hpB, hsB⟩ (fun hH => ?_)
  generalize w9.drew = w10 at bel hpB hwB hrB hsB hnt hmB po gq gd hT fr an_po ap_pB ap_wB ap_rB an_gq an_gd ap_sB ap_mB hH ⊢
  refine wpAnyH_take (i := 0) (v := ?_) rfl (by kernel_rfl) (by kernel_rfl) (by kernel_rfl) (fun _ _ _ h => h) (Or.inl ⟨by rfl, ?_⟩) hH ?_
  rotate_left
  · ((intro W hW; clear hW; go_simp) <;> with_reducible rfl)
  simp only [Act.put, List.getElem_toArray, List.getElem_cons_zero, List.setIfInBounds_toArray, List.set_cons_zero, List.set_cons_succ]
  refine wpAnyH_take (i := 1) (v := ?_) rfl (by kernel_rfl) (by kernel_rfl) (by kernel_rfl) (fun _ _ _ h => h) (Or.inl ⟨by rfl, ?_⟩) hH ?_
  rotate_left
  · ((intro W hW; clear hW; go_simp) <;> with_reducible rfl)
  simp only [sq3, sq4]
  refine wpAnyH_take (i := 2) (v := ?_) rfl (by kernel_rfl) (by kernel_rfl) (by kernel_rfl) (fun _ _ _ h => h) (Or.inl ⟨by rfl, ?_⟩) hH ?_
  rotate_left
  · ((intro W hW; clear hW; go_simp) <;> with_reducible rfl)
  simp only [sq3, sq4]
  refine wpAnyH_take (i := 3) (v := ?_) rfl (by kernel_rfl) (by kernel_rfl) (by kernel_rfl) (fun _ _ _ h => h) (Or.inl ⟨by rfl, ?_⟩) hH ?_
  rotate_left
  · ((intro W hW; have hk := cell_lit (hW.1) 1 _ rfl; clear hW; go_simp) <;> with_reducible rfl)
  simp only [sq3, sq4]
  refine wpAnyH_take (i := 4) (v := ?_) rfl (by kernel_rfl) (by kernel_rfl) (by kernel_rfl) (fun _ _ _ h => h) (Or.inl ⟨by rfl, ?_⟩) hH ?_
  rotate_left
  · ((intro W hW; clear hW; go_simp) <;> with_reducible rfl)
  simp only [sq3, sq4]
  refine wpAnyH_take (i := 5) (v := ?_) rfl (by kernel_rfl) (by kernel_rfl) (by kernel_rfl) (fun _ _ _ h => h) (Or.inl ⟨by rfl, ?_⟩) hH ?_
  rotate_left
  · ((intro W hW; have hk := cell_lit (hW.2.1) 1 _ rfl; clear hW; go_simp) <;> with_reducible rfl)
  simp only [sq3, sq4]
  refine wpAnyH_take (i := 6) (v := ?_) rfl (by kernel_rfl) (by kernel_rfl) (by kernel_rfl) (fun _ _ _ h => h) (Or.inl ⟨by rfl, ?_⟩) hH ?_
  rotate_left
  · ((intro W hW; clear hW; go_simp) <;> with_reducible rfl)
  simp only [sq3, sq4]
  refine wpAnyH_take (i := 7) (v := .agg #[.int .u8 (b0.toNat : Int), .int .u8 (b1.toNat : Int), .int .u8 (b2.toNat : Int), .int .u8 (b3.toNat : Int)]) rfl (by kernel_rfl) (by kernel_rfl) (by kernel_rfl) (fun _ _ _ h => h) (yieldsIf_load_part (by kernel_rfl) 35 _ rfl g5 10 4 rfl _ 38 (0, 0) (fun W hW => hW.2.2.1) _ rfl _ Tryz.underlying35 rfl (by kernel_rfl)) hH ?_
  simp only [sq3, sq4]
  refine wpAnyH_take (i := 8) (v := ?_) rfl (by kernel_rfl) (by kernel_rfl) (by kernel_rfl) (fun _ _ _ h => h) (Or.inl ⟨by rfl, ?_⟩) hH ?_
  rotate_left
  · ((intro W hW; clear hW; go_simp) <;> with_reducible rfl)
  simp only [sq3, sq4]
  refine wpAnyH_take (i := 9) (v := ?_) rfl (by kernel_rfl) (by kernel_rfl) (by kernel_rfl) (fun _ _ _ h => h) (Or.inl ⟨by rfl, ?_⟩) hH ?_
  rotate_left
  · ((intro W hW; have hk := cell_lit (hW.2.2.2) 1 _ rfl; clear hW; go_simp) <;> with_reducible rfl)
  simp only [sq3, sq4]
  refine wpAnyH_take (i := 10) (v := .agg #[.int .i64 sf, .int .i64 st, .int .u32 se, .int .u32 ak, .int .i64 fg, .int .i64 wn, .int .i64 ug, .slice Q nq cq, .slice D nd cd]) rfl (by kernel_rfl) (by kernel_rfl) (by kernel_rfl) (fun _ _ _ h => h) (yieldsIf_load_part (by kernel_rfl) 105 _ rfl g10 0 9 rfl _ 105 (0, 0) (fun W hW => hW.2.2.2) _ rfl _ Tryz.underlying105 rfl (by kernel_rfl)) hH ?_
  simp only [sq3, sq4]
  refine wpAnyH_ready (rs := [11]) (by kernel_rfl) (by simp) ?_
  refine AllReadyH.cons (o := _) rfl (fun K hK => ?_) AllReadyH.nil
  simp only [sq3]
  go_simp
  with_reducible refine (np_k hT (hs _ _ _ _ _ hT.tk)).mono ?_
  rintro e w11 ⟨rfl, hT_, f_, bb⟩
  dsimp only
  clear hnt
  have x_ := f_ _ _ _ _ hpB ap_pB
  replace hpB := x_.1
  replace ap_pB := x_.2
  clear x_
  have x_ := f_ _ _ _ _ hwB ap_wB
  replace hwB := x_.1
  replace ap_wB := x_.2
  clear x_
  have x_ := f_ _ _ _ _ hrB ap_rB
  replace hrB := x_.1
  replace ap_rB := x_.2
  clear x_
  have x_ := f_ _ _ _ _ hsB ap_sB
  replace hsB := x_.1
  replace ap_sB := x_.2
  clear x_
  have x_ := f_ _ _ _ _ hmB ap_mB
  replace hmB := x_.1
  replace ap_mB := x_.2
  clear x_
  have x_ := f_.sl po an_po
  replace po := x_.1
  replace an_po := x_.2
  clear x_
  have x_ := f_.sl gq an_gq
  replace gq := x_.1
  replace an_gq := x_.2
  clear x_
  have x_ := f_.sl gd an_gd
  replace gd := x_.1
  replace an_gd := x_.2
  clear x_
  replace fr := fr.trans f_
  clear hT
  have hT := hT_
  replace bel := bel.trans bb
  clear bb f_ hT_
  have hnt := hT.nat
  refine hK.out _ _ ⟨hnt, hmB, hpB, hsB⟩ (fun hH12 => ?_)
  clear hK K
  refine wpAnyH_take (i := 12) (v := ?_) rfl (by kernel_rfl) (by kernel_rfl) (by kernel_rfl) (fun _ _ _ h => h) (Or.inl ⟨by rfl, ?_⟩) hH12 ?_
  rotate_left
  · ((intro W hW; clear hW; go_simp) <;> with_reducible rfl)
  simp only [sq3, sq4]
  refine wpAnyH_done (by kernel_rfl) ?_ _
  have R49 := Lib.hid (range_lit hmB 0 9 [.int .i64 m.pr, .int .i64 m.o, .int .u8 (m.ad.a.toNat : Int), .int .u8 (m.ad.b.toNat : Int), .int .u8 (m.ad.c.toNat : Int), .int .u8 (m.ad.d.toNat : Int), .int .i64 m.i, .int .i64 m.k, .int .i64 m.u] rfl)
  go_wp2_with (first | ((with_reducible show wpList _ _ _ (⟨some 49, _, _, _, _, _⟩ :: _) _ _); refine wpList_load_rng 65 (.tmp 12) rfl (by kernel_rfl) _ _ rfl _ R49.out _ Tryz.underlying65 rfl (by kernel_rfl) ?_))
  try clear R49
  with_reducible refine (nlive_is _ hT hv).mono ?_
  rintro e w13 ⟨rfl, hT_, f_, bb⟩
  clear hnt
  have x_ := f_ _ _ _ _ hpB ap_pB
  replace hpB := x_.1
  replace ap_pB := x_.2
  clear x_
  have x_ := f_ _ _ _ _ hwB ap_wB
  replace hwB := x_.1
  replace ap_wB := x_.2
  clear x_
  have x_ := f_ _ _ _ _ hrB ap_rB
  replace hrB := x_.1
  replace ap_rB := x_.2
  clear x_
  have x_ := f_ _ _ _ _ hsB ap_sB
  replace hsB := x_.1
  replace ap_sB := x_.2
  clear x_
  have x_ := f_ _ _ _ _ hmB ap_mB
  replace hmB := x_.1
  replace ap_mB := x_.2
  clear x_
  have x_ := f_.sl po an_po
  replace po := x_.1
  replace an_po := x_.2
  clear x_
  have x_ := f_.sl gq an_gq
  replace gq := x_.1
  replace an_gq := x_.2
  clear x_
  have x_ := f_.sl gd an_gd
  replace gd := x_.1
  replace an_gd := x_.2
  clear x_
  replace fr := fr.trans f_
  clear hT
  have hT := hT_
  replace bel := bel.trans bb
  clear bb f_ hT_
  have hnt := hT.nat
  go_wp2_with fail
  replace bel := bel.drew
  replace hpB : w13.drew.heap[g5]? = _ := hpB
  replace hwB : w13.drew.heap[g6]? = _ := hwB
  replace hrB : w13.drew.heap[g8]? = _ := hrB
  replace hsB : w13.drew.heap[g10]? = _ := hsB
  replace hmB : w13.drew.heap[g12]? = _ := hmB
  replace hnt : w13.drew.heap[gn]? = _ := hnt
  replace po := po.drew
  replace gq := gq.drew
  replace gd := gd.drew
  replace hT := np_drew hT
  replace fr := fn_drew fr
  replace an_po := an_drew an_po
  replace ap_pB := anp_drew ap_pB
  replace ap_wB := anp_drew ap_wB
  replace ap_rB := anp_drew ap_rB
  replace an_gq := an_drew an_gq
  replace an_gd := an_drew an_gd
  replace ap_sB := anp_drew ap_sB
  replace ap_mB := anp_drew ap_mB
  refine wp_region_held_drew (S := fun W => W.heap[g6]? = some (.cells #[.int .u8 (c0.toNat : Int), .int .u8 (c1.toNat : Int), .int .u8 (c2.toNat : Int), .int .u8 (c3.toNat : Int)] 35 (0, 0)) ∧ W.heap[g12]? = some (.cells #[.int .i64 m.pr, .int .i64 m.o, .int .u8 (m.ad.a.toNat : Int), .int .u8 (m.ad.b.toNat : Int), .int .u8 (m.ad.c.toNat : Int), .int .u8 (m.ad.d.toNat : Int), .int .i64 m.i, .int .i64 m.k, .int .i64 m.u] 65 (0, 0))) (by kernel_rfl) ⟨hwB, hmB⟩ (fun hH => ?_)
  generalize w13.drew = w14 at bel hpB hwB hrB hsB hmB hnt po gq gd hT fr an_po ap_pB ap_wB ap_rB an_gq an_gd ap_sB ap_mB hH ⊢
  refine wpAnyH_take (i := 0) (v := .agg #[.int .u8 (c0.toNat : Int), .int .u8 (c1.toNat : Int), .int .u8 (c2.toNat : Int), .int .u8 (c3.toNat : Int)]) rfl (by kernel_rfl) (by kernel_rfl) (by kernel_rfl) (fun _ _ _ h => h) (yieldsIf_load_part (by kernel_rfl) 35 _ rfl g6 0 4 rfl _ 35 (0, 0) (fun W hW => hW.1) _ rfl _ Tryz.underlying35 rfl (by kernel_rfl)) hH ?_
  simp only [Act.put, List.getElem_toArray, List.getElem_cons_zero, List.setIfInBounds_toArray, List.set_cons_zero, List.set_cons_succ]
  refine wpAnyH_take (i := 1) (v := ?_) rfl (by kernel_rfl) (by kernel_rfl) (by kernel_rfl) (fun _ _ _ h => h) (Or.inl ⟨by rfl, ?_⟩) hH ?_
  rotate_left
  · ((intro W hW; clear hW; go_simp) <;> with_reducible rfl)
  simp only [sq3, sq4]
  refine wpAnyH_take (i := 2) (v := ?_) rfl (by kernel_rfl) (by kernel_rfl) (by kernel_rfl) (fun _ _ _ h => h) (Or.inl ⟨by rfl, ?_⟩) hH ?_
  rotate_left
  · ((intro W hW; have hk := cell_lit (hW.2) 1 _ rfl; clear hW; go_simp) <;> with_reducible rfl)
  simp only [sq3, sq4]
  refine wpAnyH_take (i := 3) (v := ?_) rfl (by kernel_rfl) (by kernel_rfl) (by kernel_rfl) (fun _ _ _ h => h) (Or.inl ⟨by rfl, ?_⟩) hH ?_
  rotate_left
  · ((intro W hW; clear hW; go_simp) <;> with_reducible rfl)
  simp only [sq3, sq4]
  refine wpAnyH_ready (rs := [4]) (by kernel_rfl) (by simp) ?_
  refine AllReadyH.cons (o := _) rfl (fun K hK => ?_) AllReadyH.nil
  simp only [sq3]
  rw [if_pos (by rfl)]
  refine wp_store_part 35 (.tmp 56) (.tmp 53) rfl g5 6 rfl [.int .u8 (c0.toNat : Int), .int .u8 (c1.toNat : Int), .int .u8 (c2.toNat : Int), .int .u8 (c3.toNat : Int)] rfl [.int .i64 tos, .int .i64 id, .int .i64 fl, .int .i64 pt, .int .i64 ttl, .int .i64 6, .int .u8 (a0.toNat : Int), .int .u8 (a1.toNat : Int), .int .u8 (a2.toNat : Int), .int .u8 (a3.toNat : Int), .int .u8 (b0.toNat : Int), .int .u8 (b1.toNat : Int), .int .u8 (b2.toNat : Int), .int .u8 (b3.toNat : Int), .slice So no co, .slice Sb nb cb] 38 hpB (by simp) [.int .i64 tos, .int .i64 id, .int .i64 fl, .int .i64 pt, .int .i64 ttl, .int .i64 6, .int .u8 (c0.toNat : Int), .int .u8 (c1.toNat : Int), .int .u8 (c2.toNat : Int), .int .u8 (c3.toNat : Int), .int .u8 (b0.toNat : Int), .int .u8 (b1.toNat : Int), .int .u8 (b2.toNat : Int), .int .u8 (b3.toNat : Int), .slice So no co, .slice Sb nb cb] rfl (by kernel_rfl) (by rfl) ?_
  intro w15 hq gr
  replace po := po.away av_po_pB gr
  replace gq := gq.away av_gq_pB gr
  replace gd := gd.away av_gd_pB gr
  replace hwB := blk_a hwB gr (ne_symm d_pB_wB)
  replace hrB := blk_a hrB gr (ne_symm d_pB_rB)
  replace hsB := blk_a hsB gr (ne_symm d_pB_sB)
  replace hmB := blk_a hmB gr (ne_symm d_pB_mB)
  replace hnt := blk_a hnt gr d_nt_pB
  replace hT := hT.away ap_pB gr hpB
  replace fr := fr.newer ap_pB gr ppB
  replace an_po := an_po.grown ap_pB gr
  replace ap_pB := ap_pB.grown ap_pB gr
  replace ap_wB := ap_wB.grown ap_pB gr
  replace ap_rB := ap_rB.grown ap_pB gr
  replace an_gq := an_gq.grown ap_pB gr
  replace an_gd := an_gd.grown ap_pB gr
  replace ap_sB := ap_sB.grown ap_pB gr
  replace ap_mB := ap_mB.grown ap_pB gr
  replace bel := below_grown bel gr opB (Nat.le_trans hlo bel.size)
  clear hpB
  have hpB := hq
  clear hq gr
  refine hK.out _ _ ⟨hwB, hmB⟩ (fun hH16 => ?_)
  clear hK K
  simp only [Act.put]
  refine wpAnyH_take (i := 5) (v := ?_) rfl (by kernel_rfl) (by kernel_rfl) (by kernel_rfl) (fun _ _ _ h => h) (Or.inl ⟨by rfl, ?_⟩) hH16 ?_
  rotate_left
  · ((intro W hW; clear hW; go_simp) <;> with_reducible rfl)
  simp only [sq3, sq4]
  refine wpAnyH_ready (rs := [6]) (by kernel_rfl) (by simp) ?_
  refine AllReadyH.cons (o := _) rfl (fun K hK => ?_) AllReadyH.nil
  simp only [sq3]
  rw [if_pos (by rfl)]
  refine wp_store_part 3 (.tmp 57) (.tmp 55) rfl g10 0 rfl [.int .i64 m.o] rfl [.int .i64 sf, .int .i64 st, .int .u32 se, .int .u32 ak, .int .i64 fg, .int .i64 wn, .int .i64 ug, .slice Q nq cq, .slice D nd cd] 105 hsB (by simp) [.int .i64 m.o, .int .i64 st, .int .u32 se, .int .u32 ak, .int .i64 fg, .int .i64 wn, .int .i64 ug, .slice Q nq cq, .slice D nd cd] rfl (by kernel_rfl) (by rfl) ?_
  intro w17 hq gr
  replace po := po.away av_po_sB gr
  replace gq := gq.away av_gq_sB gr
  replace gd := gd.away av_gd_sB gr
  replace hpB := blk_a hpB gr d_pB_sB
  replace hwB := blk_a hwB gr d_wB_sB
  replace hrB := blk_a hrB gr d_rB_sB
  replace hmB := blk_a hmB gr (ne_symm d_sB_mB)
  replace hnt := blk_a hnt gr d_nt_sB
  replace hT := hT.away ap_sB gr hsB
  replace fr := fr.newer ap_sB gr psB
  replace an_po := an_po.grown ap_sB gr
  replace ap_pB := ap_pB.grown ap_sB gr
  replace ap_wB := ap_wB.grown ap_sB gr
  replace ap_rB := ap_rB.grown ap_sB gr
  replace an_gq := an_gq.grown ap_sB gr
  replace an_gd := an_gd.grown ap_sB gr
  replace ap_sB := ap_sB.grown ap_sB gr
  replace ap_mB := ap_mB.grown ap_sB gr
  replace bel := below_grown bel gr osB (Nat.le_trans hlo bel.size)
  clear hsB
  have hsB := hq
  clear hq gr
  refine hK.out _ _ ⟨hwB, hmB⟩ (fun hH18 => ?_)
  clear hK K
  simp only [Act.put]
  refine wpAnyH_done (by kernel_rfl) ?_ _
  have R58 := Lib.hid (range_lit hpB 0 16 [.int .i64 tos, .int .i64 id, .int .i64 fl, .int .i64 pt, .int .i64 ttl, .int .i64 6, .int .u8 (c0.toNat : Int), .int .u8 (c1.toNat : Int), .int .u8 (c2.toNat : Int), .int .u8 (c3.toNat : Int), .int .u8 (b0.toNat : Int), .int .u8 (b1.toNat : Int), .int .u8 (b2.toNat : Int), .int .u8 (b3.toNat : Int), .slice So no co, .slice Sb nb cb] rfl)
  go_wp2_with (first | ((with_reducible show wpList _ _ _ (⟨some 58, _, _, _, _, _⟩ :: _) _ _); refine wpList_load_rng 38 (.tmp 5) rfl (by kernel_rfl) _ _ rfl _ R58.out _ Tryz.underlying38 rfl (by kernel_rfl) ?_; have R59 := Lib.hid (range_lit hsB 0 9 [.int .i64 m.o, .int .i64 st, .int .u32 se, .int .u32 ak, .int .i64 fg, .int .i64 wn, .int .i64 ug, .slice Q nq cq, .slice D nd cd] rfl)) | ((with_reducible show wpList _ _ _ (⟨some 59, _, _, _, _, _⟩ :: _) _ _); refine wpList_load_rng 105 (.tmp 10) rfl (by kernel_rfl) _ _ rfl _ R59.out _ Tryz.underlying105 rfl (by kernel_rfl) ?_))
  try clear R58
  try clear R59
  have hsz_ := bel.size
  with_reducible refine (tcput_is _ _ _ _ _ _ _ _ _ _ _ _ _ _ _ _ _ _ _ _ _ _ _ _ _ _ _ _ _ _ _ _ _ _  po gq gd HSG.out HN4.out HNO.out HSE.out.1 HSE.out.2 HAK.out.1 HAK.out.2).mono ?_
  rintro e w19 ⟨Ao, co2, Ab, cb2, rfl, qo, qb, fqo_, fqb_, b19⟩
  have av_qo_pB := fqo_.av (hlt hpB)
  have av_qo_wB := fqo_.av (hlt hwB)
  have av_qo_rB := fqo_.av (hlt hrB)
  have av_qo_sB := fqo_.av (hlt hsB)
  have av_qo_mB := fqo_.av (hlt hmB)
  have av_qo_nt := fqo_.av (hlt hnt)
  have av_qb_pB := fqb_.av (hlt hpB)
  have av_qb_wB := fqb_.av (hlt hwB)
  have av_qb_rB := fqb_.av (hlt hrB)
  have av_qb_sB := fqb_.av (hlt hsB)
  have av_qb_mB := fqb_.av (hlt hmB)
  have av_qb_nt := fqb_.av (hlt hnt)
  have an_qo := hT.an fqo_
  have an_qb := hT.an fqb_
  replace hpB := blk_u hpB b19
  replace hwB := blk_u hwB b19
  replace hrB := blk_u hrB b19
  replace hsB := blk_u hsB b19
  replace hmB := blk_u hmB b19
  replace hnt := blk_u hnt b19
  replace po := po.below b19
  replace gq := gq.below b19
  replace gd := gd.below b19
  replace hT := hT.below b19
  replace fr := fr.below b19
  replace an_po := an_po.below b19
  replace ap_pB := ap_pB.below b19
  replace ap_wB := ap_wB.below b19
  replace ap_rB := ap_rB.below b19
  replace an_gq := an_gq.below b19
  replace an_gd := an_gd.below b19
  replace ap_sB := ap_sB.below b19
  replace ap_mB := ap_mB.below b19
  replace an_qo := an_qo.below b19
  replace an_qb := an_qb.below b19
  replace bel := bel.trans (b19.mono (Nat.le_trans hlo bel.size))
  clear b19
  replace qo : Sl w19 (Ao) (no) (co2) (lp) := qo
  replace qb : Sl w19 (Ab) (20 + nq + nd) (cb2) (tcBytes c0 c1 c2 c3 b0 b1 b2 b3 m.o st se ak fg wn ug lq ld) := qb
  have fqo := Fr.mono fqo_ hsz_
  have fqb := Fr.mono fqb_ hsz_
  clear fqo_ fqb_ hsz_
  go_wp2_with (first | ((with_reducible show wpList _ _ _ (⟨none, Op.store _ (.tmp 8) _, _, _, _, _⟩ :: _) _ _); refine wpList_store_blk rfl 38 (.tmp 8) (.tmp 61) rfl g8 rfl _ rfl _ 38 hrB (by rfl) (by kernel_rfl) (by kernel_rfl) ?_; intro w20 hq gr; replace po := po.away av_po_rB gr; replace gq := gq.away av_gq_rB gr; replace gd := gd.away av_gd_rB gr; replace qo := qo.away av_qo_rB gr; replace qb := qb.away av_qb_rB gr; replace hpB := blk_a hpB gr d_pB_rB; replace hwB := blk_a hwB gr d_wB_rB; replace hsB := blk_a hsB gr (ne_symm d_rB_sB); replace hmB := blk_a hmB gr (ne_symm d_rB_mB); replace hnt := blk_a hnt gr d_nt_rB; replace hT := hT.away ap_rB gr hrB; replace fr := fr.newer ap_rB gr prB; replace an_po := an_po.grown ap_rB gr; replace ap_pB := ap_pB.grown ap_rB gr; replace ap_wB := ap_wB.grown ap_rB gr; replace ap_rB := ap_rB.grown ap_rB gr; replace an_gq := an_gq.grown ap_rB gr; replace an_gd := an_gd.grown ap_rB gr; replace ap_sB := ap_sB.grown ap_rB gr; replace ap_mB := ap_mB.grown ap_rB gr; replace an_qo := an_qo.grown ap_rB gr; replace an_qb := an_qb.grown ap_rB gr; replace bel := below_grown bel gr orB (Nat.le_trans hlo bel.size); clear hrB; have hrB := hq; clear hq gr))
  exact bodyPost_ret (results_cell_tmp_row rfl _ _ _ _ _ _ _ rfl hrB Tryz.underlying38 rfl (by kernel_rfl) (.int .i64 0) rfl) rfl ⟨Ao, co2, Ab, cb2, rfl, hT, fr, bel, qo, qb, an_qo, an_qb, fqo, fqb⟩
set_option linter.unusedVariables false in
set_option linter.unusedVariables false in
set_option linter.unusedSimpArgs false in
set_option maxRecDepth 100000 in
set_option maxHeartbeats 16000000 in
theorem nout_t {lo gn gt gk : Nat} {s : Ts} {k : Ks} {s' s2 : Ts} {k' : Ks} {m : Mp} {r : Int} {b : Bool} {tos id fl pt ttl : Int} {a0 a1 a2 a3 b0 b1 b2 b3 : UInt8} {So Sb : Option Addr} {no co nb cb : Nat} {lp lb : List UInt8} {c0 c1 c2 c3 : UInt8} {t : Int} {sf st se ak fg wn ug : Int} {lq ld : List UInt8} {nq nd : Nat} (w : World) (hT : Np lo gn gt gk w s k) (po : Sl w So no co lp) (pb : Sl w Sb nb cb lb) (an_po : An gn gt gk w So no) (hm : nb ≤ 100000) (hno : no ≤ 100000) (hw : (decide (pt = 0) && decide (fl % 2 = 0)) = true) (hg : tcGet fl pt 6 a0 a1 a2 a3 b0 b1 b2 b3 lb = ([sf, st, se, ak, fg, wn, ug], (lq, ld), 0)) (hlq : lq.length = nq) (hld : ld.length = nd) (hd : sf ≠ 0) (hc : MakeC lo gt s s' 6 a0 a1 a2 a3 sf t 10 m 0) (hs : SeeC lo gk k k' m.o b0 b1 b2 b3 st false sf st se ak fg wn ug nq nd r) (hv : LiveC lo gt s' s2 6 m.o t (secV r 7200) b) (hsg : segOk m.o st fg wn ug nq = true) (hn : nq + nd ≤ 1460) (hse : 0 ≤ se ∧ se < 4294967296) (hak : 0 ≤ ak ∧ ak < 4294967296)  : Calls Tryz.prog 19 #[.pointer (some ⟨gn, 0, none⟩), .agg #[.int .i64 tos, .int .i64 id, .int .i64 fl, .int .i64 pt, .int .i64 ttl, .int .i64 6, .int .u8 (a0.toNat : Int), .int .u8 (a1.toNat : Int), .int .u8 (a2.toNat : Int), .int .u8 (a3.toNat : Int), .int .u8 (b0.toNat : Int), .int .u8 (b1.toNat : Int), .int .u8 (b2.toNat : Int), .int .u8 (b3.toNat : Int), .slice So no co, .slice Sb nb cb], .agg #[.int .u8 (c0.toNat : Int), .int .u8 (c1.toNat : Int), .int .u8 (c2.toNat : Int), .int .u8 (c3.toNat : Int)], .int .i64 t] w fun e w' => ∃ Ao co' Ab cb', e = .returned (.tuple #[.agg #[.int .i64 tos, .int .i64 id, .int .i64 fl, .int .i64 pt, .int .i64 ttl, .int .i64 6, .int .u8 (c0.toNat : Int), .int .u8 (c1.toNat : Int), .int .u8 (c2.toNat : Int), .int .u8 (c3.toNat : Int), .int .u8 (b0.toNat : Int), .int .u8 (b1.toNat : Int), .int .u8 (b2.toNat : Int), .int .u8 (b3.toNat : Int), .slice Ao no co', .slice Ab (20 + nq + nd) cb'], .int .i64 0]) ∧ Np lo gn gt gk w' s2 k' ∧ Fn gn gt gk w w' ∧ Below lo w w' ∧ Sl w' Ao no co' lp ∧ Sl w' Ab (20 + nq + nd) cb' (tcBytes c0 c1 c2 c3 b0 b1 b2 b3 m.o st se ak fg wn ug lq ld) ∧ An gn gt gk w' Ao no ∧ An gn gt gk w' Ab (20 + nq + nd) ∧ Fr w.heap.size Ao no ∧ Fr w.heap.size Ab (20 + nq + nd) := by
  have hlo : lo ≤ w.heap.size := hT.lo_le
  have HLO := Lib.hid hlo
  have hnt := hT.nat
  have fr := Fn.refl gn gt gk w
  have HM := Lib.hid hm
  clear hm
  have HNO := Lib.hid hno
  clear hno
  have HG := Lib.hid hg
  clear hg
  have HLQ := Lib.hid hlq
  clear hlq
  have HLD := Lib.hid hld
  clear hld
  have HD := Lib.hid hd
  clear hd
  have HN4 := Lib.hid hn
  clear hn
  have HSE := Lib.hid hse
  clear hse
  have HAK := Lib.hid hak
  clear hak
  have HSG := Lib.hid hsg
  clear hsg
  have HW := Lib.hid hw
  clear hw
  have bel := Below.refl lo w
  go_enter Tryz.func19, Tryz.ntmps19
  go_wp2_with (first | ((with_reducible show wpList _ _ _ (⟨some 5, _, _, _, _, _⟩ :: _) _ _); refine wpList_box_n rfl 38 (.tmp 1) rfl #[.int .i64 tos, .int .i64 id, .int .i64 fl, .int .i64 pt, .int .i64 ttl, .int .i64 6, .int .u8 (a0.toNat : Int), .int .u8 (a1.toNat : Int), .int .u8 (a2.toNat : Int), .int .u8 (a3.toNat : Int), .int .u8 (b0.toNat : Int), .int .u8 (b1.toNat : Int), .int .u8 (b2.toNat : Int), .int .u8 (b3.toNat : Int), .slice So no co, .slice Sb nb cb] rfl ?_; intro g5 w1 ge lt hh bb; have ap_pB := hT.ap ge; have d_nt_pB := ne_new (hlt hnt) ge; have av_po_pB := po.av_new ge; have av_pb_pB := pb.av_new ge; have opB := Nat.le_trans (Nat.le_trans hlo bel.size) ge; have ppB := Nat.le_trans bel.size ge; replace hnt := blk_u hnt bb; replace po := po.below bb; replace pb := pb.below bb; replace hT := hT.below bb; replace fr := fr.below bb; replace an_po := an_po.below bb; replace ap_pB := ap_pB.below bb; replace bel := bel.trans (bb.mono (Nat.le_trans hlo bel.size)); have hpB := hh; clear hh lt ge bb) | ((with_reducible show wpList _ _ _ (⟨some 6, _, _, _, _, _⟩ :: _) _ _); refine wpList_box_n rfl 35 (.tmp 2) rfl #[.int .u8 (c0.toNat : Int), .int .u8 (c1.toNat : Int), .int .u8 (c2.toNat : Int), .int .u8 (c3.toNat : Int)] rfl ?_; intro g6 w2 ge lt hh bb; have ap_wB := hT.ap ge; have d_nt_wB := ne_new (hlt hnt) ge; have d_pB_wB := ne_new (hlt hpB) ge; have av_po_wB := po.av_new ge; have av_pb_wB := pb.av_new ge; have owB := Nat.le_trans (Nat.le_trans hlo bel.size) ge; have pwB := Nat.le_trans bel.size ge; replace hnt := blk_u hnt bb; replace hpB := blk_u hpB bb; replace po := po.below bb; replace pb := pb.below bb; replace hT := hT.below bb; replace fr := fr.below bb; replace an_po := an_po.below bb; replace ap_pB := ap_pB.below bb; replace ap_wB := ap_wB.below bb; replace bel := bel.trans (bb.mono (Nat.le_trans hlo bel.size)); have hwB := hh; clear hh lt ge bb) | ((with_reducible show wpList _ _ _ (⟨some 8, _, _, _, _, _⟩ :: _) _ _); refine wpList_new_a rfl 38 rfl #[.int .i64 0, .int .i64 0, .int .i64 0, .int .i64 0, .int .i64 0, .int .i64 0, .int .u8 0, .int .u8 0, .int .u8 0, .int .u8 0, .int .u8 0, .int .u8 0, .int .u8 0, .int .u8 0, .slice none 0 0, .slice none 0 0] (by kernel_rfl) ?_; intro g8 w3 ge hh bb; have ap_rB := hT.ap ge; have d_nt_rB := ne_new (hlt hnt) ge; have d_pB_rB := ne_new (hlt hpB) ge; have d_wB_rB := ne_new (hlt hwB) ge; have av_po_rB := po.av_new ge; have av_pb_rB := pb.av_new ge; have orB := Nat.le_trans (Nat.le_trans hlo bel.size) ge; have prB := Nat.le_trans bel.size ge; replace hnt := blk_u hnt bb; replace hpB := blk_u hpB bb; replace hwB := blk_u hwB bb; replace po := po.below bb; replace pb := pb.below bb; replace hT := hT.below bb; replace fr := fr.below bb; replace an_po := an_po.below bb; replace ap_pB := ap_pB.below bb; replace ap_wB := ap_wB.below bb; replace ap_rB := ap_rB.below bb; replace bel := bel.trans (bb.mono (Nat.le_trans hlo bel.size)); have hrB := hh; clear hh ge bb; have R10 := Lib.hid (range_lit hpB 0 16 [.int .i64 tos, .int .i64 id, .int .i64 fl, .int .i64 pt, .int .i64 ttl, .int .i64 6, .int .u8 (a0.toNat : Int), .int .u8 (a1.toNat : Int), .int .u8 (a2.toNat : Int), .int .u8 (a3.toNat : Int), .int .u8 (b0.toNat : Int), .int .u8 (b1.toNat : Int), .int .u8 (b2.toNat : Int), .int .u8 (b3.toNat : Int), .slice So no co, .slice Sb nb cb] rfl)) | ((with_reducible show wpList _ _ _ (⟨some 10, _, _, _, _, _⟩ :: _) _ _); refine wpList_load_rng 38 (.tmp 5) rfl (by kernel_rfl) _ _ rfl _ R10.out _ Tryz.underlying38 rfl (by kernel_rfl) ?_))
  try clear R10
  with_reducible refine (ipwhole_any _ _ _ _ _ _ _ _ _ _ _ _ _ _ _ _ _ _ _ _ _ ).mono ?_
  rintro e w4 ⟨rfl, b4⟩
  replace hnt := blk_u hnt b4
  replace hpB := blk_u hpB b4
  replace hwB := blk_u hwB b4
  replace hrB := blk_u hrB b4
  replace po := po.below b4
  replace pb := pb.below b4
  replace hT := hT.below b4
  replace fr := fr.below b4
  replace an_po := an_po.below b4
  replace ap_pB := ap_pB.below b4
  replace ap_wB := ap_wB.below b4
  replace ap_rB := ap_rB.below b4
  replace bel := bel.trans (b4.mono (Nat.le_trans hlo bel.size))
  clear b4
  rw [HW.out]
  have R15 := cell_lit hpB 5 _ rfl
  have R28 := Lib.hid (range_lit hpB 0 16 [.int .i64 tos, .int .i64 id, .int .i64 fl, .int .i64 pt, .int .i64 ttl, .int .i64 6, .int .u8 (a0.toNat : Int), .int .u8 (a1.toNat : Int), .int .u8 (a2.toNat : Int), .int .u8 (a3.toNat : Int), .int .u8 (b0.toNat : Int), .int .u8 (b1.toNat : Int), .int .u8 (b2.toNat : Int), .int .u8 (b3.toNat : Int), .slice So no co, .slice Sb nb cb] rfl)
  go_wp2_with (first | ((with_reducible show wpList _ _ _ (⟨some 28, _, _, _, _, _⟩ :: _) _ _); refine wpList_load_rng 38 (.tmp 5) rfl (by kernel_rfl) _ _ rfl _ R28.out _ Tryz.underlying38 rfl (by kernel_rfl) ?_; have R29 := Lib.hid (range_lit hwB 0 4 [.int .u8 (c0.toNat : Int), .int .u8 (c1.toNat : Int), .int .u8 (c2.toNat : Int), .int .u8 (c3.toNat : Int)] rfl)) | ((with_reducible show wpList _ _ _ (⟨some 29, _, _, _, _, _⟩ :: _) _ _); refine wpList_load_rng 35 (.tmp 6) rfl (by kernel_rfl) _ _ rfl _ R29.out _ Tryz.underlying35 rfl (by kernel_rfl) ?_))
  try clear R15
  try clear R28
  try clear R29
  have hsz_ := bel.size
  have lt_pB := hlt hpB
  have lt_wB := hlt hwB
  have lt_rB := hlt hrB
  with_reducible refine (nsout_ok _ hT po pb an_po HM.out HNO.out HG.out HLQ.out HLD.out HD.out hc hs hv HSG.out HN4.out HSE.out HAK.out).mono ?_
  rintro e w5 ⟨Ao, co2, Ab, cb2, rfl, hT_, f_, bb, qo, qb, an_qo, an_qb, fqo, fqb⟩
  clear hnt
  have x_ := f_ _ _ _ _ hpB ap_pB
  replace hpB := x_.1
  replace ap_pB := x_.2
  clear x_
  have x_ := f_ _ _ _ _ hwB ap_wB
  replace hwB := x_.1
  replace ap_wB := x_.2
  clear x_
  have x_ := f_ _ _ _ _ hrB ap_rB
  replace hrB := x_.1
  replace ap_rB := x_.2
  clear x_
  have x_ := f_.sl po an_po
  replace po := x_.1
  replace an_po := x_.2
  clear x_
  clear pb
  replace fr := fr.trans f_
  clear hT
  have hT := hT_
  replace bel := bel.trans bb
  clear bb f_ hT_
  have hnt := hT.nat
  have av_qo_pB := fqo.av lt_pB
  have av_qo_wB := fqo.av lt_wB
  have av_qo_rB := fqo.av lt_rB
  have av_qb_pB := fqb.av lt_pB
  have av_qb_wB := fqb.av lt_wB
  have av_qb_rB := fqb.av lt_rB
  clear lt_pB lt_wB lt_rB
  replace fqo := Fr.mono fqo hsz_
  replace fqb := Fr.mono fqb hsz_
  clear hsz_
  go_wp2_with (first | ((with_reducible show wpList _ _ _ (⟨none, Op.store _ (.tmp 8) _, _, _, _, _⟩ :: _) _ _); refine wpList_store_blk rfl 38 (.tmp 8) (.tmp 32) rfl g8 rfl _ rfl _ 38 hrB (by rfl) (by kernel_rfl) (by kernel_rfl) ?_; intro w6 hq gr; replace po := po.away av_po_rB gr; replace qo := qo.away av_qo_rB gr; replace qb := qb.away av_qb_rB gr; replace hpB := blk_a hpB gr d_pB_rB; replace hwB := blk_a hwB gr d_wB_rB; replace hnt := blk_a hnt gr d_nt_rB; replace hT := hT.away ap_rB gr hrB; replace fr := fr.newer ap_rB gr prB; replace an_po := an_po.grown ap_rB gr; replace ap_pB := ap_pB.grown ap_rB gr; replace ap_wB := ap_wB.grown ap_rB gr; replace ap_rB := ap_rB.grown ap_rB gr; replace an_qo := an_qo.grown ap_rB gr; replace an_qb := an_qb.grown ap_rB gr; replace bel := below_grown bel gr orB (Nat.le_trans hlo bel.size); clear hrB; have hrB := hq; clear hq gr))
  exact bodyPost_ret (results_cell_tmp_row rfl _ _ _ _ _ _ _ rfl hrB Tryz.underlying38 rfl (by kernel_rfl) (.int .i64 0) rfl) rfl ⟨Ao, co2, Ab, cb2, rfl, hT, fr, bel, qo, qb, an_qo, an_qb, fqo, fqb⟩
set_option linter.unusedVariables false in
set_option linter.unusedVariables false in
set_option linter.unusedSimpArgs false in
set_option maxRecDepth 100000 in
set_option maxHeartbeats 16000000 in
theorem nsin_ok {lo gn gt gk : Nat} {s : Ts} {k : Ks} {s' s2 : Ts} {k' : Ks} {m : Mp} {r : Int} {b : Bool} {tos id fl pt ttl : Int} {a0 a1 a2 a3 b0 b1 b2 b3 : UInt8} {So Sb : Option Addr} {no co nb cb : Nat} {lp lb : List UInt8} {t : Int} {sf st se ak fg wn ug : Int} {lq ld : List UInt8} {nq nd : Nat} (w : World) (hT : Np lo gn gt gk w s k) (po : Sl w So no co lp) (pb : Sl w Sb nb cb lb) (an_po : An gn gt gk w So no) (hm : nb ≤ 100000) (hno : no ≤ 100000) (hg : tcGet fl pt 6 a0 a1 a2 a3 b0 b1 b2 b3 lb = ([sf, st, se, ak, fg, wn, ug], (lq, ld), 0)) (hlq : lq.length = nq) (hld : ld.length = nd) (hc : InC lo gt s s' 6 st t m) (hs : SeeC lo gk k k' m.o a0 a1 a2 a3 sf true sf st se ak fg wn ug nq nd r) (hv : LiveC lo gt s' s2 6 m.o t (secV r 7200) b) (hsg : segOk sf m.i fg wn ug nq = true) (hn : nq + nd ≤ 1460) (hse : 0 ≤ se ∧ se < 4294967296) (hak : 0 ≤ ak ∧ ak < 4294967296)  : Calls Tryz.prog 34 #[.pointer (some ⟨gn, 0, none⟩), .agg #[.int .i64 tos, .int .i64 id, .int .i64 fl, .int .i64 pt, .int .i64 ttl, .int .i64 6, .int .u8 (a0.toNat : Int), .int .u8 (a1.toNat : Int), .int .u8 (a2.toNat : Int), .int .u8 (a3.toNat : Int), .int .u8 (b0.toNat : Int), .int .u8 (b1.toNat : Int), .int .u8 (b2.toNat : Int), .int .u8 (b3.toNat : Int), .slice So no co, .slice Sb nb cb], .int .i64 t] w fun e w' => ∃ Ao co' Ab cb', e = .returned (.tuple #[.agg #[.int .i64 tos, .int .i64 id, .int .i64 fl, .int .i64 pt, .int .i64 ttl, .int .i64 6, .int .u8 (a0.toNat : Int), .int .u8 (a1.toNat : Int), .int .u8 (a2.toNat : Int), .int .u8 (a3.toNat : Int), .int .u8 (m.ad.a.toNat : Int), .int .u8 (m.ad.b.toNat : Int), .int .u8 (m.ad.c.toNat : Int), .int .u8 (m.ad.d.toNat : Int), .slice Ao no co', .slice Ab (20 + nq + nd) cb'], .int .i64 0]) ∧ Np lo gn gt gk w' s2 k' ∧ Fn gn gt gk w w' ∧ Below lo w w' ∧ Sl w' Ao no co' lp ∧ Sl w' Ab (20 + nq + nd) cb' (tcBytes a0 a1 a2 a3 m.ad.a m.ad.b m.ad.c m.ad.d sf m.i se ak fg wn ug lq ld) ∧ An gn gt gk w' Ao no ∧ An gn gt gk w' Ab (20 + nq + nd) ∧ Fr w.heap.size Ao no ∧ Fr w.heap.size Ab (20 + nq + nd) := by
  have hlo : lo ≤ w.heap.size := hT.lo_le
  have HLO := Lib.hid hlo
  have hnt := hT.nat
  have fr := Fn.refl gn gt gk w
  have HM := Lib.hid hm
  clear hm
  have HNO := Lib.hid hno
  clear hno
  have HG := Lib.hid hg
  clear hg
  have HLQ := Lib.hid hlq
  clear hlq
  have HLD := Lib.hid hld
  clear hld
  have HN4 := Lib.hid hn
  clear hn
  have HSE := Lib.hid hse
  clear hse
  have HAK := Lib.hid hak
  clear hak
  have HSG := Lib.hid hsg
  clear hsg
  have bel := Below.refl lo w
  go_enter Tryz.func34, Tryz.ntmps34
  go_wp2_with (first | ((with_reducible show wpList _ _ _ (⟨some 4, _, _, _, _, _⟩ :: _) _ _); refine wpList_box_n rfl 38 (.tmp 1) rfl #[.int .i64 tos, .int .i64 id, .int .i64 fl, .int .i64 pt, .int .i64 ttl, .int .i64 6, .int .u8 (a0.toNat : Int), .int .u8 (a1.toNat : Int), .int .u8 (a2.toNat : Int), .int .u8 (a3.toNat : Int), .int .u8 (b0.toNat : Int), .int .u8 (b1.toNat : Int), .int .u8 (b2.toNat : Int), .int .u8 (b3.toNat : Int), .slice So no co, .slice Sb nb cb] rfl ?_; intro g4 w1 ge lt hh bb; have ap_pB := hT.ap ge; have d_nt_pB := ne_new (hlt hnt) ge; have av_po_pB := po.av_new ge; have av_pb_pB := pb.av_new ge; have opB := Nat.le_trans (Nat.le_trans hlo bel.size) ge; have ppB := Nat.le_trans bel.size ge; replace hnt := blk_u hnt bb; replace po := po.below bb; replace pb := pb.below bb; replace hT := hT.below bb; replace fr := fr.below bb; replace an_po := an_po.below bb; replace ap_pB := ap_pB.below bb; replace bel := bel.trans (bb.mono (Nat.le_trans hlo bel.size)); have hpB := hh; clear hh lt ge bb) | ((with_reducible show wpList _ _ _ (⟨some 6, _, _, _, _, _⟩ :: _) _ _); refine wpList_new_a rfl 38 rfl #[.int .i64 0, .int .i64 0, .int .i64 0, .int .i64 0, .int .i64 0, .int .i64 0, .int .u8 0, .int .u8 0, .int .u8 0, .int .u8 0, .int .u8 0, .int .u8 0, .int .u8 0, .int .u8 0, .slice none 0 0, .slice none 0 0] (by kernel_rfl) ?_; intro g6 w2 ge hh bb; have ap_rB := hT.ap ge; have d_nt_rB := ne_new (hlt hnt) ge; have d_pB_rB := ne_new (hlt hpB) ge; have av_po_rB := po.av_new ge; have av_pb_rB := pb.av_new ge; have orB := Nat.le_trans (Nat.le_trans hlo bel.size) ge; have prB := Nat.le_trans bel.size ge; replace hnt := blk_u hnt bb; replace hpB := blk_u hpB bb; replace po := po.below bb; replace pb := pb.below bb; replace hT := hT.below bb; replace fr := fr.below bb; replace an_po := an_po.below bb; replace ap_pB := ap_pB.below bb; replace ap_rB := ap_rB.below bb; replace bel := bel.trans (bb.mono (Nat.le_trans hlo bel.size)); have hrB := hh; clear hh ge bb; have R13 := Lib.hid (range_lit hpB 0 16 [.int .i64 tos, .int .i64 id, .int .i64 fl, .int .i64 pt, .int .i64 ttl, .int .i64 6, .int .u8 (a0.toNat : Int), .int .u8 (a1.toNat : Int), .int .u8 (a2.toNat : Int), .int .u8 (a3.toNat : Int), .int .u8 (b0.toNat : Int), .int .u8 (b1.toNat : Int), .int .u8 (b2.toNat : Int), .int .u8 (b3.toNat : Int), .slice So no co, .slice Sb nb cb] rfl)) | ((with_reducible show wpList _ _ _ (⟨some 13, _, _, _, _, _⟩ :: _) _ _); refine wpList_load_rng 38 (.tmp 4) rfl (by kernel_rfl) _ _ rfl _ R13.out _ Tryz.underlying38 rfl (by kernel_rfl) ?_))
  try clear R13
  with_reducible refine (tcget_is _ _ _ _ _ _ _ _ _ _ _ _ _ _ _ _ _ _ _ _  pb HM.out HG.out HLQ.out HLD.out).mono ?_
  rintro e w3 ⟨Q, cq, D, cd, rfl, gq, gd, fq, fd, b3⟩
  have av_gq_nt := fq.av (hlt hnt)
  have av_gq_pB := fq.av (hlt hpB)
  have av_gq_rB := fq.av (hlt hrB)
  have av_gd_nt := fd.av (hlt hnt)
  have av_gd_pB := fd.av (hlt hpB)
  have av_gd_rB := fd.av (hlt hrB)
  have an_gq := hT.an fq
  have an_gd := hT.an fd
  replace hnt := blk_u hnt b3
  replace hpB := blk_u hpB b3
  replace hrB := blk_u hrB b3
  replace po := po.below b3
  replace pb := pb.below b3
  replace hT := hT.below b3
  replace fr := fr.below b3
  replace an_po := an_po.below b3
  replace ap_pB := ap_pB.below b3
  replace ap_rB := ap_rB.below b3
  replace an_gq := an_gq.below b3
  replace an_gd := an_gd.below b3
  replace bel := bel.trans (b3.mono (Nat.le_trans hlo bel.size))
  clear b3
  replace gq : Sl w3 (Q) (nq) (cq) (lq) := gq
  replace gd : Sl w3 (D) (nd) (cd) (ld) := gd
  go_wp2_with (first | ((with_reducible show wpList _ _ _ (⟨some 8, _, _, _, _, _⟩ :: _) _ _); refine wpList_new_a rfl 105 rfl #[.int .i64 0, .int .i64 0, .int .u32 0, .int .u32 0, .int .i64 0, .int .i64 0, .int .i64 0, .slice none 0 0, .slice none 0 0] (by kernel_rfl) ?_; intro g8 w4 ge hh bb; have ap_sB := hT.ap ge; have d_nt_sB := ne_new (hlt hnt) ge; have d_pB_sB := ne_new (hlt hpB) ge; have d_rB_sB := ne_new (hlt hrB) ge; have av_po_sB := po.av_new ge; have av_pb_sB := pb.av_new ge; have av_gq_sB := gq.av_new ge; have av_gd_sB := gd.av_new ge; have osB := Nat.le_trans (Nat.le_trans hlo bel.size) ge; have psB := Nat.le_trans bel.size ge; replace hnt := blk_u hnt bb; replace hpB := blk_u hpB bb; replace hrB := blk_u hrB bb; replace po := po.below bb; replace pb := pb.below bb; replace gq := gq.below bb; replace gd := gd.below bb; replace hT := hT.below bb; replace fr := fr.below bb; replace an_po := an_po.below bb; replace ap_pB := ap_pB.below bb; replace ap_rB := ap_rB.below bb; replace an_gq := an_gq.below bb; replace an_gd := an_gd.below bb; replace ap_sB := ap_sB.below bb; replace bel := bel.trans (bb.mono (Nat.le_trans hlo bel.size)); have hsB := hh; clear hh ge bb) | ((with_reducible show wpList _ _ _ (⟨none, Op.store _ (.tmp 8) _, _, _, _, _⟩ :: _) _ _); refine wpList_store_blk rfl 105 (.tmp 8) (.tmp 15) rfl g8 rfl _ rfl _ 105 hsB (by rfl) (by kernel_rfl) (by kernel_rfl) ?_; intro w5 hq gr; replace po := po.away av_po_sB gr; replace pb := pb.away av_pb_sB gr; replace gq := gq.away av_gq_sB gr; replace gd := gd.away av_gd_sB gr; replace hnt := blk_a hnt gr d_nt_sB; replace hpB := blk_a hpB gr d_pB_sB; replace hrB := blk_a hrB gr d_rB_sB; replace hT := hT.away ap_sB gr hsB; replace fr := fr.newer ap_sB gr psB; replace an_po := an_po.grown ap_sB gr; replace ap_pB := ap_pB.grown ap_sB gr; replace ap_rB := ap_rB.grown ap_sB gr; replace an_gq := an_gq.grown ap_sB gr; replace an_gd := an_gd.grown ap_sB gr; replace ap_sB := ap_sB.grown ap_sB gr; replace bel := below_grown bel gr osB (Nat.le_trans hlo bel.size); clear hsB; have hsB := hq; clear hq gr; have R24 := cell_lit hsB 1 _ rfl))
  try clear R24
  with_reducible refine (nat_some _ hT hc).mono ?_
  rintro e w6 ⟨rfl, hT_, f_, bb⟩
  clear hnt
  have x_ := f_ _ _ _ _ hpB ap_pB
  replace hpB := x_.1
  replace ap_pB := x_.2
  clear x_
  have x_ := f_ _ _ _ _ hrB ap_rB
  replace hrB := x_.1
  replace ap_rB := x_.2
  clear x_
  have x_ := f_ _ _ _ _ hsB ap_sB
  replace hsB := x_.1
  replace ap_sB := x_.2
  clear x_
  have x_ := f_.sl po an_po
  replace po := x_.1
  replace an_po := x_.2
  clear x_
  clear pb
  have x_ := f_.sl gq an_gq
  replace gq := x_.1
  replace an_gq := x_.2
  clear x_
  have x_ := f_.sl gd an_gd
  replace gd := x_.1
  replace an_gd := x_.2
  clear x_
  replace fr := fr.trans f_
  clear hT
  have hT := hT_
  replace bel := bel.trans bb
  clear bb f_ hT_
  have hnt := hT.nat
  go_wp2_with (first | ((with_reducible show wpList _ _ _ (⟨some 10, _, _, _, _, _⟩ :: _) _ _); refine wpList_new_a rfl 65 rfl #[.int .i64 0, .int .i64 0, .int .u8 0, .int .u8 0, .int .u8 0, .int .u8 0, .int .i64 0, .int .i64 0, .int .i64 0] (by kernel_rfl) ?_; intro g10 w7 ge hh bb; have ap_mB := hT.ap ge; have d_pB_mB := ne_new (hlt hpB) ge; have d_rB_mB := ne_new (hlt hrB) ge; have d_sB_mB := ne_new (hlt hsB) ge; have d_nt_mB := ne_new (hlt hnt) ge; have av_po_mB := po.av_new ge; have av_gq_mB := gq.av_new ge; have av_gd_mB := gd.av_new ge; have omB := Nat.le_trans (Nat.le_trans hlo bel.size) ge; have pmB := Nat.le_trans bel.size ge; replace hpB := blk_u hpB bb; replace hrB := blk_u hrB bb; replace hsB := blk_u hsB bb; replace hnt := blk_u hnt bb; replace po := po.below bb; replace gq := gq.below bb; replace gd := gd.below bb; replace hT := hT.below bb; replace fr := fr.below bb; replace an_po := an_po.below bb; replace ap_pB := ap_pB.below bb; replace ap_rB := ap_rB.below bb; replace an_gq := an_gq.below bb; replace an_gd := an_gd.below bb; replace ap_sB := ap_sB.below bb; replace ap_mB := ap_mB.below bb; replace bel := bel.trans (bb.mono (Nat.le_trans hlo bel.size)); have hmB := hh; clear hh ge bb) | ((with_reducible show wpList _ _ _ (⟨none, Op.store _ (.tmp 10) _, _, _, _, _⟩ :: _) _ _); refine wpList_store_blk rfl 65 (.tmp 10) (.tmp 27) rfl g10 rfl _ rfl _ 65 hmB (by rfl) (by kernel_rfl) (by kernel_rfl) ?_; intro w8 hq gr; replace po := po.away av_po_mB gr; replace gq := gq.away av_gq_mB gr; replace gd := gd.away av_gd_mB gr; replace hpB := blk_a hpB gr d_pB_mB; replace hrB := blk_a hrB gr d_rB_mB; replace hsB := blk_a hsB gr d_sB_mB; replace hnt := blk_a hnt gr d_nt_mB; replace hT := hT.away ap_mB gr hmB; replace fr := fr.newer ap_mB gr pmB; replace an_po := an_po.grown ap_mB gr; replace ap_pB := ap_pB.grown ap_mB gr; replace ap_rB := ap_rB.grown ap_mB gr; replace an_gq := an_gq.grown ap_mB gr; replace an_gd := an_gd.grown ap_mB gr; replace ap_sB := ap_sB.grown ap_mB gr; replace ap_mB := ap_mB.grown ap_mB gr; replace bel := below_grown bel gr omB (Nat.le_trans hlo bel.size); clear hmB; have hmB := hq; clear hq gr))
  replace bel := bel.drew
  replace hpB : w8.drew.heap[g4]? = _ := hpB
  replace hrB : w8.drew.heap[g6]? = _ := hrB
  replace hsB : w8.drew.heap[g8]? = _ := hsB
  replace hnt : w8.drew.heap[gn]? = _ := hnt
  replace hmB : w8.drew.heap[g10]? = _ := hmB
  replace po := po.drew
  replace gq := gq.drew
  replace gd := gd.drew
  replace hT := np_drew hT
  replace fr := fn_drew fr
  replace an_po := an_drew an_po
  replace ap_pB := anp_drew ap_pB
  replace ap_rB := anp_drew ap_rB
  replace an_gq := an_drew an_gq
  replace an_gd := an_drew an_gd
  replace ap_sB := anp_drew ap_sB
  replace ap_mB := anp_drew ap_mB
  refine wp_region_held_drew (S := fun W => W.heap[gn]? = some (.cells #[.pointer (some ⟨gt, 0, none⟩), .pointer (some ⟨gk, 0, none⟩), .int .i64 120, .int .i64 7200, .int .i64 30] 82 (0, 0)) ∧ W.heap[g10]? = some (.cells #[.int .i64 m.pr, .int .i64 m.o, .int .u8 (m.ad.a.toNat : Int), .int .u8 (m.ad.b.toNat : Int), .int .u8 (m.ad.c.toNat : Int), .int .u8 (m.ad.d.toNat : Int), .int .i64 m.i, .int .i64 m.k, .int .i64 m.u] 65 (0, 0)) ∧ W.heap[g4]? = some (.cells #[.int .i64 tos, .int .i64 id, .int .i64 fl, .int .i64 pt, .int .i64 ttl, .int .i64 6, .int .u8 (a0.toNat : Int), .int .u8 (a1.toNat : Int), .int .u8 (a2.toNat : Int), .int .u8 (a3.toNat : Int), .int .u8 (b0.toNat : Int), .int .u8 (b1.toNat : Int), .int .u8 (b2.toNat : Int), .int .u8 (b3.toNat : Int), .slice So no co, .slice Sb nb cb] 38 (0, 0)) ∧ W.heap[g8]? = some (.cells #[.int .i64 sf, .int .i64 st, .int .u32 se, .int .u32 ak, .int .i64 fg, .int .i64 wn, .int .i64 ug, .slice Q nq cq, .slice D nd cd] 105 (0, 0))) (by kernel_rfl) ⟨hnt, hmB, hpB, hsB⟩ (fun hH => ?_)
  generalize w8.drew = w9 at bel hpB hrB hsB hnt hmB po gq gd hT fr an_po ap_pB ap_rB an_gq an_gd ap_sB ap_mB hH ⊢
  refine wpAnyH_take (i := 0) (v := ?_) rfl (by kernel_rfl) (by kernel_rfl) (by kernel_rfl) (fun _ _ _ h => h) (Or.inl ⟨by rfl, ?_⟩) hH ?_
  rotate_left
  · ((intro W hW; clear hW; go_simp) <;> with_reducible rfl)
  simp only [Act.put, List.getElem_toArray, List.getElem_cons_zero, List.setIfInBounds_toArray, List.set_cons_zero, List.set_cons_succ]
  refine wpAnyH_take (i := 1) (v := ?_) rfl (by kernel_rfl) (by kernel_rfl) (by kernel_rfl) (fun _ _ _ h => h) (Or.inl ⟨by rfl, ?_⟩) hH ?_
  rotate_left
  · ((intro W hW; clear hW; go_simp) <;> with_reducible rfl)
  simp only [sq3, sq4]
  refine wpAnyH_take (i := 2) (v := ?_) rfl (by kernel_rfl) (by kernel_rfl) (by kernel_rfl) (fun _ _ _ h => h) (Or.inl ⟨by rfl, ?_⟩) hH ?_
  rotate_left
  · ((intro W hW; clear hW; go_simp) <;> with_reducible rfl)
  simp only [sq3, sq4]
  refine wpAnyH_take (i := 3) (v := ?_) rfl (by kernel_rfl) (by kernel_rfl) (by kernel_rfl) (fun _ _ _ h => h) (Or.inl ⟨by rfl, ?_⟩) hH ?_
  rotate_left
  · ((intro W hW; have hk := cell_lit (hW.1) 1 _ rfl; clear hW; go_simp) <;> with_reducible rfl)
  simp only [sq3, sq4]
  refine wpAnyH_take (i := 4) (v := ?_) rfl (by kernel_rfl) (by kernel_rfl) (by kernel_rfl) (fun _ _ _ h => h) (Or.inl ⟨by rfl, ?_⟩) hH ?_
  rotate_left
  · ((intro W hW; clear hW; go_simp) <;> with_reducible rfl)
  simp only [sq3, sq4]
  refine wpAnyH_take (i := 5) (v := ?_) rfl (by kernel_rfl) (by kernel_rfl) (by kernel_rfl) (fun _ _ _ h => h) (Or.inl ⟨by rfl, ?_⟩) hH ?_
  rotate_left
  · ((intro W hW; have hk := cell_lit (hW.2.1) 1 _ rfl; clear hW; go_simp) <;> with_reducible rfl)
  simp only [sq3, sq4]
  refine wpAnyH_take (i := 6) (v := ?_) rfl (by kernel_rfl) (by kernel_rfl) (by kernel_rfl) (fun _ _ _ h => h) (Or.inl ⟨by rfl, ?_⟩) hH ?_
  rotate_left
  · ((intro W hW; clear hW; go_simp) <;> with_reducible rfl)
  simp only [sq3, sq4]
  refine wpAnyH_take (i := 7) (v := .agg #[.int .u8 (a0.toNat : Int), .int .u8 (a1.toNat : Int), .int .u8 (a2.toNat : Int), .int .u8 (a3.toNat : Int)]) rfl (by kernel_rfl) (by kernel_rfl) (by kernel_rfl) (fun _ _ _ h => h) (yieldsIf_load_part (by kernel_rfl) 35 _ rfl g4 6 4 rfl _ 38 (0, 0) (fun W hW => hW.2.2.1) _ rfl _ Tryz.underlying35 rfl (by kernel_rfl)) hH ?_
  simp only [sq3, sq4]
  refine wpAnyH_take (i := 8) (v := ?_) rfl (by kernel_rfl) (by kernel_rfl) (by kernel_rfl) (fun _ _ _ h => h) (Or.inl ⟨by rfl, ?_⟩) hH ?_
  rotate_left
  · ((intro W hW; clear hW; go_simp) <;> with_reducible rfl)
  simp only [sq3, sq4]
  refine wpAnyH_take (i := 9) (v := ?_) rfl (by kernel_rfl) (by kernel_rfl) (by kernel_rfl) (fun _ _ _ h => h) (Or.inl ⟨by rfl, ?_⟩) hH ?_
  rotate_left
  · ((intro W hW; have hk := cell_lit (hW.2.2.2) 0 _ rfl; clear hW; go_simp) <;> with_reducible rfl)
  simp only [sq3, sq4]
  refine wpAnyH_take (i := 10) (v := .agg #[.int .i64 sf, .int .i64 st, .int .u32 se, .int .u32 ak, .int .i64 fg, .int .i64 wn, .int .i64 ug, .slice Q nq cq, .slice D nd cd]) rfl (by kernel_rfl) (by kernel_rfl) (by kernel_rfl) (fun _ _ _ h => h) (yieldsIf_load_part (by kernel_rfl) 105 _ rfl g8 0 9 rfl _ 105 (0, 0) (fun W hW => hW.2.2.2) _ rfl _ Tryz.underlying105 rfl (by kernel_rfl)) hH ?_
  simp only [sq3, sq4]
  refine wpAnyH_ready (rs := [11]) (by kernel_rfl) (by simp) ?_
  refine AllReadyH.cons (o := _) rfl (fun K hK => ?_) AllReadyH.nil
  simp only [sq3]
  go_simp
  with_reducible refine (np_k hT (hs _ _ _ _ _ hT.tk)).mono ?_
  rintro e w10 ⟨rfl, hT_, f_, bb⟩
  dsimp only
  clear hnt
  have x_ := f_ _ _ _ _ hpB ap_pB
  replace hpB := x_.1
  replace ap_pB := x_.2
  clear x_
  have x_ := f_ _ _ _ _ hrB ap_rB
  replace hrB := x_.1
  replace ap_rB := x_.2
  clear x_
  have x_ := f_ _ _ _ _ hsB ap_sB
  replace hsB := x_.1
  replace ap_sB := x_.2
  clear x_
  have x_ := f_ _ _ _ _ hmB ap_mB
  replace hmB := x_.1
  replace ap_mB := x_.2
  clear x_
  have x_ := f_.sl po an_po
  replace po := x_.1
  replace an_po := x_.2
  clear x_
  have x_ := f_.sl gq an_gq
  replace gq := x_.1
  replace an_gq := x_.2
  clear x_
  have x_ := f_.sl gd an_gd
  replace gd := x_.1
  replace an_gd := x_.2
  clear x_
  replace fr := fr.trans f_
  clear hT
  have hT := hT_
  replace bel := bel.trans bb
  clear bb f_ hT_
  have hnt := hT.nat
  refine hK.out _ _ ⟨hnt, hmB, hpB, hsB⟩ (fun hH11 => ?_)
  clear hK K
  refine wpAnyH_take (i := 12) (v := ?_) rfl (by kernel_rfl) (by kernel_rfl) (by kernel_rfl) (fun _ _ _ h => h) (Or.inl ⟨by rfl, ?_⟩) hH11 ?_
  rotate_left
  · ((intro W hW; clear hW; go_simp) <;> with_reducible rfl)
  simp only [sq3, sq4]
  refine wpAnyH_done (by kernel_rfl) ?_ _
  have R46 := Lib.hid (range_lit hmB 0 9 [.int .i64 m.pr, .int .i64 m.o, .int .u8 (m.ad.a.toNat : Int), .int .u8 (m.ad.b.toNat : Int), .int .u8 (m.ad.c.toNat : Int), .int .u8 (m.ad.d.toNat : Int), .int .i64 m.i, .int .i64 m.k, .int .i64 m.u] rfl)
  go_wp2_with (first | ((with_reducible show wpList _ _ _ (⟨some 46, _, _, _, _, _⟩ :: _) _ _); refine wpList_load_rng 65 (.tmp 10) rfl (by kernel_rfl) _ _ rfl _ R46.out _ Tryz.underlying65 rfl (by kernel_rfl) ?_))
  try clear R46
  with_reducible refine (nlive_is _ hT hv).mono ?_
  rintro e w12 ⟨rfl, hT_, f_, bb⟩
  clear hnt
  have x_ := f_ _ _ _ _ hpB ap_pB
  replace hpB := x_.1
  replace ap_pB := x_.2
  clear x_
  have x_ := f_ _ _ _ _ hrB ap_rB
  replace hrB := x_.1
  replace ap_rB := x_.2
  clear x_
  have x_ := f_ _ _ _ _ hsB ap_sB
  replace hsB := x_.1
  replace ap_sB := x_.2
  clear x_
  have x_ := f_ _ _ _ _ hmB ap_mB
  replace hmB := x_.1
  replace ap_mB := x_.2
  clear x_
  have x_ := f_.sl po an_po
  replace po := x_.1
  replace an_po := x_.2
  clear x_
  have x_ := f_.sl gq an_gq
  replace gq := x_.1
  replace an_gq := x_.2
  clear x_
  have x_ := f_.sl gd an_gd
  replace gd := x_.1
  replace an_gd := x_.2
  clear x_
  replace fr := fr.trans f_
  clear hT
  have hT := hT_
  replace bel := bel.trans bb
  clear bb f_ hT_
  have hnt := hT.nat
  go_wp2_with fail
  replace bel := bel.drew
  replace hpB : w12.drew.heap[g4]? = _ := hpB
  replace hrB : w12.drew.heap[g6]? = _ := hrB
  replace hsB : w12.drew.heap[g8]? = _ := hsB
  replace hmB : w12.drew.heap[g10]? = _ := hmB
  replace hnt : w12.drew.heap[gn]? = _ := hnt
  replace po := po.drew
  replace gq := gq.drew
  replace gd := gd.drew
  replace hT := np_drew hT
  replace fr := fn_drew fr
  replace an_po := an_drew an_po
  replace ap_pB := anp_drew ap_pB
  replace ap_rB := anp_drew ap_rB
  replace an_gq := an_drew an_gq
  replace an_gd := an_drew an_gd
  replace ap_sB := anp_drew ap_sB
  replace ap_mB := anp_drew ap_mB
  refine wp_region_held_drew (S := fun W => W.heap[g10]? = some (.cells #[.int .i64 m.pr, .int .i64 m.o, .int .u8 (m.ad.a.toNat : Int), .int .u8 (m.ad.b.toNat : Int), .int .u8 (m.ad.c.toNat : Int), .int .u8 (m.ad.d.toNat : Int), .int .i64 m.i, .int .i64 m.k, .int .i64 m.u] 65 (0, 0))) (by kernel_rfl) hmB (fun hH => ?_)
  generalize w12.drew = w13 at bel hpB hrB hsB hmB hnt po gq gd hT fr an_po ap_pB ap_rB an_gq an_gd ap_sB ap_mB hH ⊢
  refine wpAnyH_take (i := 0) (v := ?_) rfl (by kernel_rfl) (by kernel_rfl) (by kernel_rfl) (fun _ _ _ h => h) (Or.inl ⟨by rfl, ?_⟩) hH ?_
  rotate_left
  · ((intro W hW; clear hW; go_simp) <;> with_reducible rfl)
  simp only [Act.put, List.getElem_toArray, List.getElem_cons_zero, List.setIfInBounds_toArray, List.set_cons_zero, List.set_cons_succ]
  refine wpAnyH_take (i := 1) (v := .agg #[.int .u8 (m.ad.a.toNat : Int), .int .u8 (m.ad.b.toNat : Int), .int .u8 (m.ad.c.toNat : Int), .int .u8 (m.ad.d.toNat : Int)]) rfl (by kernel_rfl) (by kernel_rfl) (by kernel_rfl) (fun _ _ _ h => h) (yieldsIf_load_part (by kernel_rfl) 35 _ rfl g10 2 4 rfl _ 65 (0, 0) (fun W hW => hW) _ rfl _ Tryz.underlying35 rfl (by kernel_rfl)) hH ?_
  simp only [sq3, sq4]
  refine wpAnyH_take (i := 2) (v := ?_) rfl (by kernel_rfl) (by kernel_rfl) (by kernel_rfl) (fun _ _ _ h => h) (Or.inl ⟨by rfl, ?_⟩) hH ?_
  rotate_left
  · ((intro W hW; clear hW; go_simp) <;> with_reducible rfl)
  simp only [sq3, sq4]
  refine wpAnyH_take (i := 3) (v := ?_) rfl (by kernel_rfl) (by kernel_rfl) (by kernel_rfl) (fun _ _ _ h => h) (Or.inl ⟨by rfl, ?_⟩) hH ?_
  rotate_left
  · ((intro W hW; have hk := cell_lit (hW) 6 _ rfl; clear hW; go_simp) <;> with_reducible rfl)
  simp only [sq3, sq4]
  refine wpAnyH_take (i := 4) (v := ?_) rfl (by kernel_rfl) (by kernel_rfl) (by kernel_rfl) (fun _ _ _ h => h) (Or.inl ⟨by rfl, ?_⟩) hH ?_
  rotate_left
  · ((intro W hW; clear hW; go_simp) <;> with_reducible rfl)
  simp only [sq3, sq4]
  refine wpAnyH_ready (rs := [5]) (by kernel_rfl) (by simp) ?_
  refine AllReadyH.cons (o := _) rfl (fun K hK => ?_) AllReadyH.nil
  simp only [sq3]
  rw [if_pos (by rfl)]
  refine wp_store_part 35 (.tmp 54) (.tmp 51) rfl g4 10 rfl [.int .u8 (m.ad.a.toNat : Int), .int .u8 (m.ad.b.toNat : Int), .int .u8 (m.ad.c.toNat : Int), .int .u8 (m.ad.d.toNat : Int)] rfl [.int .i64 tos, .int .i64 id, .int .i64 fl, .int .i64 pt, .int .i64 ttl, .int .i64 6, .int .u8 (a0.toNat : Int), .int .u8 (a1.toNat : Int), .int .u8 (a2.toNat : Int), .int .u8 (a3.toNat : Int), .int .u8 (b0.toNat : Int), .int .u8 (b1.toNat : Int), .int .u8 (b2.toNat : Int), .int .u8 (b3.toNat : Int), .slice So no co, .slice Sb nb cb] 38 hpB (by simp) [.int .i64 tos, .int .i64 id, .int .i64 fl, .int .i64 pt, .int .i64 ttl, .int .i64 6, .int .u8 (a0.toNat : Int), .int .u8 (a1.toNat : Int), .int .u8 (a2.toNat : Int), .int .u8 (a3.toNat : Int), .int .u8 (m.ad.a.toNat : Int), .int .u8 (m.ad.b.toNat : Int), .int .u8 (m.ad.c.toNat : Int), .int .u8 (m.ad.d.toNat : Int), .slice So no co, .slice Sb nb cb] rfl (by kernel_rfl) (by rfl) ?_
  intro w14 hq gr
  replace po := po.away av_po_pB gr
  replace gq := gq.away av_gq_pB gr
  replace gd := gd.away av_gd_pB gr
  replace hrB := blk_a hrB gr (ne_symm d_pB_rB)
  replace hsB := blk_a hsB gr (ne_symm d_pB_sB)
  replace hmB := blk_a hmB gr (ne_symm d_pB_mB)
  replace hnt := blk_a hnt gr d_nt_pB
  replace hT := hT.away ap_pB gr hpB
  replace fr := fr.newer ap_pB gr ppB
  replace an_po := an_po.grown ap_pB gr
  replace ap_pB := ap_pB.grown ap_pB gr
  replace ap_rB := ap_rB.grown ap_pB gr
  replace an_gq := an_gq.grown ap_pB gr
  replace an_gd := an_gd.grown ap_pB gr
  replace ap_sB := ap_sB.grown ap_pB gr
  replace ap_mB := ap_mB.grown ap_pB gr
  replace bel := below_grown bel gr opB (Nat.le_trans hlo bel.size)
  clear hpB
  have hpB := hq
  clear hq gr
  refine hK.out _ _ hmB (fun hH15 => ?_)
  clear hK K
  simp only [Act.put]
  refine wpAnyH_take (i := 6) (v := ?_) rfl (by kernel_rfl) (by kernel_rfl) (by kernel_rfl) (fun _ _ _ h => h) (Or.inl ⟨by rfl, ?_⟩) hH15 ?_
  rotate_left
  · ((intro W hW; clear hW; go_simp) <;> with_reducible rfl)
  simp only [sq3, sq4]
  refine wpAnyH_ready (rs := [7]) (by kernel_rfl) (by simp) ?_
  refine AllReadyH.cons (o := _) rfl (fun K hK => ?_) AllReadyH.nil
  simp only [sq3]
  rw [if_pos (by rfl)]
  refine wp_store_part 3 (.tmp 55) (.tmp 53) rfl g8 1 rfl [.int .i64 m.i] rfl [.int .i64 sf, .int .i64 st, .int .u32 se, .int .u32 ak, .int .i64 fg, .int .i64 wn, .int .i64 ug, .slice Q nq cq, .slice D nd cd] 105 hsB (by simp) [.int .i64 sf, .int .i64 m.i, .int .u32 se, .int .u32 ak, .int .i64 fg, .int .i64 wn, .int .i64 ug, .slice Q nq cq, .slice D nd cd] rfl (by kernel_rfl) (by rfl) ?_
  intro w16 hq gr
  replace po := po.away av_po_sB gr
  replace gq := gq.away av_gq_sB gr
  replace gd := gd.away av_gd_sB gr
  replace hpB := blk_a hpB gr d_pB_sB
  replace hrB := blk_a hrB gr d_rB_sB
  replace hmB := blk_a hmB gr (ne_symm d_sB_mB)
  replace hnt := blk_a hnt gr d_nt_sB
  replace hT := hT.away ap_sB gr hsB
  replace fr := fr.newer ap_sB gr psB
  replace an_po := an_po.grown ap_sB gr
  replace ap_pB := ap_pB.grown ap_sB gr
  replace ap_rB := ap_rB.grown ap_sB gr
  replace an_gq := an_gq.grown ap_sB gr
  replace an_gd := an_gd.grown ap_sB gr
  replace ap_sB := ap_sB.grown ap_sB gr
  replace ap_mB := ap_mB.grown ap_sB gr
  replace bel := below_grown bel gr osB (Nat.le_trans hlo bel.size)
  clear hsB
  have hsB := hq
  clear hq gr
  refine hK.out _ _ hmB (fun hH17 => ?_)
  clear hK K
  simp only [Act.put]
  refine wpAnyH_done (by kernel_rfl) ?_ _
  have R56 := Lib.hid (range_lit hpB 0 16 [.int .i64 tos, .int .i64 id, .int .i64 fl, .int .i64 pt, .int .i64 ttl, .int .i64 6, .int .u8 (a0.toNat : Int), .int .u8 (a1.toNat : Int), .int .u8 (a2.toNat : Int), .int .u8 (a3.toNat : Int), .int .u8 (m.ad.a.toNat : Int), .int .u8 (m.ad.b.toNat : Int), .int .u8 (m.ad.c.toNat : Int), .int .u8 (m.ad.d.toNat : Int), .slice So no co, .slice Sb nb cb] rfl)
  go_wp2_with (first | ((with_reducible show wpList _ _ _ (⟨some 56, _, _, _, _, _⟩ :: _) _ _); refine wpList_load_rng 38 (.tmp 4) rfl (by kernel_rfl) _ _ rfl _ R56.out _ Tryz.underlying38 rfl (by kernel_rfl) ?_; have R57 := Lib.hid (range_lit hsB 0 9 [.int .i64 sf, .int .i64 m.i, .int .u32 se, .int .u32 ak, .int .i64 fg, .int .i64 wn, .int .i64 ug, .slice Q nq cq, .slice D nd cd] rfl)) | ((with_reducible show wpList _ _ _ (⟨some 57, _, _, _, _, _⟩ :: _) _ _); refine wpList_load_rng 105 (.tmp 8) rfl (by kernel_rfl) _ _ rfl _ R57.out _ Tryz.underlying105 rfl (by kernel_rfl) ?_))
  try clear R56
  try clear R57
  have hsz_ := bel.size
  with_reducible refine (tcput_is _ _ _ _ _ _ _ _ _ _ _ _ _ _ _ _ _ _ _ _ _ _ _ _ _ _ _ _ _ _ _ _ _ _  po gq gd HSG.out HN4.out HNO.out HSE.out.1 HSE.out.2 HAK.out.1 HAK.out.2).mono ?_
  rintro e w18 ⟨Ao, co2, Ab, cb2, rfl, qo, qb, fqo_, fqb_, b18⟩
  have av_qo_pB := fqo_.av (hlt hpB)
  have av_qo_rB := fqo_.av (hlt hrB)
  have av_qo_sB := fqo_.av (hlt hsB)
  have av_qo_mB := fqo_.av (hlt hmB)
  have av_qo_nt := fqo_.av (hlt hnt)
  have av_qb_pB := fqb_.av (hlt hpB)
  have av_qb_rB := fqb_.av (hlt hrB)
  have av_qb_sB := fqb_.av (hlt hsB)
  have av_qb_mB := fqb_.av (hlt hmB)
  have av_qb_nt := fqb_.av (hlt hnt)
  have an_qo := hT.an fqo_
  have an_qb := hT.an fqb_
  replace hpB := blk_u hpB b18
  replace hrB := blk_u hrB b18
  replace hsB := blk_u hsB b18
  replace hmB := blk_u hmB b18
  replace hnt := blk_u hnt b18
  replace po := po.below b18
  replace gq := gq.below b18
  replace gd := gd.below b18
  replace hT := hT.below b18
  replace fr := fr.below b18
  replace an_po := an_po.below b18
  replace ap_pB := ap_pB.below b18
  replace ap_rB := ap_rB.below b18
  replace an_gq := an_gq.below b18
  replace an_gd := an_gd.below b18
  replace ap_sB := ap_sB.below b18
  replace ap_mB := ap_mB.below b18
  replace an_qo := an_qo.below b18
  replace an_qb := an_qb.below b18
  replace bel := bel.trans (b18.mono (Nat.le_trans hlo bel.size))
  clear b18
  replace qo : Sl w18 (Ao) (no) (co2) (lp) := qo
  replace qb : Sl w18 (Ab) (20 + nq + nd) (cb2) (tcBytes a0 a1 a2 a3 m.ad.a m.ad.b m.ad.c m.ad.d sf m.i se ak fg wn ug lq ld) := qb
  have fqo := Fr.mono fqo_ hsz_
  have fqb := Fr.mono fqb_ hsz_
  clear fqo_ fqb_ hsz_
  go_wp2_with (first | ((with_reducible show wpList _ _ _ (⟨none, Op.store _ (.tmp 6) _, _, _, _, _⟩ :: _) _ _); refine wpList_store_blk rfl 38 (.tmp 6) (.tmp 59) rfl g6 rfl _ rfl _ 38 hrB (by rfl) (by kernel_rfl) (by kernel_rfl) ?_; intro w19 hq gr; replace po := po.away av_po_rB gr; replace gq := gq.away av_gq_rB gr; replace gd := gd.away av_gd_rB gr; replace qo := qo.away av_qo_rB gr; replace qb := qb.away av_qb_rB gr; replace hpB := blk_a hpB gr d_pB_rB; replace hsB := blk_a hsB gr (ne_symm d_rB_sB); replace hmB := blk_a hmB gr (ne_symm d_rB_mB); replace hnt := blk_a hnt gr d_nt_rB; replace hT := hT.away ap_rB gr hrB; replace fr := fr.newer ap_rB gr prB; replace an_po := an_po.grown ap_rB gr; replace ap_pB := ap_pB.grown ap_rB gr; replace ap_rB := ap_rB.grown ap_rB gr; replace an_gq := an_gq.grown ap_rB gr; replace an_gd := an_gd.grown ap_rB gr; replace ap_sB := ap_sB.grown ap_rB gr; replace ap_mB := ap_mB.grown ap_rB gr; replace an_qo := an_qo.grown ap_rB gr; replace an_qb := an_qb.grown ap_rB gr; replace bel := below_grown bel gr orB (Nat.le_trans hlo bel.size); clear hrB; have hrB := hq; clear hq gr))
  exact bodyPost_ret (results_cell_tmp_row rfl _ _ _ _ _ _ _ rfl hrB Tryz.underlying38 rfl (by kernel_rfl) (.int .i64 0) rfl) rfl ⟨Ao, co2, Ab, cb2, rfl, hT, fr, bel, qo, qb, an_qo, an_qb, fqo, fqb⟩
set_option linter.unusedVariables false in
set_option linter.unusedVariables false in
set_option linter.unusedSimpArgs false in
set_option maxRecDepth 100000 in
set_option maxHeartbeats 16000000 in
theorem nin_t {lo gn gt gk : Nat} {s : Ts} {k : Ks} {s' s2 : Ts} {k' : Ks} {m : Mp} {r : Int} {b : Bool} {tos id fl pt ttl : Int} {a0 a1 a2 a3 b0 b1 b2 b3 : UInt8} {So Sb : Option Addr} {no co nb cb : Nat} {lp lb : List UInt8} {t : Int} {sf st se ak fg wn ug : Int} {lq ld : List UInt8} {nq nd : Nat} (w : World) (hT : Np lo gn gt gk w s k) (po : Sl w So no co lp) (pb : Sl w Sb nb cb lb) (an_po : An gn gt gk w So no) (hm : nb ≤ 100000) (hno : no ≤ 100000) (hw : (decide (pt = 0) && decide (fl % 2 = 0)) = true) (hg : tcGet fl pt 6 a0 a1 a2 a3 b0 b1 b2 b3 lb = ([sf, st, se, ak, fg, wn, ug], (lq, ld), 0)) (hlq : lq.length = nq) (hld : ld.length = nd) (hc : InC lo gt s s' 6 st t m) (hs : SeeC lo gk k k' m.o a0 a1 a2 a3 sf true sf st se ak fg wn ug nq nd r) (hv : LiveC lo gt s' s2 6 m.o t (secV r 7200) b) (hsg : segOk sf m.i fg wn ug nq = true) (hn : nq + nd ≤ 1460) (hse : 0 ≤ se ∧ se < 4294967296) (hak : 0 ≤ ak ∧ ak < 4294967296)  : Calls Tryz.prog 14 #[.pointer (some ⟨gn, 0, none⟩), .agg #[.int .i64 tos, .int .i64 id, .int .i64 fl, .int .i64 pt, .int .i64 ttl, .int .i64 6, .int .u8 (a0.toNat : Int), .int .u8 (a1.toNat : Int), .int .u8 (a2.toNat : Int), .int .u8 (a3.toNat : Int), .int .u8 (b0.toNat : Int), .int .u8 (b1.toNat : Int), .int .u8 (b2.toNat : Int), .int .u8 (b3.toNat : Int), .slice So no co, .slice Sb nb cb], .agg #[.int .u8 (b0.toNat : Int), .int .u8 (b1.toNat : Int), .int .u8 (b2.toNat : Int), .int .u8 (b3.toNat : Int)], .int .i64 t] w fun e w' => ∃ Ao co' Ab cb', e = .returned (.tuple #[.agg #[.int .i64 tos, .int .i64 id, .int .i64 fl, .int .i64 pt, .int .i64 ttl, .int .i64 6, .int .u8 (a0.toNat : Int), .int .u8 (a1.toNat : Int), .int .u8 (a2.toNat : Int), .int .u8 (a3.toNat : Int), .int .u8 (m.ad.a.toNat : Int), .int .u8 (m.ad.b.toNat : Int), .int .u8 (m.ad.c.toNat : Int), .int .u8 (m.ad.d.toNat : Int), .slice Ao no co', .slice Ab (20 + nq + nd) cb'], .int .i64 0]) ∧ Np lo gn gt gk w' s2 k' ∧ Fn gn gt gk w w' ∧ Below lo w w' ∧ Sl w' Ao no co' lp ∧ Sl w' Ab (20 + nq + nd) cb' (tcBytes a0 a1 a2 a3 m.ad.a m.ad.b m.ad.c m.ad.d sf m.i se ak fg wn ug lq ld) ∧ An gn gt gk w' Ao no ∧ An gn gt gk w' Ab (20 + nq + nd) ∧ Fr w.heap.size Ao no ∧ Fr w.heap.size Ab (20 + nq + nd) := by
  have hlo : lo ≤ w.heap.size := hT.lo_le
  have HLO := Lib.hid hlo
  have hnt := hT.nat
  have fr := Fn.refl gn gt gk w
  have HM := Lib.hid hm
  clear hm
  have HNO := Lib.hid hno
  clear hno
  have HG := Lib.hid hg
  clear hg
  have HLQ := Lib.hid hlq
  clear hlq
  have HLD := Lib.hid hld
  clear hld
  have HN4 := Lib.hid hn
  clear hn
  have HSE := Lib.hid hse
  clear hse
  have HAK := Lib.hid hak
  clear hak
  have HSG := Lib.hid hsg
  clear hsg
  have hab : ∀ W, (binOp .neq 35 (.agg #[.int .u8 (b0.toNat : Int), .int .u8 (b1.toNat : Int), .int .u8 (b2.toNat : Int), .int .u8 (b3.toNat : Int)]) (.agg #[.int .u8 (b0.toNat : Int), .int .u8 (b1.toNat : Int), .int .u8 (b2.toNat : Int), .int .u8 (b3.toNat : Int)])).run Tryz.prog W = .ok (.bool false) W := fun W => by have h_ := nea_b ⟨b0, b1, b2, b3⟩ ⟨b0, b1, b2, b3⟩ W; rw [Ad4.eqB_self] at h_; exact h_
  have HW := Lib.hid hw
  clear hw
  have bel := Below.refl lo w
  go_enter Tryz.func14, Tryz.ntmps14
  go_wp2_with (first | ((with_reducible show wpList _ _ _ (⟨some 5, _, _, _, _, _⟩ :: _) _ _); refine wpList_box_n rfl 38 (.tmp 1) rfl #[.int .i64 tos, .int .i64 id, .int .i64 fl, .int .i64 pt, .int .i64 ttl, .int .i64 6, .int .u8 (a0.toNat : Int), .int .u8 (a1.toNat : Int), .int .u8 (a2.toNat : Int), .int .u8 (a3.toNat : Int), .int .u8 (b0.toNat : Int), .int .u8 (b1.toNat : Int), .int .u8 (b2.toNat : Int), .int .u8 (b3.toNat : Int), .slice So no co, .slice Sb nb cb] rfl ?_; intro g5 w1 ge lt hh bb; have ap_pB := hT.ap ge; have d_nt_pB := ne_new (hlt hnt) ge; have av_po_pB := po.av_new ge; have av_pb_pB := pb.av_new ge; have opB := Nat.le_trans (Nat.le_trans hlo bel.size) ge; have ppB := Nat.le_trans bel.size ge; replace hnt := blk_u hnt bb; replace po := po.below bb; replace pb := pb.below bb; replace hT := hT.below bb; replace fr := fr.below bb; replace an_po := an_po.below bb; replace ap_pB := ap_pB.below bb; replace bel := bel.trans (bb.mono (Nat.le_trans hlo bel.size)); have hpB := hh; clear hh lt ge bb) | ((with_reducible show wpList _ _ _ (⟨some 6, _, _, _, _, _⟩ :: _) _ _); refine wpList_box_n rfl 35 (.tmp 2) rfl #[.int .u8 (b0.toNat : Int), .int .u8 (b1.toNat : Int), .int .u8 (b2.toNat : Int), .int .u8 (b3.toNat : Int)] rfl ?_; intro g6 w2 ge lt hh bb; have ap_wB := hT.ap ge; have d_nt_wB := ne_new (hlt hnt) ge; have d_pB_wB := ne_new (hlt hpB) ge; have av_po_wB := po.av_new ge; have av_pb_wB := pb.av_new ge; have owB := Nat.le_trans (Nat.le_trans hlo bel.size) ge; have pwB := Nat.le_trans bel.size ge; replace hnt := blk_u hnt bb; replace hpB := blk_u hpB bb; replace po := po.below bb; replace pb := pb.below bb; replace hT := hT.below bb; replace fr := fr.below bb; replace an_po := an_po.below bb; replace ap_pB := ap_pB.below bb; replace ap_wB := ap_wB.below bb; replace bel := bel.trans (bb.mono (Nat.le_trans hlo bel.size)); have hwB := hh; clear hh lt ge bb) | ((with_reducible show wpList _ _ _ (⟨some 8, _, _, _, _, _⟩ :: _) _ _); refine wpList_new_a rfl 38 rfl #[.int .i64 0, .int .i64 0, .int .i64 0, .int .i64 0, .int .i64 0, .int .i64 0, .int .u8 0, .int .u8 0, .int .u8 0, .int .u8 0, .int .u8 0, .int .u8 0, .int .u8 0, .int .u8 0, .slice none 0 0, .slice none 0 0] (by kernel_rfl) ?_; intro g8 w3 ge hh bb; have ap_rB := hT.ap ge; have d_nt_rB := ne_new (hlt hnt) ge; have d_pB_rB := ne_new (hlt hpB) ge; have d_wB_rB := ne_new (hlt hwB) ge; have av_po_rB := po.av_new ge; have av_pb_rB := pb.av_new ge; have orB := Nat.le_trans (Nat.le_trans hlo bel.size) ge; have prB := Nat.le_trans bel.size ge; replace hnt := blk_u hnt bb; replace hpB := blk_u hpB bb; replace hwB := blk_u hwB bb; replace po := po.below bb; replace pb := pb.below bb; replace hT := hT.below bb; replace fr := fr.below bb; replace an_po := an_po.below bb; replace ap_pB := ap_pB.below bb; replace ap_wB := ap_wB.below bb; replace ap_rB := ap_rB.below bb; replace bel := bel.trans (bb.mono (Nat.le_trans hlo bel.size)); have hrB := hh; clear hh ge bb; have R11 := Lib.hid (range_lit hpB 10 4 [.int .u8 (b0.toNat : Int), .int .u8 (b1.toNat : Int), .int .u8 (b2.toNat : Int), .int .u8 (b3.toNat : Int)] rfl)) | ((with_reducible show wpList _ _ _ (⟨some 11, _, _, _, _, _⟩ :: _) _ _); refine wpList_load_rng 35 (.tmp 10) rfl (by kernel_rfl) _ _ rfl _ R11.out _ Tryz.underlying35 rfl (by kernel_rfl) ?_; have R12 := Lib.hid (range_lit hwB 0 4 [.int .u8 (b0.toNat : Int), .int .u8 (b1.toNat : Int), .int .u8 (b2.toNat : Int), .int .u8 (b3.toNat : Int)] rfl)) | ((with_reducible show wpList _ _ _ (⟨some 12, _, _, _, _, _⟩ :: _) _ _); refine wpList_load_rng 35 (.tmp 6) rfl (by kernel_rfl) _ _ rfl _ R12.out _ Tryz.underlying35 rfl (by kernel_rfl) ?_; have R15 := Lib.hid (range_lit hpB 0 16 [.int .i64 tos, .int .i64 id, .int .i64 fl, .int .i64 pt, .int .i64 ttl, .int .i64 6, .int .u8 (a0.toNat : Int), .int .u8 (a1.toNat : Int), .int .u8 (a2.toNat : Int), .int .u8 (a3.toNat : Int), .int .u8 (b0.toNat : Int), .int .u8 (b1.toNat : Int), .int .u8 (b2.toNat : Int), .int .u8 (b3.toNat : Int), .slice So no co, .slice Sb nb cb] rfl)) | ((with_reducible show wpList _ _ _ (⟨some 15, _, _, _, _, _⟩ :: _) _ _); refine wpList_load_rng 38 (.tmp 5) rfl (by kernel_rfl) _ _ rfl _ R15.out _ Tryz.underlying38 rfl (by kernel_rfl) ?_))
  try clear R11
  try clear R12
  try clear R15
  with_reducible refine (ipwhole_any _ _ _ _ _ _ _ _ _ _ _ _ _ _ _ _ _ _ _ _ _ ).mono ?_
  rintro e w4 ⟨rfl, b4⟩
  replace hnt := blk_u hnt b4
  replace hpB := blk_u hpB b4
  replace hwB := blk_u hwB b4
  replace hrB := blk_u hrB b4
  replace po := po.below b4
  replace pb := pb.below b4
  replace hT := hT.below b4
  replace fr := fr.below b4
  replace an_po := an_po.below b4
  replace ap_pB := ap_pB.below b4
  replace ap_wB := ap_wB.below b4
  replace ap_rB := ap_rB.below b4
  replace bel := bel.trans (b4.mono (Nat.le_trans hlo bel.size))
  clear b4
  rw [HW.out]
  have R20 := cell_lit hpB 5 _ rfl
  have R32 := Lib.hid (range_lit hpB 0 16 [.int .i64 tos, .int .i64 id, .int .i64 fl, .int .i64 pt, .int .i64 ttl, .int .i64 6, .int .u8 (a0.toNat : Int), .int .u8 (a1.toNat : Int), .int .u8 (a2.toNat : Int), .int .u8 (a3.toNat : Int), .int .u8 (b0.toNat : Int), .int .u8 (b1.toNat : Int), .int .u8 (b2.toNat : Int), .int .u8 (b3.toNat : Int), .slice So no co, .slice Sb nb cb] rfl)
  go_wp2_with (first | ((with_reducible show wpList _ _ _ (⟨some 32, _, _, _, _, _⟩ :: _) _ _); refine wpList_load_rng 38 (.tmp 5) rfl (by kernel_rfl) _ _ rfl _ R32.out _ Tryz.underlying38 rfl (by kernel_rfl) ?_))
  try clear R20
  try clear R32
  have hsz_ := bel.size
  have lt_pB := hlt hpB
  have lt_wB := hlt hwB
  have lt_rB := hlt hrB
  with_reducible refine (nsin_ok _ hT po pb an_po HM.out HNO.out HG.out HLQ.out HLD.out hc hs hv HSG.out HN4.out HSE.out HAK.out).mono ?_
  rintro e w5 ⟨Ao, co2, Ab, cb2, rfl, hT_, f_, bb, qo, qb, an_qo, an_qb, fqo, fqb⟩
  clear hnt
  have x_ := f_ _ _ _ _ hpB ap_pB
  replace hpB := x_.1
  replace ap_pB := x_.2
  clear x_
  have x_ := f_ _ _ _ _ hwB ap_wB
  replace hwB := x_.1
  replace ap_wB := x_.2
  clear x_
  have x_ := f_ _ _ _ _ hrB ap_rB
  replace hrB := x_.1
  replace ap_rB := x_.2
  clear x_
  have x_ := f_.sl po an_po
  replace po := x_.1
  replace an_po := x_.2
  clear x_
  clear pb
  replace fr := fr.trans f_
  clear hT
  have hT := hT_
  replace bel := bel.trans bb
  clear bb f_ hT_
  have hnt := hT.nat
  have av_qo_pB := fqo.av lt_pB
  have av_qo_wB := fqo.av lt_wB
  have av_qo_rB := fqo.av lt_rB
  have av_qb_pB := fqb.av lt_pB
  have av_qb_wB := fqb.av lt_wB
  have av_qb_rB := fqb.av lt_rB
  clear lt_pB lt_wB lt_rB
  replace fqo := Fr.mono fqo hsz_
  replace fqb := Fr.mono fqb hsz_
  clear hsz_
  go_wp2_with (first | ((with_reducible show wpList _ _ _ (⟨none, Op.store _ (.tmp 8) _, _, _, _, _⟩ :: _) _ _); refine wpList_store_blk rfl 38 (.tmp 8) (.tmp 35) rfl g8 rfl _ rfl _ 38 hrB (by rfl) (by kernel_rfl) (by kernel_rfl) ?_; intro w6 hq gr; replace po := po.away av_po_rB gr; replace qo := qo.away av_qo_rB gr; replace qb := qb.away av_qb_rB gr; replace hpB := blk_a hpB gr d_pB_rB; replace hwB := blk_a hwB gr d_wB_rB; replace hnt := blk_a hnt gr d_nt_rB; replace hT := hT.away ap_rB gr hrB; replace fr := fr.newer ap_rB gr prB; replace an_po := an_po.grown ap_rB gr; replace ap_pB := ap_pB.grown ap_rB gr; replace ap_wB := ap_wB.grown ap_rB gr; replace ap_rB := ap_rB.grown ap_rB gr; replace an_qo := an_qo.grown ap_rB gr; replace an_qb := an_qb.grown ap_rB gr; replace bel := below_grown bel gr orB (Nat.le_trans hlo bel.size); clear hrB; have hrB := hq; clear hq gr))
  exact bodyPost_ret (results_cell_tmp_row rfl _ _ _ _ _ _ _ rfl hrB Tryz.underlying38 rfl (by kernel_rfl) (.int .i64 0) rfl) rfl ⟨Ao, co2, Ab, cb2, rfl, hT, fr, bel, qo, qb, an_qo, an_qb, fqo, fqb⟩
end Go.Proofs.YtbdaejodbcjmfaaGreat
