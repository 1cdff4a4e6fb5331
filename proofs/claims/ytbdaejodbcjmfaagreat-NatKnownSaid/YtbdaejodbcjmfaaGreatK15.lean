/- Texts put together: Na8. -/
import Derived.Test.YtbdaejodbcjmfaaGreatK1
import Derived.Test.YtbdaejodbcjmfaaGreatK14
import Derived.Deep.CutRange
namespace Go.Proofs.YtbdaejodbcjmfaaGreat
open Go.RowKit
set_option linter.unusedVariables false
set_option linter.unusedSimpArgs false
set_option maxRecDepth 100000
set_option maxHeartbeats 16000000

theorem icget_pos (tos id fl pt ttl : Int) (a0 a1 a2 a3 b0 b1 b2 b3 : UInt8) (So Sb : Option Addr) (no co nb cb : Nat) {lb : List UInt8} (w : World) (hb : Sl w Sb nb cb lb) (hm : nb ≤ 100000) (he : icErr fl pt 1 lb = 0) : Calls Tryz.prog 21 #[.agg #[.int .i64 tos, .int .i64 id, .int .i64 fl, .int .i64 pt, .int .i64 ttl, .int .i64 1, .int .u8 (a0.toNat : Int), .int .u8 (a1.toNat : Int), .int .u8 (a2.toNat : Int), .int .u8 (a3.toNat : Int), .int .u8 (b0.toNat : Int), .int .u8 (b1.toNat : Int), .int .u8 (b2.toNat : Int), .int .u8 (b3.toNat : Int), .slice So no co, .slice Sb nb cb]] w (MsPost (icGet fl pt 1 lb) w) := by
 have h9 : pt = 0 ∧ fl % 2 = 0 := by
  by_cases h : pt = 0 ∧ fl % 2 = 0
  ·exact h
  ·unfold icErr at he
   rw [if_neg (by decide), if_pos h] at he
   cases he
 have hw : (decide (pt = 0) && decide (fl % 2 = 0)) = true := by rw [decide_eq_true h9.1, decide_eq_true h9.2]; rfl
 have hn : 8 ≤ lb.length := by
  rcases Nat.lt_or_ge lb.length 8 with h | h
  ·unfold icErr at he
   rw [if_neg (by decide), if_neg (not_not_intro h9), if_pos h] at he
   cases he
  ·exact h
 have hc : ck lb = 0 := by
  by_cases h : ck lb = 0
  ·exact h
  ·unfold icErr at he
   rw [if_neg (by decide), if_neg (not_not_intro h9), if_neg (by omega), if_pos h] at he
   cases he
 obtain ⟨h0, h1, h2, h3, h4, h5, h6, h7, r, rfl⟩ := list8 lb hn
 exact icget_5 tos id fl pt ttl a0 a1 a2 a3 b0 b1 b2 b3 So Sb no co nb cb h0 h1 h2 h3 h4 h5 h6 h7 r w hb hm hw hc
theorem icget_is (tos id fl pt ttl : Int) (a0 a1 a2 a3 b0 b1 b2 b3 : UInt8) (So Sb : Option Addr) (no co nb cb : Nat) {lb ld : List UInt8} {ty cd re : Int} {nd : Nat} (w : World) (hb : Sl w Sb nb cb lb) (hm : nb ≤ 100000) (hg : icGet fl pt 1 lb = ([ty, cd, re], ld, 0)) (hl : ld.length = nd) : Calls Tryz.prog 21 #[.agg #[.int .i64 tos, .int .i64 id, .int .i64 fl, .int .i64 pt, .int .i64 ttl, .int .i64 1, .int .u8 (a0.toNat : Int), .int .u8 (a1.toNat : Int), .int .u8 (a2.toNat : Int), .int .u8 (a3.toNat : Int), .int .u8 (b0.toNat : Int), .int .u8 (b1.toNat : Int), .int .u8 (b2.toNat : Int), .int .u8 (b3.toNat : Int), .slice So no co, .slice Sb nb cb]] w fun e w' => ∃ D qd, e = .returned (.tuple #[.agg #[.int .i64 ty, .int .i64 cd, .int .u32 re, .slice D nd qd], .int .i64 0]) ∧ Sl w' D nd qd ld ∧ Fr w.heap.size D nd ∧ Below w.heap.size w w' := by
 refine (icget_pos tos id fl pt ttl a0 a1 a2 a3 b0 b1 b2 b3 So Sb no co nb cb w hb hm (by rw [← icGet_er, hg])).mono ?_
 rintro e w' ⟨f0, f1, f2, l2, Ab, c2, er', rfl, hs, hf, bel, hq⟩
 rw [hg] at hq
 simp only [Prod.mk.injEq, List.cons.injEq, and_true] at hq
 obtain ⟨⟨rfl, rfl, rfl⟩, rfl, rfl⟩ := hq
 subst hl
 exact ⟨_, _, rfl, hs, hf, bel⟩
theorem icput_is (tos id fl pt ttl pr : Int) (a0 a1 a2 a3 b0 b1 b2 b3 : UInt8) (So Sb : Option Addr) (no co nb cb : Nat) (ty cd re : Int) (D : Option Addr) (nd qd : Nat) {lo ld : List UInt8} (w : World) (ho : Sl w So no co lo) (hb : Sl w D nd qd ld) (h1 : byteOk ty = true) (h2 : byteOk cd = true) (hn : nd ≤ 1472) (hno : no ≤ 100000) (e0 : 0 ≤ re) (e1 : re < 4294967296) : Calls Tryz.prog 20 #[.agg #[.int .i64 tos, .int .i64 id, .int .i64 fl, .int .i64 pt, .int .i64 ttl, .int .i64 pr, .int .u8 (a0.toNat : Int), .int .u8 (a1.toNat : Int), .int .u8 (a2.toNat : Int), .int .u8 (a3.toNat : Int), .int .u8 (b0.toNat : Int), .int .u8 (b1.toNat : Int), .int .u8 (b2.toNat : Int), .int .u8 (b3.toNat : Int), .slice So no co, .slice Sb nb cb], .agg #[.int .i64 ty, .int .i64 cd, .int .u32 re, .slice D nd qd]] w fun e w' => ∃ Ao co' Ab cb', e = .returned (.tuple #[.agg #[.int .i64 tos, .int .i64 id, .int .i64 fl, .int .i64 pt, .int .i64 ttl, .int .i64 1, .int .u8 (a0.toNat : Int), .int .u8 (a1.toNat : Int), .int .u8 (a2.toNat : Int), .int .u8 (a3.toNat : Int), .int .u8 (b0.toNat : Int), .int .u8 (b1.toNat : Int), .int .u8 (b2.toNat : Int), .int .u8 (b3.toNat : Int), .slice Ao no co', .slice Ab (8 + nd) cb'], .int .i64 0]) ∧ Sl w' Ao no co' lo ∧ Sl w' Ab (8 + nd) cb' (icBytes ty cd re ld) ∧ Fr w.heap.size Ao no ∧ Fr w.heap.size Ab (8 + nd) ∧ Below w.heap.size w w' := by
 refine (icput_ok tos id fl pt ttl pr a0 a1 a2 a3 b0 b1 b2 b3 So Sb no co nb cb ty cd re D nd qd lo ld w ho hb h1 h2 hn hno e0 e1).mono ?_
 rintro e w' ⟨f0, f1, f2, f3, f4, f5, g0, g1, g2, g3, g4, g5, g6, g7, lo', lb', Ao, Ab, co', cb', er', rfl, ho', hbb, fo, fb, bel, hq⟩
 rw [icput_eq h1 h2 (by rw [hb.1]; exact hn)] at hq
 simp only [Prod.mk.injEq, List.cons.injEq, and_true] at hq
 obtain ⟨⟨⟨rfl, rfl, rfl, rfl, rfl, rfl⟩, rfl, rfl, rfl, rfl, rfl, rfl, rfl, rfl⟩, ⟨rfl, rfl⟩, rfl⟩ := hq
 have hl : (icBytes ty cd re ld).length = 8 + nd := by rw [icBytes_len, hb.1]
 have hl2 := ho.1
 rw [hl] at hbb fb ⊢
 rw [hl2] at ho' fo ⊢
 exact ⟨Ao, co', Ab, cb', rfl, ho', hbb, fo, fb, bel⟩
theorem icquery_q {ty re q : Int} {D : Option Addr} {nd qd : Nat} (h0 : echoT ty = true) (hr : 0 ≤ re ∧ re < 4294967296) (hq : re / 65536 = q) (w : World) : Calls Tryz.prog 71 #[.agg #[.int .i64 ty, .int .i64 0, .int .u32 re, .slice D nd qd]] w fun e w' => e = .returned (.tuple #[.int .i64 q, .bool true]) ∧ Below w.heap.size w w' := by
 subst hq
 exact icquery_2 ty 0 re D nd qd h0 rfl hr.1 hr.2 w
abbrev WnC (re o r2 : Int) : Prop := ∀ W, Calls Tryz.prog 105 #[.int .u32 re, .int .i64 o] W fun e w' => e = .returned (.int .u32 r2) ∧ W = w'
theorem nwith_k : WnC 458755 40000 2621440003 := by
 intro w
 have r7 : ∀ W, (binOp .shl 45 (.int .u32 40000) (.int .u64 16)).run Tryz.prog W = .ok (.int .u32 2621440000) W := fun W => by kernel_rfl
 have r9 : ∀ W, (binOp .and 45 (.int .u32 458755) (.int .u32 65535)).run Tryz.prog W = .ok (.int .u32 3) W := fun W => by kernel_rfl
 have r10 : ∀ W, (binOp .or 45 (.int .u32 2621440000) (.int .u32 3)).run Tryz.prog W = .ok (.int .u32 2621440003) W := fun W => by kernel_rfl
 have bel := Below.refl w.heap.size w
 go_enter Tryz.func105, Tryz.ntmps105
 have R7 := r7
 have R9 := r9
 have R10 := r10
 go_wp2_with fail
 clear R7 R9 R10
 go_ret
 exact ⟨rfl, rfl⟩
theorem nqout_ok {lo gn gt gk : Nat} {s : Ts} {k : Ks} {s' : Ts} {m : Mp} {re q r2 t : Int} {a0 a1 a2 a3 : UInt8} (w : World) (hT : Np lo gn gt gk w s k) (hc : MakeC lo gt s s' 1 a0 a1 a2 a3 q t 30 m 0) (hwn : WnC re m.o r2)  : Calls Tryz.prog 76 #[.pointer (some ⟨gn, 0, none⟩), .agg #[.int .u8 (a0.toNat : Int), .int .u8 (a1.toNat : Int), .int .u8 (a2.toNat : Int), .int .u8 (a3.toNat : Int)], .int .u32 re, .int .i64 q, .int .i64 t] w fun e w' => e = .returned (.tuple #[.int .u32 r2, .int .i64 0]) ∧ Np lo gn gt gk w' s' k ∧ Fn gn gt gk w w' ∧ Below lo w w' := by
 have hlo : lo ≤ w.heap.size := hT.lo_le
 have HLO := Lib.hid hlo
 have hnt := hT.nat
 have fr := Fn.refl gn gt gk w
 have bel := Below.refl lo w
 go_enter Tryz.func76, Tryz.ntmps76
 go_wp2_with (first | ((with_reducible show wpList _ _ _ (⟨some 6, _, _, _, _, _⟩ :: _) _ _); refine wpList_box_n rfl 35 (.tmp 1) rfl #[.int .u8 (a0.toNat : Int), .int .u8 (a1.toNat : Int), .int .u8 (a2.toNat : Int), .int .u8 (a3.toNat : Int)] rfl ?_; intro g6 w1 ge lt hh bb; have ap_aB := hT.ap ge; have d_nt_aB := ne_new (hlt hnt) ge; have oaB := Nat.le_trans (Nat.le_trans hlo bel.size) ge; have paB := Nat.le_trans bel.size ge; replace hnt := blk_u hnt bb; replace hT := hT.below bb; replace fr := fr.below bb; replace ap_aB := ap_aB.below bb; replace bel := bel.trans (bb.mono (Nat.le_trans hlo bel.size)); have haB := hh; clear hh lt ge bb))
 go_cut [12, 13] from 9999 (fun s12 s13 W => ∃ g12 : Nat, s12 = .pointer (some ⟨g12, 0, none⟩) ∧ s13 = .int .i64 0 ∧ W.heap[g6]? = some (.cells #[.int .u8 (a0.toNat : Int), .int .u8 (a1.toNat : Int), .int .u8 (a2.toNat : Int), .int .u8 (a3.toNat : Int)] 35 (0, 0)) ∧ W.heap[gn]? = some (.cells #[.pointer (some ⟨gt, 0, none⟩), .pointer (some ⟨gk, 0, none⟩), .int .i64 120, .int .i64 7200, .int .i64 30] 82 (0, 0)) ∧ W.heap[g12]? = some (.cells #[.int .i64 m.pr, .int .i64 m.o, .int .u8 (m.ad.a.toNat : Int), .int .u8 (m.ad.b.toNat : Int), .int .u8 (m.ad.c.toNat : Int), .int .u8 (m.ad.d.toNat : Int), .int .i64 m.i, .int .i64 m.k, .int .i64 m.u] 65 (0, 0)) ∧ lo ≤ g12 ∧ w.heap.size ≤ g12 ∧ Hid (g6 ≠ g12) ∧ Hid (g6 ≠ gn) ∧ Hid (g12 ≠ gn) ∧ Np lo gn gt gk W s' k ∧ Fn gn gt gk w W ∧ Anp gn gt gk W g6 ∧ Anp gn gt gk W g12 ∧ Below lo w W)
 case first =>
  replace bel := bel.drew
  replace hnt : w1.drew.heap[gn]? = _ := hnt
  replace haB : w1.drew.heap[g6]? = _ := haB
  replace hT := np_drew hT
  replace fr := fn_drew fr
  replace ap_aB := anp_drew ap_aB
  refine wp_region_held_drew (S := fun W => W.heap[gn]? = some (.cells #[.pointer (some ⟨gt, 0, none⟩), .pointer (some ⟨gk, 0, none⟩), .int .i64 120, .int .i64 7200, .int .i64 30] 82 (0, 0)) ∧ W.heap[g6]? = some (.cells #[.int .u8 (a0.toNat : Int), .int .u8 (a1.toNat : Int), .int .u8 (a2.toNat : Int), .int .u8 (a3.toNat : Int)] 35 (0, 0))) (by kernel_rfl) ⟨hnt, haB⟩ (fun hH => ?_)
  generalize w1.drew = w2 at bel hnt haB hT fr ap_aB hH ⊢
  refine wpAnyH_take (i := 0) (v := ?_) rfl (by kernel_rfl) (by kernel_rfl) (by kernel_rfl) (fun _ _ _ h => h) (Or.inl ⟨by rfl, ?_⟩) hH ?_
  rotate_left
  ·((intro W hW; clear hW; go_simp) <;> with_reducible rfl)
  simp only [Act.put, List.getElem_toArray, List.getElem_cons_zero, List.setIfInBounds_toArray, List.set_cons_zero, List.set_cons_succ]
  refine wpAnyH_take (i := 1) (v := ?_) rfl (by kernel_rfl) (by kernel_rfl) (by kernel_rfl) (fun _ _ _ h => h) (Or.inl ⟨by rfl, ?_⟩) hH ?_
  rotate_left
  ·((intro W hW; clear hW; go_simp) <;> with_reducible rfl)
  simp only [sq3, sq4]
  refine wpAnyH_take (i := 2) (v := ?_) rfl (by kernel_rfl) (by kernel_rfl) (by kernel_rfl) (fun _ _ _ h => h) (Or.inl ⟨by rfl, ?_⟩) hH ?_
  rotate_left
  ·((intro W hW; clear hW; go_simp) <;> with_reducible rfl)
  simp only [sq3, sq4]
  refine wpAnyH_take (i := 3) (v := ?_) rfl (by kernel_rfl) (by kernel_rfl) (by kernel_rfl) (fun _ _ _ h => h) (Or.inl ⟨by rfl, ?_⟩) hH ?_
  rotate_left
  ·((intro W hW; have hk := cell_lit (hW.1) 0 _ rfl; clear hW; go_simp) <;> with_reducible rfl)
  simp only [sq3, sq4]
  refine wpAnyH_take (i := 4) (v := .agg #[.int .u8 (a0.toNat : Int), .int .u8 (a1.toNat : Int), .int .u8 (a2.toNat : Int), .int .u8 (a3.toNat : Int)]) rfl (by kernel_rfl) (by kernel_rfl) (by kernel_rfl) (fun _ _ _ h => h) (yieldsIf_load_part (by kernel_rfl) 35 _ rfl g6 0 4 rfl _ 35 (0, 0) (fun W hW => hW.2) _ rfl _ Tryz.underlying35 rfl (by kernel_rfl)) hH ?_
  simp only [sq3, sq4]
  refine wpAnyH_take (i := 5) (v := ?_) rfl (by kernel_rfl) (by kernel_rfl) (by kernel_rfl) (fun _ _ _ h => h) (Or.inl ⟨by rfl, ?_⟩) hH ?_
  rotate_left
  ·((intro W hW; clear hW; go_simp) <;> with_reducible rfl)
  simp only [sq3, sq4]
  refine wpAnyH_take (i := 6) (v := ?_) rfl (by kernel_rfl) (by kernel_rfl) (by kernel_rfl) (fun _ _ _ h => h) (Or.inl ⟨by rfl, ?_⟩) hH ?_
  rotate_left
  ·((intro W hW; clear hW; go_simp) <;> with_reducible rfl)
  simp only [sq3, sq4]
  refine wpAnyH_take (i := 7) (v := ?_) rfl (by kernel_rfl) (by kernel_rfl) (by kernel_rfl) (fun _ _ _ h => h) (Or.inl ⟨by rfl, ?_⟩) hH ?_
  rotate_left
  ·((intro W hW; clear hW; go_simp) <;> with_reducible rfl)
  simp only [sq3, sq4]
  refine wpAnyH_take (i := 8) (v := ?_) rfl (by kernel_rfl) (by kernel_rfl) (by kernel_rfl) (fun _ _ _ h => h) (Or.inl ⟨by rfl, ?_⟩) hH ?_
  rotate_left
  ·((intro W hW; clear hW; go_simp) <;> with_reducible rfl)
  simp only [sq3, sq4]
  refine wpAnyH_take (i := 9) (v := ?_) rfl (by kernel_rfl) (by kernel_rfl) (by kernel_rfl) (fun _ _ _ h => h) (Or.inl ⟨by rfl, ?_⟩) hH ?_
  rotate_left
  ·((intro W hW; clear hW; go_simp) <;> with_reducible rfl)
  simp only [sq3, sq4]
  refine wpAnyH_take (i := 10) (v := ?_) rfl (by kernel_rfl) (by kernel_rfl) (by kernel_rfl) (fun _ _ _ h => h) (Or.inl ⟨by rfl, ?_⟩) hH ?_
  rotate_left
  ·((intro W hW; clear hW; go_simp) <;> with_reducible rfl)
  simp only [sq3, sq4]
  refine wpAnyH_take (i := 11) (v := ?_) rfl (by kernel_rfl) (by kernel_rfl) (by kernel_rfl) (fun _ _ _ h => h) (Or.inl ⟨by rfl, ?_⟩) hH ?_
  rotate_left
  ·((intro W hW; clear hW; go_simp) <;> with_reducible rfl)
  simp only [sq3, sq4]
  refine wpAnyH_take (i := 12) (v := ?_) rfl (by kernel_rfl) (by kernel_rfl) (by kernel_rfl) (fun _ _ _ h => h) (Or.inl ⟨by rfl, ?_⟩) hH ?_
  rotate_left
  ·((intro W hW; have hk := cell_lit (hW.1) 4 _ rfl; clear hW; go_simp) <;> with_reducible rfl)
  simp only [sq3, sq4]
  refine wpAnyH_ready (rs := [13, 17]) (by kernel_rfl) (by simp) ?_
  refine AllReadyH.cons (o := _) rfl (fun K hK => ?_) (AllReadyH.cons (o := _) rfl (fun K hK => ?_) AllReadyH.nil)
  ·simp only [sq3]
   go_simp
   with_reducible refine (np_t hT (hc _ hT.tp)).mono ?_
   rintro e w3 ⟨rfl, hT_, f_, bb⟩
   dsimp only
   clear hnt
   have x_ := f_ _ _ _ _ haB ap_aB
   replace haB := x_.1
   replace ap_aB := x_.2
   clear x_
   replace fr := fr.trans f_
   clear hT
   have hT := hT_
   replace bel := bel.trans bb
   clear bb f_ hT_
   have hnt := hT.nat
   refine hK.out _ _ ⟨hnt, haB⟩ (fun hH4 => ?_)
   clear hK K
   refine wpAnyH_take (i := 14) (v := ?_) rfl (by kernel_rfl) (by kernel_rfl) (by kernel_rfl) (fun _ _ _ h => h) (Or.inl ⟨by rfl, ?_⟩) hH4 ?_
   rotate_left
   ·((intro W hW; clear hW; go_simp) <;> with_reducible rfl)
   simp only [sq3, sq4]
   refine wpAnyH_take (i := 15) (v := ?_) rfl (by kernel_rfl) (by kernel_rfl) (by kernel_rfl) (fun _ _ _ h => h) (Or.inl ⟨by rfl, ?_⟩) hH4 ?_
   rotate_left
   ·((intro W hW; clear hW; go_simp) <;> with_reducible rfl)
   simp only [sq3, sq4]
   refine wpAnyH_take (i := 16) (v := ?_) rfl (by kernel_rfl) (by kernel_rfl) (by kernel_rfl) (fun _ _ _ h => h) (Or.inl ⟨by rfl, ?_⟩) hH4 ?_
   rotate_left
   ·((intro W hW; clear hW; go_simp) <;> with_reducible rfl)
   simp only [sq3, sq4]
   refine wpAnyH_ready (rs := [17]) (by kernel_rfl) (by simp) ?_
   refine AllReadyH.cons (o := _) rfl (fun K hK => ?_) AllReadyH.nil
   simp only [sq3]
   rw [if_pos (by rfl)]
   refine wp_new_a 65 rfl #[.int .i64 0, .int .i64 0, .int .u8 0, .int .u8 0, .int .u8 0, .int .u8 0, .int .i64 0, .int .i64 0, .int .i64 0] (by kernel_rfl) ?_
   intro g12 w5 ge hh bb
   have ap_mB := hT.ap ge
   have d_aB_mB := ne_new (hlt haB) ge
   have d_nt_mB := ne_new (hlt hnt) ge
   have omB := Nat.le_trans (Nat.le_trans hlo bel.size) ge
   have pmB := Nat.le_trans bel.size ge
   replace haB := blk_u haB bb
   replace hnt := blk_u hnt bb
   replace hT := hT.below bb
   replace fr := fr.below bb
   replace ap_aB := ap_aB.below bb
   replace ap_mB := ap_mB.below bb
   replace bel := bel.trans (bb.mono (Nat.le_trans hlo bel.size))
   have hmB := hh
   clear hh ge bb
   refine hK.out _ _ ⟨hnt, haB⟩ (fun hH6 => ?_)
   clear hK K
   simp only [sq4]
   refine wpAnyH_ready (rs := [18]) (by kernel_rfl) (by simp) ?_
   refine AllReadyH.cons (o := _) rfl (fun K hK => ?_) AllReadyH.nil
   simp only [sq3]
   rw [if_pos (by rfl)]
   refine wp_store_blk 65 (.tmp 12) (.tmp 29) rfl g12 rfl _ rfl _ 65 hmB (by rfl) (by kernel_rfl) (by kernel_rfl) ?_
   intro w7 hq gr
   replace haB := blk_a haB gr d_aB_mB
   replace hnt := blk_a hnt gr d_nt_mB
   replace hT := hT.away ap_mB gr hmB
   replace fr := fr.newer ap_mB gr pmB
   replace ap_aB := ap_aB.grown ap_mB gr
   replace ap_mB := ap_mB.grown ap_mB gr
   replace bel := below_grown bel gr omB (Nat.le_trans hlo bel.size)
   clear hmB
   have hmB := hq
   clear hq gr
   refine hK.out _ _ ⟨hnt, haB⟩ (fun hH8 => ?_)
   clear hK K
   simp only [Act.put]
   refine wpAnyH_take (i := 19) (v := ?_) rfl (by kernel_rfl) (by kernel_rfl) (by kernel_rfl) (fun _ _ _ h => h) (Or.inl ⟨by rfl, ?_⟩) hH8 ?_
   rotate_left
   ·((intro W hW; clear hW; go_simp) <;> with_reducible rfl)
   simp only [sq3, sq4]
   refine wpAnyH_done (by kernel_rfl) ?_ _
   go_wp2_with fail
   go_meet
   case rel => exact ⟨g12, rfl, rfl, haB, hnt, hmB, omB, pmB, d_aB_mB, (ne_symm d_nt_aB), (ne_symm d_nt_mB), hT, fr, ap_aB, ap_mB, bel⟩
  simp only [sq3]
  rw [if_pos (by rfl)]
  refine wp_new_a 65 rfl #[.int .i64 0, .int .i64 0, .int .u8 0, .int .u8 0, .int .u8 0, .int .u8 0, .int .i64 0, .int .i64 0, .int .i64 0] (by kernel_rfl) ?_
  intro g12 w3 ge hh bb
  have ap_mB := hT.ap ge
  have d_nt_mB := ne_new (hlt hnt) ge
  have d_aB_mB := ne_new (hlt haB) ge
  have omB := Nat.le_trans (Nat.le_trans hlo bel.size) ge
  have pmB := Nat.le_trans bel.size ge
  replace hnt := blk_u hnt bb
  replace haB := blk_u haB bb
  replace hT := hT.below bb
  replace fr := fr.below bb
  replace ap_aB := ap_aB.below bb
  replace ap_mB := ap_mB.below bb
  replace bel := bel.trans (bb.mono (Nat.le_trans hlo bel.size))
  have hmB := hh
  clear hh ge bb
  refine hK.out _ _ ⟨hnt, haB⟩ (fun hH4 => ?_)
  clear hK K
  simp only [sq4]
  refine wpAnyH_ready (rs := [13]) (by kernel_rfl) (by simp) ?_
  refine AllReadyH.cons (o := _) rfl (fun K hK => ?_) AllReadyH.nil
  simp only [sq3]
  go_simp
  with_reducible refine (np_t hT (hc _ hT.tp)).mono ?_
  rintro e w5 ⟨rfl, hT_, f_, bb⟩
  dsimp only
  clear hnt
  have x_ := f_ _ _ _ _ haB ap_aB
  replace haB := x_.1
  replace ap_aB := x_.2
  clear x_
  have x_ := f_ _ _ _ _ hmB ap_mB
  replace hmB := x_.1
  replace ap_mB := x_.2
  clear x_
  replace fr := fr.trans f_
  clear hT
  have hT := hT_
  replace bel := bel.trans bb
  clear bb f_ hT_
  have hnt := hT.nat
  refine hK.out _ _ ⟨hnt, haB⟩ (fun hH6 => ?_)
  clear hK K
  refine wpAnyH_take (i := 14) (v := ?_) rfl (by kernel_rfl) (by kernel_rfl) (by kernel_rfl) (fun _ _ _ h => h) (Or.inl ⟨by rfl, ?_⟩) hH6 ?_
  rotate_left
  ·((intro W hW; clear hW; go_simp) <;> with_reducible rfl)
  simp only [sq3, sq4]
  refine wpAnyH_take (i := 15) (v := ?_) rfl (by kernel_rfl) (by kernel_rfl) (by kernel_rfl) (fun _ _ _ h => h) (Or.inl ⟨by rfl, ?_⟩) hH6 ?_
  rotate_left
  ·((intro W hW; clear hW; go_simp) <;> with_reducible rfl)
  simp only [sq3, sq4]
  refine wpAnyH_take (i := 16) (v := ?_) rfl (by kernel_rfl) (by kernel_rfl) (by kernel_rfl) (fun _ _ _ h => h) (Or.inl ⟨by rfl, ?_⟩) hH6 ?_
  rotate_left
  ·((intro W hW; clear hW; go_simp) <;> with_reducible rfl)
  simp only [sq3, sq4]
  refine wpAnyH_ready (rs := [18]) (by kernel_rfl) (by simp) ?_
  refine AllReadyH.cons (o := _) rfl (fun K hK => ?_) AllReadyH.nil
  simp only [sq3]
  rw [if_pos (by rfl)]
  refine wp_store_blk 65 (.tmp 12) (.tmp 29) rfl g12 rfl _ rfl _ 65 hmB (by rfl) (by kernel_rfl) (by kernel_rfl) ?_
  intro w7 hq gr
  replace haB := blk_a haB gr d_aB_mB
  replace hnt := blk_a hnt gr d_nt_mB
  replace hT := hT.away ap_mB gr hmB
  replace fr := fr.newer ap_mB gr pmB
  replace ap_aB := ap_aB.grown ap_mB gr
  replace ap_mB := ap_mB.grown ap_mB gr
  replace bel := below_grown bel gr omB (Nat.le_trans hlo bel.size)
  clear hmB
  have hmB := hq
  clear hq gr
  refine hK.out _ _ ⟨hnt, haB⟩ (fun hH8 => ?_)
  clear hK K
  simp only [Act.put]
  refine wpAnyH_take (i := 19) (v := ?_) rfl (by kernel_rfl) (by kernel_rfl) (by kernel_rfl) (fun _ _ _ h => h) (Or.inl ⟨by rfl, ?_⟩) hH8 ?_
  rotate_left
  ·((intro W hW; clear hW; go_simp) <;> with_reducible rfl)
  simp only [sq3, sq4]
  refine wpAnyH_done (by kernel_rfl) ?_ _
  go_wp2_with fail
  go_meet
  case rel => exact ⟨g12, rfl, rfl, haB, hnt, hmB, omB, pmB, d_aB_mB, (ne_symm d_nt_aB), (ne_symm d_nt_mB), hT, fr, ap_aB, ap_mB, bel⟩
 obtain ⟨w9, hw_⟩ : ∃ x, x = wc := ⟨_, rfl⟩
 subst hw_
 obtain ⟨g12, rfl, rfl, haB, hnt, hmB, omB, pmB, d_aB_mB, d_aB_nt, d_mB_nt, hT, fr, ap_aB, ap_mB, bel⟩ := hcut
 have R36 := cell_lit hmB 1 _ rfl
 go_wp2_with fail
 clear R36
 with_reducible refine (hwn _).mono ?_
 rintro e _ ⟨rfl, rfl⟩
 go_wp2_with fail
 exact bodyPost_ret (results_tmp2 rfl _ _ _) rfl ⟨rfl, hT, fr, bel⟩
theorem nmsgout_q {lo gn gt gk : Nat} {s : Ts} {k : Ks} {s' : Ts} {m : Mp} {q r2 : Int} {tos id fl pt ttl : Int} {a0 a1 a2 a3 b0 b1 b2 b3 : UInt8} {So Sb : Option Addr} {no co nb cb : Nat} {lp lb : List UInt8} {c0 c1 c2 c3 : UInt8} {t : Int} {ty re : Int} {ld : List UInt8} {nd : Nat} (w : World) (hT : Np lo gn gt gk w s k) (po : Sl w So no co lp) (pb : Sl w Sb nb cb lb) (an_po : An gn gt gk w So no) (hm : nb ≤ 100000) (hno : no ≤ 100000) (hg : icGet fl pt 1 lb = ([ty, 0, re], ld, 0)) (hld : ld.length = nd) (hn : nd ≤ 1472) (hby : byteOk ty = true) (he : echoT ty = true) (hq : re / 65536 = q) (hr : 0 ≤ re ∧ re < 4294967296) (hc : MakeC lo gt s s' 1 a0 a1 a2 a3 q t 30 m 0) (hwn : WnC re m.o r2) (hr2 : 0 ≤ r2 ∧ r2 < 4294967296)  : Calls Tryz.prog 38 #[.pointer (some ⟨gn, 0, none⟩), .agg #[.int .i64 tos, .int .i64 id, .int .i64 fl, .int .i64 pt, .int .i64 ttl, .int .i64 1, .int .u8 (a0.toNat : Int), .int .u8 (a1.toNat : Int), .int .u8 (a2.toNat : Int), .int .u8 (a3.toNat : Int), .int .u8 (b0.toNat : Int), .int .u8 (b1.toNat : Int), .int .u8 (b2.toNat : Int), .int .u8 (b3.toNat : Int), .slice So no co, .slice Sb nb cb], .agg #[.int .u8 (c0.toNat : Int), .int .u8 (c1.toNat : Int), .int .u8 (c2.toNat : Int), .int .u8 (c3.toNat : Int)], .int .i64 t] w fun e w' => ∃ Ao co' Ab cb', e = .returned (.tuple #[.agg #[.int .i64 tos, .int .i64 id, .int .i64 fl, .int .i64 pt, .int .i64 ttl, .int .i64 1, .int .u8 (c0.toNat : Int), .int .u8 (c1.toNat : Int), .int .u8 (c2.toNat : Int), .int .u8 (c3.toNat : Int), .int .u8 (b0.toNat : Int), .int .u8 (b1.toNat : Int), .int .u8 (b2.toNat : Int), .int .u8 (b3.toNat : Int), .slice Ao no co', .slice Ab (8 + nd) cb'], .int .i64 0]) ∧ Np lo gn gt gk w' s' k ∧ Fn gn gt gk w w' ∧ Below lo w w' ∧ Sl w' Ao no co' lp ∧ Sl w' Ab (8 + nd) cb' (icBytes ty 0 r2 ld) ∧ An gn gt gk w' Ao no ∧ An gn gt gk w' Ab (8 + nd) ∧ Fr w.heap.size Ao no ∧ Fr w.heap.size Ab (8 + nd) := by
 have hlo : lo ≤ w.heap.size := hT.lo_le
 have HLO := Lib.hid hlo
 have hnt := hT.nat
 have fr := Fn.refl gn gt gk w
 have HM := Lib.hid hm
 clear hm
 have HNO := Lib.hid hno
 clear hno
 have HG := Lib.hid hg
 clear hg
 have HLD := Lib.hid hld
 clear hld
 have HN4 := Lib.hid hn
 clear hn
 have HBY := Lib.hid hby
 clear hby
 have HE := Lib.hid he
 clear he
 have HQ := Lib.hid hq
 clear hq
 have HR := Lib.hid hr
 clear hr
 have HR2 := Lib.hid hr2
 clear hr2
 have HBC : Hid (byteOk 0 = true) := Lib.hid (by decide)
 have bel := Below.refl lo w
 go_enter Tryz.func38, Tryz.ntmps38
 go_wp2_with (first | ((with_reducible show wpList _ _ _ (⟨some 5, _, _, _, _, _⟩ :: _) _ _); refine wpList_box_n rfl 38 (.tmp 1) rfl #[.int .i64 tos, .int .i64 id, .int .i64 fl, .int .i64 pt, .int .i64 ttl, .int .i64 1, .int .u8 (a0.toNat : Int), .int .u8 (a1.toNat : Int), .int .u8 (a2.toNat : Int), .int .u8 (a3.toNat : Int), .int .u8 (b0.toNat : Int), .int .u8 (b1.toNat : Int), .int .u8 (b2.toNat : Int), .int .u8 (b3.toNat : Int), .slice So no co, .slice Sb nb cb] rfl ?_; intro g5 w1 ge lt hh bb; have ap_pB := hT.ap ge; have d_nt_pB := ne_new (hlt hnt) ge; have av_po_pB := po.av_new ge; have av_pb_pB := pb.av_new ge; have opB := Nat.le_trans (Nat.le_trans hlo bel.size) ge; have ppB := Nat.le_trans bel.size ge; replace hnt := blk_u hnt bb; replace po := po.below bb; replace pb := pb.below bb; replace hT := hT.below bb; replace fr := fr.below bb; replace an_po := an_po.below bb; replace ap_pB := ap_pB.below bb; replace bel := bel.trans (bb.mono (Nat.le_trans hlo bel.size)); have hpB := hh; clear hh lt ge bb) | ((with_reducible show wpList _ _ _ (⟨some 6, _, _, _, _, _⟩ :: _) _ _); refine wpList_box_n rfl 35 (.tmp 2) rfl #[.int .u8 (c0.toNat : Int), .int .u8 (c1.toNat : Int), .int .u8 (c2.toNat : Int), .int .u8 (c3.toNat : Int)] rfl ?_; intro g6 w2 ge lt hh bb; have ap_wB := hT.ap ge; have d_nt_wB := ne_new (hlt hnt) ge; have d_pB_wB := ne_new (hlt hpB) ge; have av_po_wB := po.av_new ge; have av_pb_wB := pb.av_new ge; have owB := Nat.le_trans (Nat.le_trans hlo bel.size) ge; have pwB := Nat.le_trans bel.size ge; replace hnt := blk_u hnt bb; replace hpB := blk_u hpB bb; replace po := po.below bb; replace pb := pb.below bb; replace hT := hT.below bb; replace fr := fr.below bb; replace an_po := an_po.below bb; replace ap_pB := ap_pB.below bb; replace ap_wB := ap_wB.below bb; replace bel := bel.trans (bb.mono (Nat.le_trans hlo bel.size)); have hwB := hh; clear hh lt ge bb) | ((with_reducible show wpList _ _ _ (⟨some 8, _, _, _, _, _⟩ :: _) _ _); refine wpList_new_a rfl 38 rfl #[.int .i64 0, .int .i64 0, .int .i64 0, .int .i64 0, .int .i64 0, .int .i64 0, .int .u8 0, .int .u8 0, .int .u8 0, .int .u8 0, .int .u8 0, .int .u8 0, .int .u8 0, .int .u8 0, .slice none 0 0, .slice none 0 0] (by kernel_rfl) ?_; intro g8 w3 ge hh bb; have ap_rB := hT.ap ge; have d_nt_rB := ne_new (hlt hnt) ge; have d_pB_rB := ne_new (hlt hpB) ge; have d_wB_rB := ne_new (hlt hwB) ge; have av_po_rB := po.av_new ge; have av_pb_rB := pb.av_new ge; have orB := Nat.le_trans (Nat.le_trans hlo bel.size) ge; have prB := Nat.le_trans bel.size ge; replace hnt := blk_u hnt bb; replace hpB := blk_u hpB bb; replace hwB := blk_u hwB bb; replace po := po.below bb; replace pb := pb.below bb; replace hT := hT.below bb; replace fr := fr.below bb; replace an_po := an_po.below bb; replace ap_pB := ap_pB.below bb; replace ap_wB := ap_wB.below bb; replace ap_rB := ap_rB.below bb; replace bel := bel.trans (bb.mono (Nat.le_trans hlo bel.size)); have hrB := hh; clear hh ge bb; have R15 := Lib.hid (range_lit hpB 0 16 [.int .i64 tos, .int .i64 id, .int .i64 fl, .int .i64 pt, .int .i64 ttl, .int .i64 1, .int .u8 (a0.toNat : Int), .int .u8 (a1.toNat : Int), .int .u8 (a2.toNat : Int), .int .u8 (a3.toNat : Int), .int .u8 (b0.toNat : Int), .int .u8 (b1.toNat : Int), .int .u8 (b2.toNat : Int), .int .u8 (b3.toNat : Int), .slice So no co, .slice Sb nb cb] rfl)) | ((with_reducible show wpList _ _ _ (⟨some 15, _, _, _, _, _⟩ :: _) _ _); refine wpList_load_rng 38 (.tmp 5) rfl (by kernel_rfl) _ _ rfl _ R15.out _ Tryz.underlying38 rfl (by kernel_rfl) ?_))
 try clear R15
 with_reducible refine (icget_is _ _ _ _ _ _ _ _ _ _ _ _ _ _ _ _ _ _ _ _  pb HM.out HG.out HLD.out).mono ?_
 rintro e w4 ⟨D, qd, rfl, gd, fd, b4⟩
 have av_gd_nt := fd.av (hlt hnt)
 have av_gd_pB := fd.av (hlt hpB)
 have av_gd_wB := fd.av (hlt hwB)
 have av_gd_rB := fd.av (hlt hrB)
 have an_gd := hT.an fd
 replace hnt := blk_u hnt b4
 replace hpB := blk_u hpB b4
 replace hwB := blk_u hwB b4
 replace hrB := blk_u hrB b4
 replace po := po.below b4
 replace pb := pb.below b4
 replace hT := hT.below b4
 replace fr := fr.below b4
 replace an_po := an_po.below b4
 replace ap_pB := ap_pB.below b4
 replace ap_wB := ap_wB.below b4
 replace ap_rB := ap_rB.below b4
 replace an_gd := an_gd.below b4
 replace bel := bel.trans (b4.mono (Nat.le_trans hlo bel.size))
 clear b4
 replace gd : Sl w4 (D) (nd) (qd) (ld) := gd
 go_wp2_with (first | ((with_reducible show wpList _ _ _ (⟨some 10, _, _, _, _, _⟩ :: _) _ _); refine wpList_new_a rfl 47 rfl #[.int .i64 0, .int .i64 0, .int .u32 0, .slice none 0 0] (by kernel_rfl) ?_; intro g10 w5 ge hh bb; have ap_gB := hT.ap ge; have d_nt_gB := ne_new (hlt hnt) ge; have d_pB_gB := ne_new (hlt hpB) ge; have d_wB_gB := ne_new (hlt hwB) ge; have d_rB_gB := ne_new (hlt hrB) ge; have av_po_gB := po.av_new ge; have av_pb_gB := pb.av_new ge; have av_gd_gB := gd.av_new ge; have ogB := Nat.le_trans (Nat.le_trans hlo bel.size) ge; have pgB := Nat.le_trans bel.size ge; replace hnt := blk_u hnt bb; replace hpB := blk_u hpB bb; replace hwB := blk_u hwB bb; replace hrB := blk_u hrB bb; replace po := po.below bb; replace pb := pb.below bb; replace gd := gd.below bb; replace hT := hT.below bb; replace fr := fr.below bb; replace an_po := an_po.below bb; replace ap_pB := ap_pB.below bb; replace ap_wB := ap_wB.below bb; replace ap_rB := ap_rB.below bb; replace an_gd := an_gd.below bb; replace ap_gB := ap_gB.below bb; replace bel := bel.trans (bb.mono (Nat.le_trans hlo bel.size)); have hgB := hh; clear hh ge bb) | ((with_reducible show wpList _ _ _ (⟨none, Op.store _ (.tmp 10) _, _, _, _, _⟩ :: _) _ _); refine wpList_store_blk rfl 47 (.tmp 10) (.tmp 17) rfl g10 rfl _ rfl _ 47 hgB (by rfl) (by kernel_rfl) (by kernel_rfl) ?_; intro w6 hq gr; replace po := po.away av_po_gB gr; replace pb := pb.away av_pb_gB gr; replace gd := gd.away av_gd_gB gr; replace hnt := blk_a hnt gr d_nt_gB; replace hpB := blk_a hpB gr d_pB_gB; replace hwB := blk_a hwB gr d_wB_gB; replace hrB := blk_a hrB gr d_rB_gB; replace hT := hT.away ap_gB gr hgB; replace fr := fr.newer ap_gB gr pgB; replace an_po := an_po.grown ap_gB gr; replace ap_pB := ap_pB.grown ap_gB gr; replace ap_wB := ap_wB.grown ap_gB gr; replace ap_rB := ap_rB.grown ap_gB gr; replace an_gd := an_gd.grown ap_gB gr; replace ap_gB := ap_gB.grown ap_gB gr; replace bel := below_grown bel gr ogB (Nat.le_trans hlo bel.size); clear hgB; have hgB := hq; clear hq gr; have R24 := Lib.hid (range_lit hgB 0 4 [.int .i64 ty, .int .i64 0, .int .u32 re, .slice D nd qd] rfl)) | ((with_reducible show wpList _ _ _ (⟨some 24, _, _, _, _, _⟩ :: _) _ _); refine wpList_load_rng 47 (.tmp 10) rfl (by kernel_rfl) _ _ rfl _ R24.out _ Tryz.underlying47 rfl (by kernel_rfl) ?_))
 try clear R24
 with_reducible refine (icquery_q HE.out HR.out HQ.out _).mono ?_
 rintro e w7 ⟨rfl, b7⟩
 replace hnt := blk_u hnt b7
 replace hpB := blk_u hpB b7
 replace hwB := blk_u hwB b7
 replace hrB := blk_u hrB b7
 replace hgB := blk_u hgB b7
 replace po := po.below b7
 replace pb := pb.below b7
 replace gd := gd.below b7
 replace hT := hT.below b7
 replace fr := fr.below b7
 replace an_po := an_po.below b7
 replace ap_pB := ap_pB.below b7
 replace ap_wB := ap_wB.below b7
 replace ap_rB := ap_rB.below b7
 replace an_gd := an_gd.below b7
 replace ap_gB := ap_gB.below b7
 replace bel := bel.trans (b7.mono (Nat.le_trans hlo bel.size))
 clear b7
 have R33 := Lib.hid (range_lit hpB 6 4 [.int .u8 (a0.toNat : Int), .int .u8 (a1.toNat : Int), .int .u8 (a2.toNat : Int), .int .u8 (a3.toNat : Int)] rfl)
 go_wp2_with (first | ((with_reducible show wpList _ _ _ (⟨some 33, _, _, _, _, _⟩ :: _) _ _); refine wpList_load_rng 35 (.tmp 32) rfl (by kernel_rfl) _ _ rfl _ R33.out _ Tryz.underlying35 rfl (by kernel_rfl) ?_; have R35 := cell_lit hgB 2 _ rfl))
 try clear R33
 try clear R35
 with_reducible refine (nqout_ok _ hT hc hwn).mono ?_
 rintro e w8 ⟨rfl, hT_, f_, bb⟩
 clear hnt
 have x_ := f_ _ _ _ _ hpB ap_pB
 replace hpB := x_.1
 replace ap_pB := x_.2
 clear x_
 have x_ := f_ _ _ _ _ hwB ap_wB
 replace hwB := x_.1
 replace ap_wB := x_.2
 clear x_
 have x_ := f_ _ _ _ _ hrB ap_rB
 replace hrB := x_.1
 replace ap_rB := x_.2
 clear x_
 have x_ := f_ _ _ _ _ hgB ap_gB
 replace hgB := x_.1
 replace ap_gB := x_.2
 clear x_
 have x_ := f_.sl po an_po
 replace po := x_.1
 replace an_po := x_.2
 clear x_
 clear pb
 have x_ := f_.sl gd an_gd
 replace gd := x_.1
 replace an_gd := x_.2
 clear x_
 replace fr := fr.trans f_
 clear hT
 have hT := hT_
 replace bel := bel.trans bb
 clear bb f_ hT_
 have hnt := hT.nat
 go_wp2_with (first | ((with_reducible show wpList _ _ _ (⟨none, Op.store _ (.tmp 41) _, _, _, _, _⟩ :: _) _ _); refine wpList_store_part rfl 45 (.tmp 41) (.tmp 39) rfl g10 2 rfl [.int .u32 r2] rfl [.int .i64 ty, .int .i64 0, .int .u32 re, .slice D nd qd] 47 hgB (by simp) [.int .i64 ty, .int .i64 0, .int .u32 r2, .slice D nd qd] rfl (by kernel_rfl) (by rfl) ?_; intro w9 hq gr; replace po := po.away av_po_gB gr; replace gd := gd.away av_gd_gB gr; replace hpB := blk_a hpB gr d_pB_gB; replace hwB := blk_a hwB gr d_wB_gB; replace hrB := blk_a hrB gr d_rB_gB; replace hnt := blk_a hnt gr d_nt_gB; replace hT := hT.away ap_gB gr hgB; replace fr := fr.newer ap_gB gr pgB; replace an_po := an_po.grown ap_gB gr; replace ap_pB := ap_pB.grown ap_gB gr; replace ap_wB := ap_wB.grown ap_gB gr; replace ap_rB := ap_rB.grown ap_gB gr; replace an_gd := an_gd.grown ap_gB gr; replace ap_gB := ap_gB.grown ap_gB gr; replace bel := below_grown bel gr ogB (Nat.le_trans hlo bel.size); clear hgB; have hgB := hq; clear hq gr; have R61 := Lib.hid (range_lit hwB 0 4 [.int .u8 (c0.toNat : Int), .int .u8 (c1.toNat : Int), .int .u8 (c2.toNat : Int), .int .u8 (c3.toNat : Int)] rfl)) | ((with_reducible show wpList _ _ _ (⟨some 61, _, _, _, _, _⟩ :: _) _ _); refine wpList_load_rng 35 (.tmp 6) rfl (by kernel_rfl) _ _ rfl _ R61.out _ Tryz.underlying35 rfl (by kernel_rfl) ?_) | ((with_reducible show wpList _ _ _ (⟨none, Op.store _ (.tmp 62) _, _, _, _, _⟩ :: _) _ _); refine wpList_store_part rfl 35 (.tmp 62) (.tmp 61) rfl g5 6 rfl [.int .u8 (c0.toNat : Int), .int .u8 (c1.toNat : Int), .int .u8 (c2.toNat : Int), .int .u8 (c3.toNat : Int)] rfl [.int .i64 tos, .int .i64 id, .int .i64 fl, .int .i64 pt, .int .i64 ttl, .int .i64 1, .int .u8 (a0.toNat : Int), .int .u8 (a1.toNat : Int), .int .u8 (a2.toNat : Int), .int .u8 (a3.toNat : Int), .int .u8 (b0.toNat : Int), .int .u8 (b1.toNat : Int), .int .u8 (b2.toNat : Int), .int .u8 (b3.toNat : Int), .slice So no co, .slice Sb nb cb] 38 hpB (by simp) [.int .i64 tos, .int .i64 id, .int .i64 fl, .int .i64 pt, .int .i64 ttl, .int .i64 1, .int .u8 (c0.toNat : Int), .int .u8 (c1.toNat : Int), .int .u8 (c2.toNat : Int), .int .u8 (c3.toNat : Int), .int .u8 (b0.toNat : Int), .int .u8 (b1.toNat : Int), .int .u8 (b2.toNat : Int), .int .u8 (b3.toNat : Int), .slice So no co, .slice Sb nb cb] rfl (by kernel_rfl) (by rfl) ?_; intro w10 hq gr; replace po := po.away av_po_pB gr; replace gd := gd.away av_gd_pB gr; replace hwB := blk_a hwB gr (ne_symm d_pB_wB); replace hrB := blk_a hrB gr (ne_symm d_pB_rB); replace hgB := blk_a hgB gr (ne_symm d_pB_gB); replace hnt := blk_a hnt gr d_nt_pB; replace hT := hT.away ap_pB gr hpB; replace fr := fr.newer ap_pB gr ppB; replace an_po := an_po.grown ap_pB gr; replace ap_pB := ap_pB.grown ap_pB gr; replace ap_wB := ap_wB.grown ap_pB gr; replace ap_rB := ap_rB.grown ap_pB gr; replace an_gd := an_gd.grown ap_pB gr; replace ap_gB := ap_gB.grown ap_pB gr; replace bel := below_grown bel gr opB (Nat.le_trans hlo bel.size); clear hpB; have hpB := hq; clear hq gr; have R63 := Lib.hid (range_lit hpB 0 16 [.int .i64 tos, .int .i64 id, .int .i64 fl, .int .i64 pt, .int .i64 ttl, .int .i64 1, .int .u8 (c0.toNat : Int), .int .u8 (c1.toNat : Int), .int .u8 (c2.toNat : Int), .int .u8 (c3.toNat : Int), .int .u8 (b0.toNat : Int), .int .u8 (b1.toNat : Int), .int .u8 (b2.toNat : Int), .int .u8 (b3.toNat : Int), .slice So no co, .slice Sb nb cb] rfl)) | ((with_reducible show wpList _ _ _ (⟨some 63, _, _, _, _, _⟩ :: _) _ _); refine wpList_load_rng 38 (.tmp 5) rfl (by kernel_rfl) _ _ rfl _ R63.out _ Tryz.underlying38 rfl (by kernel_rfl) ?_; have R64 := Lib.hid (range_lit hgB 0 4 [.int .i64 ty, .int .i64 0, .int .u32 r2, .slice D nd qd] rfl)) | ((with_reducible show wpList _ _ _ (⟨some 64, _, _, _, _, _⟩ :: _) _ _); refine wpList_load_rng 47 (.tmp 10) rfl (by kernel_rfl) _ _ rfl _ R64.out _ Tryz.underlying47 rfl (by kernel_rfl) ?_))
 try clear R61
 try clear R63
 try clear R64
 have hsz_ := bel.size
 with_reducible refine (icput_is _ _ _ _ _ _ _ _ _ _ _ _ _ _ _ _ _ _ _ _ _ _ _ _ _ _ _  po gd HBY.out HBC.out HN4.out HNO.out HR2.out.1 HR2.out.2).mono ?_
 rintro e w11 ⟨Ao, co2, Ab, cb2, rfl, qo, qb, fqo_, fqb_, b11⟩
 have av_qo_pB := fqo_.av (hlt hpB)
 have av_qo_wB := fqo_.av (hlt hwB)
 have av_qo_rB := fqo_.av (hlt hrB)
 have av_qo_gB := fqo_.av (hlt hgB)
 have av_qo_nt := fqo_.av (hlt hnt)
 have av_qb_pB := fqb_.av (hlt hpB)
 have av_qb_wB := fqb_.av (hlt hwB)
 have av_qb_rB := fqb_.av (hlt hrB)
 have av_qb_gB := fqb_.av (hlt hgB)
 have av_qb_nt := fqb_.av (hlt hnt)
 have an_qo := hT.an fqo_
 have an_qb := hT.an fqb_
 replace hpB := blk_u hpB b11
 replace hwB := blk_u hwB b11
 replace hrB := blk_u hrB b11
 replace hgB := blk_u hgB b11
 replace hnt := blk_u hnt b11
 replace po := po.below b11
 replace gd := gd.below b11
 replace hT := hT.below b11
 replace fr := fr.below b11
 replace an_po := an_po.below b11
 replace ap_pB := ap_pB.below b11
 replace ap_wB := ap_wB.below b11
 replace ap_rB := ap_rB.below b11
 replace an_gd := an_gd.below b11
 replace ap_gB := ap_gB.below b11
 replace an_qo := an_qo.below b11
 replace an_qb := an_qb.below b11
 replace bel := bel.trans (b11.mono (Nat.le_trans hlo bel.size))
 clear b11
 replace qo : Sl w11 (Ao) (no) (co2) (lp) := qo
 replace qb : Sl w11 (Ab) (8 + nd) (cb2) (icBytes ty 0 r2 ld) := qb
 have fqo := Fr.mono fqo_ hsz_
 have fqb := Fr.mono fqb_ hsz_
 clear fqo_ fqb_ hsz_
 go_wp2_with (first | ((with_reducible show wpList _ _ _ (⟨none, Op.store _ (.tmp 8) _, _, _, _, _⟩ :: _) _ _); refine wpList_store_blk rfl 38 (.tmp 8) (.tmp 66) rfl g8 rfl _ rfl _ 38 hrB (by rfl) (by kernel_rfl) (by kernel_rfl) ?_; intro w12 hq gr; replace po := po.away av_po_rB gr; replace gd := gd.away av_gd_rB gr; replace qo := qo.away av_qo_rB gr; replace qb := qb.away av_qb_rB gr; replace hpB := blk_a hpB gr d_pB_rB; replace hwB := blk_a hwB gr d_wB_rB; replace hgB := blk_a hgB gr (ne_symm d_rB_gB); replace hnt := blk_a hnt gr d_nt_rB; replace hT := hT.away ap_rB gr hrB; replace fr := fr.newer ap_rB gr prB; replace an_po := an_po.grown ap_rB gr; replace ap_pB := ap_pB.grown ap_rB gr; replace ap_wB := ap_wB.grown ap_rB gr; replace ap_rB := ap_rB.grown ap_rB gr; replace an_gd := an_gd.grown ap_rB gr; replace ap_gB := ap_gB.grown ap_rB gr; replace an_qo := an_qo.grown ap_rB gr; replace an_qb := an_qb.grown ap_rB gr; replace bel := below_grown bel gr orB (Nat.le_trans hlo bel.size); clear hrB; have hrB := hq; clear hq gr))
 exact bodyPost_ret (results_cell_tmp_row rfl _ _ _ _ _ _ _ rfl hrB Tryz.underlying38 rfl (by kernel_rfl) (.int .i64 0) rfl) rfl ⟨Ao, co2, Ab, cb2, rfl, hT, fr, bel, qo, qb, an_qo, an_qb, fqo, fqb⟩
theorem nout_q {lo gn gt gk : Nat} {s : Ts} {k : Ks} {s' : Ts} {m : Mp} {q r2 : Int} {tos id fl pt ttl : Int} {a0 a1 a2 a3 b0 b1 b2 b3 : UInt8} {So Sb : Option Addr} {no co nb cb : Nat} {lp lb : List UInt8} {c0 c1 c2 c3 : UInt8} {t : Int} {ty re : Int} {ld : List UInt8} {nd : Nat} (w : World) (hT : Np lo gn gt gk w s k) (po : Sl w So no co lp) (pb : Sl w Sb nb cb lb) (an_po : An gn gt gk w So no) (hm : nb ≤ 100000) (hno : no ≤ 100000) (hw : (decide (pt = 0) && decide (fl % 2 = 0)) = true) (hg : icGet fl pt 1 lb = ([ty, 0, re], ld, 0)) (hld : ld.length = nd) (hn : nd ≤ 1472) (hby : byteOk ty = true) (he : echoT ty = true) (hq : re / 65536 = q) (hr : 0 ≤ re ∧ re < 4294967296) (hc : MakeC lo gt s s' 1 a0 a1 a2 a3 q t 30 m 0) (hwn : WnC re m.o r2) (hr2 : 0 ≤ r2 ∧ r2 < 4294967296)  : Calls Tryz.prog 19 #[.pointer (some ⟨gn, 0, none⟩), .agg #[.int .i64 tos, .int .i64 id, .int .i64 fl, .int .i64 pt, .int .i64 ttl, .int .i64 1, .int .u8 (a0.toNat : Int), .int .u8 (a1.toNat : Int), .int .u8 (a2.toNat : Int), .int .u8 (a3.toNat : Int), .int .u8 (b0.toNat : Int), .int .u8 (b1.toNat : Int), .int .u8 (b2.toNat : Int), .int .u8 (b3.toNat : Int), .slice So no co, .slice Sb nb cb], .agg #[.int .u8 (c0.toNat : Int), .int .u8 (c1.toNat : Int), .int .u8 (c2.toNat : Int), .int .u8 (c3.toNat : Int)], .int .i64 t] w fun e w' => ∃ Ao co' Ab cb', e = .returned (.tuple #[.agg #[.int .i64 tos, .int .i64 id, .int .i64 fl, .int .i64 pt, .int .i64 ttl, .int .i64 1, .int .u8 (c0.toNat : Int), .int .u8 (c1.toNat : Int), .int .u8 (c2.toNat : Int), .int .u8 (c3.toNat : Int), .int .u8 (b0.toNat : Int), .int .u8 (b1.toNat : Int), .int .u8 (b2.toNat : Int), .int .u8 (b3.toNat : Int), .slice Ao no co', .slice Ab (8 + nd) cb'], .int .i64 0]) ∧ Np lo gn gt gk w' s' k ∧ Fn gn gt gk w w' ∧ Below lo w w' ∧ Sl w' Ao no co' lp ∧ Sl w' Ab (8 + nd) cb' (icBytes ty 0 r2 ld) ∧ An gn gt gk w' Ao no ∧ An gn gt gk w' Ab (8 + nd) ∧ Fr w.heap.size Ao no ∧ Fr w.heap.size Ab (8 + nd) := by
 have hlo : lo ≤ w.heap.size := hT.lo_le
 have HLO := Lib.hid hlo
 have hnt := hT.nat
 have fr := Fn.refl gn gt gk w
 have HM := Lib.hid hm
 clear hm
 have HNO := Lib.hid hno
 clear hno
 have HG := Lib.hid hg
 clear hg
 have HLD := Lib.hid hld
 clear hld
 have HN4 := Lib.hid hn
 clear hn
 have HBY := Lib.hid hby
 clear hby
 have HE := Lib.hid he
 clear he
 have HQ := Lib.hid hq
 clear hq
 have HR := Lib.hid hr
 clear hr
 have HR2 := Lib.hid hr2
 clear hr2
 have HBC : Hid (byteOk 0 = true) := Lib.hid (by decide)
 have HW := Lib.hid hw
 clear hw
 have bel := Below.refl lo w
 go_enter Tryz.func19, Tryz.ntmps19
 go_wp2_with (first | ((with_reducible show wpList _ _ _ (⟨some 5, _, _, _, _, _⟩ :: _) _ _); refine wpList_box_n rfl 38 (.tmp 1) rfl #[.int .i64 tos, .int .i64 id, .int .i64 fl, .int .i64 pt, .int .i64 ttl, .int .i64 1, .int .u8 (a0.toNat : Int), .int .u8 (a1.toNat : Int), .int .u8 (a2.toNat : Int), .int .u8 (a3.toNat : Int), .int .u8 (b0.toNat : Int), .int .u8 (b1.toNat : Int), .int .u8 (b2.toNat : Int), .int .u8 (b3.toNat : Int), .slice So no co, .slice Sb nb cb] rfl ?_; intro g5 w1 ge lt hh bb; have ap_pB := hT.ap ge; have d_nt_pB := ne_new (hlt hnt) ge; have av_po_pB := po.av_new ge; have av_pb_pB := pb.av_new ge; have opB := Nat.le_trans (Nat.le_trans hlo bel.size) ge; have ppB := Nat.le_trans bel.size ge; replace hnt := blk_u hnt bb; replace po := po.below bb; replace pb := pb.below bb; replace hT := hT.below bb; replace fr := fr.below bb; replace an_po := an_po.below bb; replace ap_pB := ap_pB.below bb; replace bel := bel.trans (bb.mono (Nat.le_trans hlo bel.size)); have hpB := hh; clear hh lt ge bb) | ((with_reducible show wpList _ _ _ (⟨some 6, _, _, _, _, _⟩ :: _) _ _); refine wpList_box_n rfl 35 (.tmp 2) rfl #[.int .u8 (c0.toNat : Int), .int .u8 (c1.toNat : Int), .int .u8 (c2.toNat : Int), .int .u8 (c3.toNat : Int)] rfl ?_; intro g6 w2 ge lt hh bb; have ap_wB := hT.ap ge; have d_nt_wB := ne_new (hlt hnt) ge; have d_pB_wB := ne_new (hlt hpB) ge; have av_po_wB := po.av_new ge; have av_pb_wB := pb.av_new ge; have owB := Nat.le_trans (Nat.le_trans hlo bel.size) ge; have pwB := Nat.le_trans bel.size ge; replace hnt := blk_u hnt bb; replace hpB := blk_u hpB bb; replace po := po.below bb; replace pb := pb.below bb; replace hT := hT.below bb; replace fr := fr.below bb; replace an_po := an_po.below bb; replace ap_pB := ap_pB.below bb; replace ap_wB := ap_wB.below bb; replace bel := bel.trans (bb.mono (Nat.le_trans hlo bel.size)); have hwB := hh; clear hh lt ge bb) | ((with_reducible show wpList _ _ _ (⟨some 8, _, _, _, _, _⟩ :: _) _ _); refine wpList_new_a rfl 38 rfl #[.int .i64 0, .int .i64 0, .int .i64 0, .int .i64 0, .int .i64 0, .int .i64 0, .int .u8 0, .int .u8 0, .int .u8 0, .int .u8 0, .int .u8 0, .int .u8 0, .int .u8 0, .int .u8 0, .slice none 0 0, .slice none 0 0] (by kernel_rfl) ?_; intro g8 w3 ge hh bb; have ap_rB := hT.ap ge; have d_nt_rB := ne_new (hlt hnt) ge; have d_pB_rB := ne_new (hlt hpB) ge; have d_wB_rB := ne_new (hlt hwB) ge; have av_po_rB := po.av_new ge; have av_pb_rB := pb.av_new ge; have orB := Nat.le_trans (Nat.le_trans hlo bel.size) ge; have prB := Nat.le_trans bel.size ge; replace hnt := blk_u hnt bb; replace hpB := blk_u hpB bb; replace hwB := blk_u hwB bb; replace po := po.below bb; replace pb := pb.below bb; replace hT := hT.below bb; replace fr := fr.below bb; replace an_po := an_po.below bb; replace ap_pB := ap_pB.below bb; replace ap_wB := ap_wB.below bb; replace ap_rB := ap_rB.below bb; replace bel := bel.trans (bb.mono (Nat.le_trans hlo bel.size)); have hrB := hh; clear hh ge bb; have R10 := Lib.hid (range_lit hpB 0 16 [.int .i64 tos, .int .i64 id, .int .i64 fl, .int .i64 pt, .int .i64 ttl, .int .i64 1, .int .u8 (a0.toNat : Int), .int .u8 (a1.toNat : Int), .int .u8 (a2.toNat : Int), .int .u8 (a3.toNat : Int), .int .u8 (b0.toNat : Int), .int .u8 (b1.toNat : Int), .int .u8 (b2.toNat : Int), .int .u8 (b3.toNat : Int), .slice So no co, .slice Sb nb cb] rfl)) | ((with_reducible show wpList _ _ _ (⟨some 10, _, _, _, _, _⟩ :: _) _ _); refine wpList_load_rng 38 (.tmp 5) rfl (by kernel_rfl) _ _ rfl _ R10.out _ Tryz.underlying38 rfl (by kernel_rfl) ?_))
 try clear R10
 with_reducible refine (ipwhole_any _ _ _ _ _ _ _ _ _ _ _ _ _ _ _ _ _ _ _ _ _ ).mono ?_
 rintro e w4 ⟨rfl, b4⟩
 replace hnt := blk_u hnt b4
 replace hpB := blk_u hpB b4
 replace hwB := blk_u hwB b4
 replace hrB := blk_u hrB b4
 replace po := po.below b4
 replace pb := pb.below b4
 replace hT := hT.below b4
 replace fr := fr.below b4
 replace an_po := an_po.below b4
 replace ap_pB := ap_pB.below b4
 replace ap_wB := ap_wB.below b4
 replace ap_rB := ap_rB.below b4
 replace bel := bel.trans (b4.mono (Nat.le_trans hlo bel.size))
 clear b4
 rw [HW.out]
 have R15 := cell_lit hpB 5 _ rfl
 have R37 := Lib.hid (range_lit hpB 0 16 [.int .i64 tos, .int .i64 id, .int .i64 fl, .int .i64 pt, .int .i64 ttl, .int .i64 1, .int .u8 (a0.toNat : Int), .int .u8 (a1.toNat : Int), .int .u8 (a2.toNat : Int), .int .u8 (a3.toNat : Int), .int .u8 (b0.toNat : Int), .int .u8 (b1.toNat : Int), .int .u8 (b2.toNat : Int), .int .u8 (b3.toNat : Int), .slice So no co, .slice Sb nb cb] rfl)
 go_wp2_with (first | ((with_reducible show wpList _ _ _ (⟨some 37, _, _, _, _, _⟩ :: _) _ _); refine wpList_load_rng 38 (.tmp 5) rfl (by kernel_rfl) _ _ rfl _ R37.out _ Tryz.underlying38 rfl (by kernel_rfl) ?_; have R38 := Lib.hid (range_lit hwB 0 4 [.int .u8 (c0.toNat : Int), .int .u8 (c1.toNat : Int), .int .u8 (c2.toNat : Int), .int .u8 (c3.toNat : Int)] rfl)) | ((with_reducible show wpList _ _ _ (⟨some 38, _, _, _, _, _⟩ :: _) _ _); refine wpList_load_rng 35 (.tmp 6) rfl (by kernel_rfl) _ _ rfl _ R38.out _ Tryz.underlying35 rfl (by kernel_rfl) ?_))
 try clear R15
 try clear R37
 try clear R38
 have hsz_ := bel.size
 have lt_pB := hlt hpB
 have lt_wB := hlt hwB
 have lt_rB := hlt hrB
 with_reducible refine (nmsgout_q _ hT po pb an_po HM.out HNO.out HG.out HLD.out HN4.out HBY.out HE.out HQ.out HR.out hc hwn HR2.out).mono ?_
 rintro e w5 ⟨Ao, co2, Ab, cb2, rfl, hT_, f_, bb, qo, qb, an_qo, an_qb, fqo, fqb⟩
 clear hnt
 have x_ := f_ _ _ _ _ hpB ap_pB
 replace hpB := x_.1
 replace ap_pB := x_.2
 clear x_
 have x_ := f_ _ _ _ _ hwB ap_wB
 replace hwB := x_.1
 replace ap_wB := x_.2
 clear x_
 have x_ := f_ _ _ _ _ hrB ap_rB
 replace hrB := x_.1
 replace ap_rB := x_.2
 clear x_
 have x_ := f_.sl po an_po
 replace po := x_.1
 replace an_po := x_.2
 clear x_
 clear pb
 replace fr := fr.trans f_
 clear hT
 have hT := hT_
 replace bel := bel.trans bb
 clear bb f_ hT_
 have hnt := hT.nat
 have av_qo_pB := fqo.av lt_pB
 have av_qo_wB := fqo.av lt_wB
 have av_qo_rB := fqo.av lt_rB
 have av_qb_pB := fqb.av lt_pB
 have av_qb_wB := fqb.av lt_wB
 have av_qb_rB := fqb.av lt_rB
 clear lt_pB lt_wB lt_rB
 replace fqo := Fr.mono fqo hsz_
 replace fqb := Fr.mono fqb hsz_
 clear hsz_
 go_wp2_with (first | ((with_reducible show wpList _ _ _ (⟨none, Op.store _ (.tmp 8) _, _, _, _, _⟩ :: _) _ _); refine wpList_store_blk rfl 38 (.tmp 8) (.tmp 41) rfl g8 rfl _ rfl _ 38 hrB (by rfl) (by kernel_rfl) (by kernel_rfl) ?_; intro w6 hq gr; replace po := po.away av_po_rB gr; replace qo := qo.away av_qo_rB gr; replace qb := qb.away av_qb_rB gr; replace hpB := blk_a hpB gr d_pB_rB; replace hwB := blk_a hwB gr d_wB_rB; replace hnt := blk_a hnt gr d_nt_rB; replace hT := hT.away ap_rB gr hrB; replace fr := fr.newer ap_rB gr prB; replace an_po := an_po.grown ap_rB gr; replace ap_pB := ap_pB.grown ap_rB gr; replace ap_wB := ap_wB.grown ap_rB gr; replace ap_rB := ap_rB.grown ap_rB gr; replace an_qo := an_qo.grown ap_rB gr; replace an_qb := an_qb.grown ap_rB gr; replace bel := below_grown bel gr orB (Nat.le_trans hlo bel.size); clear hrB; have hrB := hq; clear hq gr))
 exact bodyPost_ret (results_cell_tmp_row rfl _ _ _ _ _ _ _ rfl hrB Tryz.underlying38 rfl (by kernel_rfl) (.int .i64 0) rfl) rfl ⟨Ao, co2, Ab, cb2, rfl, hT, fr, bel, qo, qb, an_qo, an_qb, fqo, fqb⟩
theorem nfin_y {lo gn gt gk : Nat} {s : Ts} {k : Ks} {s' : Ts} {m : Mp} {c0 c1 c2 c3 : UInt8} {t : Int} {gB oB nd cd : Nat} {ld : List UInt8} {x p0 p1 : UInt8} {at_ h : Nat} (w : World) (hT : Np lo gn gt gk w s k) (pb : Sl w (some ⟨gB, oB, none⟩) nd cd ld) (an_pb : An gn gt gk w (some ⟨gB, oB, none⟩) nd) (hm : nd ≤ 100000) (hi : inH ld = some h) (hx : ld[9]? = some x) (hy : (ld.drop 12).take 4 = [c0, c1, c2, c3]) (hk : knB (x.toNat : Int) = true) (ha : (if x.toNat = 1 then h + 4 else h) = at_) (hs : at_ + 2 ≤ nd) (hp : (ld.drop at_).take 2 = [p0, p1]) (hc : InC lo gt s s' (x.toNat : Int) ((be [p0, p1] : Nat) : Int) t m)  : Calls Tryz.prog 74 #[.pointer (some ⟨gn, 0, none⟩), .slice (some ⟨gB, oB, none⟩) nd cd, .agg #[.int .u8 (c0.toNat : Int), .int .u8 (c1.toNat : Int), .int .u8 (c2.toNat : Int), .int .u8 (c3.toNat : Int)], .int .i64 t] w fun e w' => ∃ A' c', e = .returned (.tuple #[.agg #[.int .u8 (m.ad.a.toNat : Int), .int .u8 (m.ad.b.toNat : Int), .int .u8 (m.ad.c.toNat : Int), .int .u8 (m.ad.d.toNat : Int)], .slice A' nd c', .int .i64 0]) ∧ Np lo gn gt gk w' s' k ∧ Fn gn gt gk w w' ∧ Below lo w w' ∧ Sl w' A' nd c' (wL ld h at_ [m.ad.a, m.ad.b, m.ad.c, m.ad.d] m.i) ∧ An gn gt gk w' A' nd ∧ Fr w.heap.size A' nd := by
 have hlo : lo ≤ w.heap.size := hT.lo_le
 have HLO := Lib.hid hlo
 have hnt := hT.nat
 have fr := Fn.refl gn gt gk w
 have HM := Lib.hid hm
 have hb_ := inH_bnd hi
 have hl_ := pb.1
 have HB1 := Lib.hid hb_.1
 have HB2 := Lib.hid hb_.2.1
 have HB3 : Hid (h + 4 ≤ nd) := Lib.hid (by omega)
 clear hm hb_ hl_
 have HI := Lib.hid hi
 clear hi
 have HX := Lib.hid hx
 clear hx
 have HY := Lib.hid hy
 clear hy
 have HK := Lib.hid hk
 clear hk
 have HAT := Lib.hid ha
 clear ha
 have HS := Lib.hid hs
 clear hs
 have HP2 := Lib.hid hp
 clear hp
 have bel := Below.refl lo w
 go_enter Tryz.func74, Tryz.ntmps74
 go_wp2_with (first | ((with_reducible show wpList _ _ _ (⟨some 6, _, _, _, _, _⟩ :: _) _ _); refine wpList_box_n rfl 35 (.tmp 2) rfl #[.int .u8 (c0.toNat : Int), .int .u8 (c1.toNat : Int), .int .u8 (c2.toNat : Int), .int .u8 (c3.toNat : Int)] rfl ?_; intro g6 w1 ge lt hh bb; have ap_wB := hT.ap ge; have d_nt_wB := ne_new (hlt hnt) ge; have av_pb_wB := pb.av_new ge; have owB := Nat.le_trans (Nat.le_trans hlo bel.size) ge; have pwB := Nat.le_trans bel.size ge; replace hnt := blk_u hnt bb; replace pb := pb.below bb; replace hT := hT.below bb; replace fr := fr.below bb; replace an_pb := an_pb.below bb; replace ap_wB := ap_wB.below bb; replace bel := bel.trans (bb.mono (Nat.le_trans hlo bel.size)); have hwB := hh; clear hh lt ge bb) | ((with_reducible show wpList _ _ _ (⟨some 8, _, _, _, _, _⟩ :: _) _ _); refine wpList_new_a rfl 35 rfl #[.int .u8 0, .int .u8 0, .int .u8 0, .int .u8 0] (by kernel_rfl) ?_; intro g8 w2 ge hh bb; have ap_rB := hT.ap ge; have d_nt_rB := ne_new (hlt hnt) ge; have d_wB_rB := ne_new (hlt hwB) ge; have av_pb_rB := pb.av_new ge; have orB := Nat.le_trans (Nat.le_trans hlo bel.size) ge; have prB := Nat.le_trans bel.size ge; replace hnt := blk_u hnt bb; replace hwB := blk_u hwB bb; replace pb := pb.below bb; replace hT := hT.below bb; replace fr := fr.below bb; replace an_pb := an_pb.below bb; replace ap_wB := ap_wB.below bb; replace ap_rB := ap_rB.below bb; replace bel := bel.trans (bb.mono (Nat.le_trans hlo bel.size)); have hrB := hh; clear hh ge bb))
 with_reducible refine (inner_yes _ pb HM.out HI.out).mono ?_
 rintro e w3 ⟨rfl, b3⟩
 replace hnt := blk_u hnt b3
 replace hwB := blk_u hwB b3
 replace hrB := blk_u hrB b3
 replace pb := pb.below b3
 replace hT := hT.below b3
 replace fr := fr.below b3
 replace an_pb := an_pb.below b3
 replace ap_wB := ap_wB.below b3
 replace ap_rB := ap_rB.below b3
 replace bel := bel.trans (b3.mono (Nat.le_trans hlo bel.size))
 clear b3
 go_wp2_with (first | ((with_reducible show wpList _ _ _ (⟨some 11, _, _, _, _, _⟩ :: _) _ _); refine wpList_new_a rfl 160 rfl #[.slice none 0 0, .int .i64 0] (by kernel_rfl) ?_; intro g11 w4 ge hh bb; have ap_iB := hT.ap ge; have d_nt_iB := ne_new (hlt hnt) ge; have d_wB_iB := ne_new (hlt hwB) ge; have d_rB_iB := ne_new (hlt hrB) ge; have av_pb_iB := pb.av_new ge; have oiB := Nat.le_trans (Nat.le_trans hlo bel.size) ge; have piB := Nat.le_trans bel.size ge; replace hnt := blk_u hnt bb; replace hwB := blk_u hwB bb; replace hrB := blk_u hrB bb; replace pb := pb.below bb; replace hT := hT.below bb; replace fr := fr.below bb; replace an_pb := an_pb.below bb; replace ap_wB := ap_wB.below bb; replace ap_rB := ap_rB.below bb; replace ap_iB := ap_iB.below bb; replace bel := bel.trans (bb.mono (Nat.le_trans hlo bel.size)); have hiB := hh; clear hh ge bb) | ((with_reducible show wpList _ _ _ (⟨none, Op.store _ (.tmp 11) _, _, _, _, _⟩ :: _) _ _); refine wpList_store_blk rfl 160 (.tmp 11) (.tmp 19) rfl g11 rfl _ rfl _ 160 hiB (by rfl) (by kernel_rfl) (by kernel_rfl) ?_; intro w5 hq gr; replace pb := pb.away av_pb_iB gr; replace hnt := blk_a hnt gr d_nt_iB; replace hwB := blk_a hwB gr d_wB_iB; replace hrB := blk_a hrB gr d_rB_iB; replace hT := hT.away ap_iB gr hiB; replace fr := fr.newer ap_iB gr piB; replace an_pb := an_pb.grown ap_iB gr; replace ap_wB := ap_wB.grown ap_iB gr; replace ap_rB := ap_rB.grown ap_iB gr; replace ap_iB := ap_iB.grown ap_iB gr; replace bel := below_grown bel gr oiB (Nat.le_trans hlo bel.size); clear hiB; have hiB := hq; clear hq gr))
 go_cut [13, 14] from 9999 (fun s13 s14 W => ∃ g13 : Nat, s13 = .pointer (some ⟨g13, 0, none⟩) ∧ s14 = .int .i64 0 ∧ W.heap[gn]? = some (.cells #[.pointer (some ⟨gt, 0, none⟩), .pointer (some ⟨gk, 0, none⟩), .int .i64 120, .int .i64 7200, .int .i64 30] 82 (0, 0)) ∧ W.heap[g6]? = some (.cells #[.int .u8 (c0.toNat : Int), .int .u8 (c1.toNat : Int), .int .u8 (c2.toNat : Int), .int .u8 (c3.toNat : Int)] 35 (0, 0)) ∧ W.heap[g8]? = some (.cells #[.int .u8 0, .int .u8 0, .int .u8 0, .int .u8 0] 35 (0, 0)) ∧ W.heap[g11]? = some (.cells #[.slice (some ⟨gB, oB, none⟩) nd cd, .int .i64 (h : Int)] 160 (0, 0)) ∧ W.heap[g13]? = some (.cells #[.int .i64 (x.toNat : Int), .int .u8 (c0.toNat : Int), .int .u8 (c1.toNat : Int), .int .u8 (c2.toNat : Int), .int .u8 (c3.toNat : Int), .int .i64 ((be [p0, p1] : Nat) : Int)] 164 (0, 0)) ∧ lo ≤ g13 ∧ w.heap.size ≤ g13 ∧ Hid (g13 ≠ g11) ∧ Hid (g13 ≠ gn) ∧ Hid (g13 ≠ g8) ∧ Hid (g13 ≠ g6) ∧ Hid (g11 ≠ gn) ∧ Hid (g11 ≠ g8) ∧ Hid (g11 ≠ g6) ∧ Hid (gn ≠ g8) ∧ Hid (gn ≠ g6) ∧ Hid (g8 ≠ g6) ∧ Sl W (some ⟨gB, oB, none⟩) (nd) (cd) (ld) ∧ Av (some ⟨gB, oB, none⟩) (nd) g13 ∧ Av (some ⟨gB, oB, none⟩) (nd) g11 ∧ Av (some ⟨gB, oB, none⟩) (nd) g8 ∧ Av (some ⟨gB, oB, none⟩) (nd) g6 ∧ Np lo gn gt gk W s k ∧ Fn gn gt gk w W ∧ An gn gt gk W (some ⟨gB, oB, none⟩) (nd) ∧ Anp gn gt gk W g6 ∧ Anp gn gt gk W g8 ∧ Anp gn gt gk W g11 ∧ Anp gn gt gk W g13 ∧ Below lo w W)
 case first =>
  replace bel := bel.drew
  replace hnt : w5.drew.heap[gn]? = _ := hnt
  replace hwB : w5.drew.heap[g6]? = _ := hwB
  replace hrB : w5.drew.heap[g8]? = _ := hrB
  replace hiB : w5.drew.heap[g11]? = _ := hiB
  replace pb := pb.drew
  replace hT := np_drew hT
  replace fr := fn_drew fr
  replace an_pb := an_drew an_pb
  replace ap_wB := anp_drew ap_wB
  replace ap_rB := anp_drew ap_rB
  replace ap_iB := anp_drew ap_iB
  refine wp_region_held_drew (S := fun W => W.heap[g11]? = some (.cells #[.slice (some ⟨gB, oB, none⟩) nd cd, .int .i64 (h : Int)] 160 (0, 0)) ∧ W.heap[g6]? = some (.cells #[.int .u8 (c0.toNat : Int), .int .u8 (c1.toNat : Int), .int .u8 (c2.toNat : Int), .int .u8 (c3.toNat : Int)] 35 (0, 0))) (by kernel_rfl) ⟨hiB, hwB⟩ (fun hH => ?_)
  generalize w5.drew = w6 at bel hnt hwB hrB hiB pb hT fr an_pb ap_wB ap_rB ap_iB hH ⊢
  refine wpAnyH_take (i := 0) (v := .agg #[.slice (some ⟨gB, oB, none⟩) nd cd, .int .i64 (h : Int)]) rfl (by kernel_rfl) (by kernel_rfl) (by kernel_rfl) (fun _ _ _ h => h) (yieldsIf_load_part (by kernel_rfl) 160 _ rfl g11 0 2 rfl _ 160 (0, 0) (fun W hW => hW.1) _ rfl _ Tryz.underlying160 rfl (by kernel_rfl)) hH ?_
  simp only [Act.put, List.getElem_toArray, List.getElem_cons_zero, List.setIfInBounds_toArray, List.set_cons_zero, List.set_cons_succ]
  refine wpAnyH_take (i := 2) (v := .agg #[.int .u8 (c0.toNat : Int), .int .u8 (c1.toNat : Int), .int .u8 (c2.toNat : Int), .int .u8 (c3.toNat : Int)]) rfl (by kernel_rfl) (by kernel_rfl) (by kernel_rfl) (fun _ _ _ h => h) (yieldsIf_load_part (by kernel_rfl) 35 _ rfl g6 0 4 rfl _ 35 (0, 0) (fun W hW => hW.2) _ rfl _ Tryz.underlying35 rfl (by kernel_rfl)) hH ?_
  simp only [sq3, sq4]
  refine wpAnyH_ready (rs := [1, 7]) (by kernel_rfl) (by simp) ?_
  refine AllReadyH.cons (o := _) rfl (fun K hK => ?_) (AllReadyH.cons (o := _) rfl (fun K hK => ?_) AllReadyH.nil)
  rotate_left
  ·simp only [sq3]
   rw [if_pos (by rfl)]
   refine wp_new_a 164 rfl #[.int .i64 0, .int .u8 0, .int .u8 0, .int .u8 0, .int .u8 0, .int .i64 0] (by kernel_rfl) ?_
   intro g13 w7 ge hh bb
   have ap_fB := hT.ap ge
   have d_nt_fB := ne_new (hlt hnt) ge
   have d_wB_fB := ne_new (hlt hwB) ge
   have d_rB_fB := ne_new (hlt hrB) ge
   have d_iB_fB := ne_new (hlt hiB) ge
   have av_pb_fB := pb.av_new ge
   have ofB := Nat.le_trans (Nat.le_trans hlo bel.size) ge
   have pfB := Nat.le_trans bel.size ge
   replace hnt := blk_u hnt bb
   replace hwB := blk_u hwB bb
   replace hrB := blk_u hrB bb
   replace hiB := blk_u hiB bb
   replace pb := pb.below bb
   replace hT := hT.below bb
   replace fr := fr.below bb
   replace an_pb := an_pb.below bb
   replace ap_wB := ap_wB.below bb
   replace ap_rB := ap_rB.below bb
   replace ap_iB := ap_iB.below bb
   replace ap_fB := ap_fB.below bb
   replace bel := bel.trans (bb.mono (Nat.le_trans hlo bel.size))
   have hfB := hh
   clear hh ge bb
   refine hK.out _ _ ⟨hiB, hwB⟩ (fun hH8 => ?_)
   clear hK K
   simp only [sq4]
   refine wpAnyH_ready (rs := [1]) (by kernel_rfl) (by simp) ?_
   refine AllReadyH.cons (o := _) rfl (fun K hK => ?_) AllReadyH.nil
   simp only [sq3]
   go_simp
   with_reducible refine (insender _).mono ?_
   rintro e w9 ⟨rfl, b9⟩
   dsimp only
   replace hnt := blk_u hnt b9
   replace hwB := blk_u hwB b9
   replace hrB := blk_u hrB b9
   replace hiB := blk_u hiB b9
   replace hfB := blk_u hfB b9
   replace pb := pb.below b9
   replace hT := hT.below b9
   replace fr := fr.below b9
   replace an_pb := an_pb.below b9
   replace ap_wB := ap_wB.below b9
   replace ap_rB := ap_rB.below b9
   replace ap_iB := ap_iB.below b9
   replace ap_fB := ap_fB.below b9
   replace bel := bel.trans (b9.mono (Nat.le_trans hlo bel.size))
   clear b9
   refine hK.out _ _ ⟨hiB, hwB⟩ (fun hH10 => ?_)
   clear hK K
   refine wpAnyH_ready (rs := [3]) (by kernel_rfl) (by simp) ?_
   refine AllReadyH.cons (o := _) rfl (fun K hK => ?_) AllReadyH.nil
   simp only [sq3]
   go_simp
   with_reducible refine (inflow_y _ pb HX.out (by have := HB1.out; have := HB3.out; omega) HY.out HK.out HB2.out HAT.out HS.out HP2.out).mono ?_
   rintro e w11 ⟨rfl, b11⟩
   dsimp only
   replace hnt := blk_u hnt b11
   replace hwB := blk_u hwB b11
   replace hrB := blk_u hrB b11
   replace hiB := blk_u hiB b11
   replace hfB := blk_u hfB b11
   replace pb := pb.below b11
   replace hT := hT.below b11
   replace fr := fr.below b11
   replace an_pb := an_pb.below b11
   replace ap_wB := ap_wB.below b11
   replace ap_rB := ap_rB.below b11
   replace ap_iB := ap_iB.below b11
   replace ap_fB := ap_fB.below b11
   replace bel := bel.trans (b11.mono (Nat.le_trans hlo bel.size))
   clear b11
   refine hK.out _ _ ⟨hiB, hwB⟩ (fun hH12 => ?_)
   clear hK K
   refine wpAnyH_take (i := 4) (v := ?_) rfl (by kernel_rfl) (by kernel_rfl) (by kernel_rfl) (fun _ _ _ h => h) (Or.inl ⟨by rfl, ?_⟩) hH12 ?_
   rotate_left
   ·((intro W hW; clear hW; go_simp) <;> with_reducible rfl)
   simp only [sq3, sq4]
   refine wpAnyH_take (i := 5) (v := ?_) rfl (by kernel_rfl) (by kernel_rfl) (by kernel_rfl) (fun _ _ _ h => h) (Or.inl ⟨by rfl, ?_⟩) hH12 ?_
   rotate_left
   ·((intro W hW; clear hW; go_simp) <;> with_reducible rfl)
   simp only [sq3, sq4]
   refine wpAnyH_take (i := 6) (v := ?_) rfl (by kernel_rfl) (by kernel_rfl) (by kernel_rfl) (fun _ _ _ h => h) (Or.inl ⟨by rfl, ?_⟩) hH12 ?_
   rotate_left
   ·((intro W hW; clear hW; go_simp) <;> with_reducible rfl)
   simp only [sq3, sq4]
   refine wpAnyH_ready (rs := [8]) (by kernel_rfl) (by simp) ?_
   refine AllReadyH.cons (o := _) rfl (fun K hK => ?_) AllReadyH.nil
   simp only [sq3]
   rw [if_pos (by rfl)]
   refine wp_store_blk 164 (.tmp 13) (.tmp 29) rfl g13 rfl _ rfl _ 164 hfB (by rfl) (by kernel_rfl) (by kernel_rfl) ?_
   intro w13 hq gr
   replace pb := pb.away av_pb_fB gr
   replace hnt := blk_a hnt gr d_nt_fB
   replace hwB := blk_a hwB gr d_wB_fB
   replace hrB := blk_a hrB gr d_rB_fB
   replace hiB := blk_a hiB gr d_iB_fB
   replace hT := hT.away ap_fB gr hfB
   replace fr := fr.newer ap_fB gr pfB
   replace an_pb := an_pb.grown ap_fB gr
   replace ap_wB := ap_wB.grown ap_fB gr
   replace ap_rB := ap_rB.grown ap_fB gr
   replace ap_iB := ap_iB.grown ap_fB gr
   replace ap_fB := ap_fB.grown ap_fB gr
   replace bel := below_grown bel gr ofB (Nat.le_trans hlo bel.size)
   clear hfB
   have hfB := hq
   clear hq gr
   refine hK.out _ _ ⟨hiB, hwB⟩ (fun hH14 => ?_)
   clear hK K
   simp only [Act.put]
   refine wpAnyH_take (i := 9) (v := ?_) rfl (by kernel_rfl) (by kernel_rfl) (by kernel_rfl) (fun _ _ _ h => h) (Or.inl ⟨by rfl, ?_⟩) hH14 ?_
   rotate_left
   ·((intro W hW; clear hW; go_simp) <;> with_reducible rfl)
   simp only [sq3, sq4]
   refine wpAnyH_done (by kernel_rfl) ?_ _
   go_wp2_with fail
   go_meet
   case rel => exact ⟨g13, rfl, rfl, hnt, hwB, hrB, hiB, hfB, ofB, pfB, (ne_symm d_iB_fB), (ne_symm d_nt_fB), (ne_symm d_rB_fB), (ne_symm d_wB_fB), (ne_symm d_nt_iB), (ne_symm d_rB_iB), (ne_symm d_wB_iB), d_nt_rB, d_nt_wB, (ne_symm d_wB_rB), pb, av_pb_fB, av_pb_iB, av_pb_rB, av_pb_wB, hT, fr, an_pb, ap_wB, ap_rB, ap_iB, ap_fB, bel⟩
  simp only [sq3]
  go_simp
  with_reducible refine (insender _).mono ?_
  rintro e w7 ⟨rfl, b7⟩
  dsimp only
  replace hnt := blk_u hnt b7
  replace hwB := blk_u hwB b7
  replace hrB := blk_u hrB b7
  replace hiB := blk_u hiB b7
  replace pb := pb.below b7
  replace hT := hT.below b7
  replace fr := fr.below b7
  replace an_pb := an_pb.below b7
  replace ap_wB := ap_wB.below b7
  replace ap_rB := ap_rB.below b7
  replace ap_iB := ap_iB.below b7
  replace bel := bel.trans (b7.mono (Nat.le_trans hlo bel.size))
  clear b7
  refine hK.out _ _ ⟨hiB, hwB⟩ (fun hH8 => ?_)
  clear hK K
  refine wpAnyH_ready (rs := [3, 7]) (by kernel_rfl) (by simp) ?_
  refine AllReadyH.cons (o := _) rfl (fun K hK => ?_) (AllReadyH.cons (o := _) rfl (fun K hK => ?_) AllReadyH.nil)
  ·simp only [sq3]
   go_simp
   with_reducible refine (inflow_y _ pb HX.out (by have := HB1.out; have := HB3.out; omega) HY.out HK.out HB2.out HAT.out HS.out HP2.out).mono ?_
   rintro e w9 ⟨rfl, b9⟩
   dsimp only
   replace hnt := blk_u hnt b9
   replace hwB := blk_u hwB b9
   replace hrB := blk_u hrB b9
   replace hiB := blk_u hiB b9
   replace pb := pb.below b9
   replace hT := hT.below b9
   replace fr := fr.below b9
   replace an_pb := an_pb.below b9
   replace ap_wB := ap_wB.below b9
   replace ap_rB := ap_rB.below b9
   replace ap_iB := ap_iB.below b9
   replace bel := bel.trans (b9.mono (Nat.le_trans hlo bel.size))
   clear b9
   refine hK.out _ _ ⟨hiB, hwB⟩ (fun hH10 => ?_)
   clear hK K
   refine wpAnyH_take (i := 4) (v := ?_) rfl (by kernel_rfl) (by kernel_rfl) (by kernel_rfl) (fun _ _ _ h => h) (Or.inl ⟨by rfl, ?_⟩) hH10 ?_
   rotate_left
   ·((intro W hW; clear hW; go_simp) <;> with_reducible rfl)
   simp only [sq3, sq4]
   refine wpAnyH_take (i := 5) (v := ?_) rfl (by kernel_rfl) (by kernel_rfl) (by kernel_rfl) (fun _ _ _ h => h) (Or.inl ⟨by rfl, ?_⟩) hH10 ?_
   rotate_left
   ·((intro W hW; clear hW; go_simp) <;> with_reducible rfl)
   simp only [sq3, sq4]
   refine wpAnyH_take (i := 6) (v := ?_) rfl (by kernel_rfl) (by kernel_rfl) (by kernel_rfl) (fun _ _ _ h => h) (Or.inl ⟨by rfl, ?_⟩) hH10 ?_
   rotate_left
   ·((intro W hW; clear hW; go_simp) <;> with_reducible rfl)
   simp only [sq3, sq4]
   refine wpAnyH_ready (rs := [7]) (by kernel_rfl) (by simp) ?_
   refine AllReadyH.cons (o := _) rfl (fun K hK => ?_) AllReadyH.nil
   simp only [sq3]
   rw [if_pos (by rfl)]
   refine wp_new_a 164 rfl #[.int .i64 0, .int .u8 0, .int .u8 0, .int .u8 0, .int .u8 0, .int .i64 0] (by kernel_rfl) ?_
   intro g13 w11 ge hh bb
   have ap_fB := hT.ap ge
   have d_nt_fB := ne_new (hlt hnt) ge
   have d_wB_fB := ne_new (hlt hwB) ge
   have d_rB_fB := ne_new (hlt hrB) ge
   have d_iB_fB := ne_new (hlt hiB) ge
   have av_pb_fB := pb.av_new ge
   have ofB := Nat.le_trans (Nat.le_trans hlo bel.size) ge
   have pfB := Nat.le_trans bel.size ge
   replace hnt := blk_u hnt bb
   replace hwB := blk_u hwB bb
   replace hrB := blk_u hrB bb
   replace hiB := blk_u hiB bb
   replace pb := pb.below bb
   replace hT := hT.below bb
   replace fr := fr.below bb
   replace an_pb := an_pb.below bb
   replace ap_wB := ap_wB.below bb
   replace ap_rB := ap_rB.below bb
   replace ap_iB := ap_iB.below bb
   replace ap_fB := ap_fB.below bb
   replace bel := bel.trans (bb.mono (Nat.le_trans hlo bel.size))
   have hfB := hh
   clear hh ge bb
   refine hK.out _ _ ⟨hiB, hwB⟩ (fun hH12 => ?_)
   clear hK K
   simp only [sq4]
   refine wpAnyH_ready (rs := [8]) (by kernel_rfl) (by simp) ?_
   refine AllReadyH.cons (o := _) rfl (fun K hK => ?_) AllReadyH.nil
   simp only [sq3]
   rw [if_pos (by rfl)]
   refine wp_store_blk 164 (.tmp 13) (.tmp 29) rfl g13 rfl _ rfl _ 164 hfB (by rfl) (by kernel_rfl) (by kernel_rfl) ?_
   intro w13 hq gr
   replace pb := pb.away av_pb_fB gr
   replace hnt := blk_a hnt gr d_nt_fB
   replace hwB := blk_a hwB gr d_wB_fB
   replace hrB := blk_a hrB gr d_rB_fB
   replace hiB := blk_a hiB gr d_iB_fB
   replace hT := hT.away ap_fB gr hfB
   replace fr := fr.newer ap_fB gr pfB
   replace an_pb := an_pb.grown ap_fB gr
   replace ap_wB := ap_wB.grown ap_fB gr
   replace ap_rB := ap_rB.grown ap_fB gr
   replace ap_iB := ap_iB.grown ap_fB gr
   replace ap_fB := ap_fB.grown ap_fB gr
   replace bel := below_grown bel gr ofB (Nat.le_trans hlo bel.size)
   clear hfB
   have hfB := hq
   clear hq gr
   refine hK.out _ _ ⟨hiB, hwB⟩ (fun hH14 => ?_)
   clear hK K
   simp only [Act.put]
   refine wpAnyH_take (i := 9) (v := ?_) rfl (by kernel_rfl) (by kernel_rfl) (by kernel_rfl) (fun _ _ _ h => h) (Or.inl ⟨by rfl, ?_⟩) hH14 ?_
   rotate_left
   ·((intro W hW; clear hW; go_simp) <;> with_reducible rfl)
   simp only [sq3, sq4]
   refine wpAnyH_done (by kernel_rfl) ?_ _
   go_wp2_with fail
   go_meet
   case rel => exact ⟨g13, rfl, rfl, hnt, hwB, hrB, hiB, hfB, ofB, pfB, (ne_symm d_iB_fB), (ne_symm d_nt_fB), (ne_symm d_rB_fB), (ne_symm d_wB_fB), (ne_symm d_nt_iB), (ne_symm d_rB_iB), (ne_symm d_wB_iB), d_nt_rB, d_nt_wB, (ne_symm d_wB_rB), pb, av_pb_fB, av_pb_iB, av_pb_rB, av_pb_wB, hT, fr, an_pb, ap_wB, ap_rB, ap_iB, ap_fB, bel⟩
  simp only [sq3]
  rw [if_pos (by rfl)]
  refine wp_new_a 164 rfl #[.int .i64 0, .int .u8 0, .int .u8 0, .int .u8 0, .int .u8 0, .int .i64 0] (by kernel_rfl) ?_
  intro g13 w9 ge hh bb
  have ap_fB := hT.ap ge
  have d_nt_fB := ne_new (hlt hnt) ge
  have d_wB_fB := ne_new (hlt hwB) ge
  have d_rB_fB := ne_new (hlt hrB) ge
  have d_iB_fB := ne_new (hlt hiB) ge
  have av_pb_fB := pb.av_new ge
  have ofB := Nat.le_trans (Nat.le_trans hlo bel.size) ge
  have pfB := Nat.le_trans bel.size ge
  replace hnt := blk_u hnt bb
  replace hwB := blk_u hwB bb
  replace hrB := blk_u hrB bb
  replace hiB := blk_u hiB bb
  replace pb := pb.below bb
  replace hT := hT.below bb
  replace fr := fr.below bb
  replace an_pb := an_pb.below bb
  replace ap_wB := ap_wB.below bb
  replace ap_rB := ap_rB.below bb
  replace ap_iB := ap_iB.below bb
  replace ap_fB := ap_fB.below bb
  replace bel := bel.trans (bb.mono (Nat.le_trans hlo bel.size))
  have hfB := hh
  clear hh ge bb
  refine hK.out _ _ ⟨hiB, hwB⟩ (fun hH10 => ?_)
  clear hK K
  simp only [sq4]
  refine wpAnyH_ready (rs := [3]) (by kernel_rfl) (by simp) ?_
  refine AllReadyH.cons (o := _) rfl (fun K hK => ?_) AllReadyH.nil
  simp only [sq3]
  go_simp
  with_reducible refine (inflow_y _ pb HX.out (by have := HB1.out; have := HB3.out; omega) HY.out HK.out HB2.out HAT.out HS.out HP2.out).mono ?_
  rintro e w11 ⟨rfl, b11⟩
  dsimp only
  replace hnt := blk_u hnt b11
  replace hwB := blk_u hwB b11
  replace hrB := blk_u hrB b11
  replace hiB := blk_u hiB b11
  replace hfB := blk_u hfB b11
  replace pb := pb.below b11
  replace hT := hT.below b11
  replace fr := fr.below b11
  replace an_pb := an_pb.below b11
  replace ap_wB := ap_wB.below b11
  replace ap_rB := ap_rB.below b11
  replace ap_iB := ap_iB.below b11
  replace ap_fB := ap_fB.below b11
  replace bel := bel.trans (b11.mono (Nat.le_trans hlo bel.size))
  clear b11
  refine hK.out _ _ ⟨hiB, hwB⟩ (fun hH12 => ?_)
  clear hK K
  refine wpAnyH_take (i := 4) (v := ?_) rfl (by kernel_rfl) (by kernel_rfl) (by kernel_rfl) (fun _ _ _ h => h) (Or.inl ⟨by rfl, ?_⟩) hH12 ?_
  rotate_left
  ·((intro W hW; clear hW; go_simp) <;> with_reducible rfl)
  simp only [sq3, sq4]
  refine wpAnyH_take (i := 5) (v := ?_) rfl (by kernel_rfl) (by kernel_rfl) (by kernel_rfl) (fun _ _ _ h => h) (Or.inl ⟨by rfl, ?_⟩) hH12 ?_
  rotate_left
  ·((intro W hW; clear hW; go_simp) <;> with_reducible rfl)
  simp only [sq3, sq4]
  refine wpAnyH_take (i := 6) (v := ?_) rfl (by kernel_rfl) (by kernel_rfl) (by kernel_rfl) (fun _ _ _ h => h) (Or.inl ⟨by rfl, ?_⟩) hH12 ?_
  rotate_left
  ·((intro W hW; clear hW; go_simp) <;> with_reducible rfl)
  simp only [sq3, sq4]
  refine wpAnyH_ready (rs := [8]) (by kernel_rfl) (by simp) ?_
  refine AllReadyH.cons (o := _) rfl (fun K hK => ?_) AllReadyH.nil
  simp only [sq3]
  rw [if_pos (by rfl)]
  refine wp_store_blk 164 (.tmp 13) (.tmp 29) rfl g13 rfl _ rfl _ 164 hfB (by rfl) (by kernel_rfl) (by kernel_rfl) ?_
  intro w13 hq gr
  replace pb := pb.away av_pb_fB gr
  replace hnt := blk_a hnt gr d_nt_fB
  replace hwB := blk_a hwB gr d_wB_fB
  replace hrB := blk_a hrB gr d_rB_fB
  replace hiB := blk_a hiB gr d_iB_fB
  replace hT := hT.away ap_fB gr hfB
  replace fr := fr.newer ap_fB gr pfB
  replace an_pb := an_pb.grown ap_fB gr
  replace ap_wB := ap_wB.grown ap_fB gr
  replace ap_rB := ap_rB.grown ap_fB gr
  replace ap_iB := ap_iB.grown ap_fB gr
  replace ap_fB := ap_fB.grown ap_fB gr
  replace bel := below_grown bel gr ofB (Nat.le_trans hlo bel.size)
  clear hfB
  have hfB := hq
  clear hq gr
  refine hK.out _ _ ⟨hiB, hwB⟩ (fun hH14 => ?_)
  clear hK K
  simp only [Act.put]
  refine wpAnyH_take (i := 9) (v := ?_) rfl (by kernel_rfl) (by kernel_rfl) (by kernel_rfl) (fun _ _ _ h => h) (Or.inl ⟨by rfl, ?_⟩) hH14 ?_
  rotate_left
  ·((intro W hW; clear hW; go_simp) <;> with_reducible rfl)
  simp only [sq3, sq4]
  refine wpAnyH_done (by kernel_rfl) ?_ _
  go_wp2_with fail
  go_meet
  case rel => exact ⟨g13, rfl, rfl, hnt, hwB, hrB, hiB, hfB, ofB, pfB, (ne_symm d_iB_fB), (ne_symm d_nt_fB), (ne_symm d_rB_fB), (ne_symm d_wB_fB), (ne_symm d_nt_iB), (ne_symm d_rB_iB), (ne_symm d_wB_iB), d_nt_rB, d_nt_wB, (ne_symm d_wB_rB), pb, av_pb_fB, av_pb_iB, av_pb_rB, av_pb_wB, hT, fr, an_pb, ap_wB, ap_rB, ap_iB, ap_fB, bel⟩
 obtain ⟨w15, hw_⟩ : ∃ x, x = wc := ⟨_, rfl⟩
 subst hw_
 obtain ⟨g13, rfl, rfl, hnt, hwB, hrB, hiB, hfB, ofB, pfB, d_fB_iB, d_fB_nt, d_fB_rB, d_fB_wB, d_iB_nt, d_iB_rB, d_iB_wB, d_nt_rB, d_nt_wB, d_rB_wB, pb, av_pb_fB, av_pb_iB, av_pb_rB, av_pb_wB, hT, fr, an_pb, ap_wB, ap_rB, ap_iB, ap_fB, bel⟩ := hcut
 have R38 := cell_lit hfB 0 _ rfl
 have R40 := cell_lit hfB 5 _ rfl
 go_wp2_with fail
 clear R38 R40
 with_reducible refine (nat_some _ hT hc).mono ?_
 rintro e w16 ⟨rfl, hT_, f_, bb⟩
 clear hnt
 have x_ := f_ _ _ _ _ hwB ap_wB
 replace hwB := x_.1
 replace ap_wB := x_.2
 clear x_
 have x_ := f_ _ _ _ _ hrB ap_rB
 replace hrB := x_.1
 replace ap_rB := x_.2
 clear x_
 have x_ := f_ _ _ _ _ hiB ap_iB
 replace hiB := x_.1
 replace ap_iB := x_.2
 clear x_
 have x_ := f_ _ _ _ _ hfB ap_fB
 replace hfB := x_.1
 replace ap_fB := x_.2
 clear x_
 have x_ := f_.sl pb an_pb
 replace pb := x_.1
 replace an_pb := x_.2
 clear x_
 replace fr := fr.trans f_
 clear hT
 have hT := hT_
 replace bel := bel.trans bb
 clear bb f_ hT_
 have hnt := hT.nat
 go_wp2_with (first | ((with_reducible show wpList _ _ _ (⟨some 15, _, _, _, _, _⟩ :: _) _ _); refine wpList_new_a rfl 65 rfl #[.int .i64 0, .int .i64 0, .int .u8 0, .int .u8 0, .int .u8 0, .int .u8 0, .int .i64 0, .int .i64 0, .int .i64 0] (by kernel_rfl) ?_; intro g15 w17 ge hh bb; have ap_mB := hT.ap ge; have d_wB_mB := ne_new (hlt hwB) ge; have d_rB_mB := ne_new (hlt hrB) ge; have d_iB_mB := ne_new (hlt hiB) ge; have d_fB_mB := ne_new (hlt hfB) ge; have d_nt_mB := ne_new (hlt hnt) ge; have av_pb_mB := pb.av_new ge; have omB := Nat.le_trans (Nat.le_trans hlo bel.size) ge; have pmB := Nat.le_trans bel.size ge; replace hwB := blk_u hwB bb; replace hrB := blk_u hrB bb; replace hiB := blk_u hiB bb; replace hfB := blk_u hfB bb; replace hnt := blk_u hnt bb; replace pb := pb.below bb; replace hT := hT.below bb; replace fr := fr.below bb; replace an_pb := an_pb.below bb; replace ap_wB := ap_wB.below bb; replace ap_rB := ap_rB.below bb; replace ap_iB := ap_iB.below bb; replace ap_fB := ap_fB.below bb; replace ap_mB := ap_mB.below bb; replace bel := bel.trans (bb.mono (Nat.le_trans hlo bel.size)); have hmB := hh; clear hh ge bb) | ((with_reducible show wpList _ _ _ (⟨none, Op.store _ (.tmp 15) _, _, _, _, _⟩ :: _) _ _); refine wpList_store_blk rfl 65 (.tmp 15) (.tmp 43) rfl g15 rfl _ rfl _ 65 hmB (by rfl) (by kernel_rfl) (by kernel_rfl) ?_; intro w18 hq gr; replace pb := pb.away av_pb_mB gr; replace hwB := blk_a hwB gr d_wB_mB; replace hrB := blk_a hrB gr d_rB_mB; replace hiB := blk_a hiB gr d_iB_mB; replace hfB := blk_a hfB gr d_fB_mB; replace hnt := blk_a hnt gr d_nt_mB; replace hT := hT.away ap_mB gr hmB; replace fr := fr.newer ap_mB gr pmB; replace an_pb := an_pb.grown ap_mB gr; replace ap_wB := ap_wB.grown ap_mB gr; replace ap_rB := ap_rB.grown ap_mB gr; replace ap_iB := ap_iB.grown ap_mB gr; replace ap_fB := ap_fB.grown ap_mB gr; replace ap_mB := ap_mB.grown ap_mB gr; replace bel := below_grown bel gr omB (Nat.le_trans hlo bel.size); clear hmB; have hmB := hq; clear hq gr))
 replace bel := bel.drew
 replace hwB : w18.drew.heap[g6]? = _ := hwB
 replace hrB : w18.drew.heap[g8]? = _ := hrB
 replace hiB : w18.drew.heap[g11]? = _ := hiB
 replace hfB : w18.drew.heap[g13]? = _ := hfB
 replace hnt : w18.drew.heap[gn]? = _ := hnt
 replace hmB : w18.drew.heap[g15]? = _ := hmB
 replace pb := pb.drew
 replace hT := np_drew hT
 replace fr := fn_drew fr
 replace an_pb := an_drew an_pb
 replace ap_wB := anp_drew ap_wB
 replace ap_rB := anp_drew ap_rB
 replace ap_iB := anp_drew ap_iB
 replace ap_fB := anp_drew ap_fB
 replace ap_mB := anp_drew ap_mB
 refine wp_region_held_drew (S := fun W => W.heap[g15]? = some (.cells #[.int .i64 m.pr, .int .i64 m.o, .int .u8 (m.ad.a.toNat : Int), .int .u8 (m.ad.b.toNat : Int), .int .u8 (m.ad.c.toNat : Int), .int .u8 (m.ad.d.toNat : Int), .int .i64 m.i, .int .i64 m.k, .int .i64 m.u] 65 (0, 0)) ∧ W.heap[g11]? = some (.cells #[.slice (some ⟨gB, oB, none⟩) nd cd, .int .i64 (h : Int)] 160 (0, 0))) (by kernel_rfl) ⟨hmB, hiB⟩ (fun hH => ?_)
 generalize w18.drew = w19 at bel hwB hrB hiB hfB hnt hmB pb hT fr an_pb ap_wB ap_rB ap_iB ap_fB ap_mB hH ⊢
 refine wpAnyH_take (i := 0) (v := ?_) rfl (by kernel_rfl) (by kernel_rfl) (by kernel_rfl) (fun _ _ _ h => h) (Or.inl ⟨by rfl, ?_⟩) hH ?_
 rotate_left
 ·((intro W hW; clear hW; go_simp) <;> with_reducible rfl)
 simp only [Act.put, List.getElem_toArray, List.getElem_cons_zero, List.setIfInBounds_toArray, List.set_cons_zero, List.set_cons_succ]
 refine wpAnyH_take (i := 1) (v := .agg #[.int .u8 (m.ad.a.toNat : Int), .int .u8 (m.ad.b.toNat : Int), .int .u8 (m.ad.c.toNat : Int), .int .u8 (m.ad.d.toNat : Int)]) rfl (by kernel_rfl) (by kernel_rfl) (by kernel_rfl) (fun _ _ _ h => h) (yieldsIf_load_part (by kernel_rfl) 35 _ rfl g15 2 4 rfl _ 65 (0, 0) (fun W hW => hW.1) _ rfl _ Tryz.underlying35 rfl (by kernel_rfl)) hH ?_
 simp only [sq3, sq4]
 refine wpAnyH_take (i := 2) (v := .agg #[.slice (some ⟨gB, oB, none⟩) nd cd, .int .i64 (h : Int)]) rfl (by kernel_rfl) (by kernel_rfl) (by kernel_rfl) (fun _ _ _ h => h) (yieldsIf_load_part (by kernel_rfl) 160 _ rfl g11 0 2 rfl _ 160 (0, 0) (fun W hW => hW.2) _ rfl _ Tryz.underlying160 rfl (by kernel_rfl)) hH ?_
 simp only [sq3, sq4]
 refine wpAnyH_take (i := 4) (v := ?_) rfl (by kernel_rfl) (by kernel_rfl) (by kernel_rfl) (fun _ _ _ h => h) (Or.inl ⟨by rfl, ?_⟩) hH ?_
 rotate_left
 ·((intro W hW; clear hW; go_simp) <;> with_reducible rfl)
 simp only [sq3, sq4]
 refine wpAnyH_take (i := 5) (v := .agg #[.int .u8 (m.ad.a.toNat : Int), .int .u8 (m.ad.b.toNat : Int), .int .u8 (m.ad.c.toNat : Int), .int .u8 (m.ad.d.toNat : Int)]) rfl (by kernel_rfl) (by kernel_rfl) (by kernel_rfl) (fun _ _ _ h => h) (yieldsIf_load_part (by kernel_rfl) 35 _ rfl g15 2 4 rfl _ 65 (0, 0) (fun W hW => hW.1) _ rfl _ Tryz.underlying35 rfl (by kernel_rfl)) hH ?_
 simp only [sq3, sq4]
 refine wpAnyH_take (i := 6) (v := ?_) rfl (by kernel_rfl) (by kernel_rfl) (by kernel_rfl) (fun _ _ _ h => h) (Or.inl ⟨by rfl, ?_⟩) hH ?_
 rotate_left
 ·((intro W hW; clear hW; go_simp) <;> with_reducible rfl)
 simp only [sq3, sq4]
 refine wpAnyH_take (i := 7) (v := ?_) rfl (by kernel_rfl) (by kernel_rfl) (by kernel_rfl) (fun _ _ _ h => h) (Or.inl ⟨by rfl, ?_⟩) hH ?_
 rotate_left
 ·((intro W hW; have hk := cell_lit (hW.1) 6 _ rfl; clear hW; go_simp) <;> with_reducible rfl)
 simp only [sq3, sq4]
 refine wpAnyH_ready (rs := [3]) (by kernel_rfl) (by simp) ?_
 refine AllReadyH.cons (o := _) rfl (fun K hK => ?_) AllReadyH.nil
 simp only [sq3]
 go_simp
 with_reducible refine (insender _).mono ?_
 rintro e w20 ⟨rfl, b20⟩
 dsimp only
 replace hwB := blk_u hwB b20
 replace hrB := blk_u hrB b20
 replace hiB := blk_u hiB b20
 replace hfB := blk_u hfB b20
 replace hnt := blk_u hnt b20
 replace hmB := blk_u hmB b20
 replace pb := pb.below b20
 replace hT := hT.below b20
 replace fr := fr.below b20
 replace an_pb := an_pb.below b20
 replace ap_wB := ap_wB.below b20
 replace ap_rB := ap_rB.below b20
 replace ap_iB := ap_iB.below b20
 replace ap_fB := ap_fB.below b20
 replace ap_mB := ap_mB.below b20
 replace bel := bel.trans (b20.mono (Nat.le_trans hlo bel.size))
 clear b20
 refine hK.out _ _ ⟨hmB, hiB⟩ (fun hH21 => ?_)
 clear hK K
 refine wpAnyH_ready (rs := [8]) (by kernel_rfl) (by simp) ?_
 refine AllReadyH.cons (o := _) rfl (fun K hK => ?_) AllReadyH.nil
 simp only [sq3]
 go_simp
 have hsz_ := bel.size
 with_reducible refine (inwith _ pb HX.out HB2.out HAT.out HM.out HB1.out HB3.out HS.out).mono ?_
 rintro e w22 ⟨A', c', rfl, gq, fq_, b22⟩
 dsimp only
 have av_gq_wB := fq_.av (hlt hwB)
 have av_gq_rB := fq_.av (hlt hrB)
 have av_gq_iB := fq_.av (hlt hiB)
 have av_gq_fB := fq_.av (hlt hfB)
 have av_gq_nt := fq_.av (hlt hnt)
 have av_gq_mB := fq_.av (hlt hmB)
 have an_gq := hT.an fq_
 replace hwB := blk_u hwB b22
 replace hrB := blk_u hrB b22
 replace hiB := blk_u hiB b22
 replace hfB := blk_u hfB b22
 replace hnt := blk_u hnt b22
 replace hmB := blk_u hmB b22
 replace pb := pb.below b22
 replace hT := hT.below b22
 replace fr := fr.below b22
 replace an_pb := an_pb.below b22
 replace ap_wB := ap_wB.below b22
 replace ap_rB := ap_rB.below b22
 replace ap_iB := ap_iB.below b22
 replace ap_fB := ap_fB.below b22
 replace ap_mB := ap_mB.below b22
 replace an_gq := an_gq.below b22
 replace bel := bel.trans (b22.mono (Nat.le_trans hlo bel.size))
 clear b22
 replace gq : Sl w22 (A') (nd) (c') (wL ld h at_ [m.ad.a, m.ad.b, m.ad.c, m.ad.d] m.i) := gq
 have fq := Fr.mono fq_ hsz_
 clear fq_ hsz_
 refine hK.out _ _ ⟨hmB, hiB⟩ (fun hH23 => ?_)
 clear hK K
 refine wpAnyH_ready (rs := [9]) (by kernel_rfl) (by simp) ?_
 refine AllReadyH.cons (o := _) rfl (fun K hK => ?_) AllReadyH.nil
 simp only [sq3]
 rw [if_pos (by rfl)]
 refine wp_store_blk 35 (.tmp 8) (.tmp 50) rfl g8 rfl _ rfl _ 35 hrB (by rfl) (by kernel_rfl) (by kernel_rfl) ?_
 intro w24 hq gr
 replace pb := pb.away av_pb_rB gr
 replace gq := gq.away av_gq_rB gr
 replace hwB := blk_a hwB gr (ne_symm d_rB_wB)
 replace hiB := blk_a hiB gr d_iB_rB
 replace hfB := blk_a hfB gr d_fB_rB
 replace hnt := blk_a hnt gr d_nt_rB
 replace hmB := blk_a hmB gr (ne_symm d_rB_mB)
 replace hT := hT.away ap_rB gr hrB
 replace fr := fr.newer ap_rB gr prB
 replace an_pb := an_pb.grown ap_rB gr
 replace ap_wB := ap_wB.grown ap_rB gr
 replace ap_rB := ap_rB.grown ap_rB gr
 replace ap_iB := ap_iB.grown ap_rB gr
 replace ap_fB := ap_fB.grown ap_rB gr
 replace ap_mB := ap_mB.grown ap_rB gr
 replace an_gq := an_gq.grown ap_rB gr
 replace bel := below_grown bel gr orB (Nat.le_trans hlo bel.size)
 clear hrB
 have hrB := hq
 clear hq gr
 refine hK.out _ _ ⟨hmB, hiB⟩ (fun hH25 => ?_)
 clear hK K
 simp only [Act.put]
 refine wpAnyH_take (i := 10) (v := ?_) rfl (by kernel_rfl) (by kernel_rfl) (by kernel_rfl) (fun _ _ _ h => h) (Or.inl ⟨by rfl, ?_⟩) hH25 ?_
 rotate_left
 ·((intro W hW; clear hW; go_simp) <;> with_reducible rfl)
 simp only [sq3, sq4]
 refine wpAnyH_take (i := 11) (v := ?_) rfl (by kernel_rfl) (by kernel_rfl) (by kernel_rfl) (fun _ _ _ h => h) (Or.inl ⟨by rfl, ?_⟩) hH25 ?_
 rotate_left
 ·((intro W hW; clear hW; go_simp) <;> with_reducible rfl)
 simp only [sq3, sq4]
 refine wpAnyH_done (by kernel_rfl) ?_ _
 go_wp2_with fail
 exact bodyPost_ret (results_cell_tt_row rfl _ _ _ _ _ _ _ rfl hrB Tryz.underlying35 rfl (by kernel_rfl) _ _ rfl rfl) rfl ⟨A', c', rfl, hT, fr, bel, gq, an_gq, fq⟩
theorem icget_at (tos id fl pt ttl : Int) (a0 a1 a2 a3 b0 b1 b2 b3 : UInt8) (So Sb : Option Addr) (no co nb cb : Nat) {lb ld : List UInt8} {ty cd re : Int} {nd : Nat} (w : World) (hb : Sl w Sb nb cb lb) (hm : nb ≤ 100000) (hg : icGet fl pt 1 lb = ([ty, cd, re], ld, 0)) (hl : ld.length = nd) (hn : 0 < nd) : Calls Tryz.prog 21 #[.agg #[.int .i64 tos, .int .i64 id, .int .i64 fl, .int .i64 pt, .int .i64 ttl, .int .i64 1, .int .u8 (a0.toNat : Int), .int .u8 (a1.toNat : Int), .int .u8 (a2.toNat : Int), .int .u8 (a3.toNat : Int), .int .u8 (b0.toNat : Int), .int .u8 (b1.toNat : Int), .int .u8 (b2.toNat : Int), .int .u8 (b3.toNat : Int), .slice So no co, .slice Sb nb cb]] w fun e w' => ∃ gB oB qd, e = .returned (.tuple #[.agg #[.int .i64 ty, .int .i64 cd, .int .u32 re, .slice (some ⟨gB, oB, none⟩) nd qd], .int .i64 0]) ∧ Sl w' (some ⟨gB, oB, none⟩) nd qd ld ∧ Fr w.heap.size (some ⟨gB, oB, none⟩) nd ∧ Below w.heap.size w w' := by
 refine (icget_is tos id fl pt ttl a0 a1 a2 a3 b0 b1 b2 b3 So Sb no co nb cb w hb hm hg hl).mono ?_
 rintro e w' ⟨D, qd, rfl, hs, hf, bel⟩
 obtain ⟨gB, oB, rfl, _⟩ := hs.2.2.2 hn
 exact ⟨gB, oB, qd, rfl, hs, hf, bel⟩
theorem nmsgin_f {lo gn gt gk : Nat} {s : Ts} {k : Ks} {s' : Ts} {m : Mp} {tos id fl pt ttl : Int} {a0 a1 a2 a3 b0 b1 b2 b3 : UInt8} {So Sb : Option Addr} {no co nb cb : Nat} {lp lb : List UInt8} {c0 c1 c2 c3 : UInt8} {t : Int} {ty cd re : Int} {ld : List UInt8} {nd : Nat} {x p0 p1 : UInt8} {at_ h : Nat} (w : World) (hT : Np lo gn gt gk w s k) (po : Sl w So no co lp) (pb : Sl w Sb nb cb lb) (an_po : An gn gt gk w So no) (hm : nb ≤ 100000) (hno : no ≤ 100000) (hg : icGet fl pt 1 lb = ([ty, cd, re], ld, 0)) (hld : ld.length = nd) (hn : nd ≤ 1472) (hby : byteOk ty = true) (hbc : byteOk cd = true) (hr2 : 0 ≤ re ∧ re < 4294967296) (hqn : (echoT ty && decide (cd = 0)) = false) (hf : faultT ty = true) (hi : inH ld = some h) (hx : ld[9]? = some x) (hy : (ld.drop 12).take 4 = [c0, c1, c2, c3]) (hk : knB (x.toNat : Int) = true) (ha : (if x.toNat = 1 then h + 4 else h) = at_) (hs : at_ + 2 ≤ nd) (hp : (ld.drop at_).take 2 = [p0, p1]) (hc : InC lo gt s s' (x.toNat : Int) ((be [p0, p1] : Nat) : Int) t m)  : Calls Tryz.prog 35 #[.pointer (some ⟨gn, 0, none⟩), .agg #[.int .i64 tos, .int .i64 id, .int .i64 fl, .int .i64 pt, .int .i64 ttl, .int .i64 1, .int .u8 (a0.toNat : Int), .int .u8 (a1.toNat : Int), .int .u8 (a2.toNat : Int), .int .u8 (a3.toNat : Int), .int .u8 (b0.toNat : Int), .int .u8 (b1.toNat : Int), .int .u8 (b2.toNat : Int), .int .u8 (b3.toNat : Int), .slice So no co, .slice Sb nb cb], .agg #[.int .u8 (c0.toNat : Int), .int .u8 (c1.toNat : Int), .int .u8 (c2.toNat : Int), .int .u8 (c3.toNat : Int)], .int .i64 t] w fun e w' => ∃ Ao co' Ab cb', e = .returned (.tuple #[.agg #[.int .i64 tos, .int .i64 id, .int .i64 fl, .int .i64 pt, .int .i64 ttl, .int .i64 1, .int .u8 (a0.toNat : Int), .int .u8 (a1.toNat : Int), .int .u8 (a2.toNat : Int), .int .u8 (a3.toNat : Int), .int .u8 (m.ad.a.toNat : Int), .int .u8 (m.ad.b.toNat : Int), .int .u8 (m.ad.c.toNat : Int), .int .u8 (m.ad.d.toNat : Int), .slice Ao no co', .slice Ab (8 + nd) cb'], .int .i64 0]) ∧ Np lo gn gt gk w' s' k ∧ Fn gn gt gk w w' ∧ Below lo w w' ∧ Sl w' Ao no co' lp ∧ Sl w' Ab (8 + nd) cb' (icBytes ty cd re (wL ld h at_ [m.ad.a, m.ad.b, m.ad.c, m.ad.d] m.i)) ∧ An gn gt gk w' Ao no ∧ An gn gt gk w' Ab (8 + nd) ∧ Fr w.heap.size Ao no ∧ Fr w.heap.size Ab (8 + nd) := by
 have hlo : lo ≤ w.heap.size := hT.lo_le
 have HLO := Lib.hid hlo
 have hnt := hT.nat
 have fr := Fn.refl gn gt gk w
 have HM := Lib.hid hm
 clear hm
 have HNO := Lib.hid hno
 clear hno
 have HG := Lib.hid hg
 clear hg
 have HLD := Lib.hid hld
 clear hld
 have HN4 := Lib.hid hn
 clear hn
 have HBY := Lib.hid hby
 clear hby
 have HI := Lib.hid hi
 clear hi
 have HX := Lib.hid hx
 clear hx
 have HY := Lib.hid hy
 clear hy
 have HK := Lib.hid hk
 clear hk
 have HAT := Lib.hid ha
 clear ha
 have HS := Lib.hid hs
 clear hs
 have HP2 := Lib.hid hp
 clear hp
 have HBC := Lib.hid hbc
 clear hbc
 have HR2 := Lib.hid hr2
 clear hr2
 have HQ := Lib.hid hqn
 clear hqn
 have HF := Lib.hid hf
 clear hf
 have bel := Below.refl lo w
 go_enter Tryz.func35, Tryz.ntmps35
 go_wp2_with (first | ((with_reducible show wpList _ _ _ (⟨some 5, _, _, _, _, _⟩ :: _) _ _); refine wpList_box_n rfl 38 (.tmp 1) rfl #[.int .i64 tos, .int .i64 id, .int .i64 fl, .int .i64 pt, .int .i64 ttl, .int .i64 1, .int .u8 (a0.toNat : Int), .int .u8 (a1.toNat : Int), .int .u8 (a2.toNat : Int), .int .u8 (a3.toNat : Int), .int .u8 (b0.toNat : Int), .int .u8 (b1.toNat : Int), .int .u8 (b2.toNat : Int), .int .u8 (b3.toNat : Int), .slice So no co, .slice Sb nb cb] rfl ?_; intro g5 w1 ge lt hh bb; have ap_pB := hT.ap ge; have d_nt_pB := ne_new (hlt hnt) ge; have av_po_pB := po.av_new ge; have av_pb_pB := pb.av_new ge; have opB := Nat.le_trans (Nat.le_trans hlo bel.size) ge; have ppB := Nat.le_trans bel.size ge; replace hnt := blk_u hnt bb; replace po := po.below bb; replace pb := pb.below bb; replace hT := hT.below bb; replace fr := fr.below bb; replace an_po := an_po.below bb; replace ap_pB := ap_pB.below bb; replace bel := bel.trans (bb.mono (Nat.le_trans hlo bel.size)); have hpB := hh; clear hh lt ge bb) | ((with_reducible show wpList _ _ _ (⟨some 6, _, _, _, _, _⟩ :: _) _ _); refine wpList_box_n rfl 35 (.tmp 2) rfl #[.int .u8 (c0.toNat : Int), .int .u8 (c1.toNat : Int), .int .u8 (c2.toNat : Int), .int .u8 (c3.toNat : Int)] rfl ?_; intro g6 w2 ge lt hh bb; have ap_wB := hT.ap ge; have d_nt_wB := ne_new (hlt hnt) ge; have d_pB_wB := ne_new (hlt hpB) ge; have av_po_wB := po.av_new ge; have av_pb_wB := pb.av_new ge; have owB := Nat.le_trans (Nat.le_trans hlo bel.size) ge; have pwB := Nat.le_trans bel.size ge; replace hnt := blk_u hnt bb; replace hpB := blk_u hpB bb; replace po := po.below bb; replace pb := pb.below bb; replace hT := hT.below bb; replace fr := fr.below bb; replace an_po := an_po.below bb; replace ap_pB := ap_pB.below bb; replace ap_wB := ap_wB.below bb; replace bel := bel.trans (bb.mono (Nat.le_trans hlo bel.size)); have hwB := hh; clear hh lt ge bb) | ((with_reducible show wpList _ _ _ (⟨some 8, _, _, _, _, _⟩ :: _) _ _); refine wpList_new_a rfl 38 rfl #[.int .i64 0, .int .i64 0, .int .i64 0, .int .i64 0, .int .i64 0, .int .i64 0, .int .u8 0, .int .u8 0, .int .u8 0, .int .u8 0, .int .u8 0, .int .u8 0, .int .u8 0, .int .u8 0, .slice none 0 0, .slice none 0 0] (by kernel_rfl) ?_; intro g8 w3 ge hh bb; have ap_rB := hT.ap ge; have d_nt_rB := ne_new (hlt hnt) ge; have d_pB_rB := ne_new (hlt hpB) ge; have d_wB_rB := ne_new (hlt hwB) ge; have av_po_rB := po.av_new ge; have av_pb_rB := pb.av_new ge; have orB := Nat.le_trans (Nat.le_trans hlo bel.size) ge; have prB := Nat.le_trans bel.size ge; replace hnt := blk_u hnt bb; replace hpB := blk_u hpB bb; replace hwB := blk_u hwB bb; replace po := po.below bb; replace pb := pb.below bb; replace hT := hT.below bb; replace fr := fr.below bb; replace an_po := an_po.below bb; replace ap_pB := ap_pB.below bb; replace ap_wB := ap_wB.below bb; replace ap_rB := ap_rB.below bb; replace bel := bel.trans (bb.mono (Nat.le_trans hlo bel.size)); have hrB := hh; clear hh ge bb; have R15 := Lib.hid (range_lit hpB 0 16 [.int .i64 tos, .int .i64 id, .int .i64 fl, .int .i64 pt, .int .i64 ttl, .int .i64 1, .int .u8 (a0.toNat : Int), .int .u8 (a1.toNat : Int), .int .u8 (a2.toNat : Int), .int .u8 (a3.toNat : Int), .int .u8 (b0.toNat : Int), .int .u8 (b1.toNat : Int), .int .u8 (b2.toNat : Int), .int .u8 (b3.toNat : Int), .slice So no co, .slice Sb nb cb] rfl)) | ((with_reducible show wpList _ _ _ (⟨some 15, _, _, _, _, _⟩ :: _) _ _); refine wpList_load_rng 38 (.tmp 5) rfl (by kernel_rfl) _ _ rfl _ R15.out _ Tryz.underlying38 rfl (by kernel_rfl) ?_))
 try clear R15
 with_reducible refine (icget_at _ _ _ _ _ _ _ _ _ _ _ _ _ _ _ _ _ _ _ _  pb HM.out HG.out HLD.out (by have h1_ := inH_bnd HI.out; have h2_ := HLD.out; omega)).mono ?_
 rintro e w4 ⟨gB, oB, qd, rfl, gd, fd, b4⟩
 have av_gd_nt := fd.av (hlt hnt)
 have av_gd_pB := fd.av (hlt hpB)
 have av_gd_wB := fd.av (hlt hwB)
 have av_gd_rB := fd.av (hlt hrB)
 have an_gd := hT.an fd
 replace hnt := blk_u hnt b4
 replace hpB := blk_u hpB b4
 replace hwB := blk_u hwB b4
 replace hrB := blk_u hrB b4
 replace po := po.below b4
 replace pb := pb.below b4
 replace hT := hT.below b4
 replace fr := fr.below b4
 replace an_po := an_po.below b4
 replace ap_pB := ap_pB.below b4
 replace ap_wB := ap_wB.below b4
 replace ap_rB := ap_rB.below b4
 replace an_gd := an_gd.below b4
 replace bel := bel.trans (b4.mono (Nat.le_trans hlo bel.size))
 clear b4
 replace gd : Sl w4 (some ⟨gB, oB, none⟩) (nd) (qd) (ld) := gd
 go_wp2_with (first | ((with_reducible show wpList _ _ _ (⟨some 10, _, _, _, _, _⟩ :: _) _ _); refine wpList_new_a rfl 47 rfl #[.int .i64 0, .int .i64 0, .int .u32 0, .slice none 0 0] (by kernel_rfl) ?_; intro g10 w5 ge hh bb; have ap_gB := hT.ap ge; have d_nt_gB := ne_new (hlt hnt) ge; have d_pB_gB := ne_new (hlt hpB) ge; have d_wB_gB := ne_new (hlt hwB) ge; have d_rB_gB := ne_new (hlt hrB) ge; have av_po_gB := po.av_new ge; have av_pb_gB := pb.av_new ge; have av_gd_gB := gd.av_new ge; have ogB := Nat.le_trans (Nat.le_trans hlo bel.size) ge; have pgB := Nat.le_trans bel.size ge; replace hnt := blk_u hnt bb; replace hpB := blk_u hpB bb; replace hwB := blk_u hwB bb; replace hrB := blk_u hrB bb; replace po := po.below bb; replace pb := pb.below bb; replace gd := gd.below bb; replace hT := hT.below bb; replace fr := fr.below bb; replace an_po := an_po.below bb; replace ap_pB := ap_pB.below bb; replace ap_wB := ap_wB.below bb; replace ap_rB := ap_rB.below bb; replace an_gd := an_gd.below bb; replace ap_gB := ap_gB.below bb; replace bel := bel.trans (bb.mono (Nat.le_trans hlo bel.size)); have hgB := hh; clear hh ge bb) | ((with_reducible show wpList _ _ _ (⟨none, Op.store _ (.tmp 10) _, _, _, _, _⟩ :: _) _ _); refine wpList_store_blk rfl 47 (.tmp 10) (.tmp 17) rfl g10 rfl _ rfl _ 47 hgB (by rfl) (by kernel_rfl) (by kernel_rfl) ?_; intro w6 hq gr; replace po := po.away av_po_gB gr; replace pb := pb.away av_pb_gB gr; replace gd := gd.away av_gd_gB gr; replace hnt := blk_a hnt gr d_nt_gB; replace hpB := blk_a hpB gr d_pB_gB; replace hwB := blk_a hwB gr d_wB_gB; replace hrB := blk_a hrB gr d_rB_gB; replace hT := hT.away ap_gB gr hgB; replace fr := fr.newer ap_gB gr pgB; replace an_po := an_po.grown ap_gB gr; replace ap_pB := ap_pB.grown ap_gB gr; replace ap_wB := ap_wB.grown ap_gB gr; replace ap_rB := ap_rB.grown ap_gB gr; replace an_gd := an_gd.grown ap_gB gr; replace ap_gB := ap_gB.grown ap_gB gr; replace bel := below_grown bel gr ogB (Nat.le_trans hlo bel.size); clear hgB; have hgB := hq; clear hq gr; have R24 := Lib.hid (range_lit hgB 0 4 [.int .i64 ty, .int .i64 cd, .int .u32 re, .slice (some ⟨gB, oB, none⟩) nd qd] rfl)) | ((with_reducible show wpList _ _ _ (⟨some 24, _, _, _, _, _⟩ :: _) _ _); refine wpList_load_rng 47 (.tmp 10) rfl (by kernel_rfl) _ _ rfl _ R24.out _ Tryz.underlying47 rfl (by kernel_rfl) ?_))
 try clear R24
 with_reducible refine (icquery_no _ _ _ _ _ _ HQ.out _).mono ?_
 rintro e w7 ⟨rfl, b7⟩
 replace hnt := blk_u hnt b7
 replace hpB := blk_u hpB b7
 replace hwB := blk_u hwB b7
 replace hrB := blk_u hrB b7
 replace hgB := blk_u hgB b7
 replace po := po.below b7
 replace pb := pb.below b7
 replace gd := gd.below b7
 replace hT := hT.below b7
 replace fr := fr.below b7
 replace an_po := an_po.below b7
 replace ap_pB := ap_pB.below b7
 replace ap_wB := ap_wB.below b7
 replace ap_rB := ap_rB.below b7
 replace an_gd := an_gd.below b7
 replace ap_gB := ap_gB.below b7
 replace bel := bel.trans (b7.mono (Nat.le_trans hlo bel.size))
 clear b7
 have R43 := Lib.hid (range_lit hgB 0 4 [.int .i64 ty, .int .i64 cd, .int .u32 re, .slice (some ⟨gB, oB, none⟩) nd qd] rfl)
 go_wp2_with (first | ((with_reducible show wpList _ _ _ (⟨some 43, _, _, _, _, _⟩ :: _) _ _); refine wpList_load_rng 47 (.tmp 10) rfl (by kernel_rfl) _ _ rfl _ R43.out _ Tryz.underlying47 rfl (by kernel_rfl) ?_))
 try clear R43
 with_reducible refine (icfault_any _ _ _ _ _ _ _).mono ?_
 rintro e w8 ⟨rfl, b8⟩
 replace hnt := blk_u hnt b8
 replace hpB := blk_u hpB b8
 replace hwB := blk_u hwB b8
 replace hrB := blk_u hrB b8
 replace hgB := blk_u hgB b8
 replace po := po.below b8
 replace pb := pb.below b8
 replace gd := gd.below b8
 replace hT := hT.below b8
 replace fr := fr.below b8
 replace an_po := an_po.below b8
 replace ap_pB := ap_pB.below b8
 replace ap_wB := ap_wB.below b8
 replace ap_rB := ap_rB.below b8
 replace an_gd := an_gd.below b8
 replace ap_gB := ap_gB.below b8
 replace bel := bel.trans (b8.mono (Nat.le_trans hlo bel.size))
 clear b8
 rw [HF.out]
 have R48 := cell_lit hgB 3 _ rfl
 have R49 := Lib.hid (range_lit hwB 0 4 [.int .u8 (c0.toNat : Int), .int .u8 (c1.toNat : Int), .int .u8 (c2.toNat : Int), .int .u8 (c3.toNat : Int)] rfl)
 go_wp2_with (first | ((with_reducible show wpList _ _ _ (⟨some 49, _, _, _, _, _⟩ :: _) _ _); refine wpList_load_rng 35 (.tmp 6) rfl (by kernel_rfl) _ _ rfl _ R49.out _ Tryz.underlying35 rfl (by kernel_rfl) ?_))
 try clear R48
 try clear R49
 have lt_pB := hlt hpB
 have lt_wB := hlt hwB
 have lt_rB := hlt hrB
 have lt_gB := hlt hgB
 with_reducible refine (nfin_y _ hT gd an_gd (by have := HN4.out; omega) HI.out HX.out HY.out HK.out HAT.out HS.out HP2.out hc).mono ?_
 rintro e w9 ⟨A', c', rfl, hT_, f_, bb, gq, an_gq, fgq⟩
 clear hnt
 have x_ := f_ _ _ _ _ hpB ap_pB
 replace hpB := x_.1
 replace ap_pB := x_.2
 clear x_
 have x_ := f_ _ _ _ _ hwB ap_wB
 replace hwB := x_.1
 replace ap_wB := x_.2
 clear x_
 have x_ := f_ _ _ _ _ hrB ap_rB
 replace hrB := x_.1
 replace ap_rB := x_.2
 clear x_
 have x_ := f_ _ _ _ _ hgB ap_gB
 replace hgB := x_.1
 replace ap_gB := x_.2
 clear x_
 have x_ := f_.sl po an_po
 replace po := x_.1
 replace an_po := x_.2
 clear x_
 clear pb
 have x_ := f_.sl gd an_gd
 replace gd := x_.1
 replace an_gd := x_.2
 clear x_
 replace fr := fr.trans f_
 clear hT
 have hT := hT_
 replace bel := bel.trans bb
 clear bb f_ hT_
 have hnt := hT.nat
 have av_gq_pB := fgq.av lt_pB
 have av_gq_wB := fgq.av lt_wB
 have av_gq_rB := fgq.av lt_rB
 have av_gq_gB := fgq.av lt_gB
 clear lt_pB lt_wB lt_rB lt_gB
 clear fgq
 go_wp2_with (first | ((with_reducible show wpList _ _ _ (⟨none, Op.store _ (.tmp 55) _, _, _, _, _⟩ :: _) _ _); refine wpList_store_part rfl 35 (.tmp 55) (.tmp 52) rfl g5 10 rfl [.int .u8 (m.ad.a.toNat : Int), .int .u8 (m.ad.b.toNat : Int), .int .u8 (m.ad.c.toNat : Int), .int .u8 (m.ad.d.toNat : Int)] rfl [.int .i64 tos, .int .i64 id, .int .i64 fl, .int .i64 pt, .int .i64 ttl, .int .i64 1, .int .u8 (a0.toNat : Int), .int .u8 (a1.toNat : Int), .int .u8 (a2.toNat : Int), .int .u8 (a3.toNat : Int), .int .u8 (b0.toNat : Int), .int .u8 (b1.toNat : Int), .int .u8 (b2.toNat : Int), .int .u8 (b3.toNat : Int), .slice So no co, .slice Sb nb cb] 38 hpB (by simp) [.int .i64 tos, .int .i64 id, .int .i64 fl, .int .i64 pt, .int .i64 ttl, .int .i64 1, .int .u8 (a0.toNat : Int), .int .u8 (a1.toNat : Int), .int .u8 (a2.toNat : Int), .int .u8 (a3.toNat : Int), .int .u8 (m.ad.a.toNat : Int), .int .u8 (m.ad.b.toNat : Int), .int .u8 (m.ad.c.toNat : Int), .int .u8 (m.ad.d.toNat : Int), .slice So no co, .slice Sb nb cb] rfl (by kernel_rfl) (by rfl) ?_; intro w10 hq gr; replace po := po.away av_po_pB gr; replace gd := gd.away av_gd_pB gr; replace gq := gq.away av_gq_pB gr; replace hwB := blk_a hwB gr (ne_symm d_pB_wB); replace hrB := blk_a hrB gr (ne_symm d_pB_rB); replace hgB := blk_a hgB gr (ne_symm d_pB_gB); replace hnt := blk_a hnt gr d_nt_pB; replace hT := hT.away ap_pB gr hpB; replace fr := fr.newer ap_pB gr ppB; replace an_po := an_po.grown ap_pB gr; replace ap_pB := ap_pB.grown ap_pB gr; replace ap_wB := ap_wB.grown ap_pB gr; replace ap_rB := ap_rB.grown ap_pB gr; replace an_gd := an_gd.grown ap_pB gr; replace ap_gB := ap_gB.grown ap_pB gr; replace an_gq := an_gq.grown ap_pB gr; replace bel := below_grown bel gr opB (Nat.le_trans hlo bel.size); clear hpB; have hpB := hq; clear hq gr) | ((with_reducible show wpList _ _ _ (⟨none, Op.store _ (.tmp 56) _, _, _, _, _⟩ :: _) _ _); refine wpList_store_part rfl 36 (.tmp 56) (.tmp 53) rfl g10 3 rfl [.slice A' nd c'] rfl [.int .i64 ty, .int .i64 cd, .int .u32 re, .slice (some ⟨gB, oB, none⟩) nd qd] 47 hgB (by simp) [.int .i64 ty, .int .i64 cd, .int .u32 re, .slice A' nd c'] rfl (by kernel_rfl) (by rfl) ?_; intro w11 hq gr; replace po := po.away av_po_gB gr; replace gd := gd.away av_gd_gB gr; replace gq := gq.away av_gq_gB gr; replace hpB := blk_a hpB gr d_pB_gB; replace hwB := blk_a hwB gr d_wB_gB; replace hrB := blk_a hrB gr d_rB_gB; replace hnt := blk_a hnt gr d_nt_gB; replace hT := hT.away ap_gB gr hgB; replace fr := fr.newer ap_gB gr pgB; replace an_po := an_po.grown ap_gB gr; replace ap_pB := ap_pB.grown ap_gB gr; replace ap_wB := ap_wB.grown ap_gB gr; replace ap_rB := ap_rB.grown ap_gB gr; replace an_gd := an_gd.grown ap_gB gr; replace ap_gB := ap_gB.grown ap_gB gr; replace an_gq := an_gq.grown ap_gB gr; replace bel := below_grown bel gr ogB (Nat.le_trans hlo bel.size); clear hgB; have hgB := hq; clear hq gr; have R61 := Lib.hid (range_lit hpB 0 16 [.int .i64 tos, .int .i64 id, .int .i64 fl, .int .i64 pt, .int .i64 ttl, .int .i64 1, .int .u8 (a0.toNat : Int), .int .u8 (a1.toNat : Int), .int .u8 (a2.toNat : Int), .int .u8 (a3.toNat : Int), .int .u8 (m.ad.a.toNat : Int), .int .u8 (m.ad.b.toNat : Int), .int .u8 (m.ad.c.toNat : Int), .int .u8 (m.ad.d.toNat : Int), .slice So no co, .slice Sb nb cb] rfl)) | ((with_reducible show wpList _ _ _ (⟨some 61, _, _, _, _, _⟩ :: _) _ _); refine wpList_load_rng 38 (.tmp 5) rfl (by kernel_rfl) _ _ rfl _ R61.out _ Tryz.underlying38 rfl (by kernel_rfl) ?_; have R62 := Lib.hid (range_lit hgB 0 4 [.int .i64 ty, .int .i64 cd, .int .u32 re, .slice A' nd c'] rfl)) | ((with_reducible show wpList _ _ _ (⟨some 62, _, _, _, _, _⟩ :: _) _ _); refine wpList_load_rng 47 (.tmp 10) rfl (by kernel_rfl) _ _ rfl _ R62.out _ Tryz.underlying47 rfl (by kernel_rfl) ?_))
 try clear R61
 try clear R62
 have hsz_ := bel.size
 with_reducible refine (icput_is _ _ _ _ _ _ _ _ _ _ _ _ _ _ _ _ _ _ _ _ _ _ _ _ _ _ _  po gq HBY.out HBC.out HN4.out HNO.out HR2.out.1 HR2.out.2).mono ?_
 rintro e w12 ⟨Ao, co2, Ab, cb2, rfl, qo, qb, fqo_, fqb_, b12⟩
 have av_qo_pB := fqo_.av (hlt hpB)
 have av_qo_wB := fqo_.av (hlt hwB)
 have av_qo_rB := fqo_.av (hlt hrB)
 have av_qo_gB := fqo_.av (hlt hgB)
 have av_qo_nt := fqo_.av (hlt hnt)
 have av_qb_pB := fqb_.av (hlt hpB)
 have av_qb_wB := fqb_.av (hlt hwB)
 have av_qb_rB := fqb_.av (hlt hrB)
 have av_qb_gB := fqb_.av (hlt hgB)
 have av_qb_nt := fqb_.av (hlt hnt)
 have an_qo := hT.an fqo_
 have an_qb := hT.an fqb_
 replace hpB := blk_u hpB b12
 replace hwB := blk_u hwB b12
 replace hrB := blk_u hrB b12
 replace hgB := blk_u hgB b12
 replace hnt := blk_u hnt b12
 replace po := po.below b12
 replace gd := gd.below b12
 replace gq := gq.below b12
 replace hT := hT.below b12
 replace fr := fr.below b12
 replace an_po := an_po.below b12
 replace ap_pB := ap_pB.below b12
 replace ap_wB := ap_wB.below b12
 replace ap_rB := ap_rB.below b12
 replace an_gd := an_gd.below b12
 replace ap_gB := ap_gB.below b12
 replace an_gq := an_gq.below b12
 replace an_qo := an_qo.below b12
 replace an_qb := an_qb.below b12
 replace bel := bel.trans (b12.mono (Nat.le_trans hlo bel.size))
 clear b12
 replace qo : Sl w12 (Ao) (no) (co2) (lp) := qo
 replace qb : Sl w12 (Ab) (8 + nd) (cb2) (icBytes ty cd re (wL ld h at_ [m.ad.a, m.ad.b, m.ad.c, m.ad.d] m.i)) := qb
 have fqo := Fr.mono fqo_ hsz_
 have fqb := Fr.mono fqb_ hsz_
 clear fqo_ fqb_ hsz_
 go_wp2_with (first | ((with_reducible show wpList _ _ _ (⟨none, Op.store _ (.tmp 8) _, _, _, _, _⟩ :: _) _ _); refine wpList_store_blk rfl 38 (.tmp 8) (.tmp 64) rfl g8 rfl _ rfl _ 38 hrB (by rfl) (by kernel_rfl) (by kernel_rfl) ?_; intro w13 hq gr; replace po := po.away av_po_rB gr; replace gd := gd.away av_gd_rB gr; replace gq := gq.away av_gq_rB gr; replace qo := qo.away av_qo_rB gr; replace qb := qb.away av_qb_rB gr; replace hpB := blk_a hpB gr d_pB_rB; replace hwB := blk_a hwB gr d_wB_rB; replace hgB := blk_a hgB gr (ne_symm d_rB_gB); replace hnt := blk_a hnt gr d_nt_rB; replace hT := hT.away ap_rB gr hrB; replace fr := fr.newer ap_rB gr prB; replace an_po := an_po.grown ap_rB gr; replace ap_pB := ap_pB.grown ap_rB gr; replace ap_wB := ap_wB.grown ap_rB gr; replace ap_rB := ap_rB.grown ap_rB gr; replace an_gd := an_gd.grown ap_rB gr; replace ap_gB := ap_gB.grown ap_rB gr; replace an_gq := an_gq.grown ap_rB gr; replace an_qo := an_qo.grown ap_rB gr; replace an_qb := an_qb.grown ap_rB gr; replace bel := below_grown bel gr orB (Nat.le_trans hlo bel.size); clear hrB; have hrB := hq; clear hq gr))
 exact bodyPost_ret (results_cell_tmp_row rfl _ _ _ _ _ _ _ rfl hrB Tryz.underlying38 rfl (by kernel_rfl) (.int .i64 0) rfl) rfl ⟨Ao, co2, Ab, cb2, rfl, hT, fr, bel, qo, qb, an_qo, an_qb, fqo, fqb⟩
theorem nin_f {lo gn gt gk : Nat} {s : Ts} {k : Ks} {s' : Ts} {m : Mp} {tos id fl pt ttl : Int} {a0 a1 a2 a3 b0 b1 b2 b3 : UInt8} {So Sb : Option Addr} {no co nb cb : Nat} {lp lb : List UInt8} {t : Int} {ty cd re : Int} {ld : List UInt8} {nd : Nat} {x p0 p1 : UInt8} {at_ h : Nat} (w : World) (hT : Np lo gn gt gk w s k) (po : Sl w So no co lp) (pb : Sl w Sb nb cb lb) (an_po : An gn gt gk w So no) (hm : nb ≤ 100000) (hno : no ≤ 100000) (hw : (decide (pt = 0) && decide (fl % 2 = 0)) = true) (hg : icGet fl pt 1 lb = ([ty, cd, re], ld, 0)) (hld : ld.length = nd) (hn : nd ≤ 1472) (hby : byteOk ty = true) (hbc : byteOk cd = true) (hr2 : 0 ≤ re ∧ re < 4294967296) (hqn : (echoT ty && decide (cd = 0)) = false) (hf : faultT ty = true) (hi : inH ld = some h) (hx : ld[9]? = some x) (hy : (ld.drop 12).take 4 = [b0, b1, b2, b3]) (hk : knB (x.toNat : Int) = true) (ha : (if x.toNat = 1 then h + 4 else h) = at_) (hs : at_ + 2 ≤ nd) (hp : (ld.drop at_).take 2 = [p0, p1]) (hc : InC lo gt s s' (x.toNat : Int) ((be [p0, p1] : Nat) : Int) t m)  : Calls Tryz.prog 14 #[.pointer (some ⟨gn, 0, none⟩), .agg #[.int .i64 tos, .int .i64 id, .int .i64 fl, .int .i64 pt, .int .i64 ttl, .int .i64 1, .int .u8 (a0.toNat : Int), .int .u8 (a1.toNat : Int), .int .u8 (a2.toNat : Int), .int .u8 (a3.toNat : Int), .int .u8 (b0.toNat : Int), .int .u8 (b1.toNat : Int), .int .u8 (b2.toNat : Int), .int .u8 (b3.toNat : Int), .slice So no co, .slice Sb nb cb], .agg #[.int .u8 (b0.toNat : Int), .int .u8 (b1.toNat : Int), .int .u8 (b2.toNat : Int), .int .u8 (b3.toNat : Int)], .int .i64 t] w fun e w' => ∃ Ao co' Ab cb', e = .returned (.tuple #[.agg #[.int .i64 tos, .int .i64 id, .int .i64 fl, .int .i64 pt, .int .i64 ttl, .int .i64 1, .int .u8 (a0.toNat : Int), .int .u8 (a1.toNat : Int), .int .u8 (a2.toNat : Int), .int .u8 (a3.toNat : Int), .int .u8 (m.ad.a.toNat : Int), .int .u8 (m.ad.b.toNat : Int), .int .u8 (m.ad.c.toNat : Int), .int .u8 (m.ad.d.toNat : Int), .slice Ao no co', .slice Ab (8 + nd) cb'], .int .i64 0]) ∧ Np lo gn gt gk w' s' k ∧ Fn gn gt gk w w' ∧ Below lo w w' ∧ Sl w' Ao no co' lp ∧ Sl w' Ab (8 + nd) cb' (icBytes ty cd re (wL ld h at_ [m.ad.a, m.ad.b, m.ad.c, m.ad.d] m.i)) ∧ An gn gt gk w' Ao no ∧ An gn gt gk w' Ab (8 + nd) ∧ Fr w.heap.size Ao no ∧ Fr w.heap.size Ab (8 + nd) := by
 have hlo : lo ≤ w.heap.size := hT.lo_le
 have HLO := Lib.hid hlo
 have hnt := hT.nat
 have fr := Fn.refl gn gt gk w
 have HM := Lib.hid hm
 clear hm
 have HNO := Lib.hid hno
 clear hno
 have HG := Lib.hid hg
 clear hg
 have HLD := Lib.hid hld
 clear hld
 have HN4 := Lib.hid hn
 clear hn
 have HBY := Lib.hid hby
 clear hby
 have HI := Lib.hid hi
 clear hi
 have HX := Lib.hid hx
 clear hx
 have HY := Lib.hid hy
 clear hy
 have HK := Lib.hid hk
 clear hk
 have HAT := Lib.hid ha
 clear ha
 have HS := Lib.hid hs
 clear hs
 have HP2 := Lib.hid hp
 clear hp
 have HBC := Lib.hid hbc
 clear hbc
 have HR2 := Lib.hid hr2
 clear hr2
 have HQ := Lib.hid hqn
 clear hqn
 have HF := Lib.hid hf
 clear hf
 have hab : ∀ W, (binOp .neq 35 (.agg #[.int .u8 (b0.toNat : Int), .int .u8 (b1.toNat : Int), .int .u8 (b2.toNat : Int), .int .u8 (b3.toNat : Int)]) (.agg #[.int .u8 (b0.toNat : Int), .int .u8 (b1.toNat : Int), .int .u8 (b2.toNat : Int), .int .u8 (b3.toNat : Int)])).run Tryz.prog W = .ok (.bool false) W := fun W => by have h_ := nea_b ⟨b0, b1, b2, b3⟩ ⟨b0, b1, b2, b3⟩ W; rw [Ad4.eqB_self] at h_; exact h_
 have HW := Lib.hid hw
 clear hw
 have bel := Below.refl lo w
 go_enter Tryz.func14, Tryz.ntmps14
 go_wp2_with (first | ((with_reducible show wpList _ _ _ (⟨some 5, _, _, _, _, _⟩ :: _) _ _); refine wpList_box_n rfl 38 (.tmp 1) rfl #[.int .i64 tos, .int .i64 id, .int .i64 fl, .int .i64 pt, .int .i64 ttl, .int .i64 1, .int .u8 (a0.toNat : Int), .int .u8 (a1.toNat : Int), .int .u8 (a2.toNat : Int), .int .u8 (a3.toNat : Int), .int .u8 (b0.toNat : Int), .int .u8 (b1.toNat : Int), .int .u8 (b2.toNat : Int), .int .u8 (b3.toNat : Int), .slice So no co, .slice Sb nb cb] rfl ?_; intro g5 w1 ge lt hh bb; have ap_pB := hT.ap ge; have d_nt_pB := ne_new (hlt hnt) ge; have av_po_pB := po.av_new ge; have av_pb_pB := pb.av_new ge; have opB := Nat.le_trans (Nat.le_trans hlo bel.size) ge; have ppB := Nat.le_trans bel.size ge; replace hnt := blk_u hnt bb; replace po := po.below bb; replace pb := pb.below bb; replace hT := hT.below bb; replace fr := fr.below bb; replace an_po := an_po.below bb; replace ap_pB := ap_pB.below bb; replace bel := bel.trans (bb.mono (Nat.le_trans hlo bel.size)); have hpB := hh; clear hh lt ge bb) | ((with_reducible show wpList _ _ _ (⟨some 6, _, _, _, _, _⟩ :: _) _ _); refine wpList_box_n rfl 35 (.tmp 2) rfl #[.int .u8 (b0.toNat : Int), .int .u8 (b1.toNat : Int), .int .u8 (b2.toNat : Int), .int .u8 (b3.toNat : Int)] rfl ?_; intro g6 w2 ge lt hh bb; have ap_wB := hT.ap ge; have d_nt_wB := ne_new (hlt hnt) ge; have d_pB_wB := ne_new (hlt hpB) ge; have av_po_wB := po.av_new ge; have av_pb_wB := pb.av_new ge; have owB := Nat.le_trans (Nat.le_trans hlo bel.size) ge; have pwB := Nat.le_trans bel.size ge; replace hnt := blk_u hnt bb; replace hpB := blk_u hpB bb; replace po := po.below bb; replace pb := pb.below bb; replace hT := hT.below bb; replace fr := fr.below bb; replace an_po := an_po.below bb; replace ap_pB := ap_pB.below bb; replace ap_wB := ap_wB.below bb; replace bel := bel.trans (bb.mono (Nat.le_trans hlo bel.size)); have hwB := hh; clear hh lt ge bb) | ((with_reducible show wpList _ _ _ (⟨some 8, _, _, _, _, _⟩ :: _) _ _); refine wpList_new_a rfl 38 rfl #[.int .i64 0, .int .i64 0, .int .i64 0, .int .i64 0, .int .i64 0, .int .i64 0, .int .u8 0, .int .u8 0, .int .u8 0, .int .u8 0, .int .u8 0, .int .u8 0, .int .u8 0, .int .u8 0, .slice none 0 0, .slice none 0 0] (by kernel_rfl) ?_; intro g8 w3 ge hh bb; have ap_rB := hT.ap ge; have d_nt_rB := ne_new (hlt hnt) ge; have d_pB_rB := ne_new (hlt hpB) ge; have d_wB_rB := ne_new (hlt hwB) ge; have av_po_rB := po.av_new ge; have av_pb_rB := pb.av_new ge; have orB := Nat.le_trans (Nat.le_trans hlo bel.size) ge; have prB := Nat.le_trans bel.size ge; replace hnt := blk_u hnt bb; replace hpB := blk_u hpB bb; replace hwB := blk_u hwB bb; replace po := po.below bb; replace pb := pb.below bb; replace hT := hT.below bb; replace fr := fr.below bb; replace an_po := an_po.below bb; replace ap_pB := ap_pB.below bb; replace ap_wB := ap_wB.below bb; replace ap_rB := ap_rB.below bb; replace bel := bel.trans (bb.mono (Nat.le_trans hlo bel.size)); have hrB := hh; clear hh ge bb; have R11 := Lib.hid (range_lit hpB 10 4 [.int .u8 (b0.toNat : Int), .int .u8 (b1.toNat : Int), .int .u8 (b2.toNat : Int), .int .u8 (b3.toNat : Int)] rfl)) | ((with_reducible show wpList _ _ _ (⟨some 11, _, _, _, _, _⟩ :: _) _ _); refine wpList_load_rng 35 (.tmp 10) rfl (by kernel_rfl) _ _ rfl _ R11.out _ Tryz.underlying35 rfl (by kernel_rfl) ?_; have R12 := Lib.hid (range_lit hwB 0 4 [.int .u8 (b0.toNat : Int), .int .u8 (b1.toNat : Int), .int .u8 (b2.toNat : Int), .int .u8 (b3.toNat : Int)] rfl)) | ((with_reducible show wpList _ _ _ (⟨some 12, _, _, _, _, _⟩ :: _) _ _); refine wpList_load_rng 35 (.tmp 6) rfl (by kernel_rfl) _ _ rfl _ R12.out _ Tryz.underlying35 rfl (by kernel_rfl) ?_; have R15 := Lib.hid (range_lit hpB 0 16 [.int .i64 tos, .int .i64 id, .int .i64 fl, .int .i64 pt, .int .i64 ttl, .int .i64 1, .int .u8 (a0.toNat : Int), .int .u8 (a1.toNat : Int), .int .u8 (a2.toNat : Int), .int .u8 (a3.toNat : Int), .int .u8 (b0.toNat : Int), .int .u8 (b1.toNat : Int), .int .u8 (b2.toNat : Int), .int .u8 (b3.toNat : Int), .slice So no co, .slice Sb nb cb] rfl)) | ((with_reducible show wpList _ _ _ (⟨some 15, _, _, _, _, _⟩ :: _) _ _); refine wpList_load_rng 38 (.tmp 5) rfl (by kernel_rfl) _ _ rfl _ R15.out _ Tryz.underlying38 rfl (by kernel_rfl) ?_))
 try clear R11
 try clear R12
 try clear R15
 with_reducible refine (ipwhole_any _ _ _ _ _ _ _ _ _ _ _ _ _ _ _ _ _ _ _ _ _ ).mono ?_
 rintro e w4 ⟨rfl, b4⟩
 replace hnt := blk_u hnt b4
 replace hpB := blk_u hpB b4
 replace hwB := blk_u hwB b4
 replace hrB := blk_u hrB b4
 replace po := po.below b4
 replace pb := pb.below b4
 replace hT := hT.below b4
 replace fr := fr.below b4
 replace an_po := an_po.below b4
 replace ap_pB := ap_pB.below b4
 replace ap_wB := ap_wB.below b4
 replace ap_rB := ap_rB.below b4
 replace bel := bel.trans (b4.mono (Nat.le_trans hlo bel.size))
 clear b4
 rw [HW.out]
 have R20 := cell_lit hpB 5 _ rfl
 have R40 := Lib.hid (range_lit hpB 0 16 [.int .i64 tos, .int .i64 id, .int .i64 fl, .int .i64 pt, .int .i64 ttl, .int .i64 1, .int .u8 (a0.toNat : Int), .int .u8 (a1.toNat : Int), .int .u8 (a2.toNat : Int), .int .u8 (a3.toNat : Int), .int .u8 (b0.toNat : Int), .int .u8 (b1.toNat : Int), .int .u8 (b2.toNat : Int), .int .u8 (b3.toNat : Int), .slice So no co, .slice Sb nb cb] rfl)
 go_wp2_with (first | ((with_reducible show wpList _ _ _ (⟨some 40, _, _, _, _, _⟩ :: _) _ _); refine wpList_load_rng 38 (.tmp 5) rfl (by kernel_rfl) _ _ rfl _ R40.out _ Tryz.underlying38 rfl (by kernel_rfl) ?_; have R41 := Lib.hid (range_lit hwB 0 4 [.int .u8 (b0.toNat : Int), .int .u8 (b1.toNat : Int), .int .u8 (b2.toNat : Int), .int .u8 (b3.toNat : Int)] rfl)) | ((with_reducible show wpList _ _ _ (⟨some 41, _, _, _, _, _⟩ :: _) _ _); refine wpList_load_rng 35 (.tmp 6) rfl (by kernel_rfl) _ _ rfl _ R41.out _ Tryz.underlying35 rfl (by kernel_rfl) ?_))
 try clear R20
 try clear R40
 try clear R41
 have hsz_ := bel.size
 have lt_pB := hlt hpB
 have lt_wB := hlt hwB
 have lt_rB := hlt hrB
 with_reducible refine (nmsgin_f _ hT po pb an_po HM.out HNO.out HG.out HLD.out HN4.out HBY.out HBC.out HR2.out HQ.out HF.out HI.out HX.out HY.out HK.out HAT.out HS.out HP2.out hc).mono ?_
 rintro e w5 ⟨Ao, co2, Ab, cb2, rfl, hT_, f_, bb, qo, qb, an_qo, an_qb, fqo, fqb⟩
 clear hnt
 have x_ := f_ _ _ _ _ hpB ap_pB
 replace hpB := x_.1
 replace ap_pB := x_.2
 clear x_
 have x_ := f_ _ _ _ _ hwB ap_wB
 replace hwB := x_.1
 replace ap_wB := x_.2
 clear x_
 have x_ := f_ _ _ _ _ hrB ap_rB
 replace hrB := x_.1
 replace ap_rB := x_.2
 clear x_
 have x_ := f_.sl po an_po
 replace po := x_.1
 replace an_po := x_.2
 clear x_
 clear pb
 replace fr := fr.trans f_
 clear hT
 have hT := hT_
 replace bel := bel.trans bb
 clear bb f_ hT_
 have hnt := hT.nat
 have av_qo_pB := fqo.av lt_pB
 have av_qo_wB := fqo.av lt_wB
 have av_qo_rB := fqo.av lt_rB
 have av_qb_pB := fqb.av lt_pB
 have av_qb_wB := fqb.av lt_wB
 have av_qb_rB := fqb.av lt_rB
 clear lt_pB lt_wB lt_rB
 replace fqo := Fr.mono fqo hsz_
 replace fqb := Fr.mono fqb hsz_
 clear hsz_
 go_wp2_with (first | ((with_reducible show wpList _ _ _ (⟨none, Op.store _ (.tmp 8) _, _, _, _, _⟩ :: _) _ _); refine wpList_store_blk rfl 38 (.tmp 8) (.tmp 44) rfl g8 rfl _ rfl _ 38 hrB (by rfl) (by kernel_rfl) (by kernel_rfl) ?_; intro w6 hq gr; replace po := po.away av_po_rB gr; replace qo := qo.away av_qo_rB gr; replace qb := qb.away av_qb_rB gr; replace hpB := blk_a hpB gr d_pB_rB; replace hwB := blk_a hwB gr d_wB_rB; replace hnt := blk_a hnt gr d_nt_rB; replace hT := hT.away ap_rB gr hrB; replace fr := fr.newer ap_rB gr prB; replace an_po := an_po.grown ap_rB gr; replace ap_pB := ap_pB.grown ap_rB gr; replace ap_wB := ap_wB.grown ap_rB gr; replace ap_rB := ap_rB.grown ap_rB gr; replace an_qo := an_qo.grown ap_rB gr; replace an_qb := an_qb.grown ap_rB gr; replace bel := below_grown bel gr orB (Nat.le_trans hlo bel.size); clear hrB; have hrB := hq; clear hq gr))
 exact bodyPost_ret (results_cell_tmp_row rfl _ _ _ _ _ _ _ rfl hrB Tryz.underlying38 rfl (by kernel_rfl) (.int .i64 0) rfl) rfl ⟨Ao, co2, Ab, cb2, rfl, hT, fr, bel, qo, qb, an_qo, an_qb, fqo, fqb⟩
end Go.Proofs.YtbdaejodbcjmfaaGreat
