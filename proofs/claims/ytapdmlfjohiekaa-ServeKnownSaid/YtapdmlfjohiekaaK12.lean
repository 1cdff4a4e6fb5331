/- Texts put together: Sv3. -/
import Derived.Test.YtapdmlfjohiekaaK1
import Derived.Test.YtapdmlfjohiekaaK11
namespace Go.Proofs.Ytapdmlfjohiekaa
open Go.RowKit

set_option linter.unusedVariables false in
set_option linter.unusedSimpArgs false in
set_option maxRecDepth 100000 in
set_option maxHeartbeats 16000000 in
theorem soffer_your {lo gs gp : Nat} {own : Ad4} {mk sc : Int} {s : St} {h : Mh} {A : Option Addr} {n c : Nat} {hs : List Oh} {L : OptL} {wa a : Ad4} {b : Bool} {t : Int} (w : World) (hS : Sv lo gs gp w ⟨own, mk, sc⟩ s) (hO : Opv w A n c hs L) (hs0 : 0 ≤ sc) (hs1 : sc < 4294967296) (hty : (typeL L : Int) = 1) (hw : fourL (findL L 50) = (Ad4.l wa, b)) (hr : offerS s h.mc wa t = (a, 0)) (hcl : h.cl.eqB Ad4.zero = true) (hfl : (bits .and .i64 h.flags 32768 != 0) = false) : Calls Try.prog 20 #[.pointer (some ⟨gs, 0, none⟩), .agg #[.int .i64 h.op, .int .i64 h.hops, .int .u32 h.xid, .int .i64 h.secs, .int .i64 h.flags, .int .u8 (h.c0.toNat : Int), .int .u8 (h.c1.toNat : Int), .int .u8 (h.c2.toNat : Int), .int .u8 (h.c3.toNat : Int), .int .u8 (h.y0.toNat : Int), .int .u8 (h.y1.toNat : Int), .int .u8 (h.y2.toNat : Int), .int .u8 (h.y3.toNat : Int), .int .u8 (h.s0.toNat : Int), .int .u8 (h.s1.toNat : Int), .int .u8 (h.s2.toNat : Int), .int .u8 (h.s3.toNat : Int), .int .u8 (h.r0.toNat : Int), .int .u8 (h.r1.toNat : Int), .int .u8 (h.r2.toNat : Int), .int .u8 (h.r3.toNat : Int), .int .u8 (h.m0.toNat : Int), .int .u8 (h.m1.toNat : Int), .int .u8 (h.m2.toNat : Int), .int .u8 (h.m3.toNat : Int), .int .u8 (h.m4.toNat : Int), .int .u8 (h.m5.toNat : Int), .slice A n c], .int .i64 t] w fun e w' => ∃ A2 c2 hs2, e = .returned (.tuple #[.agg #[.int .i64 2, .int .i64 0, .int .u32 h.xid, .int .i64 0, .int .i64 h.flags, .int .u8 0, .int .u8 0, .int .u8 0, .int .u8 0, .int .u8 (a.a.toNat : Int), .int .u8 (a.b.toNat : Int), .int .u8 (a.c.toNat : Int), .int .u8 (a.d.toNat : Int), .int .u8 (own.a.toNat : Int), .int .u8 (own.b.toNat : Int), .int .u8 (own.c.toNat : Int), .int .u8 (own.d.toNat : Int), .int .u8 (h.r0.toNat : Int), .int .u8 (h.r1.toNat : Int), .int .u8 (h.r2.toNat : Int), .int .u8 (h.r3.toNat : Int), .int .u8 (h.m0.toNat : Int), .int .u8 (h.m1.toNat : Int), .int .u8 (h.m2.toNat : Int), .int .u8 (h.m3.toNat : Int), .int .u8 (h.m4.toNat : Int), .int .u8 (h.m5.toNat : Int), .slice A2 6 c2, .int .u8 (h.m0.toNat : Int), .int .u8 (h.m1.toNat : Int), .int .u8 (h.m2.toNat : Int), .int .u8 (h.m3.toNat : Int), .int .u8 (h.m4.toNat : Int), .int .u8 (h.m5.toNat : Int), .int .u8 (a.a.toNat : Int), .int .u8 (a.b.toNat : Int), .int .u8 (a.c.toNat : Int), .int .u8 (a.d.toNat : Int)], .bool true]) ∧ Opv w' A2 6 c2 hs2 [(53, [2]), (54, own.l), (51, four sc), (1, four mk), (3, own.l), (6, own.l)] ∧ (∀ q, q < w.heap.size → Oa A2 6 hs2 q) ∧ Sv lo gs gp w' ⟨own, mk, sc⟩ (s.adv t) ∧ Kt [84, 101] w w' ∧ Below lo w w' := by
  obtain ⟨hsv, osv, hT⟩ := hS
  dsimp only at hsv
  have hlo : lo ≤ w.heap.size := Nat.le_trans osv (Nat.le_of_lt (hlt hsv))
  have kt := Kt.refl [84, 101] w
  have HS0 := Lib.hid hs0
  clear hs0
  have HS1 := Lib.hid hs1
  clear hs1
  have HTY := Lib.hid hty
  clear hty
  have HW := Lib.hid hw
  clear hw
  have HR := Lib.hid hr
  clear hr
  have HCL := Lib.hid hcl
  clear hcl
  have HFL := Lib.hid hfl
  clear hfl
  have bel := Below.refl lo w
  go_enter Try.func20, Try.ntmps20
  go_wp2_with (first | ((with_reducible show wpList _ _ _ (⟨some 4, _, _, _, _, _⟩ :: _) _ _); refine wpList_box_n rfl 41 (.tmp 1) rfl #[.int .i64 h.op, .int .i64 h.hops, .int .u32 h.xid, .int .i64 h.secs, .int .i64 h.flags, .int .u8 (h.c0.toNat : Int), .int .u8 (h.c1.toNat : Int), .int .u8 (h.c2.toNat : Int), .int .u8 (h.c3.toNat : Int), .int .u8 (h.y0.toNat : Int), .int .u8 (h.y1.toNat : Int), .int .u8 (h.y2.toNat : Int), .int .u8 (h.y3.toNat : Int), .int .u8 (h.s0.toNat : Int), .int .u8 (h.s1.toNat : Int), .int .u8 (h.s2.toNat : Int), .int .u8 (h.s3.toNat : Int), .int .u8 (h.r0.toNat : Int), .int .u8 (h.r1.toNat : Int), .int .u8 (h.r2.toNat : Int), .int .u8 (h.r3.toNat : Int), .int .u8 (h.m0.toNat : Int), .int .u8 (h.m1.toNat : Int), .int .u8 (h.m2.toNat : Int), .int .u8 (h.m3.toNat : Int), .int .u8 (h.m4.toNat : Int), .int .u8 (h.m5.toNat : Int), .slice A n c] rfl ?_; intro g4 w1 ge lt hh bb; have d_sv_p := ne_new (hlt hsv) ge; have op := Nat.le_trans (Nat.le_trans hlo bel.size) ge; have pp := Nat.le_trans bel.size ge; have oa_p := hO.oa ge; have pp := Nat.le_trans bel.size ge; replace hsv := blk_u hsv bb; replace kt := kt.trans (kt_below bb); replace hT := hT.below bb; replace hO := hO.below bb; replace bel := bel.trans (bb.mono (Nat.le_trans hlo bel.size)); have hp := hh; clear hh lt ge bb) | ((with_reducible show wpList _ _ _ (⟨some 6, _, _, _, _, _⟩ :: _) _ _); refine wpList_new_a rfl 43 rfl #[.int .i64 0, .int .i64 0, .int .u32 0, .int .i64 0, .int .i64 0, .int .u8 0, .int .u8 0, .int .u8 0, .int .u8 0, .int .u8 0, .int .u8 0, .int .u8 0, .int .u8 0, .int .u8 0, .int .u8 0, .int .u8 0, .int .u8 0, .int .u8 0, .int .u8 0, .int .u8 0, .int .u8 0, .int .u8 0, .int .u8 0, .int .u8 0, .int .u8 0, .int .u8 0, .int .u8 0, .slice none 0 0, .int .u8 0, .int .u8 0, .int .u8 0, .int .u8 0, .int .u8 0, .int .u8 0, .int .u8 0, .int .u8 0, .int .u8 0, .int .u8 0] (by kernel_rfl) ?_; intro g6 w2 ge hh bb; have d_sv_z := ne_new (hlt hsv) ge; have d_p_z := ne_new (hlt hp) ge; have oz := Nat.le_trans (Nat.le_trans hlo bel.size) ge; have pz := Nat.le_trans bel.size ge; have oa_z := hO.oa ge; have pz := Nat.le_trans bel.size ge; replace hsv := blk_u hsv bb; replace hp := blk_u hp bb; replace kt := kt.trans (kt_below bb); replace hT := hT.below bb; replace hO := hO.below bb; replace bel := bel.trans (bb.mono (Nat.le_trans hlo bel.size)); have hz := hh; clear hh ge bb; have R14 := cell_lit hp 27 _ rfl))
  try clear R14
  with_reducible refine (oaddr_o (a := wa) _ hO HW.out).mono ?_
  rintro e w3 ⟨rfl, b3⟩
  replace hsv := blk_u hsv b3
  replace hp := blk_u hp b3
  replace hz := blk_u hz b3
  replace kt := kt.trans (kt_below b3)
  replace hT := hT.below b3
  replace hO := hO.below b3
  replace bel := bel.trans (b3.mono (Nat.le_trans hlo bel.size))
  clear b3
  go_wp2_with (first | ((with_reducible show wpList _ _ _ (⟨some 8, _, _, _, _, _⟩ :: _) _ _); refine wpList_new_a rfl 28 rfl #[.int .u8 0, .int .u8 0, .int .u8 0, .int .u8 0] (by kernel_rfl) ?_; intro g8 w4 ge hh bb; have d_sv_wb := ne_new (hlt hsv) ge; have d_p_wb := ne_new (hlt hp) ge; have d_z_wb := ne_new (hlt hz) ge; have owb := Nat.le_trans (Nat.le_trans hlo bel.size) ge; have pwb := Nat.le_trans bel.size ge; have oa_wb := hO.oa ge; have pwb := Nat.le_trans bel.size ge; replace hsv := blk_u hsv bb; replace hp := blk_u hp bb; replace hz := blk_u hz bb; replace kt := kt.trans (kt_below bb); replace hT := hT.below bb; replace hO := hO.below bb; replace bel := bel.trans (bb.mono (Nat.le_trans hlo bel.size)); have hwb := hh; clear hh ge bb) | ((with_reducible show wpList _ _ _ (⟨none, Op.store _ (.tmp 8) _, _, _, _, _⟩ :: _) _ _); refine wpList_store_blk rfl 28 (.tmp 8) (.tmp 16) rfl g8 rfl _ rfl _ 28 hwb (by rfl) (by kernel_rfl) (by kernel_rfl) ?_; intro w5 hq gr; replace hsv := blk_a hsv gr d_sv_wb; replace hp := blk_a hp gr d_p_wb; replace hz := blk_a hz gr d_z_wb; replace kt := kt.newer gr pwb bel.size; replace hT := hT.grown gr hwb (by decide) (by decide); replace hO := hO.away oa_wb gr; replace bel := below_grown bel gr owb (Nat.le_trans hlo bel.size); clear hwb; have hwb := hq; clear hq gr))
  go_cut [10, 11] from 9999 (fun s10 s11 W => ∃ g10 : Nat, s10 = .pointer (some ⟨g10, 0, none⟩) ∧ s11 = .int .i64 0 ∧ W.heap[gs]? = some (.cells #[.pointer (some ⟨gp, 0, none⟩), .int .u8 (own.a.toNat : Int), .int .u8 (own.b.toNat : Int), .int .u8 (own.c.toNat : Int), .int .u8 (own.d.toNat : Int), .int .u32 mk, .int .i64 sc, .slice none 0 0] 64 (0, 0)) ∧ W.heap[g4]? = some (.cells #[.int .i64 h.op, .int .i64 h.hops, .int .u32 h.xid, .int .i64 h.secs, .int .i64 h.flags, .int .u8 (h.c0.toNat : Int), .int .u8 (h.c1.toNat : Int), .int .u8 (h.c2.toNat : Int), .int .u8 (h.c3.toNat : Int), .int .u8 (h.y0.toNat : Int), .int .u8 (h.y1.toNat : Int), .int .u8 (h.y2.toNat : Int), .int .u8 (h.y3.toNat : Int), .int .u8 (h.s0.toNat : Int), .int .u8 (h.s1.toNat : Int), .int .u8 (h.s2.toNat : Int), .int .u8 (h.s3.toNat : Int), .int .u8 (h.r0.toNat : Int), .int .u8 (h.r1.toNat : Int), .int .u8 (h.r2.toNat : Int), .int .u8 (h.r3.toNat : Int), .int .u8 (h.m0.toNat : Int), .int .u8 (h.m1.toNat : Int), .int .u8 (h.m2.toNat : Int), .int .u8 (h.m3.toNat : Int), .int .u8 (h.m4.toNat : Int), .int .u8 (h.m5.toNat : Int), .slice A n c] 41 (0, 0)) ∧ W.heap[g6]? = some (.cells #[.int .i64 0, .int .i64 0, .int .u32 0, .int .i64 0, .int .i64 0, .int .u8 0, .int .u8 0, .int .u8 0, .int .u8 0, .int .u8 0, .int .u8 0, .int .u8 0, .int .u8 0, .int .u8 0, .int .u8 0, .int .u8 0, .int .u8 0, .int .u8 0, .int .u8 0, .int .u8 0, .int .u8 0, .int .u8 0, .int .u8 0, .int .u8 0, .int .u8 0, .int .u8 0, .int .u8 0, .slice none 0 0, .int .u8 0, .int .u8 0, .int .u8 0, .int .u8 0, .int .u8 0, .int .u8 0, .int .u8 0, .int .u8 0, .int .u8 0, .int .u8 0] 43 (0, 0)) ∧ W.heap[g8]? = some (.cells #[.int .u8 (wa.a.toNat : Int), .int .u8 (wa.b.toNat : Int), .int .u8 (wa.c.toNat : Int), .int .u8 (wa.d.toNat : Int)] 28 (0, 0)) ∧ W.heap[g10]? = some (.cells #[.int .u8 (a.a.toNat : Int), .int .u8 (a.b.toNat : Int), .int .u8 (a.c.toNat : Int), .int .u8 (a.d.toNat : Int)] 28 (0, 0)) ∧ lo ≤ g10 ∧ w.heap.size ≤ g10 ∧ Hid (g10 ≠ g4) ∧ Hid (g10 ≠ gs) ∧ Hid (g10 ≠ g8) ∧ Hid (g10 ≠ g6) ∧ Hid (g4 ≠ gs) ∧ Hid (g4 ≠ g8) ∧ Hid (g4 ≠ g6) ∧ Hid (gs ≠ g8) ∧ Hid (gs ≠ g6) ∧ Hid (g8 ≠ g6) ∧ Kt [84, 101] w W ∧ Pl lo gp W (s.adv t) ∧ Opv W A n c hs L ∧ Below lo w W)
  case first =>
    replace bel := bel.drew
    replace hsv : w5.drew.heap[gs]? = _ := hsv
    replace hp : w5.drew.heap[g4]? = _ := hp
    replace hz : w5.drew.heap[g6]? = _ := hz
    replace hwb : w5.drew.heap[g8]? = _ := hwb
    replace kt := kt_drew kt
    replace hT := pl_drew hT
    replace hO := hO.drew
    refine wp_region_held_drew (S := fun W => W.heap[gs]? = some (.cells #[.pointer (some ⟨gp, 0, none⟩), .int .u8 (own.a.toNat : Int), .int .u8 (own.b.toNat : Int), .int .u8 (own.c.toNat : Int), .int .u8 (own.d.toNat : Int), .int .u32 mk, .int .i64 sc, .slice none 0 0] 64 (0, 0)) ∧ W.heap[g4]? = some (.cells #[.int .i64 h.op, .int .i64 h.hops, .int .u32 h.xid, .int .i64 h.secs, .int .i64 h.flags, .int .u8 (h.c0.toNat : Int), .int .u8 (h.c1.toNat : Int), .int .u8 (h.c2.toNat : Int), .int .u8 (h.c3.toNat : Int), .int .u8 (h.y0.toNat : Int), .int .u8 (h.y1.toNat : Int), .int .u8 (h.y2.toNat : Int), .int .u8 (h.y3.toNat : Int), .int .u8 (h.s0.toNat : Int), .int .u8 (h.s1.toNat : Int), .int .u8 (h.s2.toNat : Int), .int .u8 (h.s3.toNat : Int), .int .u8 (h.r0.toNat : Int), .int .u8 (h.r1.toNat : Int), .int .u8 (h.r2.toNat : Int), .int .u8 (h.r3.toNat : Int), .int .u8 (h.m0.toNat : Int), .int .u8 (h.m1.toNat : Int), .int .u8 (h.m2.toNat : Int), .int .u8 (h.m3.toNat : Int), .int .u8 (h.m4.toNat : Int), .int .u8 (h.m5.toNat : Int), .slice A n c] 41 (0, 0)) ∧ W.heap[g8]? = some (.cells #[.int .u8 (wa.a.toNat : Int), .int .u8 (wa.b.toNat : Int), .int .u8 (wa.c.toNat : Int), .int .u8 (wa.d.toNat : Int)] 28 (0, 0))) (by kernel_rfl) ⟨hsv, hp, hwb⟩ (fun hH => ?_)
    generalize w5.drew = w6 at bel hsv hp hz hwb kt hT hO hH ⊢
    refine wpAnyH_take (i := 0) (v := ?_) rfl (by kernel_rfl) (by kernel_rfl) (by kernel_rfl) (fun _ _ _ h => h) (Or.inl ⟨by rfl, ?_⟩) hH ?_
    rotate_left
    · ((intro W hW; clear hW; go_simp) <;> with_reducible rfl)
    simp only [Act.put, List.getElem_toArray, List.getElem_cons_zero, List.setIfInBounds_toArray, List.set_cons_zero, List.set_cons_succ]
    refine wpAnyH_take (i := 1) (v := ?_) rfl (by kernel_rfl) (by kernel_rfl) (by kernel_rfl) (fun _ _ _ h => h) (Or.inl ⟨by rfl, ?_⟩) hH ?_
    rotate_left
    · ((intro W hW; clear hW; go_simp) <;> with_reducible rfl)
    simp only [sq3, sq4]
    refine wpAnyH_take (i := 2) (v := ?_) rfl (by kernel_rfl) (by kernel_rfl) (by kernel_rfl) (fun _ _ _ h => h) (Or.inl ⟨by rfl, ?_⟩) hH ?_
    rotate_left
    · ((intro W hW; clear hW; go_simp) <;> with_reducible rfl)
    simp only [sq3, sq4]
    refine wpAnyH_take (i := 3) (v := ?_) rfl (by kernel_rfl) (by kernel_rfl) (by kernel_rfl) (fun _ _ _ h => h) (Or.inl ⟨by rfl, ?_⟩) hH ?_
    rotate_left
    · ((intro W hW; have hk := cell_lit (hW.1) 0 _ rfl; clear hW; go_simp) <;> with_reducible rfl)
    simp only [sq3, sq4]
    refine wpAnyH_take (i := 4) (v := ?_) rfl (by kernel_rfl) (by kernel_rfl) (by kernel_rfl) (fun _ _ _ h => h) (Or.inl ⟨by rfl, ?_⟩) hH ?_
    rotate_left
    · ((intro W hW; clear hW; go_simp) <;> with_reducible rfl)
    simp only [sq3, sq4]
    refine wpAnyH_take (i := 5) (v := .agg #[.int .u8 (h.m0.toNat : Int), .int .u8 (h.m1.toNat : Int), .int .u8 (h.m2.toNat : Int), .int .u8 (h.m3.toNat : Int), .int .u8 (h.m4.toNat : Int), .int .u8 (h.m5.toNat : Int)]) rfl (by kernel_rfl) (by kernel_rfl) (by kernel_rfl) (fun _ _ _ h => h) (yieldsIf_load_part (by kernel_rfl) 32 _ rfl g4 21 6 rfl _ 41 (0, 0) (fun W hW => hW.2.1) _ rfl _ Try.underlying32 rfl (by kernel_rfl)) hH ?_
    simp only [sq3, sq4]
    refine wpAnyH_take (i := 6) (v := .agg #[.int .u8 (wa.a.toNat : Int), .int .u8 (wa.b.toNat : Int), .int .u8 (wa.c.toNat : Int), .int .u8 (wa.d.toNat : Int)]) rfl (by kernel_rfl) (by kernel_rfl) (by kernel_rfl) (fun _ _ _ h => h) (yieldsIf_load_part (by kernel_rfl) 28 _ rfl g8 0 4 rfl _ 28 (0, 0) (fun W hW => hW.2.2) _ rfl _ Try.underlying28 rfl (by kernel_rfl)) hH ?_
    simp only [sq3, sq4]
    refine wpAnyH_take (i := 7) (v := ?_) rfl (by kernel_rfl) (by kernel_rfl) (by kernel_rfl) (fun _ _ _ h => h) (Or.inl ⟨by rfl, ?_⟩) hH ?_
    rotate_left
    · ((intro W hW; clear hW; go_simp) <;> with_reducible rfl)
    simp only [sq3, sq4]
    refine wpAnyH_ready (rs := [8, 12]) (by kernel_rfl) (by simp) ?_
    refine AllReadyH.cons (o := _) rfl (fun K hK => ?_) (AllReadyH.cons (o := _) rfl (fun K hK => ?_) AllReadyH.nil)
    · simp only [sq3]
      go_simp
      with_reducible refine (poffer_any (⟨h.m0, h.m1, h.m2, h.m3, h.m4, h.m5⟩ : Mc6) wa t _ hT HR.out).mono ?_
      rintro e w7 ⟨rfl, hT_, k_, bb⟩
      dsimp only
      replace hsv := Kt.blk k_ hsv (by decide)
      replace hp := Kt.blk k_ hp (by decide)
      replace hz := Kt.blk k_ hz (by decide)
      replace hwb := Kt.blk k_ hwb (by decide)
      replace kt := kt.trans k_
      replace hO := hO.kt k_
      clear hT
      have hT := hT_
      replace bel := bel.trans bb
      clear bb k_ hT_
      refine hK.out _ _ ⟨hsv, hp, hwb⟩ (fun hH8 => ?_)
      clear hK K
      refine wpAnyH_take (i := 9) (v := ?_) rfl (by kernel_rfl) (by kernel_rfl) (by kernel_rfl) (fun _ _ _ h => h) (Or.inl ⟨by rfl, ?_⟩) hH8 ?_
      rotate_left
      · ((intro W hW; clear hW; go_simp) <;> with_reducible rfl)
      simp only [sq3, sq4]
      refine wpAnyH_take (i := 10) (v := ?_) rfl (by kernel_rfl) (by kernel_rfl) (by kernel_rfl) (fun _ _ _ h => h) (Or.inl ⟨by rfl, ?_⟩) hH8 ?_
      rotate_left
      · ((intro W hW; clear hW; go_simp) <;> with_reducible rfl)
      simp only [sq3, sq4]
      refine wpAnyH_take (i := 11) (v := ?_) rfl (by kernel_rfl) (by kernel_rfl) (by kernel_rfl) (fun _ _ _ h => h) (Or.inl ⟨by rfl, ?_⟩) hH8 ?_
      rotate_left
      · ((intro W hW; clear hW; go_simp) <;> with_reducible rfl)
      simp only [sq3, sq4]
      refine wpAnyH_ready (rs := [12]) (by kernel_rfl) (by simp) ?_
      refine AllReadyH.cons (o := _) rfl (fun K hK => ?_) AllReadyH.nil
      simp only [sq3]
      rw [if_pos (by rfl)]
      refine wp_new_a 28 rfl #[.int .u8 0, .int .u8 0, .int .u8 0, .int .u8 0] (by kernel_rfl) ?_
      intro g10 w9 ge hh bb
      have d_sv_ab := ne_new (hlt hsv) ge
      have d_p_ab := ne_new (hlt hp) ge
      have d_z_ab := ne_new (hlt hz) ge
      have d_wb_ab := ne_new (hlt hwb) ge
      have oab := Nat.le_trans (Nat.le_trans hlo bel.size) ge
      have pab := Nat.le_trans bel.size ge
      have oa_ab := hO.oa ge
      have pab := Nat.le_trans bel.size ge
      replace hsv := blk_u hsv bb
      replace hp := blk_u hp bb
      replace hz := blk_u hz bb
      replace hwb := blk_u hwb bb
      replace kt := kt.trans (kt_below bb)
      replace hT := hT.below bb
      replace hO := hO.below bb
      replace bel := bel.trans (bb.mono (Nat.le_trans hlo bel.size))
      have hab := hh
      clear hh ge bb
      refine hK.out _ _ ⟨hsv, hp, hwb⟩ (fun hH10 => ?_)
      clear hK K
      simp only [sq4]
      refine wpAnyH_ready (rs := [13]) (by kernel_rfl) (by simp) ?_
      refine AllReadyH.cons (o := _) rfl (fun K hK => ?_) AllReadyH.nil
      simp only [sq3]
      rw [if_pos (by rfl)]
      refine wp_store_blk 28 (.tmp 10) (.tmp 28) rfl g10 rfl _ rfl _ 28 hab (by rfl) (by kernel_rfl) (by kernel_rfl) ?_
      intro w11 hq gr
      replace hsv := blk_a hsv gr d_sv_ab
      replace hp := blk_a hp gr d_p_ab
      replace hz := blk_a hz gr d_z_ab
      replace hwb := blk_a hwb gr d_wb_ab
      replace kt := kt.newer gr pab bel.size
      replace hT := hT.grown gr hab (by decide) (by decide)
      replace hO := hO.away oa_ab gr
      replace bel := below_grown bel gr oab (Nat.le_trans hlo bel.size)
      clear hab
      have hab := hq
      clear hq gr
      refine hK.out _ _ ⟨hsv, hp, hwb⟩ (fun hH12 => ?_)
      clear hK K
      simp only [Act.put]
      refine wpAnyH_take (i := 14) (v := ?_) rfl (by kernel_rfl) (by kernel_rfl) (by kernel_rfl) (fun _ _ _ h => h) (Or.inl ⟨by rfl, ?_⟩) hH12 ?_
      rotate_left
      · ((intro W hW; clear hW; go_simp) <;> with_reducible rfl)
      simp only [sq3, sq4]
      refine wpAnyH_done (by kernel_rfl) ?_ _
      go_wp2_with fail
      go_meet
      case rel => exact ⟨g10, rfl, rfl, hsv, hp, hz, hwb, hab, oab, pab, (ne_symm d_p_ab), (ne_symm d_sv_ab), (ne_symm d_wb_ab), (ne_symm d_z_ab), (ne_symm d_sv_p), d_p_wb, d_p_z, d_sv_wb, d_sv_z, (ne_symm d_z_wb), kt, hT, hO, bel⟩
    simp only [sq3]
    rw [if_pos (by rfl)]
    refine wp_new_a 28 rfl #[.int .u8 0, .int .u8 0, .int .u8 0, .int .u8 0] (by kernel_rfl) ?_
    intro g10 w7 ge hh bb
    have d_sv_ab := ne_new (hlt hsv) ge
    have d_p_ab := ne_new (hlt hp) ge
    have d_z_ab := ne_new (hlt hz) ge
    have d_wb_ab := ne_new (hlt hwb) ge
    have oab := Nat.le_trans (Nat.le_trans hlo bel.size) ge
    have pab := Nat.le_trans bel.size ge
    have oa_ab := hO.oa ge
    have pab := Nat.le_trans bel.size ge
    replace hsv := blk_u hsv bb
    replace hp := blk_u hp bb
    replace hz := blk_u hz bb
    replace hwb := blk_u hwb bb
    replace kt := kt.trans (kt_below bb)
    replace hT := hT.below bb
    replace hO := hO.below bb
    replace bel := bel.trans (bb.mono (Nat.le_trans hlo bel.size))
    have hab := hh
    clear hh ge bb
    refine hK.out _ _ ⟨hsv, hp, hwb⟩ (fun hH8 => ?_)
    clear hK K
    simp only [sq4]
    refine wpAnyH_ready (rs := [8]) (by kernel_rfl) (by simp) ?_
    refine AllReadyH.cons (o := _) rfl (fun K hK => ?_) AllReadyH.nil
    simp only [sq3]
    go_simp
    with_reducible refine (poffer_any (⟨h.m0, h.m1, h.m2, h.m3, h.m4, h.m5⟩ : Mc6) wa t _ hT HR.out).mono ?_
    rintro e w9 ⟨rfl, hT_, k_, bb⟩
    dsimp only
    replace hsv := Kt.blk k_ hsv (by decide)
    replace hp := Kt.blk k_ hp (by decide)
    replace hz := Kt.blk k_ hz (by decide)
    replace hwb := Kt.blk k_ hwb (by decide)
    replace hab := Kt.blk k_ hab (by decide)
    replace kt := kt.trans k_
    replace hO := hO.kt k_
    clear hT
    have hT := hT_
    replace bel := bel.trans bb
    clear bb k_ hT_
    refine hK.out _ _ ⟨hsv, hp, hwb⟩ (fun hH10 => ?_)
    clear hK K
    refine wpAnyH_take (i := 9) (v := ?_) rfl (by kernel_rfl) (by kernel_rfl) (by kernel_rfl) (fun _ _ _ h => h) (Or.inl ⟨by rfl, ?_⟩) hH10 ?_
    rotate_left
    · ((intro W hW; clear hW; go_simp) <;> with_reducible rfl)
    simp only [sq3, sq4]
    refine wpAnyH_take (i := 10) (v := ?_) rfl (by kernel_rfl) (by kernel_rfl) (by kernel_rfl) (fun _ _ _ h => h) (Or.inl ⟨by rfl, ?_⟩) hH10 ?_
    rotate_left
    · ((intro W hW; clear hW; go_simp) <;> with_reducible rfl)
    simp only [sq3, sq4]
    refine wpAnyH_take (i := 11) (v := ?_) rfl (by kernel_rfl) (by kernel_rfl) (by kernel_rfl) (fun _ _ _ h => h) (Or.inl ⟨by rfl, ?_⟩) hH10 ?_
    rotate_left
    · ((intro W hW; clear hW; go_simp) <;> with_reducible rfl)
    simp only [sq3, sq4]
    refine wpAnyH_ready (rs := [13]) (by kernel_rfl) (by simp) ?_
    refine AllReadyH.cons (o := _) rfl (fun K hK => ?_) AllReadyH.nil
    simp only [sq3]
    rw [if_pos (by rfl)]
    refine wp_store_blk 28 (.tmp 10) (.tmp 28) rfl g10 rfl _ rfl _ 28 hab (by rfl) (by kernel_rfl) (by kernel_rfl) ?_
    intro w11 hq gr
    replace hsv := blk_a hsv gr d_sv_ab
    replace hp := blk_a hp gr d_p_ab
    replace hz := blk_a hz gr d_z_ab
    replace hwb := blk_a hwb gr d_wb_ab
    replace kt := kt.newer gr pab bel.size
    replace hT := hT.grown gr hab (by decide) (by decide)
    replace hO := hO.away oa_ab gr
    replace bel := below_grown bel gr oab (Nat.le_trans hlo bel.size)
    clear hab
    have hab := hq
    clear hq gr
    refine hK.out _ _ ⟨hsv, hp, hwb⟩ (fun hH12 => ?_)
    clear hK K
    simp only [Act.put]
    refine wpAnyH_take (i := 14) (v := ?_) rfl (by kernel_rfl) (by kernel_rfl) (by kernel_rfl) (fun _ _ _ h => h) (Or.inl ⟨by rfl, ?_⟩) hH12 ?_
    rotate_left
    · ((intro W hW; clear hW; go_simp) <;> with_reducible rfl)
    simp only [sq3, sq4]
    refine wpAnyH_done (by kernel_rfl) ?_ _
    go_wp2_with fail
    go_meet
    case rel => exact ⟨g10, rfl, rfl, hsv, hp, hz, hwb, hab, oab, pab, (ne_symm d_p_ab), (ne_symm d_sv_ab), (ne_symm d_wb_ab), (ne_symm d_z_ab), (ne_symm d_sv_p), d_p_wb, d_p_z, d_sv_wb, d_sv_z, (ne_symm d_z_wb), kt, hT, hO, bel⟩
  obtain ⟨w13, hw_⟩ : ∃ x, x = wc := ⟨_, rfl⟩
  subst hw_
  obtain ⟨g10, rfl, rfl, hsv, hp, hz, hwb, hab, oab, pab, d_ab_p, d_ab_sv, d_ab_wb, d_ab_z, d_p_sv, d_p_wb, d_p_z, d_sv_wb, d_sv_z, d_wb_z, kt, hT, hO, bel⟩ := hcut
  have R34 := Lib.hid (range_lit hp 0 28 [.int .i64 h.op, .int .i64 h.hops, .int .u32 h.xid, .int .i64 h.secs, .int .i64 h.flags, .int .u8 (h.c0.toNat : Int), .int .u8 (h.c1.toNat : Int), .int .u8 (h.c2.toNat : Int), .int .u8 (h.c3.toNat : Int), .int .u8 (h.y0.toNat : Int), .int .u8 (h.y1.toNat : Int), .int .u8 (h.y2.toNat : Int), .int .u8 (h.y3.toNat : Int), .int .u8 (h.s0.toNat : Int), .int .u8 (h.s1.toNat : Int), .int .u8 (h.s2.toNat : Int), .int .u8 (h.s3.toNat : Int), .int .u8 (h.r0.toNat : Int), .int .u8 (h.r1.toNat : Int), .int .u8 (h.r2.toNat : Int), .int .u8 (h.r3.toNat : Int), .int .u8 (h.m0.toNat : Int), .int .u8 (h.m1.toNat : Int), .int .u8 (h.m2.toNat : Int), .int .u8 (h.m3.toNat : Int), .int .u8 (h.m4.toNat : Int), .int .u8 (h.m5.toNat : Int), .slice A n c] rfl)
  go_wp2_with (first | ((with_reducible show wpList _ _ _ (⟨some 34, _, _, _, _, _⟩ :: _) _ _); refine wpList_load_rng 41 (.tmp 4) rfl (by kernel_rfl) _ _ rfl _ R34.out _ Try.underlying41 rfl (by kernel_rfl) ?_; have R35 := Lib.hid (range_lit hab 0 4 [.int .u8 (a.a.toNat : Int), .int .u8 (a.b.toNat : Int), .int .u8 (a.c.toNat : Int), .int .u8 (a.d.toNat : Int)] rfl)) | ((with_reducible show wpList _ _ _ (⟨some 35, _, _, _, _, _⟩ :: _) _ _); refine wpList_load_rng 28 (.tmp 10) rfl (by kernel_rfl) _ _ rfl _ R35.out _ Try.underlying28 rfl (by kernel_rfl) ?_))
  try clear R34
  try clear R35
  have sp_sv := hlt hsv
  have sp_p := hlt hp
  have sp_z := hlt hz
  have sp_wb := hlt hwb
  have sp_ab := hlt hab
  have hwz := bel.size
  with_reducible refine (sans_offer_your _ hsv hO HS0.out HS1.out HTY.out (by decide) HCL.out HFL.out).mono ?_
  rintro e w14 ⟨A2, c2, hs2, rfl, hP, fP, b14⟩
  replace hsv := blk_u hsv b14
  replace hp := blk_u hp b14
  replace hz := blk_u hz b14
  replace hwb := blk_u hwb b14
  replace hab := blk_u hab b14
  replace kt := kt.trans (kt_below b14)
  replace hT := hT.below b14
  replace hO := hO.below b14
  replace bel := bel.trans (b14.mono (Nat.le_trans hlo bel.size))
  clear b14
  have fA : ∀ q, q < w.heap.size → Oa A2 6 hs2 q := fun q_ hq_ => fP q_ (Nat.lt_of_lt_of_le hq_ hwz)
  clear hwz
  have ob_sv := fP _ sp_sv
  have ob_p := fP _ sp_p
  have ob_z := fP _ sp_z
  have ob_wb := fP _ sp_wb
  have ob_ab := fP _ sp_ab
  clear sp_sv sp_p sp_z sp_wb sp_ab
  clear fP
  go_wp2_with (first | ((with_reducible show wpList _ _ _ (⟨none, Op.store _ (.tmp 6) _, _, _, _, _⟩ :: _) _ _); refine wpList_store_blk rfl 43 (.tmp 6) (.tmp 36) rfl g6 rfl _ rfl _ 43 hz (by rfl) (by kernel_rfl) (by kernel_rfl) ?_; intro w15 hq gr; replace hsv := blk_a hsv gr d_sv_z; replace hp := blk_a hp gr d_p_z; replace hwb := blk_a hwb gr d_wb_z; replace hab := blk_a hab gr d_ab_z; replace kt := kt.newer gr pz bel.size; replace hT := hT.grown gr hz (by decide) (by decide); replace hO := hO.away oa_z gr; replace hP := hP.away ob_z gr; replace bel := below_grown bel gr oz (Nat.le_trans hlo bel.size); clear hz; have hz := hq; clear hq gr))
  exact bodyPost_ret (results_cell_tmp_row rfl _ _ _ _ _ _ _ rfl hz Try.underlying43 rfl (by kernel_rfl) (.bool true) rfl) rfl ⟨_, _, _, rfl, hP, fA, ⟨hsv, osv, hT⟩, kt, bel⟩
set_option linter.unusedVariables false in
set_option linter.unusedSimpArgs false in
set_option maxRecDepth 100000 in
set_option maxHeartbeats 16000000 in
theorem stake_opt_your {lo gs gp : Nat} {own : Ad4} {mk sc : Int} {s : St} {h : Mh} {A : Option Addr} {n c : Nat} {hs : List Oh} {L : OptL} {sa a : Ad4} {t : Int} {s' : St} (w : World) (hS : Sv lo gs gp w ⟨own, mk, sc⟩ s) (hO : Opv w A n c hs L) (hs0 : 0 ≤ sc) (hs1 : sc < 4294967296) (hty : (typeL L : Int) = 3) (h54 : fourL (findL L 54) = (sa.l, false)) (hw : fourL (findL L 50) = (Ad4.l a, true)) (ha0 : a.eqB Ad4.zero = false) (hr : takeS s h.mc a t sc = (0, s')) (hcl : h.cl.eqB Ad4.zero = true) (hfl : (bits .and .i64 h.flags 32768 != 0) = false) : Calls Try.prog 21 #[.pointer (some ⟨gs, 0, none⟩), .agg #[.int .i64 h.op, .int .i64 h.hops, .int .u32 h.xid, .int .i64 h.secs, .int .i64 h.flags, .int .u8 (h.c0.toNat : Int), .int .u8 (h.c1.toNat : Int), .int .u8 (h.c2.toNat : Int), .int .u8 (h.c3.toNat : Int), .int .u8 (h.y0.toNat : Int), .int .u8 (h.y1.toNat : Int), .int .u8 (h.y2.toNat : Int), .int .u8 (h.y3.toNat : Int), .int .u8 (h.s0.toNat : Int), .int .u8 (h.s1.toNat : Int), .int .u8 (h.s2.toNat : Int), .int .u8 (h.s3.toNat : Int), .int .u8 (h.r0.toNat : Int), .int .u8 (h.r1.toNat : Int), .int .u8 (h.r2.toNat : Int), .int .u8 (h.r3.toNat : Int), .int .u8 (h.m0.toNat : Int), .int .u8 (h.m1.toNat : Int), .int .u8 (h.m2.toNat : Int), .int .u8 (h.m3.toNat : Int), .int .u8 (h.m4.toNat : Int), .int .u8 (h.m5.toNat : Int), .slice A n c], .int .i64 t] w fun e w' => ∃ A2 c2 hs2, e = .returned (.tuple #[.agg #[.int .i64 2, .int .i64 0, .int .u32 h.xid, .int .i64 0, .int .i64 h.flags, .int .u8 (h.c0.toNat : Int), .int .u8 (h.c1.toNat : Int), .int .u8 (h.c2.toNat : Int), .int .u8 (h.c3.toNat : Int), .int .u8 (a.a.toNat : Int), .int .u8 (a.b.toNat : Int), .int .u8 (a.c.toNat : Int), .int .u8 (a.d.toNat : Int), .int .u8 (own.a.toNat : Int), .int .u8 (own.b.toNat : Int), .int .u8 (own.c.toNat : Int), .int .u8 (own.d.toNat : Int), .int .u8 (h.r0.toNat : Int), .int .u8 (h.r1.toNat : Int), .int .u8 (h.r2.toNat : Int), .int .u8 (h.r3.toNat : Int), .int .u8 (h.m0.toNat : Int), .int .u8 (h.m1.toNat : Int), .int .u8 (h.m2.toNat : Int), .int .u8 (h.m3.toNat : Int), .int .u8 (h.m4.toNat : Int), .int .u8 (h.m5.toNat : Int), .slice A2 6 c2, .int .u8 (h.m0.toNat : Int), .int .u8 (h.m1.toNat : Int), .int .u8 (h.m2.toNat : Int), .int .u8 (h.m3.toNat : Int), .int .u8 (h.m4.toNat : Int), .int .u8 (h.m5.toNat : Int), .int .u8 (a.a.toNat : Int), .int .u8 (a.b.toNat : Int), .int .u8 (a.c.toNat : Int), .int .u8 (a.d.toNat : Int)], .bool true]) ∧ Opv w' A2 6 c2 hs2 [(53, [5]), (54, own.l), (51, four sc), (1, four mk), (3, own.l), (6, own.l)] ∧ (∀ q, q < w.heap.size → Oa A2 6 hs2 q) ∧ Sv lo gs gp w' ⟨own, mk, sc⟩ s' ∧ Kt [84, 101] w w' ∧ Below lo w w' := by
  obtain ⟨hsv, osv, hT⟩ := hS
  dsimp only at hsv
  have hlo : lo ≤ w.heap.size := Nat.le_trans osv (Nat.le_of_lt (hlt hsv))
  have kt := Kt.refl [84, 101] w
  have HS0 := Lib.hid hs0
  clear hs0
  have HS1 := Lib.hid hs1
  clear hs1
  have HTY := Lib.hid hty
  clear hty
  have HR := Lib.hid hr
  clear hr
  have H54 := Lib.hid h54
  clear h54
  have HW := Lib.hid hw
  clear hw
  have HA0 := Lib.hid ha0
  clear ha0
  have HCL := Lib.hid hcl
  clear hcl
  have HFL := Lib.hid hfl
  clear hfl
  have bel := Below.refl lo w
  go_enter Try.func21, Try.ntmps21
  go_wp2_with (first | ((with_reducible show wpList _ _ _ (⟨some 4, _, _, _, _, _⟩ :: _) _ _); refine wpList_box_n rfl 41 (.tmp 1) rfl #[.int .i64 h.op, .int .i64 h.hops, .int .u32 h.xid, .int .i64 h.secs, .int .i64 h.flags, .int .u8 (h.c0.toNat : Int), .int .u8 (h.c1.toNat : Int), .int .u8 (h.c2.toNat : Int), .int .u8 (h.c3.toNat : Int), .int .u8 (h.y0.toNat : Int), .int .u8 (h.y1.toNat : Int), .int .u8 (h.y2.toNat : Int), .int .u8 (h.y3.toNat : Int), .int .u8 (h.s0.toNat : Int), .int .u8 (h.s1.toNat : Int), .int .u8 (h.s2.toNat : Int), .int .u8 (h.s3.toNat : Int), .int .u8 (h.r0.toNat : Int), .int .u8 (h.r1.toNat : Int), .int .u8 (h.r2.toNat : Int), .int .u8 (h.r3.toNat : Int), .int .u8 (h.m0.toNat : Int), .int .u8 (h.m1.toNat : Int), .int .u8 (h.m2.toNat : Int), .int .u8 (h.m3.toNat : Int), .int .u8 (h.m4.toNat : Int), .int .u8 (h.m5.toNat : Int), .slice A n c] rfl ?_; intro g4 w1 ge lt hh bb; have d_sv_p := ne_new (hlt hsv) ge; have op := Nat.le_trans (Nat.le_trans hlo bel.size) ge; have pp := Nat.le_trans bel.size ge; have oa_p := hO.oa ge; have pp := Nat.le_trans bel.size ge; replace hsv := blk_u hsv bb; replace kt := kt.trans (kt_below bb); replace hT := hT.below bb; replace hO := hO.below bb; replace bel := bel.trans (bb.mono (Nat.le_trans hlo bel.size)); have hp := hh; clear hh lt ge bb) | ((with_reducible show wpList _ _ _ (⟨some 6, _, _, _, _, _⟩ :: _) _ _); refine wpList_new_a rfl 43 rfl #[.int .i64 0, .int .i64 0, .int .u32 0, .int .i64 0, .int .i64 0, .int .u8 0, .int .u8 0, .int .u8 0, .int .u8 0, .int .u8 0, .int .u8 0, .int .u8 0, .int .u8 0, .int .u8 0, .int .u8 0, .int .u8 0, .int .u8 0, .int .u8 0, .int .u8 0, .int .u8 0, .int .u8 0, .int .u8 0, .int .u8 0, .int .u8 0, .int .u8 0, .int .u8 0, .int .u8 0, .slice none 0 0, .int .u8 0, .int .u8 0, .int .u8 0, .int .u8 0, .int .u8 0, .int .u8 0, .int .u8 0, .int .u8 0, .int .u8 0, .int .u8 0] (by kernel_rfl) ?_; intro g6 w2 ge hh bb; have d_sv_z := ne_new (hlt hsv) ge; have d_p_z := ne_new (hlt hp) ge; have oz := Nat.le_trans (Nat.le_trans hlo bel.size) ge; have pz := Nat.le_trans bel.size ge; have oa_z := hO.oa ge; have pz := Nat.le_trans bel.size ge; replace hsv := blk_u hsv bb; replace hp := blk_u hp bb; replace kt := kt.trans (kt_below bb); replace hT := hT.below bb; replace hO := hO.below bb; replace bel := bel.trans (bb.mono (Nat.le_trans hlo bel.size)); have hz := hh; clear hh ge bb; have R14 := cell_lit hp 27 _ rfl))
  try clear R14
  with_reducible refine (oaddr_o (a := sa) _ hO H54.out).mono ?_
  rintro e w3 ⟨rfl, b3⟩
  replace hsv := blk_u hsv b3
  replace hp := blk_u hp b3
  replace hz := blk_u hz b3
  replace kt := kt.trans (kt_below b3)
  replace hT := hT.below b3
  replace hO := hO.below b3
  replace bel := bel.trans (b3.mono (Nat.le_trans hlo bel.size))
  clear b3
  go_wp2_with (first | ((with_reducible show wpList _ _ _ (⟨some 8, _, _, _, _, _⟩ :: _) _ _); refine wpList_new_a rfl 28 rfl #[.int .u8 0, .int .u8 0, .int .u8 0, .int .u8 0] (by kernel_rfl) ?_; intro g8 w4 ge hh bb; have d_sv_sb := ne_new (hlt hsv) ge; have d_p_sb := ne_new (hlt hp) ge; have d_z_sb := ne_new (hlt hz) ge; have osb := Nat.le_trans (Nat.le_trans hlo bel.size) ge; have psb := Nat.le_trans bel.size ge; have oa_sb := hO.oa ge; have psb := Nat.le_trans bel.size ge; replace hsv := blk_u hsv bb; replace hp := blk_u hp bb; replace hz := blk_u hz bb; replace kt := kt.trans (kt_below bb); replace hT := hT.below bb; replace hO := hO.below bb; replace bel := bel.trans (bb.mono (Nat.le_trans hlo bel.size)); have hsb := hh; clear hh ge bb) | ((with_reducible show wpList _ _ _ (⟨none, Op.store _ (.tmp 8) _, _, _, _, _⟩ :: _) _ _); refine wpList_store_blk rfl 28 (.tmp 8) (.tmp 16) rfl g8 rfl _ rfl _ 28 hsb (by rfl) (by kernel_rfl) (by kernel_rfl) ?_; intro w5 hq gr; replace hsv := blk_a hsv gr d_sv_sb; replace hp := blk_a hp gr d_p_sb; replace hz := blk_a hz gr d_z_sb; replace kt := kt.newer gr psb bel.size; replace hT := hT.grown gr hsb (by decide) (by decide); replace hO := hO.away oa_sb gr; replace bel := below_grown bel gr osb (Nat.le_trans hlo bel.size); clear hsb; have hsb := hq; clear hq gr))
  replace bel := bel.drew
  replace hsv : w5.drew.heap[gs]? = _ := hsv
  replace hp : w5.drew.heap[g4]? = _ := hp
  replace hz : w5.drew.heap[g6]? = _ := hz
  replace hsb : w5.drew.heap[g8]? = _ := hsb
  replace kt := kt_drew kt
  replace hT := pl_drew hT
  replace hO := hO.drew
  refine wp_region_held_drew (S := fun W => W.heap[g8]? = some (.cells #[.int .u8 (sa.a.toNat : Int), .int .u8 (sa.b.toNat : Int), .int .u8 (sa.c.toNat : Int), .int .u8 (sa.d.toNat : Int)] 28 (0, 0)) ∧ W.heap[gs]? = some (.cells #[.pointer (some ⟨gp, 0, none⟩), .int .u8 (own.a.toNat : Int), .int .u8 (own.b.toNat : Int), .int .u8 (own.c.toNat : Int), .int .u8 (own.d.toNat : Int), .int .u32 mk, .int .i64 sc, .slice none 0 0] 64 (0, 0))) (by kernel_rfl) ⟨hsb, hsv⟩ (fun hH => ?_)
  generalize w5.drew = w6 at bel hsv hp hz hsb kt hT hO hH ⊢
  refine wpAnyH_take (i := 0) (v := ?_) rfl (by kernel_rfl) (by kernel_rfl) (by kernel_rfl) (fun _ _ _ h => h) (Or.inl ⟨by rfl, ?_⟩) hH ?_
  rotate_left
  · ((intro W hW; clear hW; go_simp) <;> with_reducible rfl)
  simp only [Act.put, List.getElem_toArray, List.getElem_cons_zero, List.setIfInBounds_toArray, List.set_cons_zero, List.set_cons_succ]
  refine wpAnyH_take (i := 1) (v := ?_) rfl (by kernel_rfl) (by kernel_rfl) (by kernel_rfl) (fun _ _ _ h => h) (Or.inl ⟨by rfl, ?_⟩) hH ?_
  rotate_left
  · ((intro W hW; clear hW; go_simp) <;> with_reducible rfl)
  simp only [sq3, sq4]
  refine wpAnyH_take (i := 2) (v := undef) rfl (by kernel_rfl) (by kernel_rfl) (by kernel_rfl) (fun _ _ _ h => h) (Or.inr ⟨by rfl, rfl⟩) hH ?_
  simp only [sq3, sq4]
  refine wpAnyH_take (i := 3) (v := undef) rfl (by kernel_rfl) (by kernel_rfl) (by kernel_rfl) (fun _ _ _ h => h) (Or.inr ⟨by rfl, rfl⟩) hH ?_
  simp only [sq3, sq4]
  refine wpAnyH_take (i := 4) (v := undef) rfl (by kernel_rfl) (by kernel_rfl) (by kernel_rfl) (fun _ _ _ h => h) (Or.inr ⟨by rfl, rfl⟩) hH ?_
  simp only [sq3, sq4]
  refine wpAnyH_take (i := 5) (v := undef) rfl (by kernel_rfl) (by kernel_rfl) (by kernel_rfl) (fun _ _ _ h => h) (Or.inr ⟨by rfl, rfl⟩) hH ?_
  simp only [sq3, sq4]
  refine wpAnyH_take (i := 6) (v := undef) rfl (by kernel_rfl) (by kernel_rfl) (by kernel_rfl) (fun _ _ _ h => h) (Or.inr ⟨by rfl, rfl⟩) hH ?_
  simp only [sq3, sq4]
  refine wpAnyH_take (i := 7) (v := undef) rfl (by kernel_rfl) (by kernel_rfl) (by kernel_rfl) (fun _ _ _ h => h) (Or.inr ⟨by rfl, rfl⟩) hH ?_
  simp only [sq3, sq4]
  refine wpAnyH_take (i := 8) (v := ?_) rfl (by kernel_rfl) (by kernel_rfl) (by kernel_rfl) (fun _ _ _ h => h) (Or.inl ⟨by rfl, ?_⟩) hH ?_
  rotate_left
  · ((intro W hW; clear hW; go_simp) <;> with_reducible rfl)
  simp only [sq3, sq4]
  refine wpAnyH_done (by kernel_rfl) ?_ _
  have R30 := cell_lit hp 27 _ rfl
  go_wp2_with fail
  clear R30
  with_reducible refine (oaddr_o (a := a) _ hO HW.out).mono ?_
  rintro e w7 ⟨rfl, b7⟩
  replace hsv := blk_u hsv b7
  replace hp := blk_u hp b7
  replace hz := blk_u hz b7
  replace hsb := blk_u hsb b7
  replace kt := kt.trans (kt_below b7)
  replace hT := hT.below b7
  replace hO := hO.below b7
  replace bel := bel.trans (b7.mono (Nat.le_trans hlo bel.size))
  clear b7
  go_wp2_with (first | ((with_reducible show wpList _ _ _ (⟨some 10, _, _, _, _, _⟩ :: _) _ _); refine wpList_new_a rfl 28 rfl #[.int .u8 0, .int .u8 0, .int .u8 0, .int .u8 0] (by kernel_rfl) ?_; intro g10 w8 ge hh bb; have d_sv_ab := ne_new (hlt hsv) ge; have d_p_ab := ne_new (hlt hp) ge; have d_z_ab := ne_new (hlt hz) ge; have d_sb_ab := ne_new (hlt hsb) ge; have oab := Nat.le_trans (Nat.le_trans hlo bel.size) ge; have pab := Nat.le_trans bel.size ge; have oa_ab := hO.oa ge; have pab := Nat.le_trans bel.size ge; replace hsv := blk_u hsv bb; replace hp := blk_u hp bb; replace hz := blk_u hz bb; replace hsb := blk_u hsb bb; replace kt := kt.trans (kt_below bb); replace hT := hT.below bb; replace hO := hO.below bb; replace bel := bel.trans (bb.mono (Nat.le_trans hlo bel.size)); have hab := hh; clear hh ge bb) | ((with_reducible show wpList _ _ _ (⟨none, Op.store _ (.tmp 10) _, _, _, _, _⟩ :: _) _ _); refine wpList_store_blk rfl 28 (.tmp 10) (.tmp 32) rfl g10 rfl _ rfl _ 28 hab (by rfl) (by kernel_rfl) (by kernel_rfl) ?_; intro w9 hq gr; replace hsv := blk_a hsv gr d_sv_ab; replace hp := blk_a hp gr d_p_ab; replace hz := blk_a hz gr d_z_ab; replace hsb := blk_a hsb gr d_sb_ab; replace kt := kt.newer gr pab bel.size; replace hT := hT.grown gr hab (by decide) (by decide); replace hO := hO.away oa_ab gr; replace bel := below_grown bel gr oab (Nat.le_trans hlo bel.size); clear hab; have hab := hq; clear hq gr; have R38 := Lib.hid (range_lit hab 0 4 [.int .u8 (a.a.toNat : Int), .int .u8 (a.b.toNat : Int), .int .u8 (a.c.toNat : Int), .int .u8 (a.d.toNat : Int)] rfl)) | ((with_reducible show wpList _ _ _ (⟨some 38, _, _, _, _, _⟩ :: _) _ _); refine wpList_load_rng 28 (.tmp 10) rfl (by kernel_rfl) _ _ rfl _ R38.out _ Try.underlying28 rfl (by kernel_rfl) ?_))
  try clear R38
  with_reducible refine (snone_any (a := a) _ HA0.out).mono ?_
  rintro e w10 ⟨rfl, b10⟩
  replace hsv := blk_u hsv b10
  replace hp := blk_u hp b10
  replace hz := blk_u hz b10
  replace hsb := blk_u hsb b10
  replace hab := blk_u hab b10
  replace kt := kt.trans (kt_below b10)
  replace hT := hT.below b10
  replace hO := hO.below b10
  replace bel := bel.trans (b10.mono (Nat.le_trans hlo bel.size))
  clear b10
  go_wp2_with fail
  replace bel := bel.drew
  replace hsv : w10.drew.heap[gs]? = _ := hsv
  replace hp : w10.drew.heap[g4]? = _ := hp
  replace hz : w10.drew.heap[g6]? = _ := hz
  replace hsb : w10.drew.heap[g8]? = _ := hsb
  replace hab : w10.drew.heap[g10]? = _ := hab
  replace kt := kt_drew kt
  replace hT := pl_drew hT
  replace hO := hO.drew
  refine wp_region_held_drew (S := fun W => W.heap[gs]? = some (.cells #[.pointer (some ⟨gp, 0, none⟩), .int .u8 (own.a.toNat : Int), .int .u8 (own.b.toNat : Int), .int .u8 (own.c.toNat : Int), .int .u8 (own.d.toNat : Int), .int .u32 mk, .int .i64 sc, .slice none 0 0] 64 (0, 0)) ∧ W.heap[g4]? = some (.cells #[.int .i64 h.op, .int .i64 h.hops, .int .u32 h.xid, .int .i64 h.secs, .int .i64 h.flags, .int .u8 (h.c0.toNat : Int), .int .u8 (h.c1.toNat : Int), .int .u8 (h.c2.toNat : Int), .int .u8 (h.c3.toNat : Int), .int .u8 (h.y0.toNat : Int), .int .u8 (h.y1.toNat : Int), .int .u8 (h.y2.toNat : Int), .int .u8 (h.y3.toNat : Int), .int .u8 (h.s0.toNat : Int), .int .u8 (h.s1.toNat : Int), .int .u8 (h.s2.toNat : Int), .int .u8 (h.s3.toNat : Int), .int .u8 (h.r0.toNat : Int), .int .u8 (h.r1.toNat : Int), .int .u8 (h.r2.toNat : Int), .int .u8 (h.r3.toNat : Int), .int .u8 (h.m0.toNat : Int), .int .u8 (h.m1.toNat : Int), .int .u8 (h.m2.toNat : Int), .int .u8 (h.m3.toNat : Int), .int .u8 (h.m4.toNat : Int), .int .u8 (h.m5.toNat : Int), .slice A n c] 41 (0, 0)) ∧ W.heap[g10]? = some (.cells #[.int .u8 (a.a.toNat : Int), .int .u8 (a.b.toNat : Int), .int .u8 (a.c.toNat : Int), .int .u8 (a.d.toNat : Int)] 28 (0, 0))) (by kernel_rfl) ⟨hsv, hp, hab⟩ (fun hH => ?_)
  generalize w10.drew = w11 at bel hsv hp hz hsb hab kt hT hO hH ⊢
  refine wpAnyH_take (i := 0) (v := ?_) rfl (by kernel_rfl) (by kernel_rfl) (by kernel_rfl) (fun _ _ _ h => h) (Or.inl ⟨by rfl, ?_⟩) hH ?_
  rotate_left
  · ((intro W hW; clear hW; go_simp) <;> with_reducible rfl)
  simp only [Act.put, List.getElem_toArray, List.getElem_cons_zero, List.setIfInBounds_toArray, List.set_cons_zero, List.set_cons_succ]
  refine wpAnyH_take (i := 1) (v := ?_) rfl (by kernel_rfl) (by kernel_rfl) (by kernel_rfl) (fun _ _ _ h => h) (Or.inl ⟨by rfl, ?_⟩) hH ?_
  rotate_left
  · ((intro W hW; clear hW; go_simp) <;> with_reducible rfl)
  simp only [sq3, sq4]
  refine wpAnyH_take (i := 2) (v := ?_) rfl (by kernel_rfl) (by kernel_rfl) (by kernel_rfl) (fun _ _ _ h => h) (Or.inl ⟨by rfl, ?_⟩) hH ?_
  rotate_left
  · ((intro W hW; clear hW; go_simp) <;> with_reducible rfl)
  simp only [sq3, sq4]
  refine wpAnyH_take (i := 3) (v := ?_) rfl (by kernel_rfl) (by kernel_rfl) (by kernel_rfl) (fun _ _ _ h => h) (Or.inl ⟨by rfl, ?_⟩) hH ?_
  rotate_left
  · ((intro W hW; have hk := cell_lit (hW.1) 0 _ rfl; clear hW; go_simp) <;> with_reducible rfl)
  simp only [sq3, sq4]
  refine wpAnyH_take (i := 4) (v := ?_) rfl (by kernel_rfl) (by kernel_rfl) (by kernel_rfl) (fun _ _ _ h => h) (Or.inl ⟨by rfl, ?_⟩) hH ?_
  rotate_left
  · ((intro W hW; clear hW; go_simp) <;> with_reducible rfl)
  simp only [sq3, sq4]
  refine wpAnyH_take (i := 5) (v := .agg #[.int .u8 (h.m0.toNat : Int), .int .u8 (h.m1.toNat : Int), .int .u8 (h.m2.toNat : Int), .int .u8 (h.m3.toNat : Int), .int .u8 (h.m4.toNat : Int), .int .u8 (h.m5.toNat : Int)]) rfl (by kernel_rfl) (by kernel_rfl) (by kernel_rfl) (fun _ _ _ h => h) (yieldsIf_load_part (by kernel_rfl) 32 _ rfl g4 21 6 rfl _ 41 (0, 0) (fun W hW => hW.2.1) _ rfl _ Try.underlying32 rfl (by kernel_rfl)) hH ?_
  simp only [sq3, sq4]
  refine wpAnyH_take (i := 6) (v := .agg #[.int .u8 (a.a.toNat : Int), .int .u8 (a.b.toNat : Int), .int .u8 (a.c.toNat : Int), .int .u8 (a.d.toNat : Int)]) rfl (by kernel_rfl) (by kernel_rfl) (by kernel_rfl) (fun _ _ _ h => h) (yieldsIf_load_part (by kernel_rfl) 28 _ rfl g10 0 4 rfl _ 28 (0, 0) (fun W hW => hW.2.2) _ rfl _ Try.underlying28 rfl (by kernel_rfl)) hH ?_
  simp only [sq3, sq4]
  refine wpAnyH_take (i := 7) (v := ?_) rfl (by kernel_rfl) (by kernel_rfl) (by kernel_rfl) (fun _ _ _ h => h) (Or.inl ⟨by rfl, ?_⟩) hH ?_
  rotate_left
  · ((intro W hW; clear hW; go_simp) <;> with_reducible rfl)
  simp only [sq3, sq4]
  refine wpAnyH_take (i := 8) (v := ?_) rfl (by kernel_rfl) (by kernel_rfl) (by kernel_rfl) (fun _ _ _ h => h) (Or.inl ⟨by rfl, ?_⟩) hH ?_
  rotate_left
  · ((intro W hW; clear hW; go_simp) <;> with_reducible rfl)
  simp only [sq3, sq4]
  refine wpAnyH_take (i := 9) (v := ?_) rfl (by kernel_rfl) (by kernel_rfl) (by kernel_rfl) (fun _ _ _ h => h) (Or.inl ⟨by rfl, ?_⟩) hH ?_
  rotate_left
  · ((intro W hW; clear hW; go_simp) <;> with_reducible rfl)
  simp only [sq3, sq4]
  refine wpAnyH_take (i := 10) (v := ?_) rfl (by kernel_rfl) (by kernel_rfl) (by kernel_rfl) (fun _ _ _ h => h) (Or.inl ⟨by rfl, ?_⟩) hH ?_
  rotate_left
  · ((intro W hW; clear hW; go_simp) <;> with_reducible rfl)
  simp only [sq3, sq4]
  refine wpAnyH_take (i := 11) (v := ?_) rfl (by kernel_rfl) (by kernel_rfl) (by kernel_rfl) (fun _ _ _ h => h) (Or.inl ⟨by rfl, ?_⟩) hH ?_
  rotate_left
  · ((intro W hW; have hk := cell_lit (hW.1) 6 _ rfl; clear hW; go_simp) <;> with_reducible rfl)
  simp only [sq3, sq4]
  refine wpAnyH_ready (rs := [12]) (by kernel_rfl) (by simp) ?_
  refine AllReadyH.cons (o := _) rfl (fun K hK => ?_) AllReadyH.nil
  simp only [sq3]
  go_simp
  with_reducible refine (ptake_any (⟨h.m0, h.m1, h.m2, h.m3, h.m4, h.m5⟩ : Mc6) a t _ _ hT HR.out).mono ?_
  rintro e w12 ⟨rfl, hT_, k_, bb⟩
  dsimp only
  replace hsv := Kt.blk k_ hsv (by decide)
  replace hp := Kt.blk k_ hp (by decide)
  replace hz := Kt.blk k_ hz (by decide)
  replace hsb := Kt.blk k_ hsb (by decide)
  replace hab := Kt.blk k_ hab (by decide)
  replace kt := kt.trans k_
  replace hO := hO.kt k_
  clear hT
  have hT := hT_
  replace bel := bel.trans bb
  clear bb k_ hT_
  refine hK.out _ _ ⟨hsv, hp, hab⟩ (fun hH13 => ?_)
  clear hK K
  refine wpAnyH_take (i := 13) (v := ?_) rfl (by kernel_rfl) (by kernel_rfl) (by kernel_rfl) (fun _ _ _ h => h) (Or.inl ⟨by rfl, ?_⟩) hH13 ?_
  rotate_left
  · ((intro W hW; clear hW; go_simp) <;> with_reducible rfl)
  simp only [sq3, sq4]
  refine wpAnyH_done (by kernel_rfl) ?_ _
  have R60 := Lib.hid (range_lit hp 0 28 [.int .i64 h.op, .int .i64 h.hops, .int .u32 h.xid, .int .i64 h.secs, .int .i64 h.flags, .int .u8 (h.c0.toNat : Int), .int .u8 (h.c1.toNat : Int), .int .u8 (h.c2.toNat : Int), .int .u8 (h.c3.toNat : Int), .int .u8 (h.y0.toNat : Int), .int .u8 (h.y1.toNat : Int), .int .u8 (h.y2.toNat : Int), .int .u8 (h.y3.toNat : Int), .int .u8 (h.s0.toNat : Int), .int .u8 (h.s1.toNat : Int), .int .u8 (h.s2.toNat : Int), .int .u8 (h.s3.toNat : Int), .int .u8 (h.r0.toNat : Int), .int .u8 (h.r1.toNat : Int), .int .u8 (h.r2.toNat : Int), .int .u8 (h.r3.toNat : Int), .int .u8 (h.m0.toNat : Int), .int .u8 (h.m1.toNat : Int), .int .u8 (h.m2.toNat : Int), .int .u8 (h.m3.toNat : Int), .int .u8 (h.m4.toNat : Int), .int .u8 (h.m5.toNat : Int), .slice A n c] rfl)
  go_wp2_with (first | ((with_reducible show wpList _ _ _ (⟨some 60, _, _, _, _, _⟩ :: _) _ _); refine wpList_load_rng 41 (.tmp 4) rfl (by kernel_rfl) _ _ rfl _ R60.out _ Try.underlying41 rfl (by kernel_rfl) ?_; have R61 := Lib.hid (range_lit hab 0 4 [.int .u8 (a.a.toNat : Int), .int .u8 (a.b.toNat : Int), .int .u8 (a.c.toNat : Int), .int .u8 (a.d.toNat : Int)] rfl)) | ((with_reducible show wpList _ _ _ (⟨some 61, _, _, _, _, _⟩ :: _) _ _); refine wpList_load_rng 28 (.tmp 10) rfl (by kernel_rfl) _ _ rfl _ R61.out _ Try.underlying28 rfl (by kernel_rfl) ?_))
  try clear R60
  try clear R61
  have sp_sv := hlt hsv
  have sp_p := hlt hp
  have sp_z := hlt hz
  have sp_sb := hlt hsb
  have sp_ab := hlt hab
  have hwz := bel.size
  with_reducible refine (sans_ack_your _ hsv hO HS0.out HS1.out HTY.out (by decide) HCL.out HFL.out).mono ?_
  rintro e w14 ⟨A2, c2, hs2, rfl, hP, fP, b14⟩
  replace hsv := blk_u hsv b14
  replace hp := blk_u hp b14
  replace hz := blk_u hz b14
  replace hsb := blk_u hsb b14
  replace hab := blk_u hab b14
  replace kt := kt.trans (kt_below b14)
  replace hT := hT.below b14
  replace hO := hO.below b14
  replace bel := bel.trans (b14.mono (Nat.le_trans hlo bel.size))
  clear b14
  have fA : ∀ q, q < w.heap.size → Oa A2 6 hs2 q := fun q_ hq_ => fP q_ (Nat.lt_of_lt_of_le hq_ hwz)
  clear hwz
  have ob_sv := fP _ sp_sv
  have ob_p := fP _ sp_p
  have ob_z := fP _ sp_z
  have ob_sb := fP _ sp_sb
  have ob_ab := fP _ sp_ab
  clear sp_sv sp_p sp_z sp_sb sp_ab
  clear fP
  go_wp2_with (first | ((with_reducible show wpList _ _ _ (⟨none, Op.store _ (.tmp 6) _, _, _, _, _⟩ :: _) _ _); refine wpList_store_blk rfl 43 (.tmp 6) (.tmp 62) rfl g6 rfl _ rfl _ 43 hz (by rfl) (by kernel_rfl) (by kernel_rfl) ?_; intro w15 hq gr; replace hsv := blk_a hsv gr d_sv_z; replace hp := blk_a hp gr d_p_z; replace hsb := blk_a hsb gr (ne_symm d_z_sb); replace hab := blk_a hab gr (ne_symm d_z_ab); replace kt := kt.newer gr pz bel.size; replace hT := hT.grown gr hz (by decide) (by decide); replace hO := hO.away oa_z gr; replace hP := hP.away ob_z gr; replace bel := below_grown bel gr oz (Nat.le_trans hlo bel.size); clear hz; have hz := hq; clear hq gr))
  exact bodyPost_ret (results_cell_tmp_row rfl _ _ _ _ _ _ _ rfl hz Try.underlying43 rfl (by kernel_rfl) (.bool true) rfl) rfl ⟨_, _, _, rfl, hP, fA, ⟨hsv, osv, hT⟩, kt, bel⟩
set_option linter.unusedVariables false in
set_option linter.unusedSimpArgs false in
set_option maxRecDepth 100000 in
set_option maxHeartbeats 16000000 in
theorem stake_opt_nak {lo gs gp : Nat} {own : Ad4} {mk sc : Int} {s : St} {h : Mh} {A : Option Addr} {n c : Nat} {hs : List Oh} {L : OptL} {sa a : Ad4} {t r : Int} {s' : St} (w : World) (hS : Sv lo gs gp w ⟨own, mk, sc⟩ s) (hO : Opv w A n c hs L) (hs0 : 0 ≤ sc) (hs1 : sc < 4294967296) (hty : (typeL L : Int) = 3) (h54 : fourL (findL L 54) = (sa.l, false)) (hw : fourL (findL L 50) = (Ad4.l a, true)) (ha0 : a.eqB Ad4.zero = false) (hr : takeS s h.mc a t sc = (r, s')) (hr0 : (r != 0) = true) : Calls Try.prog 21 #[.pointer (some ⟨gs, 0, none⟩), .agg #[.int .i64 h.op, .int .i64 h.hops, .int .u32 h.xid, .int .i64 h.secs, .int .i64 h.flags, .int .u8 (h.c0.toNat : Int), .int .u8 (h.c1.toNat : Int), .int .u8 (h.c2.toNat : Int), .int .u8 (h.c3.toNat : Int), .int .u8 (h.y0.toNat : Int), .int .u8 (h.y1.toNat : Int), .int .u8 (h.y2.toNat : Int), .int .u8 (h.y3.toNat : Int), .int .u8 (h.s0.toNat : Int), .int .u8 (h.s1.toNat : Int), .int .u8 (h.s2.toNat : Int), .int .u8 (h.s3.toNat : Int), .int .u8 (h.r0.toNat : Int), .int .u8 (h.r1.toNat : Int), .int .u8 (h.r2.toNat : Int), .int .u8 (h.r3.toNat : Int), .int .u8 (h.m0.toNat : Int), .int .u8 (h.m1.toNat : Int), .int .u8 (h.m2.toNat : Int), .int .u8 (h.m3.toNat : Int), .int .u8 (h.m4.toNat : Int), .int .u8 (h.m5.toNat : Int), .slice A n c], .int .i64 t] w fun e w' => ∃ A2 c2 hs2, e = .returned (.tuple #[.agg #[.int .i64 2, .int .i64 0, .int .u32 h.xid, .int .i64 0, .int .i64 h.flags, .int .u8 0, .int .u8 0, .int .u8 0, .int .u8 0, .int .u8 0, .int .u8 0, .int .u8 0, .int .u8 0, .int .u8 (own.a.toNat : Int), .int .u8 (own.b.toNat : Int), .int .u8 (own.c.toNat : Int), .int .u8 (own.d.toNat : Int), .int .u8 (h.r0.toNat : Int), .int .u8 (h.r1.toNat : Int), .int .u8 (h.r2.toNat : Int), .int .u8 (h.r3.toNat : Int), .int .u8 (h.m0.toNat : Int), .int .u8 (h.m1.toNat : Int), .int .u8 (h.m2.toNat : Int), .int .u8 (h.m3.toNat : Int), .int .u8 (h.m4.toNat : Int), .int .u8 (h.m5.toNat : Int), .slice A2 2 c2, .int .u8 255, .int .u8 255, .int .u8 255, .int .u8 255, .int .u8 255, .int .u8 255, .int .u8 255, .int .u8 255, .int .u8 255, .int .u8 255], .bool true]) ∧ Opv w' A2 2 c2 hs2 [(53, [6]), (54, own.l)] ∧ (∀ q, q < w.heap.size → Oa A2 2 hs2 q) ∧ Sv lo gs gp w' ⟨own, mk, sc⟩ s' ∧ Kt [84, 101] w w' ∧ Below lo w w' := by
  obtain ⟨hsv, osv, hT⟩ := hS
  dsimp only at hsv
  have hlo : lo ≤ w.heap.size := Nat.le_trans osv (Nat.le_of_lt (hlt hsv))
  have kt := Kt.refl [84, 101] w
  have HS0 := Lib.hid hs0
  clear hs0
  have HS1 := Lib.hid hs1
  clear hs1
  have HTY := Lib.hid hty
  clear hty
  have HR := Lib.hid hr
  clear hr
  have H54 := Lib.hid h54
  clear h54
  have HW := Lib.hid hw
  clear hw
  have HA0 := Lib.hid ha0
  clear ha0
  have bel := Below.refl lo w
  go_enter Try.func21, Try.ntmps21
  go_wp2_with (first | ((with_reducible show wpList _ _ _ (⟨some 4, _, _, _, _, _⟩ :: _) _ _); refine wpList_box_n rfl 41 (.tmp 1) rfl #[.int .i64 h.op, .int .i64 h.hops, .int .u32 h.xid, .int .i64 h.secs, .int .i64 h.flags, .int .u8 (h.c0.toNat : Int), .int .u8 (h.c1.toNat : Int), .int .u8 (h.c2.toNat : Int), .int .u8 (h.c3.toNat : Int), .int .u8 (h.y0.toNat : Int), .int .u8 (h.y1.toNat : Int), .int .u8 (h.y2.toNat : Int), .int .u8 (h.y3.toNat : Int), .int .u8 (h.s0.toNat : Int), .int .u8 (h.s1.toNat : Int), .int .u8 (h.s2.toNat : Int), .int .u8 (h.s3.toNat : Int), .int .u8 (h.r0.toNat : Int), .int .u8 (h.r1.toNat : Int), .int .u8 (h.r2.toNat : Int), .int .u8 (h.r3.toNat : Int), .int .u8 (h.m0.toNat : Int), .int .u8 (h.m1.toNat : Int), .int .u8 (h.m2.toNat : Int), .int .u8 (h.m3.toNat : Int), .int .u8 (h.m4.toNat : Int), .int .u8 (h.m5.toNat : Int), .slice A n c] rfl ?_; intro g4 w1 ge lt hh bb; have d_sv_p := ne_new (hlt hsv) ge; have op := Nat.le_trans (Nat.le_trans hlo bel.size) ge; have pp := Nat.le_trans bel.size ge; have oa_p := hO.oa ge; have pp := Nat.le_trans bel.size ge; replace hsv := blk_u hsv bb; replace kt := kt.trans (kt_below bb); replace hT := hT.below bb; replace hO := hO.below bb; replace bel := bel.trans (bb.mono (Nat.le_trans hlo bel.size)); have hp := hh; clear hh lt ge bb) | ((with_reducible show wpList _ _ _ (⟨some 6, _, _, _, _, _⟩ :: _) _ _); refine wpList_new_a rfl 43 rfl #[.int .i64 0, .int .i64 0, .int .u32 0, .int .i64 0, .int .i64 0, .int .u8 0, .int .u8 0, .int .u8 0, .int .u8 0, .int .u8 0, .int .u8 0, .int .u8 0, .int .u8 0, .int .u8 0, .int .u8 0, .int .u8 0, .int .u8 0, .int .u8 0, .int .u8 0, .int .u8 0, .int .u8 0, .int .u8 0, .int .u8 0, .int .u8 0, .int .u8 0, .int .u8 0, .int .u8 0, .slice none 0 0, .int .u8 0, .int .u8 0, .int .u8 0, .int .u8 0, .int .u8 0, .int .u8 0, .int .u8 0, .int .u8 0, .int .u8 0, .int .u8 0] (by kernel_rfl) ?_; intro g6 w2 ge hh bb; have d_sv_z := ne_new (hlt hsv) ge; have d_p_z := ne_new (hlt hp) ge; have oz := Nat.le_trans (Nat.le_trans hlo bel.size) ge; have pz := Nat.le_trans bel.size ge; have oa_z := hO.oa ge; have pz := Nat.le_trans bel.size ge; replace hsv := blk_u hsv bb; replace hp := blk_u hp bb; replace kt := kt.trans (kt_below bb); replace hT := hT.below bb; replace hO := hO.below bb; replace bel := bel.trans (bb.mono (Nat.le_trans hlo bel.size)); have hz := hh; clear hh ge bb; have R14 := cell_lit hp 27 _ rfl))
  try clear R14
  with_reducible refine (oaddr_o (a := sa) _ hO H54.out).mono ?_
  rintro e w3 ⟨rfl, b3⟩
  replace hsv := blk_u hsv b3
  replace hp := blk_u hp b3
  replace hz := blk_u hz b3
  replace kt := kt.trans (kt_below b3)
  replace hT := hT.below b3
  replace hO := hO.below b3
  replace bel := bel.trans (b3.mono (Nat.le_trans hlo bel.size))
  clear b3
  go_wp2_with (first | ((with_reducible show wpList _ _ _ (⟨some 8, _, _, _, _, _⟩ :: _) _ _); refine wpList_new_a rfl 28 rfl #[.int .u8 0, .int .u8 0, .int .u8 0, .int .u8 0] (by kernel_rfl) ?_; intro g8 w4 ge hh bb; have d_sv_sb := ne_new (hlt hsv) ge; have d_p_sb := ne_new (hlt hp) ge; have d_z_sb := ne_new (hlt hz) ge; have osb := Nat.le_trans (Nat.le_trans hlo bel.size) ge; have psb := Nat.le_trans bel.size ge; have oa_sb := hO.oa ge; have psb := Nat.le_trans bel.size ge; replace hsv := blk_u hsv bb; replace hp := blk_u hp bb; replace hz := blk_u hz bb; replace kt := kt.trans (kt_below bb); replace hT := hT.below bb; replace hO := hO.below bb; replace bel := bel.trans (bb.mono (Nat.le_trans hlo bel.size)); have hsb := hh; clear hh ge bb) | ((with_reducible show wpList _ _ _ (⟨none, Op.store _ (.tmp 8) _, _, _, _, _⟩ :: _) _ _); refine wpList_store_blk rfl 28 (.tmp 8) (.tmp 16) rfl g8 rfl _ rfl _ 28 hsb (by rfl) (by kernel_rfl) (by kernel_rfl) ?_; intro w5 hq gr; replace hsv := blk_a hsv gr d_sv_sb; replace hp := blk_a hp gr d_p_sb; replace hz := blk_a hz gr d_z_sb; replace kt := kt.newer gr psb bel.size; replace hT := hT.grown gr hsb (by decide) (by decide); replace hO := hO.away oa_sb gr; replace bel := below_grown bel gr osb (Nat.le_trans hlo bel.size); clear hsb; have hsb := hq; clear hq gr))
  replace bel := bel.drew
  replace hsv : w5.drew.heap[gs]? = _ := hsv
  replace hp : w5.drew.heap[g4]? = _ := hp
  replace hz : w5.drew.heap[g6]? = _ := hz
  replace hsb : w5.drew.heap[g8]? = _ := hsb
  replace kt := kt_drew kt
  replace hT := pl_drew hT
  replace hO := hO.drew
  refine wp_region_held_drew (S := fun W => W.heap[g8]? = some (.cells #[.int .u8 (sa.a.toNat : Int), .int .u8 (sa.b.toNat : Int), .int .u8 (sa.c.toNat : Int), .int .u8 (sa.d.toNat : Int)] 28 (0, 0)) ∧ W.heap[gs]? = some (.cells #[.pointer (some ⟨gp, 0, none⟩), .int .u8 (own.a.toNat : Int), .int .u8 (own.b.toNat : Int), .int .u8 (own.c.toNat : Int), .int .u8 (own.d.toNat : Int), .int .u32 mk, .int .i64 sc, .slice none 0 0] 64 (0, 0))) (by kernel_rfl) ⟨hsb, hsv⟩ (fun hH => ?_)
  generalize w5.drew = w6 at bel hsv hp hz hsb kt hT hO hH ⊢
  refine wpAnyH_take (i := 0) (v := ?_) rfl (by kernel_rfl) (by kernel_rfl) (by kernel_rfl) (fun _ _ _ h => h) (Or.inl ⟨by rfl, ?_⟩) hH ?_
  rotate_left
  · ((intro W hW; clear hW; go_simp) <;> with_reducible rfl)
  simp only [Act.put, List.getElem_toArray, List.getElem_cons_zero, List.setIfInBounds_toArray, List.set_cons_zero, List.set_cons_succ]
  refine wpAnyH_take (i := 1) (v := ?_) rfl (by kernel_rfl) (by kernel_rfl) (by kernel_rfl) (fun _ _ _ h => h) (Or.inl ⟨by rfl, ?_⟩) hH ?_
  rotate_left
  · ((intro W hW; clear hW; go_simp) <;> with_reducible rfl)
  simp only [sq3, sq4]
  refine wpAnyH_take (i := 2) (v := undef) rfl (by kernel_rfl) (by kernel_rfl) (by kernel_rfl) (fun _ _ _ h => h) (Or.inr ⟨by rfl, rfl⟩) hH ?_
  simp only [sq3, sq4]
  refine wpAnyH_take (i := 3) (v := undef) rfl (by kernel_rfl) (by kernel_rfl) (by kernel_rfl) (fun _ _ _ h => h) (Or.inr ⟨by rfl, rfl⟩) hH ?_
  simp only [sq3, sq4]
  refine wpAnyH_take (i := 4) (v := undef) rfl (by kernel_rfl) (by kernel_rfl) (by kernel_rfl) (fun _ _ _ h => h) (Or.inr ⟨by rfl, rfl⟩) hH ?_
  simp only [sq3, sq4]
  refine wpAnyH_take (i := 5) (v := undef) rfl (by kernel_rfl) (by kernel_rfl) (by kernel_rfl) (fun _ _ _ h => h) (Or.inr ⟨by rfl, rfl⟩) hH ?_
  simp only [sq3, sq4]
  refine wpAnyH_take (i := 6) (v := undef) rfl (by kernel_rfl) (by kernel_rfl) (by kernel_rfl) (fun _ _ _ h => h) (Or.inr ⟨by rfl, rfl⟩) hH ?_
  simp only [sq3, sq4]
  refine wpAnyH_take (i := 7) (v := undef) rfl (by kernel_rfl) (by kernel_rfl) (by kernel_rfl) (fun _ _ _ h => h) (Or.inr ⟨by rfl, rfl⟩) hH ?_
  simp only [sq3, sq4]
  refine wpAnyH_take (i := 8) (v := ?_) rfl (by kernel_rfl) (by kernel_rfl) (by kernel_rfl) (fun _ _ _ h => h) (Or.inl ⟨by rfl, ?_⟩) hH ?_
  rotate_left
  · ((intro W hW; clear hW; go_simp) <;> with_reducible rfl)
  simp only [sq3, sq4]
  refine wpAnyH_done (by kernel_rfl) ?_ _
  have R30 := cell_lit hp 27 _ rfl
  go_wp2_with fail
  clear R30
  with_reducible refine (oaddr_o (a := a) _ hO HW.out).mono ?_
  rintro e w7 ⟨rfl, b7⟩
  replace hsv := blk_u hsv b7
  replace hp := blk_u hp b7
  replace hz := blk_u hz b7
  replace hsb := blk_u hsb b7
  replace kt := kt.trans (kt_below b7)
  replace hT := hT.below b7
  replace hO := hO.below b7
  replace bel := bel.trans (b7.mono (Nat.le_trans hlo bel.size))
  clear b7
  go_wp2_with (first | ((with_reducible show wpList _ _ _ (⟨some 10, _, _, _, _, _⟩ :: _) _ _); refine wpList_new_a rfl 28 rfl #[.int .u8 0, .int .u8 0, .int .u8 0, .int .u8 0] (by kernel_rfl) ?_; intro g10 w8 ge hh bb; have d_sv_ab := ne_new (hlt hsv) ge; have d_p_ab := ne_new (hlt hp) ge; have d_z_ab := ne_new (hlt hz) ge; have d_sb_ab := ne_new (hlt hsb) ge; have oab := Nat.le_trans (Nat.le_trans hlo bel.size) ge; have pab := Nat.le_trans bel.size ge; have oa_ab := hO.oa ge; have pab := Nat.le_trans bel.size ge; replace hsv := blk_u hsv bb; replace hp := blk_u hp bb; replace hz := blk_u hz bb; replace hsb := blk_u hsb bb; replace kt := kt.trans (kt_below bb); replace hT := hT.below bb; replace hO := hO.below bb; replace bel := bel.trans (bb.mono (Nat.le_trans hlo bel.size)); have hab := hh; clear hh ge bb) | ((with_reducible show wpList _ _ _ (⟨none, Op.store _ (.tmp 10) _, _, _, _, _⟩ :: _) _ _); refine wpList_store_blk rfl 28 (.tmp 10) (.tmp 32) rfl g10 rfl _ rfl _ 28 hab (by rfl) (by kernel_rfl) (by kernel_rfl) ?_; intro w9 hq gr; replace hsv := blk_a hsv gr d_sv_ab; replace hp := blk_a hp gr d_p_ab; replace hz := blk_a hz gr d_z_ab; replace hsb := blk_a hsb gr d_sb_ab; replace kt := kt.newer gr pab bel.size; replace hT := hT.grown gr hab (by decide) (by decide); replace hO := hO.away oa_ab gr; replace bel := below_grown bel gr oab (Nat.le_trans hlo bel.size); clear hab; have hab := hq; clear hq gr; have R38 := Lib.hid (range_lit hab 0 4 [.int .u8 (a.a.toNat : Int), .int .u8 (a.b.toNat : Int), .int .u8 (a.c.toNat : Int), .int .u8 (a.d.toNat : Int)] rfl)) | ((with_reducible show wpList _ _ _ (⟨some 38, _, _, _, _, _⟩ :: _) _ _); refine wpList_load_rng 28 (.tmp 10) rfl (by kernel_rfl) _ _ rfl _ R38.out _ Try.underlying28 rfl (by kernel_rfl) ?_))
  try clear R38
  with_reducible refine (snone_any (a := a) _ HA0.out).mono ?_
  rintro e w10 ⟨rfl, b10⟩
  replace hsv := blk_u hsv b10
  replace hp := blk_u hp b10
  replace hz := blk_u hz b10
  replace hsb := blk_u hsb b10
  replace hab := blk_u hab b10
  replace kt := kt.trans (kt_below b10)
  replace hT := hT.below b10
  replace hO := hO.below b10
  replace bel := bel.trans (b10.mono (Nat.le_trans hlo bel.size))
  clear b10
  go_wp2_with fail
  replace bel := bel.drew
  replace hsv : w10.drew.heap[gs]? = _ := hsv
  replace hp : w10.drew.heap[g4]? = _ := hp
  replace hz : w10.drew.heap[g6]? = _ := hz
  replace hsb : w10.drew.heap[g8]? = _ := hsb
  replace hab : w10.drew.heap[g10]? = _ := hab
  replace kt := kt_drew kt
  replace hT := pl_drew hT
  replace hO := hO.drew
  refine wp_region_held_drew (S := fun W => W.heap[gs]? = some (.cells #[.pointer (some ⟨gp, 0, none⟩), .int .u8 (own.a.toNat : Int), .int .u8 (own.b.toNat : Int), .int .u8 (own.c.toNat : Int), .int .u8 (own.d.toNat : Int), .int .u32 mk, .int .i64 sc, .slice none 0 0] 64 (0, 0)) ∧ W.heap[g4]? = some (.cells #[.int .i64 h.op, .int .i64 h.hops, .int .u32 h.xid, .int .i64 h.secs, .int .i64 h.flags, .int .u8 (h.c0.toNat : Int), .int .u8 (h.c1.toNat : Int), .int .u8 (h.c2.toNat : Int), .int .u8 (h.c3.toNat : Int), .int .u8 (h.y0.toNat : Int), .int .u8 (h.y1.toNat : Int), .int .u8 (h.y2.toNat : Int), .int .u8 (h.y3.toNat : Int), .int .u8 (h.s0.toNat : Int), .int .u8 (h.s1.toNat : Int), .int .u8 (h.s2.toNat : Int), .int .u8 (h.s3.toNat : Int), .int .u8 (h.r0.toNat : Int), .int .u8 (h.r1.toNat : Int), .int .u8 (h.r2.toNat : Int), .int .u8 (h.r3.toNat : Int), .int .u8 (h.m0.toNat : Int), .int .u8 (h.m1.toNat : Int), .int .u8 (h.m2.toNat : Int), .int .u8 (h.m3.toNat : Int), .int .u8 (h.m4.toNat : Int), .int .u8 (h.m5.toNat : Int), .slice A n c] 41 (0, 0)) ∧ W.heap[g10]? = some (.cells #[.int .u8 (a.a.toNat : Int), .int .u8 (a.b.toNat : Int), .int .u8 (a.c.toNat : Int), .int .u8 (a.d.toNat : Int)] 28 (0, 0))) (by kernel_rfl) ⟨hsv, hp, hab⟩ (fun hH => ?_)
  generalize w10.drew = w11 at bel hsv hp hz hsb hab kt hT hO hH ⊢
  refine wpAnyH_take (i := 0) (v := ?_) rfl (by kernel_rfl) (by kernel_rfl) (by kernel_rfl) (fun _ _ _ h => h) (Or.inl ⟨by rfl, ?_⟩) hH ?_
  rotate_left
  · ((intro W hW; clear hW; go_simp) <;> with_reducible rfl)
  simp only [Act.put, List.getElem_toArray, List.getElem_cons_zero, List.setIfInBounds_toArray, List.set_cons_zero, List.set_cons_succ]
  refine wpAnyH_take (i := 1) (v := ?_) rfl (by kernel_rfl) (by kernel_rfl) (by kernel_rfl) (fun _ _ _ h => h) (Or.inl ⟨by rfl, ?_⟩) hH ?_
  rotate_left
  · ((intro W hW; clear hW; go_simp) <;> with_reducible rfl)
  simp only [sq3, sq4]
  refine wpAnyH_take (i := 2) (v := ?_) rfl (by kernel_rfl) (by kernel_rfl) (by kernel_rfl) (fun _ _ _ h => h) (Or.inl ⟨by rfl, ?_⟩) hH ?_
  rotate_left
  · ((intro W hW; clear hW; go_simp) <;> with_reducible rfl)
  simp only [sq3, sq4]
  refine wpAnyH_take (i := 3) (v := ?_) rfl (by kernel_rfl) (by kernel_rfl) (by kernel_rfl) (fun _ _ _ h => h) (Or.inl ⟨by rfl, ?_⟩) hH ?_
  rotate_left
  · ((intro W hW; have hk := cell_lit (hW.1) 0 _ rfl; clear hW; go_simp) <;> with_reducible rfl)
  simp only [sq3, sq4]
  refine wpAnyH_take (i := 4) (v := ?_) rfl (by kernel_rfl) (by kernel_rfl) (by kernel_rfl) (fun _ _ _ h => h) (Or.inl ⟨by rfl, ?_⟩) hH ?_
  rotate_left
  · ((intro W hW; clear hW; go_simp) <;> with_reducible rfl)
  simp only [sq3, sq4]
  refine wpAnyH_take (i := 5) (v := .agg #[.int .u8 (h.m0.toNat : Int), .int .u8 (h.m1.toNat : Int), .int .u8 (h.m2.toNat : Int), .int .u8 (h.m3.toNat : Int), .int .u8 (h.m4.toNat : Int), .int .u8 (h.m5.toNat : Int)]) rfl (by kernel_rfl) (by kernel_rfl) (by kernel_rfl) (fun _ _ _ h => h) (yieldsIf_load_part (by kernel_rfl) 32 _ rfl g4 21 6 rfl _ 41 (0, 0) (fun W hW => hW.2.1) _ rfl _ Try.underlying32 rfl (by kernel_rfl)) hH ?_
  simp only [sq3, sq4]
  refine wpAnyH_take (i := 6) (v := .agg #[.int .u8 (a.a.toNat : Int), .int .u8 (a.b.toNat : Int), .int .u8 (a.c.toNat : Int), .int .u8 (a.d.toNat : Int)]) rfl (by kernel_rfl) (by kernel_rfl) (by kernel_rfl) (fun _ _ _ h => h) (yieldsIf_load_part (by kernel_rfl) 28 _ rfl g10 0 4 rfl _ 28 (0, 0) (fun W hW => hW.2.2) _ rfl _ Try.underlying28 rfl (by kernel_rfl)) hH ?_
  simp only [sq3, sq4]
  refine wpAnyH_take (i := 7) (v := ?_) rfl (by kernel_rfl) (by kernel_rfl) (by kernel_rfl) (fun _ _ _ h => h) (Or.inl ⟨by rfl, ?_⟩) hH ?_
  rotate_left
  · ((intro W hW; clear hW; go_simp) <;> with_reducible rfl)
  simp only [sq3, sq4]
  refine wpAnyH_take (i := 8) (v := ?_) rfl (by kernel_rfl) (by kernel_rfl) (by kernel_rfl) (fun _ _ _ h => h) (Or.inl ⟨by rfl, ?_⟩) hH ?_
  rotate_left
  · ((intro W hW; clear hW; go_simp) <;> with_reducible rfl)
  simp only [sq3, sq4]
  refine wpAnyH_take (i := 9) (v := ?_) rfl (by kernel_rfl) (by kernel_rfl) (by kernel_rfl) (fun _ _ _ h => h) (Or.inl ⟨by rfl, ?_⟩) hH ?_
  rotate_left
  · ((intro W hW; clear hW; go_simp) <;> with_reducible rfl)
  simp only [sq3, sq4]
  refine wpAnyH_take (i := 10) (v := ?_) rfl (by kernel_rfl) (by kernel_rfl) (by kernel_rfl) (fun _ _ _ h => h) (Or.inl ⟨by rfl, ?_⟩) hH ?_
  rotate_left
  · ((intro W hW; clear hW; go_simp) <;> with_reducible rfl)
  simp only [sq3, sq4]
  refine wpAnyH_take (i := 11) (v := ?_) rfl (by kernel_rfl) (by kernel_rfl) (by kernel_rfl) (fun _ _ _ h => h) (Or.inl ⟨by rfl, ?_⟩) hH ?_
  rotate_left
  · ((intro W hW; have hk := cell_lit (hW.1) 6 _ rfl; clear hW; go_simp) <;> with_reducible rfl)
  simp only [sq3, sq4]
  refine wpAnyH_ready (rs := [12]) (by kernel_rfl) (by simp) ?_
  refine AllReadyH.cons (o := _) rfl (fun K hK => ?_) AllReadyH.nil
  simp only [sq3]
  go_simp
  with_reducible refine (ptake_any (⟨h.m0, h.m1, h.m2, h.m3, h.m4, h.m5⟩ : Mc6) a t _ _ hT HR.out).mono ?_
  rintro e w12 ⟨rfl, hT_, k_, bb⟩
  dsimp only
  replace hsv := Kt.blk k_ hsv (by decide)
  replace hp := Kt.blk k_ hp (by decide)
  replace hz := Kt.blk k_ hz (by decide)
  replace hsb := Kt.blk k_ hsb (by decide)
  replace hab := Kt.blk k_ hab (by decide)
  replace kt := kt.trans k_
  replace hO := hO.kt k_
  clear hT
  have hT := hT_
  replace bel := bel.trans bb
  clear bb k_ hT_
  refine hK.out _ _ ⟨hsv, hp, hab⟩ (fun hH13 => ?_)
  clear hK K
  refine wpAnyH_take (i := 13) (v := ?_) rfl (by kernel_rfl) (by kernel_rfl) (by kernel_rfl) (fun _ _ _ h => h) (Or.inl ⟨by rfl, ?_⟩) hH13 ?_
  rotate_left
  · ((intro W hW; clear hW; go_simp) <;> with_reducible rfl)
  simp only [sq3, sq4]
  refine wpAnyH_done (by kernel_rfl) ?_ _
  have R56 := Lib.hid (range_lit hp 0 28 [.int .i64 h.op, .int .i64 h.hops, .int .u32 h.xid, .int .i64 h.secs, .int .i64 h.flags, .int .u8 (h.c0.toNat : Int), .int .u8 (h.c1.toNat : Int), .int .u8 (h.c2.toNat : Int), .int .u8 (h.c3.toNat : Int), .int .u8 (h.y0.toNat : Int), .int .u8 (h.y1.toNat : Int), .int .u8 (h.y2.toNat : Int), .int .u8 (h.y3.toNat : Int), .int .u8 (h.s0.toNat : Int), .int .u8 (h.s1.toNat : Int), .int .u8 (h.s2.toNat : Int), .int .u8 (h.s3.toNat : Int), .int .u8 (h.r0.toNat : Int), .int .u8 (h.r1.toNat : Int), .int .u8 (h.r2.toNat : Int), .int .u8 (h.r3.toNat : Int), .int .u8 (h.m0.toNat : Int), .int .u8 (h.m1.toNat : Int), .int .u8 (h.m2.toNat : Int), .int .u8 (h.m3.toNat : Int), .int .u8 (h.m4.toNat : Int), .int .u8 (h.m5.toNat : Int), .slice A n c] rfl)
  go_wp2_with (first | ((with_reducible show wpList _ _ _ (⟨some 56, _, _, _, _, _⟩ :: _) _ _); refine wpList_load_rng 41 (.tmp 4) rfl (by kernel_rfl) _ _ rfl _ R56.out _ Try.underlying41 rfl (by kernel_rfl) ?_))
  try clear R56
  have sp_sv := hlt hsv
  have sp_p := hlt hp
  have sp_z := hlt hz
  have sp_sb := hlt hsb
  have sp_ab := hlt hab
  have hwz := bel.size
  with_reducible refine (sans_nak_all _ hsv hO HS0.out HS1.out HTY.out (by decide)).mono ?_
  rintro e w14 ⟨A2, c2, hs2, rfl, hP, fP, b14⟩
  replace hsv := blk_u hsv b14
  replace hp := blk_u hp b14
  replace hz := blk_u hz b14
  replace hsb := blk_u hsb b14
  replace hab := blk_u hab b14
  replace kt := kt.trans (kt_below b14)
  replace hT := hT.below b14
  replace hO := hO.below b14
  replace bel := bel.trans (b14.mono (Nat.le_trans hlo bel.size))
  clear b14
  have fA : ∀ q, q < w.heap.size → Oa A2 2 hs2 q := fun q_ hq_ => fP q_ (Nat.lt_of_lt_of_le hq_ hwz)
  clear hwz
  have ob_sv := fP _ sp_sv
  have ob_p := fP _ sp_p
  have ob_z := fP _ sp_z
  have ob_sb := fP _ sp_sb
  have ob_ab := fP _ sp_ab
  clear sp_sv sp_p sp_z sp_sb sp_ab
  clear fP
  go_wp2_with (first | ((with_reducible show wpList _ _ _ (⟨none, Op.store _ (.tmp 6) _, _, _, _, _⟩ :: _) _ _); refine wpList_store_blk rfl 43 (.tmp 6) (.tmp 58) rfl g6 rfl _ rfl _ 43 hz (by rfl) (by kernel_rfl) (by kernel_rfl) ?_; intro w15 hq gr; replace hsv := blk_a hsv gr d_sv_z; replace hp := blk_a hp gr d_p_z; replace hsb := blk_a hsb gr (ne_symm d_z_sb); replace hab := blk_a hab gr (ne_symm d_z_ab); replace kt := kt.newer gr pz bel.size; replace hT := hT.grown gr hz (by decide) (by decide); replace hO := hO.away oa_z gr; replace hP := hP.away ob_z gr; replace bel := below_grown bel gr oz (Nat.le_trans hlo bel.size); clear hz; have hz := hq; clear hq gr))
  exact bodyPost_ret (results_cell_tmp_row rfl _ _ _ _ _ _ _ rfl hz Try.underlying43 rfl (by kernel_rfl) (.bool true) rfl) rfl ⟨_, _, _, rfl, hP, fA, ⟨hsv, osv, hT⟩, kt, bel⟩
set_option linter.unusedVariables false in
set_option linter.unusedSimpArgs false in
set_option maxRecDepth 100000 in
set_option maxHeartbeats 16000000 in
theorem stake_other {lo gs gp : Nat} {own : Ad4} {mk sc : Int} {s : St} {h : Mh} {A : Option Addr} {n c : Nat} {hs : List Oh} {L : OptL} {sa : Ad4} {t : Int} (w : World) (hS : Sv lo gs gp w ⟨own, mk, sc⟩ s) (hO : Opv w A n c hs L) (h54 : fourL (findL L 54) = (sa.l, true)) (hso : sa.eqB own = false) : Calls Try.prog 21 #[.pointer (some ⟨gs, 0, none⟩), .agg #[.int .i64 h.op, .int .i64 h.hops, .int .u32 h.xid, .int .i64 h.secs, .int .i64 h.flags, .int .u8 (h.c0.toNat : Int), .int .u8 (h.c1.toNat : Int), .int .u8 (h.c2.toNat : Int), .int .u8 (h.c3.toNat : Int), .int .u8 (h.y0.toNat : Int), .int .u8 (h.y1.toNat : Int), .int .u8 (h.y2.toNat : Int), .int .u8 (h.y3.toNat : Int), .int .u8 (h.s0.toNat : Int), .int .u8 (h.s1.toNat : Int), .int .u8 (h.s2.toNat : Int), .int .u8 (h.s3.toNat : Int), .int .u8 (h.r0.toNat : Int), .int .u8 (h.r1.toNat : Int), .int .u8 (h.r2.toNat : Int), .int .u8 (h.r3.toNat : Int), .int .u8 (h.m0.toNat : Int), .int .u8 (h.m1.toNat : Int), .int .u8 (h.m2.toNat : Int), .int .u8 (h.m3.toNat : Int), .int .u8 (h.m4.toNat : Int), .int .u8 (h.m5.toNat : Int), .slice A n c], .int .i64 t] w fun e w' => e = .returned (.tuple #[.agg #[.int .i64 0, .int .i64 0, .int .u32 0, .int .i64 0, .int .i64 0, .int .u8 0, .int .u8 0, .int .u8 0, .int .u8 0, .int .u8 0, .int .u8 0, .int .u8 0, .int .u8 0, .int .u8 0, .int .u8 0, .int .u8 0, .int .u8 0, .int .u8 0, .int .u8 0, .int .u8 0, .int .u8 0, .int .u8 0, .int .u8 0, .int .u8 0, .int .u8 0, .int .u8 0, .int .u8 0, .slice none 0 0, .int .u8 0, .int .u8 0, .int .u8 0, .int .u8 0, .int .u8 0, .int .u8 0, .int .u8 0, .int .u8 0, .int .u8 0, .int .u8 0], .bool false]) ∧ Sv lo gs gp w' ⟨own, mk, sc⟩ s ∧ Kt [84, 101] w w' ∧ Below lo w w' := by
  obtain ⟨hsv, osv, hT⟩ := hS
  dsimp only at hsv
  have hlo : lo ≤ w.heap.size := Nat.le_trans osv (Nat.le_of_lt (hlt hsv))
  have kt := Kt.refl [84, 101] w
  have H54 := Lib.hid h54
  clear h54
  have NEQ_ : ∀ W, (binOp .neq 28 (.agg #[.int .u8 (sa.a.toNat : Int), .int .u8 (sa.b.toNat : Int), .int .u8 (sa.c.toNat : Int), .int .u8 (sa.d.toNat : Int)]) (.agg #[.int .u8 (own.a.toNat : Int), .int .u8 (own.b.toNat : Int), .int .u8 (own.c.toNat : Int), .int .u8 (own.d.toNat : Int)])).run Try.prog W = .ok (.bool true) W := fun W => by have h_ := nea_b sa own W; rw [hso] at h_; exact h_
  clear hso
  have bel := Below.refl lo w
  go_enter Try.func21, Try.ntmps21
  go_wp2_with (first | ((with_reducible show wpList _ _ _ (⟨some 4, _, _, _, _, _⟩ :: _) _ _); refine wpList_box_n rfl 41 (.tmp 1) rfl #[.int .i64 h.op, .int .i64 h.hops, .int .u32 h.xid, .int .i64 h.secs, .int .i64 h.flags, .int .u8 (h.c0.toNat : Int), .int .u8 (h.c1.toNat : Int), .int .u8 (h.c2.toNat : Int), .int .u8 (h.c3.toNat : Int), .int .u8 (h.y0.toNat : Int), .int .u8 (h.y1.toNat : Int), .int .u8 (h.y2.toNat : Int), .int .u8 (h.y3.toNat : Int), .int .u8 (h.s0.toNat : Int), .int .u8 (h.s1.toNat : Int), .int .u8 (h.s2.toNat : Int), .int .u8 (h.s3.toNat : Int), .int .u8 (h.r0.toNat : Int), .int .u8 (h.r1.toNat : Int), .int .u8 (h.r2.toNat : Int), .int .u8 (h.r3.toNat : Int), .int .u8 (h.m0.toNat : Int), .int .u8 (h.m1.toNat : Int), .int .u8 (h.m2.toNat : Int), .int .u8 (h.m3.toNat : Int), .int .u8 (h.m4.toNat : Int), .int .u8 (h.m5.toNat : Int), .slice A n c] rfl ?_; intro g4 w1 ge lt hh bb; have d_sv_p := ne_new (hlt hsv) ge; have op := Nat.le_trans (Nat.le_trans hlo bel.size) ge; have pp := Nat.le_trans bel.size ge; have oa_p := hO.oa ge; have pp := Nat.le_trans bel.size ge; replace hsv := blk_u hsv bb; replace kt := kt.trans (kt_below bb); replace hT := hT.below bb; replace hO := hO.below bb; replace bel := bel.trans (bb.mono (Nat.le_trans hlo bel.size)); have hp := hh; clear hh lt ge bb) | ((with_reducible show wpList _ _ _ (⟨some 6, _, _, _, _, _⟩ :: _) _ _); refine wpList_new_a rfl 43 rfl #[.int .i64 0, .int .i64 0, .int .u32 0, .int .i64 0, .int .i64 0, .int .u8 0, .int .u8 0, .int .u8 0, .int .u8 0, .int .u8 0, .int .u8 0, .int .u8 0, .int .u8 0, .int .u8 0, .int .u8 0, .int .u8 0, .int .u8 0, .int .u8 0, .int .u8 0, .int .u8 0, .int .u8 0, .int .u8 0, .int .u8 0, .int .u8 0, .int .u8 0, .int .u8 0, .int .u8 0, .slice none 0 0, .int .u8 0, .int .u8 0, .int .u8 0, .int .u8 0, .int .u8 0, .int .u8 0, .int .u8 0, .int .u8 0, .int .u8 0, .int .u8 0] (by kernel_rfl) ?_; intro g6 w2 ge hh bb; have d_sv_z := ne_new (hlt hsv) ge; have d_p_z := ne_new (hlt hp) ge; have oz := Nat.le_trans (Nat.le_trans hlo bel.size) ge; have pz := Nat.le_trans bel.size ge; have oa_z := hO.oa ge; have pz := Nat.le_trans bel.size ge; replace hsv := blk_u hsv bb; replace hp := blk_u hp bb; replace kt := kt.trans (kt_below bb); replace hT := hT.below bb; replace hO := hO.below bb; replace bel := bel.trans (bb.mono (Nat.le_trans hlo bel.size)); have hz := hh; clear hh ge bb; have R14 := cell_lit hp 27 _ rfl))
  try clear R14
  with_reducible refine (oaddr_o (a := sa) _ hO H54.out).mono ?_
  rintro e w3 ⟨rfl, b3⟩
  replace hsv := blk_u hsv b3
  replace hp := blk_u hp b3
  replace hz := blk_u hz b3
  replace kt := kt.trans (kt_below b3)
  replace hT := hT.below b3
  replace hO := hO.below b3
  replace bel := bel.trans (b3.mono (Nat.le_trans hlo bel.size))
  clear b3
  go_wp2_with (first | ((with_reducible show wpList _ _ _ (⟨some 8, _, _, _, _, _⟩ :: _) _ _); refine wpList_new_a rfl 28 rfl #[.int .u8 0, .int .u8 0, .int .u8 0, .int .u8 0] (by kernel_rfl) ?_; intro g8 w4 ge hh bb; have d_sv_sb := ne_new (hlt hsv) ge; have d_p_sb := ne_new (hlt hp) ge; have d_z_sb := ne_new (hlt hz) ge; have osb := Nat.le_trans (Nat.le_trans hlo bel.size) ge; have psb := Nat.le_trans bel.size ge; have oa_sb := hO.oa ge; have psb := Nat.le_trans bel.size ge; replace hsv := blk_u hsv bb; replace hp := blk_u hp bb; replace hz := blk_u hz bb; replace kt := kt.trans (kt_below bb); replace hT := hT.below bb; replace hO := hO.below bb; replace bel := bel.trans (bb.mono (Nat.le_trans hlo bel.size)); have hsb := hh; clear hh ge bb) | ((with_reducible show wpList _ _ _ (⟨none, Op.store _ (.tmp 8) _, _, _, _, _⟩ :: _) _ _); refine wpList_store_blk rfl 28 (.tmp 8) (.tmp 16) rfl g8 rfl _ rfl _ 28 hsb (by rfl) (by kernel_rfl) (by kernel_rfl) ?_; intro w5 hq gr; replace hsv := blk_a hsv gr d_sv_sb; replace hp := blk_a hp gr d_p_sb; replace hz := blk_a hz gr d_z_sb; replace kt := kt.newer gr psb bel.size; replace hT := hT.grown gr hsb (by decide) (by decide); replace hO := hO.away oa_sb gr; replace bel := below_grown bel gr osb (Nat.le_trans hlo bel.size); clear hsb; have hsb := hq; clear hq gr))
  replace bel := bel.drew
  replace hsv : w5.drew.heap[gs]? = _ := hsv
  replace hp : w5.drew.heap[g4]? = _ := hp
  replace hz : w5.drew.heap[g6]? = _ := hz
  replace hsb : w5.drew.heap[g8]? = _ := hsb
  replace kt := kt_drew kt
  replace hT := pl_drew hT
  replace hO := hO.drew
  refine wp_region_held_drew (S := fun W => W.heap[g8]? = some (.cells #[.int .u8 (sa.a.toNat : Int), .int .u8 (sa.b.toNat : Int), .int .u8 (sa.c.toNat : Int), .int .u8 (sa.d.toNat : Int)] 28 (0, 0)) ∧ W.heap[gs]? = some (.cells #[.pointer (some ⟨gp, 0, none⟩), .int .u8 (own.a.toNat : Int), .int .u8 (own.b.toNat : Int), .int .u8 (own.c.toNat : Int), .int .u8 (own.d.toNat : Int), .int .u32 mk, .int .i64 sc, .slice none 0 0] 64 (0, 0))) (by kernel_rfl) ⟨hsb, hsv⟩ (fun hH => ?_)
  generalize w5.drew = w6 at bel hsv hp hz hsb kt hT hO hH ⊢
  refine wpAnyH_take (i := 0) (v := ?_) rfl (by kernel_rfl) (by kernel_rfl) (by kernel_rfl) (fun _ _ _ h => h) (Or.inl ⟨by rfl, ?_⟩) hH ?_
  rotate_left
  · ((intro W hW; clear hW; go_simp) <;> with_reducible rfl)
  simp only [Act.put, List.getElem_toArray, List.getElem_cons_zero, List.setIfInBounds_toArray, List.set_cons_zero, List.set_cons_succ]
  refine wpAnyH_take (i := 1) (v := ?_) rfl (by kernel_rfl) (by kernel_rfl) (by kernel_rfl) (fun _ _ _ h => h) (Or.inl ⟨by rfl, ?_⟩) hH ?_
  rotate_left
  · ((intro W hW; clear hW; go_simp) <;> with_reducible rfl)
  simp only [sq3, sq4]
  refine wpAnyH_take (i := 2) (v := .agg #[.int .u8 (sa.a.toNat : Int), .int .u8 (sa.b.toNat : Int), .int .u8 (sa.c.toNat : Int), .int .u8 (sa.d.toNat : Int)]) rfl (by kernel_rfl) (by kernel_rfl) (by kernel_rfl) (fun _ _ _ h => h) (yieldsIf_load_part (by kernel_rfl) 28 _ rfl g8 0 4 rfl _ 28 (0, 0) (fun W hW => hW.1) _ rfl _ Try.underlying28 rfl (by kernel_rfl)) hH ?_
  simp only [sq3, sq4]
  refine wpAnyH_take (i := 3) (v := ?_) rfl (by kernel_rfl) (by kernel_rfl) (by kernel_rfl) (fun _ _ _ h => h) (Or.inl ⟨by rfl, ?_⟩) hH ?_
  rotate_left
  · ((intro W hW; clear hW; go_simp) <;> with_reducible rfl)
  simp only [sq3, sq4]
  refine wpAnyH_take (i := 4) (v := ?_) rfl (by kernel_rfl) (by kernel_rfl) (by kernel_rfl) (fun _ _ _ h => h) (Or.inl ⟨by rfl, ?_⟩) hH ?_
  rotate_left
  · ((intro W hW; clear hW; go_simp) <;> with_reducible rfl)
  simp only [sq3, sq4]
  refine wpAnyH_take (i := 5) (v := ?_) rfl (by kernel_rfl) (by kernel_rfl) (by kernel_rfl) (fun _ _ _ h => h) (Or.inl ⟨by rfl, ?_⟩) hH ?_
  rotate_left
  · ((intro W hW; clear hW; go_simp) <;> with_reducible rfl)
  simp only [sq3, sq4]
  refine wpAnyH_take (i := 6) (v := .agg #[.int .u8 (own.a.toNat : Int), .int .u8 (own.b.toNat : Int), .int .u8 (own.c.toNat : Int), .int .u8 (own.d.toNat : Int)]) rfl (by kernel_rfl) (by kernel_rfl) (by kernel_rfl) (fun _ _ _ h => h) (yieldsIf_load_part (by kernel_rfl) 28 _ rfl gs 1 4 rfl _ 64 (0, 0) (fun W hW => hW.2) _ rfl _ Try.underlying28 rfl (by kernel_rfl)) hH ?_
  simp only [sq3, sq4]
  refine wpAnyH_take (i := 7) (v := ?_) rfl (by kernel_rfl) (by kernel_rfl) (by kernel_rfl) (fun _ _ _ h => h) (Or.inl ⟨by rfl, ?_⟩) hH ?_
  rotate_left
  · ((intro W hW; clear hW; go_simp) <;> with_reducible rfl)
  simp only [sq3, sq4]
  refine wpAnyH_take (i := 8) (v := ?_) rfl (by kernel_rfl) (by kernel_rfl) (by kernel_rfl) (fun _ _ _ h => h) (Or.inl ⟨by rfl, ?_⟩) hH ?_
  rotate_left
  · ((intro W hW; clear hW; go_simp) <;> with_reducible rfl)
  simp only [sq3, sq4]
  refine wpAnyH_done (by kernel_rfl) ?_ _
  go_wp2_with (first | ((with_reducible show wpList _ _ _ (⟨none, Op.store _ (.tmp 6) _, _, _, _, _⟩ :: _) _ _); refine wpList_store_blk rfl 43 (.tmp 6) (.tmp 27) rfl g6 rfl _ rfl _ 43 hz (by rfl) (by kernel_rfl) (by kernel_rfl) ?_; intro w7 hq gr; replace hsv := blk_a hsv gr d_sv_z; replace hp := blk_a hp gr d_p_z; replace hsb := blk_a hsb gr (ne_symm d_z_sb); replace kt := kt.newer gr pz bel.size; replace hT := hT.grown gr hz (by decide) (by decide); replace hO := hO.away oa_z gr; replace bel := below_grown bel gr oz (Nat.le_trans hlo bel.size); clear hz; have hz := hq; clear hq gr))
  exact bodyPost_ret (results_cell_tmp_row rfl _ _ _ _ _ _ _ rfl hz Try.underlying43 rfl (by kernel_rfl) (.bool false) rfl) rfl ⟨rfl, ⟨hsv, osv, hT⟩, kt, bel⟩
end Go.Proofs.Ytapdmlfjohiekaa
