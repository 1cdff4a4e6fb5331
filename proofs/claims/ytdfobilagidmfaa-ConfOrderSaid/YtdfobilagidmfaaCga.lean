/- Layer 10's awake. -/
import Derived.Test.YtdfobilagidmfaaCg9
namespace Go.Proofs.Ytdfobilagidmfaa
open Go.RowKit

theorem cparse_60 (w : World) : Calls Try.prog 9 #[.string ⟨#[116, 105, 109, 101, 32, 61, 32, 54, 48]⟩] w fun e w' => ∃ Fx nf cf Ox nx cx, e = .returned (.tuple #[.agg (cfl U60 Fx nf cf Ox nx cx).toArray, .int .i64 0, .int .i64 0]) ∧ Sle fxf 10 w' Fx nf cf U60.fixed ∧ Sle opf 7 w' Ox nx cx U60.opens ∧ Fr w.heap.size Fx nf ∧ Fr w.heap.size Ox nx ∧ Below w.heap.size w w' := by
  refine (cparse_any [116, 105, 109, 101, 32, 61, 32, 54, 48] w (by decide)).mono ?_
  rintro e w' ⟨Fx, nf, cf, Ox, nx, cx, rfl, h⟩
  rw [parse_60] at h ⊢
  exact ⟨Fx, nf, cf, Ox, nx, cx, rfl, h⟩
theorem same_60 (Gx : Option Addr) (ng cg : Nat) (Hx : Option Addr) (nh ch : Nat) (w : World) (hg : Sle fxf 10 w Gx ng cg U60.fixed) (hh : Sle opf 7 w Hx nh ch U60.opens) : Calls Try.prog 11 #[.agg (cfl U60 Gx ng cg Hx nh ch).toArray, .agg #[.int .u8 (usualC.own.a.toNat : Int), .int .u8 (usualC.own.b.toNat : Int), .int .u8 (usualC.own.c.toNat : Int), .int .u8 (usualC.own.d.toNat : Int), .int .u8 (usualC.lan.a.toNat : Int), .int .u8 (usualC.lan.b.toNat : Int), .int .u8 (usualC.lan.c.toNat : Int), .int .u8 (usualC.lan.d.toNat : Int), .int .i64 usualC.bits, .int .u8 (usualC.lanmac.a.toNat : Int), .int .u8 (usualC.lanmac.b.toNat : Int), .int .u8 (usualC.lanmac.c.toNat : Int), .int .u8 (usualC.lanmac.d.toNat : Int), .int .u8 (usualC.lanmac.e.toNat : Int), .int .u8 (usualC.lanmac.f.toNat : Int), .int .u8 (usualC.wanmac.a.toNat : Int), .int .u8 (usualC.wanmac.b.toNat : Int), .int .u8 (usualC.wanmac.c.toNat : Int), .int .u8 (usualC.wanmac.d.toNat : Int), .int .u8 (usualC.wanmac.e.toNat : Int), .int .u8 (usualC.wanmac.f.toNat : Int), .int .u8 (usualC.first.a.toNat : Int), .int .u8 (usualC.first.b.toNat : Int), .int .u8 (usualC.first.c.toNat : Int), .int .u8 (usualC.first.d.toNat : Int), .int .u8 (usualC.last.a.toNat : Int), .int .u8 (usualC.last.b.toNat : Int), .int .u8 (usualC.last.c.toNat : Int), .int .u8 (usualC.last.d.toNat : Int), .int .i64 60, .int .u8 (usualC.dns.a.toNat : Int), .int .u8 (usualC.dns.b.toNat : Int), .int .u8 (usualC.dns.c.toNat : Int), .int .u8 (usualC.dns.d.toNat : Int), .int .i64 usualC.udp, .int .i64 usualC.tcp, .int .i64 usualC.icmp, .int .i64 usualC.low, .slice none 0 0, .slice none 0 0]] w fun e w' => e = .returned (.bool true) ∧ Below w.heap.size w w' :=
  same_any U60 Gx ng cg Hx nh ch none 0 0 none 0 0 w hg hh (Sle.nil (by decide) fxf_len w) (Sle.nil (by decide) opf_len w) (by rw [← hg.1]; decide) (by rw [← hh.1]; decide)
theorem same_us (Gx : Option Addr) (ng cg : Nat) (Hx : Option Addr) (nh ch : Nat) (w : World) (hg : Sle fxf 10 w Gx ng cg usualC.fixed) (hh : Sle opf 7 w Hx nh ch usualC.opens) : Calls Try.prog 11 #[.agg (cfl usualC Gx ng cg Hx nh ch).toArray, .agg (cfl usualC none 0 0 none 0 0).toArray] w fun e w' => e = .returned (.bool true) ∧ Below w.heap.size w w' :=
  same_any usualC Gx ng cg Hx nh ch none 0 0 none 0 0 w hg hh (Sle.nil (by decide) fxf_len w) (Sle.nil (by decide) opf_len w) (by rw [← hg.1]; decide) (by rw [← hh.1]; decide)
@[reducible] def W60L : List Value := [.int .u8 (usualC.own.a.toNat : Int), .int .u8 (usualC.own.b.toNat : Int), .int .u8 (usualC.own.c.toNat : Int), .int .u8 (usualC.own.d.toNat : Int), .int .u8 (usualC.lan.a.toNat : Int), .int .u8 (usualC.lan.b.toNat : Int), .int .u8 (usualC.lan.c.toNat : Int), .int .u8 (usualC.lan.d.toNat : Int), .int .i64 usualC.bits, .int .u8 (usualC.lanmac.a.toNat : Int), .int .u8 (usualC.lanmac.b.toNat : Int), .int .u8 (usualC.lanmac.c.toNat : Int), .int .u8 (usualC.lanmac.d.toNat : Int), .int .u8 (usualC.lanmac.e.toNat : Int), .int .u8 (usualC.lanmac.f.toNat : Int), .int .u8 (usualC.wanmac.a.toNat : Int), .int .u8 (usualC.wanmac.b.toNat : Int), .int .u8 (usualC.wanmac.c.toNat : Int), .int .u8 (usualC.wanmac.d.toNat : Int), .int .u8 (usualC.wanmac.e.toNat : Int), .int .u8 (usualC.wanmac.f.toNat : Int), .int .u8 (usualC.first.a.toNat : Int), .int .u8 (usualC.first.b.toNat : Int), .int .u8 (usualC.first.c.toNat : Int), .int .u8 (usualC.first.d.toNat : Int), .int .u8 (usualC.last.a.toNat : Int), .int .u8 (usualC.last.b.toNat : Int), .int .u8 (usualC.last.c.toNat : Int), .int .u8 (usualC.last.d.toNat : Int), .int .i64 60, .int .u8 (usualC.dns.a.toNat : Int), .int .u8 (usualC.dns.b.toNat : Int), .int .u8 (usualC.dns.c.toNat : Int), .int .u8 (usualC.dns.d.toNat : Int), .int .i64 usualC.udp, .int .i64 usualC.tcp, .int .i64 usualC.icmp, .int .i64 usualC.low, .slice none 0 0, .slice none 0 0]
set_option linter.unusedVariables false in
set_option linter.unusedSimpArgs false in
set_option maxRecDepth 100000 in
set_option maxHeartbeats 16000000 in
theorem awake_any (w : World) : Calls Try.prog 8 #[] w fun e w' => e = .returned (.bool true) ∧ Below w.heap.size w w' := by
  have bel := Below.refl w.heap.size w
  go_enter Try.func8, Try.ntmps8
  go_wp2_with fail
  with_reducible refine (cparse_60 _).mono ?_
  rintro e w1 ⟨Fx, nf, cf, Ox, nx, cx, rfl, hf, ho, frF, frO, b1⟩
  replace bel := bel.trans (b1.mono bel.size)
  clear b1
  replace hf : Sle fxf 10 w1 (Fx) (nf) (cf) (U60.fixed) := hf
  replace ho : Sle opf 7 w1 (Ox) (nx) (cx) (U60.opens) := ho
  have hnf : nf ≤ 1000 := by rw [← hf.1]; decide
  have hnx : nx ≤ 1000 := by rw [← ho.1]; decide
  go_wp2_with (first | ((with_reducible show wpList _ _ _ (⟨some 1, _, _, _, _, _⟩ :: _) _ _); refine wpList_new_a rfl 32 rfl #[.int .u8 0, .int .u8 0, .int .u8 0, .int .u8 0, .int .u8 0, .int .u8 0, .int .u8 0, .int .u8 0, .int .i64 0, .int .u8 0, .int .u8 0, .int .u8 0, .int .u8 0, .int .u8 0, .int .u8 0, .int .u8 0, .int .u8 0, .int .u8 0, .int .u8 0, .int .u8 0, .int .u8 0, .int .u8 0, .int .u8 0, .int .u8 0, .int .u8 0, .int .u8 0, .int .u8 0, .int .u8 0, .int .u8 0, .int .i64 0, .int .u8 0, .int .u8 0, .int .u8 0, .int .u8 0, .int .i64 0, .int .i64 0, .int .i64 0, .int .i64 0, .slice none 0 0, .slice none 0 0] (by kernel_rfl) ?_; intro g1 w2 ge hh bb; have av_hf_ca := hf.av_new ge; have av_ho_ca := ho.av_new ge; have oca := Nat.le_trans bel.size ge; replace hf := hf.below bb; replace ho := ho.below bb; replace bel := bel.trans (bb.mono bel.size); have hca := hh; clear hh ge bb) | ((with_reducible show wpList _ _ _ (⟨none, Op.store _ (.tmp 1) _, _, _, _, _⟩ :: _) _ _); refine wpList_store_blk rfl 32 (.tmp 1) (.tmp 7) rfl g1 rfl _ rfl _ 32 hca (by rfl) (by kernel_rfl) (by kernel_rfl) ?_; intro w3 hq gr; replace hf := hf.away av_hf_ca gr; replace ho := ho.away av_ho_ca gr; replace bel := below_grown bel gr oca bel.size; clear hca; have hca := hq; clear hq gr))
  with_reducible refine (rusual_any _).mono ?_
  rintro e w4 ⟨rfl, b4⟩
  replace hca := blk_u hca b4
  replace hf := hf.below b4
  replace ho := ho.below b4
  replace bel := bel.trans (b4.mono bel.size)
  clear b4
  go_wp2_with (first | ((with_reducible show wpList _ _ _ (⟨some 4, _, _, _, _, _⟩ :: _) _ _); refine wpList_new_a rfl 40 rfl #[.int .u8 0, .int .u8 0, .int .u8 0, .int .u8 0, .int .u8 0, .int .u8 0, .int .u8 0, .int .u8 0, .int .i64 0, .int .u8 0, .int .u8 0, .int .u8 0, .int .u8 0, .int .u8 0, .int .u8 0, .int .u8 0, .int .u8 0, .int .u8 0, .int .u8 0, .int .u8 0, .int .u8 0, .int .u8 0, .int .u8 0, .int .u8 0, .int .u8 0, .int .u8 0, .int .u8 0, .int .u8 0, .int .u8 0, .int .i64 0, .int .u8 0, .int .u8 0, .int .u8 0, .int .u8 0, .int .i64 0, .int .i64 0, .int .i64 0, .int .i64 0, .slice none 0 0, .slice none 0 0] (by kernel_rfl) ?_; intro g4 w5 ge hh bb; have d_ca_cb := ne_new (hlt hca) ge; have av_hf_cb := hf.av_new ge; have av_ho_cb := ho.av_new ge; have ocb := Nat.le_trans bel.size ge; replace hca := blk_u hca bb; replace hf := hf.below bb; replace ho := ho.below bb; replace bel := bel.trans (bb.mono bel.size); have hcb := hh; clear hh ge bb) | ((with_reducible show wpList _ _ _ (⟨none, Op.store _ (.tmp 4) _, _, _, _, _⟩ :: _) _ _); refine wpList_store_blk rfl 40 (.tmp 4) (.tmp 10) rfl g4 rfl _ rfl _ 40 hcb (by rfl) (by kernel_rfl) (by kernel_rfl) ?_; intro w6 hq gr; replace hf := hf.away av_hf_cb gr; replace ho := ho.away av_ho_cb gr; replace hca := blk_a hca gr d_ca_cb; replace bel := below_grown bel gr ocb bel.size; clear hcb; have hcb := hq; clear hq gr) | ((with_reducible show wpList _ _ _ (⟨none, Op.store _ (.tmp 11) _, _, _, _, _⟩ :: _) _ _); refine wpList_store_part rfl 3 (.tmp 11) (.const (.int .i64 60)) rfl g4 29 rfl [.int .i64 60] rfl (cfl usualC none 0 0 none 0 0) 40 hcb (by simp) (W60L) rfl (by kernel_rfl) (by rfl) ?_; intro w7 hq gr; replace hf := hf.away av_hf_cb gr; replace ho := ho.away av_ho_cb gr; replace hca := blk_a hca gr d_ca_cb; replace bel := below_grown bel gr ocb bel.size; clear hcb; have hcb := hq; clear hq gr))
  replace bel := bel.drew
  replace hca : w7.drew.heap[g1]? = _ := hca
  replace hcb : w7.drew.heap[g4]? = _ := hcb
  replace hf := hf.drew
  replace ho := ho.drew
  refine wp_region_held_drew (S := fun W => W.heap[g1]? = some (.cells (cfl U60 Fx nf cf Ox nx cx).toArray 32 (0, 0)) ∧ W.heap[g4]? = some (.cells (W60L).toArray 40 (0, 0))) (by kernel_rfl) ⟨hca, hcb⟩ (fun hH => ?_)
  generalize w7.drew = w8 at bel hca hcb hf ho hH ⊢
  refine wpAnyH_take (i := 0) (v := ?_) rfl (by kernel_rfl) (by kernel_rfl) (by kernel_rfl) (fun _ _ _ h => h) (Or.inl ⟨by rfl, ?_⟩) hH ?_
  rotate_left
  · ((intro W hW; clear hW; go_simp) <;> with_reducible rfl)
  simp only [Act.put, List.getElem_toArray, List.getElem_cons_zero, List.setIfInBounds_toArray, List.set_cons_zero, List.set_cons_succ]
  refine wpAnyH_take (i := 1) (v := ?_) rfl (by kernel_rfl) (by kernel_rfl) (by kernel_rfl) (fun _ _ _ h => h) (Or.inl ⟨by rfl, ?_⟩) hH ?_
  rotate_left
  · ((intro W hW; clear hW; go_simp) <;> with_reducible rfl)
  simp only [Act.put, List.getElem_toArray, List.getElem_cons_zero, List.getElem_cons_succ, List.setIfInBounds_toArray, List.set_cons_zero, List.set_cons_succ]
  refine wpAnyH_take (i := 2) (v := ?_) rfl (by kernel_rfl) (by kernel_rfl) (by kernel_rfl) (fun _ _ _ h => h) (Or.inl ⟨by rfl, ?_⟩) hH ?_
  rotate_left
  · ((intro W hW; clear hW; go_simp) <;> with_reducible rfl)
  simp only [Act.put, List.getElem_toArray, List.getElem_cons_zero, List.getElem_cons_succ, List.setIfInBounds_toArray, List.set_cons_zero, List.set_cons_succ]
  refine wpAnyH_take (i := 3) (v := ?_) rfl (by kernel_rfl) (by kernel_rfl) (by kernel_rfl) (fun _ _ _ h => h) (Or.inl ⟨by rfl, ?_⟩) hH ?_
  rotate_left
  · ((intro W hW; clear hW; go_simp) <;> with_reducible rfl)
  simp only [Act.put, List.getElem_toArray, List.getElem_cons_zero, List.getElem_cons_succ, List.setIfInBounds_toArray, List.set_cons_zero, List.set_cons_succ]
  refine wpAnyH_take (i := 4) (v := ?_) rfl (by kernel_rfl) (by kernel_rfl) (by kernel_rfl) (fun _ _ _ h => h) (Or.inl ⟨by rfl, ?_⟩) hH ?_
  rotate_left
  · ((intro W hW; clear hW; go_simp) <;> with_reducible rfl)
  simp only [Act.put, List.getElem_toArray, List.getElem_cons_zero, List.getElem_cons_succ, List.setIfInBounds_toArray, List.set_cons_zero, List.set_cons_succ]
  refine wpAnyH_take (i := 5) (v := ?_) rfl (by kernel_rfl) (by kernel_rfl) (by kernel_rfl) (fun _ _ _ h => h) (Or.inl ⟨by rfl, ?_⟩) hH ?_
  rotate_left
  · ((intro W hW; clear hW; go_simp) <;> with_reducible rfl)
  simp only [Act.put, List.getElem_toArray, List.getElem_cons_zero, List.getElem_cons_succ, List.setIfInBounds_toArray, List.set_cons_zero, List.set_cons_succ]
  refine wpAnyH_take (i := 6) (v := ?_) rfl (by kernel_rfl) (by kernel_rfl) (by kernel_rfl) (fun _ _ _ h => h) (Or.inl ⟨by rfl, ?_⟩) hH ?_
  rotate_left
  · ((intro W hW; clear hW; go_simp) <;> with_reducible rfl)
  simp only [Act.put, List.getElem_toArray, List.getElem_cons_zero, List.getElem_cons_succ, List.setIfInBounds_toArray, List.set_cons_zero, List.set_cons_succ]
  refine wpAnyH_take (i := 7) (v := .agg (cfl U60 Fx nf cf Ox nx cx).toArray) rfl (by kernel_rfl) (by kernel_rfl) (by kernel_rfl) (fun _ _ _ h => h) (yieldsIf_load_part (by kernel_rfl) 32 _ rfl g1 0 40 rfl _ 32 (0, 0) (fun W hW => hW.1) _ rfl _ Try.underlying32 rfl (by kernel_rfl)) hH ?_
  simp only [Act.put, List.getElem_toArray, List.getElem_cons_zero, List.getElem_cons_succ, List.setIfInBounds_toArray, List.set_cons_zero, List.set_cons_succ]
  refine wpAnyH_take (i := 9) (v := .agg (W60L).toArray) rfl (by kernel_rfl) (by kernel_rfl) (by kernel_rfl) (fun _ _ _ h => h) (yieldsIf_load_part (by kernel_rfl) 40 _ rfl g4 0 40 rfl _ 40 (0, 0) (fun W hW => hW.2) _ rfl _ Try.underlying40 rfl (by kernel_rfl)) hH ?_
  simp only [Act.put, List.getElem_toArray, List.getElem_cons_zero, List.getElem_cons_succ, List.setIfInBounds_toArray, List.set_cons_zero, List.set_cons_succ]
  refine wpAnyH_ready (rs := [8]) (by kernel_rfl) (by simp) ?_
  refine AllReadyH.cons (o := _) rfl (fun K hK => ?_) AllReadyH.nil
  simp only [List.getElem_toArray, List.getElem_cons_zero, List.getElem_cons_succ]
  go_simp
  with_reducible refine (own_any U60 _ _ _ _ _ _ _ hf ho hnf hnx).mono ?_
  rintro e w9 ⟨Gx, ng, cg, Hx, nh, ch, rfl, hg, hh2, frG, frH, b9⟩
  dsimp only
  have av_hg_ca := frG.av (hlt hca)
  have av_hg_cb := frG.av (hlt hcb)
  have av_hh2_ca := frH.av (hlt hca)
  have av_hh2_cb := frH.av (hlt hcb)
  replace hca := blk_u hca b9
  replace hcb := blk_u hcb b9
  replace hf := hf.below b9
  replace ho := ho.below b9
  replace bel := bel.trans (b9.mono bel.size)
  clear b9
  replace hg : Sle fxf 10 w9 (Gx) (ng) (cg) (U60.fixed) := hg
  replace hh2 : Sle opf 7 w9 (Hx) (nh) (ch) (U60.opens) := hh2
  refine hK.out _ _ ⟨hca, hcb⟩ (fun hH10 => ?_)
  clear hK K
  refine wpAnyH_ready (rs := [10]) (by kernel_rfl) (by simp) ?_
  refine AllReadyH.cons (o := _) rfl (fun K hK => ?_) AllReadyH.nil
  simp only [List.getElem_toArray, List.getElem_cons_zero, List.getElem_cons_succ]
  go_simp
  with_reducible refine (same_60 _ _ _ _ _ _ _ hg hh2).mono ?_
  rintro e w11 ⟨rfl, b11⟩
  dsimp only
  replace hca := blk_u hca b11
  replace hcb := blk_u hcb b11
  replace hf := hf.below b11
  replace ho := ho.below b11
  replace hg := hg.below b11
  replace hh2 := hh2.below b11
  replace bel := bel.trans (b11.mono bel.size)
  clear b11
  clear hg
  clear hh2
  refine hK.out _ _ ⟨hca, hcb⟩ (fun hH12 => ?_)
  clear hK K
  refine wpAnyH_take (i := 11) (v := ?_) rfl (by kernel_rfl) (by kernel_rfl) (by kernel_rfl) (fun _ _ _ h => h) (Or.inl ⟨by rfl, ?_⟩) hH12 ?_
  rotate_left
  · ((intro W hW; clear hW; go_simp) <;> with_reducible rfl)
  simp only [Act.put, List.getElem_toArray, List.getElem_cons_zero, List.getElem_cons_succ, List.setIfInBounds_toArray, List.set_cons_zero, List.set_cons_succ]
  refine wpAnyH_take (i := 12) (v := ?_) rfl (by kernel_rfl) (by kernel_rfl) (by kernel_rfl) (fun _ _ _ h => h) (Or.inl ⟨by rfl, ?_⟩) hH12 ?_
  rotate_left
  · ((intro W hW; clear hW; go_simp) <;> with_reducible rfl)
  simp only [Act.put, List.getElem_toArray, List.getElem_cons_zero, List.getElem_cons_succ, List.setIfInBounds_toArray, List.set_cons_zero, List.set_cons_succ]
  refine wpAnyH_ready (rs := [13]) (by kernel_rfl) (by simp) ?_
  refine AllReadyH.cons (o := _) rfl (fun K hK => ?_) AllReadyH.nil
  simp only [List.getElem_toArray, List.getElem_cons_zero, List.getElem_cons_succ]
  go_simp
  with_reducible refine (cusual_c _).mono ?_
  rintro e w13 ⟨rfl, b13⟩
  dsimp only
  replace hca := blk_u hca b13
  replace hcb := blk_u hcb b13
  replace hf := hf.below b13
  replace ho := ho.below b13
  replace bel := bel.trans (b13.mono bel.size)
  clear b13
  refine hK.out _ _ ⟨hca, hcb⟩ (fun hH14 => ?_)
  clear hK K
  refine wpAnyH_ready (rs := [14]) (by kernel_rfl) (by simp) ?_
  refine AllReadyH.cons (o := _) rfl (fun K hK => ?_) AllReadyH.nil
  simp only [List.getElem_toArray, List.getElem_cons_zero, List.getElem_cons_succ]
  go_simp
  with_reducible refine (own_any usualC none 0 0 none 0 0 _ (Sle.nil (by decide) fxf_len _) (Sle.nil (by decide) opf_len _) (by decide) (by decide)).mono ?_
  rintro e w15 ⟨Gy, ng2, cg2, Hy, nh2, ch2, rfl, hg3, hh3, frG3, frH3, b15⟩
  dsimp only
  have av_hg3_ca := frG3.av (hlt hca)
  have av_hg3_cb := frG3.av (hlt hcb)
  have av_hh3_ca := frH3.av (hlt hca)
  have av_hh3_cb := frH3.av (hlt hcb)
  replace hca := blk_u hca b15
  replace hcb := blk_u hcb b15
  replace hf := hf.below b15
  replace ho := ho.below b15
  replace bel := bel.trans (b15.mono bel.size)
  clear b15
  replace hg3 : Sle fxf 10 w15 (Gy) (ng2) (cg2) (usualC.fixed) := hg3
  replace hh3 : Sle opf 7 w15 (Hy) (nh2) (ch2) (usualC.opens) := hh3
  refine hK.out _ _ ⟨hca, hcb⟩ (fun hH16 => ?_)
  clear hK K
  refine wpAnyH_ready (rs := [15]) (by kernel_rfl) (by simp) ?_
  refine AllReadyH.cons (o := _) rfl (fun K hK => ?_) AllReadyH.nil
  simp only [List.getElem_toArray, List.getElem_cons_zero, List.getElem_cons_succ]
  go_simp
  with_reducible refine (rusual_any _).mono ?_
  rintro e w17 ⟨rfl, b17⟩
  dsimp only
  replace hca := blk_u hca b17
  replace hcb := blk_u hcb b17
  replace hf := hf.below b17
  replace ho := ho.below b17
  replace hg3 := hg3.below b17
  replace hh3 := hh3.below b17
  replace bel := bel.trans (b17.mono bel.size)
  clear b17
  refine hK.out _ _ ⟨hca, hcb⟩ (fun hH18 => ?_)
  clear hK K
  refine wpAnyH_ready (rs := [16]) (by kernel_rfl) (by simp) ?_
  refine AllReadyH.cons (o := _) rfl (fun K hK => ?_) AllReadyH.nil
  simp only [List.getElem_toArray, List.getElem_cons_zero, List.getElem_cons_succ]
  go_simp
  with_reducible refine (same_us _ _ _ _ _ _ _ hg3 hh3).mono ?_
  rintro e w19 ⟨rfl, b19⟩
  dsimp only
  replace hca := blk_u hca b19
  replace hcb := blk_u hcb b19
  replace hf := hf.below b19
  replace ho := ho.below b19
  replace hg3 := hg3.below b19
  replace hh3 := hh3.below b19
  replace bel := bel.trans (b19.mono bel.size)
  clear b19
  clear hg3
  clear hh3
  refine hK.out _ _ ⟨hca, hcb⟩ (fun hH20 => ?_)
  clear hK K
  refine wpAnyH_take (i := 17) (v := ?_) rfl (by kernel_rfl) (by kernel_rfl) (by kernel_rfl) (fun _ _ _ h => h) (Or.inl ⟨by rfl, ?_⟩) hH20 ?_
  rotate_left
  · ((intro W hW; clear hW; go_simp) <;> with_reducible rfl)
  simp only [Act.put, List.getElem_toArray, List.getElem_cons_zero, List.getElem_cons_succ, List.setIfInBounds_toArray, List.set_cons_zero, List.set_cons_succ]
  refine wpAnyH_take (i := 18) (v := ?_) rfl (by kernel_rfl) (by kernel_rfl) (by kernel_rfl) (fun _ _ _ h => h) (Or.inl ⟨by rfl, ?_⟩) hH20 ?_
  rotate_left
  · ((intro W hW; clear hW; go_simp) <;> with_reducible rfl)
  simp only [Act.put, List.getElem_toArray, List.getElem_cons_zero, List.getElem_cons_succ, List.setIfInBounds_toArray, List.set_cons_zero, List.set_cons_succ]
  refine wpAnyH_take (i := 19) (v := .agg (cfl U60 Fx nf cf Ox nx cx).toArray) rfl (by kernel_rfl) (by kernel_rfl) (by kernel_rfl) (fun _ _ _ h => h) (yieldsIf_load_part (by kernel_rfl) 32 _ rfl g1 0 40 rfl _ 32 (0, 0) (fun W hW => hW.1) _ rfl _ Try.underlying32 rfl (by kernel_rfl)) hH20 ?_
  simp only [Act.put, List.getElem_toArray, List.getElem_cons_zero, List.getElem_cons_succ, List.setIfInBounds_toArray, List.set_cons_zero, List.set_cons_succ]
  refine wpAnyH_ready (rs := [20]) (by kernel_rfl) (by simp) ?_
  refine AllReadyH.cons (o := _) rfl (fun K hK => ?_) AllReadyH.nil
  simp only [List.getElem_toArray, List.getElem_cons_zero, List.getElem_cons_succ]
  go_simp
  with_reducible refine (ccheck_any U60 _ _ _ _ _ _ _ hf ho).mono ?_
  rintro e w21 ⟨rfl, b21⟩
  dsimp only
  replace hca := blk_u hca b21
  replace hcb := blk_u hcb b21
  replace hf := hf.below b21
  replace ho := ho.below b21
  replace bel := bel.trans (b21.mono bel.size)
  clear b21
  rw [show errC U60.check = 0 by rw [check_60]; rfl]
  refine hK.out _ _ ⟨hca, hcb⟩ (fun hH22 => ?_)
  clear hK K
  refine wpAnyH_take (i := 21) (v := ?_) rfl (by kernel_rfl) (by kernel_rfl) (by kernel_rfl) (fun _ _ _ h => h) (Or.inl ⟨by rfl, ?_⟩) hH22 ?_
  rotate_left
  · ((intro W hW; clear hW; go_simp) <;> with_reducible rfl)
  simp only [Act.put, List.getElem_toArray, List.getElem_cons_zero, List.getElem_cons_succ, List.setIfInBounds_toArray, List.set_cons_zero, List.set_cons_succ]
  refine wpAnyH_take (i := 22) (v := ?_) rfl (by kernel_rfl) (by kernel_rfl) (by kernel_rfl) (fun _ _ _ h => h) (Or.inl ⟨by rfl, ?_⟩) hH22 ?_
  rotate_left
  · ((intro W hW; clear hW; go_simp) <;> with_reducible rfl)
  simp only [Act.put, List.getElem_toArray, List.getElem_cons_zero, List.getElem_cons_succ, List.setIfInBounds_toArray, List.set_cons_zero, List.set_cons_succ]
  refine wpAnyH_take (i := 23) (v := ?_) rfl (by kernel_rfl) (by kernel_rfl) (by kernel_rfl) (fun _ _ _ h => h) (Or.inl ⟨by rfl, ?_⟩) hH22 ?_
  rotate_left
  · ((intro W hW; clear hW; go_simp) <;> with_reducible rfl)
  simp only [Act.put, List.getElem_toArray, List.getElem_cons_zero, List.getElem_cons_succ, List.setIfInBounds_toArray, List.set_cons_zero]
  refine wpAnyH_done (by kernel_rfl) ?_ _
  go_wp2_with fail
  go_ret
  exact ⟨rfl, bel⟩
end Go.Proofs.Ytdfobilagidmfaa
