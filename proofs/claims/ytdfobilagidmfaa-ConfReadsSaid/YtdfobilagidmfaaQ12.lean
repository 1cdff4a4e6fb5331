/- Texts put together: Cga, Cgf, Crf, Crg. -/
import Derived.Test.YtdfobilagidmfaaQ1
import Derived.Test.YtdfobilagidmfaaQ11
namespace Go.Proofs.Ytdfobilagidmfaa
open Go.RowKit

theorem cparse_60 (w : World) : Calls Try.prog 9 #[.string ⟨#[116, 105, 109, 101, 32, 61, 32, 54, 48]⟩] w fun e w' => ∃ Fx nf cf Ox nx cx, e = .returned (.tuple #[.agg (cfl U60 Fx nf cf Ox nx cx).toArray, .int .i64 0, .int .i64 0]) ∧ Sle fxf 10 w' Fx nf cf U60.fixed ∧ Sle opf 7 w' Ox nx cx U60.opens ∧ Fr w.heap.size Fx nf ∧ Fr w.heap.size Ox nx ∧ Below w.heap.size w w' := by
  refine (cparse_any [116, 105, 109, 101, 32, 61, 32, 54, 48] w (by decide)).mono ?_
  rintro e w' ⟨Fx, nf, cf, Ox, nx, cx, rfl, h⟩
  rw [parse_60] at h ⊢
  exact ⟨Fx, nf, cf, Ox, nx, cx, rfl, h⟩
theorem same_60 (Gx : Option Addr) (ng cg : Nat) (Hx : Option Addr) (nh ch : Nat) (w : World) (hg : Sle fxf 10 w Gx ng cg U60.fixed) (hh : Sle opf 7 w Hx nh ch U60.opens) : Calls Try.prog 11 #[.agg (cfl U60 Gx ng cg Hx nh ch).toArray, .agg #[.int .u8 (usualC.own.a.toNat : Int), .int .u8 (usualC.own.b.toNat : Int), .int .u8 (usualC.own.c.toNat : Int), .int .u8 (usualC.own.d.toNat : Int), .int .u8 (usualC.lan.a.toNat : Int), .int .u8 (usualC.lan.b.toNat : Int), .int .u8 (usualC.lan.c.toNat : Int), .int .u8 (usualC.lan.d.toNat : Int), .int .i64 usualC.bits, .int .u8 (usualC.lanmac.a.toNat : Int), .int .u8 (usualC.lanmac.b.toNat : Int), .int .u8 (usualC.lanmac.c.toNat : Int), .int .u8 (usualC.lanmac.d.toNat : Int), .int .u8 (usualC.lanmac.e.toNat : Int), .int .u8 (usualC.lanmac.f.toNat : Int), .int .u8 (usualC.wanmac.a.toNat : Int), .int .u8 (usualC.wanmac.b.toNat : Int), .int .u8 (usualC.wanmac.c.toNat : Int), .int .u8 (usualC.wanmac.d.toNat : Int), .int .u8 (usualC.wanmac.e.toNat : Int), .int .u8 (usualC.wanmac.f.toNat : Int), .int .u8 (usualC.first.a.toNat : Int), .int .u8 (usualC.first.b.toNat : Int), .int .u8 (usualC.first.c.toNat : Int), .int .u8 (usualC.first.d.toNat : Int), .int .u8 (usualC.last.a.toNat : Int), .int .u8 (usualC.last.b.toNat : Int), .int .u8 (usualC.last.c.toNat : Int), .int .u8 (usualC.last.d.toNat : Int), .int .i64 60, .int .u8 (usualC.dns.a.toNat : Int), .int .u8 (usualC.dns.b.toNat : Int), .int .u8 (usualC.dns.c.toNat : Int), .int .u8 (usualC.dns.d.toNat : Int), .int .i64 usualC.udp, .int .i64 usualC.tcp, .int .i64 usualC.icmp, .int .i64 usualC.low, .slice none 0 0, .slice none 0 0]] w fun e w' => e = .returned (.bool true) ∧ Below w.heap.size w w' :=
  same_any U60 Gx ng cg Hx nh ch none 0 0 none 0 0 w hg hh (Sle.nil (by decide) fxf_len w) (Sle.nil (by decide) opf_len w) (by rw [← hg.1]; decide) (by rw [← hh.1]; decide)
theorem same_us (Gx : Option Addr) (ng cg : Nat) (Hx : Option Addr) (nh ch : Nat) (w : World) (hg : Sle fxf 10 w Gx ng cg usualC.fixed) (hh : Sle opf 7 w Hx nh ch usualC.opens) : Calls Try.prog 11 #[.agg (cfl usualC Gx ng cg Hx nh ch).toArray, .agg (cfl usualC none 0 0 none 0 0).toArray] w fun e w' => e = .returned (.bool true) ∧ Below w.heap.size w w' :=
  same_any usualC Gx ng cg Hx nh ch none 0 0 none 0 0 w hg hh (Sle.nil (by decide) fxf_len w) (Sle.nil (by decide) opf_len w) (by rw [← hg.1]; decide) (by rw [← hh.1]; decide)
@[reducible] def W60L : List Value := [.int .u8 (usualC.own.a.toNat : Int), .int .u8 (usualC.own.b.toNat : Int), .int .u8 (usualC.own.c.toNat : Int), .int .u8 (usualC.own.d.toNat : Int), .int .u8 (usualC.lan.a.toNat : Int), .int .u8 (usualC.lan.b.toNat : Int), .int .u8 (usualC.lan.c.toNat : Int), .int .u8 (usualC.lan.d.toNat : Int), .int .i64 usualC.bits, .int .u8 (usualC.lanmac.a.toNat : Int), .int .u8 (usualC.lanmac.b.toNat : Int), .int .u8 (usualC.lanmac.c.toNat : Int), .int .u8 (usualC.lanmac.d.toNat : Int), .int .u8 (usualC.lanmac.e.toNat : Int), .int .u8 (usualC.lanmac.f.toNat : Int), .int .u8 (usualC.wanmac.a.toNat : Int), .int .u8 (usualC.wanmac.b.toNat : Int), .int .u8 (usualC.wanmac.c.toNat : Int), .int .u8 (usualC.wanmac.d.toNat : Int), .int .u8 (usualC.wanmac.e.toNat : Int), .int .u8 (usualC.wanmac.f.toNat : Int), .int .u8 (usualC.first.a.toNat : Int), .int .u8 (usualC.first.b.toNat : Int), .int .u8 (usualC.first.c.toNat : Int), .int .u8 (usualC.first.d.toNat : Int), .int .u8 (usualC.last.a.toNat : Int), .int .u8 (usualC.last.b.toNat : Int), .int .u8 (usualC.last.c.toNat : Int), .int .u8 (usualC.last.d.toNat : Int), .int .i64 60, .int .u8 (usualC.dns.a.toNat : Int), .int .u8 (usualC.dns.b.toNat : Int), .int .u8 (usualC.dns.c.toNat : Int), .int .u8 (usualC.dns.d.toNat : Int), .int .i64 usualC.udp, .int .i64 usualC.tcp, .int .i64 usualC.icmp, .int .i64 usualC.low, .slice none 0 0, .slice none 0 0]
set_option linter.unusedVariables false in
set_option linter.unusedSimpArgs false in
set_option maxRecDepth 100000 in
set_option maxHeartbeats 16000000 in
theorem awake_any (w : World) : Calls Try.prog 8 #[] w fun e w' => e = .returned (.bool true) ∧ Below w.heap.size w w' := by
  have bel := Below.refl w.heap.size w
  go_enter Try.func8, Try.ntmps8
  go_wp2_with fail
  with_reducible refine (cparse_60 _).mono ?_
  rintro e w1 ⟨Fx, nf, cf, Ox, nx, cx, rfl, hf, ho, frF, frO, b1⟩
  replace bel := bel.trans (b1.mono bel.size)
  clear b1
  replace hf : Sle fxf 10 w1 (Fx) (nf) (cf) (U60.fixed) := hf
  replace ho : Sle opf 7 w1 (Ox) (nx) (cx) (U60.opens) := ho
  have hnf : nf ≤ 1000 := by rw [← hf.1]; decide
  have hnx : nx ≤ 1000 := by rw [← ho.1]; decide
  go_wp2_with (first | ((with_reducible show wpList _ _ _ (⟨some 1, _, _, _, _, _⟩ :: _) _ _); refine wpList_new_a rfl 32 rfl #[.int .u8 0, .int .u8 0, .int .u8 0, .int .u8 0, .int .u8 0, .int .u8 0, .int .u8 0, .int .u8 0, .int .i64 0, .int .u8 0, .int .u8 0, .int .u8 0, .int .u8 0, .int .u8 0, .int .u8 0, .int .u8 0, .int .u8 0, .int .u8 0, .int .u8 0, .int .u8 0, .int .u8 0, .int .u8 0, .int .u8 0, .int .u8 0, .int .u8 0, .int .u8 0, .int .u8 0, .int .u8 0, .int .u8 0, .int .i64 0, .int .u8 0, .int .u8 0, .int .u8 0, .int .u8 0, .int .i64 0, .int .i64 0, .int .i64 0, .int .i64 0, .slice none 0 0, .slice none 0 0] (by kernel_rfl) ?_; intro g1 w2 ge hh bb; have av_hf_ca := hf.av_new ge; have av_ho_ca := ho.av_new ge; have oca := Nat.le_trans bel.size ge; replace hf := hf.below bb; replace ho := ho.below bb; replace bel := bel.trans (bb.mono bel.size); have hca := hh; clear hh ge bb) | ((with_reducible show wpList _ _ _ (⟨none, Op.store _ (.tmp 1) _, _, _, _, _⟩ :: _) _ _); refine wpList_store_blk rfl 32 (.tmp 1) (.tmp 7) rfl g1 rfl _ rfl _ 32 hca (by rfl) (by kernel_rfl) (by kernel_rfl) ?_; intro w3 hq gr; replace hf := hf.away av_hf_ca gr; replace ho := ho.away av_ho_ca gr; replace bel := below_grown bel gr oca bel.size; clear hca; have hca := hq; clear hq gr))
  with_reducible refine (rusual_any _).mono ?_
  rintro e w4 ⟨rfl, b4⟩
  replace hca := blk_u hca b4
  replace hf := hf.below b4
  replace ho := ho.below b4
  replace bel := bel.trans (b4.mono bel.size)
  clear b4
  go_wp2_with (first | ((with_reducible show wpList _ _ _ (⟨some 4, _, _, _, _, _⟩ :: _) _ _); refine wpList_new_a rfl 40 rfl #[.int .u8 0, .int .u8 0, .int .u8 0, .int .u8 0, .int .u8 0, .int .u8 0, .int .u8 0, .int .u8 0, .int .i64 0, .int .u8 0, .int .u8 0, .int .u8 0, .int .u8 0, .int .u8 0, .int .u8 0, .int .u8 0, .int .u8 0, .int .u8 0, .int .u8 0, .int .u8 0, .int .u8 0, .int .u8 0, .int .u8 0, .int .u8 0, .int .u8 0, .int .u8 0, .int .u8 0, .int .u8 0, .int .u8 0, .int .i64 0, .int .u8 0, .int .u8 0, .int .u8 0, .int .u8 0, .int .i64 0, .int .i64 0, .int .i64 0, .int .i64 0, .slice none 0 0, .slice none 0 0] (by kernel_rfl) ?_; intro g4 w5 ge hh bb; have d_ca_cb := ne_new (hlt hca) ge; have av_hf_cb := hf.av_new ge; have av_ho_cb := ho.av_new ge; have ocb := Nat.le_trans bel.size ge; replace hca := blk_u hca bb; replace hf := hf.below bb; replace ho := ho.below bb; replace bel := bel.trans (bb.mono bel.size); have hcb := hh; clear hh ge bb) | ((with_reducible show wpList _ _ _ (⟨none, Op.store _ (.tmp 4) _, _, _, _, _⟩ :: _) _ _); refine wpList_store_blk rfl 40 (.tmp 4) (.tmp 10) rfl g4 rfl _ rfl _ 40 hcb (by rfl) (by kernel_rfl) (by kernel_rfl) ?_; intro w6 hq gr; replace hf := hf.away av_hf_cb gr; replace ho := ho.away av_ho_cb gr; replace hca := blk_a hca gr d_ca_cb; replace bel := below_grown bel gr ocb bel.size; clear hcb; have hcb := hq; clear hq gr) | ((with_reducible show wpList _ _ _ (⟨none, Op.store _ (.tmp 11) _, _, _, _, _⟩ :: _) _ _); refine wpList_store_part rfl 3 (.tmp 11) (.const (.int .i64 60)) rfl g4 29 rfl [.int .i64 60] rfl (cfl usualC none 0 0 none 0 0) 40 hcb (by simp) (W60L) rfl (by kernel_rfl) (by rfl) ?_; intro w7 hq gr; replace hf := hf.away av_hf_cb gr; replace ho := ho.away av_ho_cb gr; replace hca := blk_a hca gr d_ca_cb; replace bel := below_grown bel gr ocb bel.size; clear hcb; have hcb := hq; clear hq gr))
  replace bel := bel.drew
  replace hca : w7.drew.heap[g1]? = _ := hca
  replace hcb : w7.drew.heap[g4]? = _ := hcb
  replace hf := hf.drew
  replace ho := ho.drew
  refine wp_region_held_drew (S := fun W => W.heap[g1]? = some (.cells (cfl U60 Fx nf cf Ox nx cx).toArray 32 (0, 0)) ∧ W.heap[g4]? = some (.cells (W60L).toArray 40 (0, 0))) (by kernel_rfl) ⟨hca, hcb⟩ (fun hH => ?_)
  generalize w7.drew = w8 at bel hca hcb hf ho hH ⊢
  refine wpAnyH_take (i := 0) (v := ?_) rfl (by kernel_rfl) (by kernel_rfl) (by kernel_rfl) (fun _ _ _ h => h) (Or.inl ⟨by rfl, ?_⟩) hH ?_
  rotate_left
  · ((intro W hW; clear hW; go_simp) <;> with_reducible rfl)
  simp only [Act.put, List.getElem_toArray, List.getElem_cons_zero, List.setIfInBounds_toArray, List.set_cons_zero, List.set_cons_succ]
  refine wpAnyH_take (i := 1) (v := ?_) rfl (by kernel_rfl) (by kernel_rfl) (by kernel_rfl) (fun _ _ _ h => h) (Or.inl ⟨by rfl, ?_⟩) hH ?_
  rotate_left
  · ((intro W hW; clear hW; go_simp) <;> with_reducible rfl)
  simp only [sq3, sq4]
  refine wpAnyH_take (i := 2) (v := ?_) rfl (by kernel_rfl) (by kernel_rfl) (by kernel_rfl) (fun _ _ _ h => h) (Or.inl ⟨by rfl, ?_⟩) hH ?_
  rotate_left
  · ((intro W hW; clear hW; go_simp) <;> with_reducible rfl)
  simp only [sq3, sq4]
  refine wpAnyH_take (i := 3) (v := ?_) rfl (by kernel_rfl) (by kernel_rfl) (by kernel_rfl) (fun _ _ _ h => h) (Or.inl ⟨by rfl, ?_⟩) hH ?_
  rotate_left
  · ((intro W hW; clear hW; go_simp) <;> with_reducible rfl)
  simp only [sq3, sq4]
  refine wpAnyH_take (i := 4) (v := ?_) rfl (by kernel_rfl) (by kernel_rfl) (by kernel_rfl) (fun _ _ _ h => h) (Or.inl ⟨by rfl, ?_⟩) hH ?_
  rotate_left
  · ((intro W hW; clear hW; go_simp) <;> with_reducible rfl)
  simp only [sq3, sq4]
  refine wpAnyH_take (i := 5) (v := ?_) rfl (by kernel_rfl) (by kernel_rfl) (by kernel_rfl) (fun _ _ _ h => h) (Or.inl ⟨by rfl, ?_⟩) hH ?_
  rotate_left
  · ((intro W hW; clear hW; go_simp) <;> with_reducible rfl)
  simp only [sq3, sq4]
  refine wpAnyH_take (i := 6) (v := ?_) rfl (by kernel_rfl) (by kernel_rfl) (by kernel_rfl) (fun _ _ _ h => h) (Or.inl ⟨by rfl, ?_⟩) hH ?_
  rotate_left
  · ((intro W hW; clear hW; go_simp) <;> with_reducible rfl)
  simp only [sq3, sq4]
  refine wpAnyH_take (i := 7) (v := .agg (cfl U60 Fx nf cf Ox nx cx).toArray) rfl (by kernel_rfl) (by kernel_rfl) (by kernel_rfl) (fun _ _ _ h => h) (yieldsIf_load_part (by kernel_rfl) 32 _ rfl g1 0 40 rfl _ 32 (0, 0) (fun W hW => hW.1) _ rfl _ Try.underlying32 rfl (by kernel_rfl)) hH ?_
  simp only [sq3, sq4]
  refine wpAnyH_take (i := 9) (v := .agg (W60L).toArray) rfl (by kernel_rfl) (by kernel_rfl) (by kernel_rfl) (fun _ _ _ h => h) (yieldsIf_load_part (by kernel_rfl) 40 _ rfl g4 0 40 rfl _ 40 (0, 0) (fun W hW => hW.2) _ rfl _ Try.underlying40 rfl (by kernel_rfl)) hH ?_
  simp only [sq3, sq4]
  refine wpAnyH_ready (rs := [8]) (by kernel_rfl) (by simp) ?_
  refine AllReadyH.cons (o := _) rfl (fun K hK => ?_) AllReadyH.nil
  simp only [sq3]
  go_simp
  with_reducible refine (own_any U60 _ _ _ _ _ _ _ hf ho hnf hnx).mono ?_
  rintro e w9 ⟨Gx, ng, cg, Hx, nh, ch, rfl, hg, hh2, frG, frH, b9⟩
  dsimp only
  have av_hg_ca := frG.av (hlt hca)
  have av_hg_cb := frG.av (hlt hcb)
  have av_hh2_ca := frH.av (hlt hca)
  have av_hh2_cb := frH.av (hlt hcb)
  replace hca := blk_u hca b9
  replace hcb := blk_u hcb b9
  replace hf := hf.below b9
  replace ho := ho.below b9
  replace bel := bel.trans (b9.mono bel.size)
  clear b9
  replace hg : Sle fxf 10 w9 (Gx) (ng) (cg) (U60.fixed) := hg
  replace hh2 : Sle opf 7 w9 (Hx) (nh) (ch) (U60.opens) := hh2
  refine hK.out _ _ ⟨hca, hcb⟩ (fun hH10 => ?_)
  clear hK K
  refine wpAnyH_ready (rs := [10]) (by kernel_rfl) (by simp) ?_
  refine AllReadyH.cons (o := _) rfl (fun K hK => ?_) AllReadyH.nil
  simp only [sq3]
  go_simp
  with_reducible refine (same_60 _ _ _ _ _ _ _ hg hh2).mono ?_
  rintro e w11 ⟨rfl, b11⟩
  dsimp only
  replace hca := blk_u hca b11
  replace hcb := blk_u hcb b11
  replace hf := hf.below b11
  replace ho := ho.below b11
  replace hg := hg.below b11
  replace hh2 := hh2.below b11
  replace bel := bel.trans (b11.mono bel.size)
  clear b11
  clear hg
  clear hh2
  refine hK.out _ _ ⟨hca, hcb⟩ (fun hH12 => ?_)
  clear hK K
  refine wpAnyH_take (i := 11) (v := ?_) rfl (by kernel_rfl) (by kernel_rfl) (by kernel_rfl) (fun _ _ _ h => h) (Or.inl ⟨by rfl, ?_⟩) hH12 ?_
  rotate_left
  · ((intro W hW; clear hW; go_simp) <;> with_reducible rfl)
  simp only [sq3, sq4]
  refine wpAnyH_take (i := 12) (v := ?_) rfl (by kernel_rfl) (by kernel_rfl) (by kernel_rfl) (fun _ _ _ h => h) (Or.inl ⟨by rfl, ?_⟩) hH12 ?_
  rotate_left
  · ((intro W hW; clear hW; go_simp) <;> with_reducible rfl)
  simp only [sq3, sq4]
  refine wpAnyH_ready (rs := [13]) (by kernel_rfl) (by simp) ?_
  refine AllReadyH.cons (o := _) rfl (fun K hK => ?_) AllReadyH.nil
  simp only [sq3]
  go_simp
  with_reducible refine (cusual_c _).mono ?_
  rintro e w13 ⟨rfl, b13⟩
  dsimp only
  replace hca := blk_u hca b13
  replace hcb := blk_u hcb b13
  replace hf := hf.below b13
  replace ho := ho.below b13
  replace bel := bel.trans (b13.mono bel.size)
  clear b13
  refine hK.out _ _ ⟨hca, hcb⟩ (fun hH14 => ?_)
  clear hK K
  refine wpAnyH_ready (rs := [14]) (by kernel_rfl) (by simp) ?_
  refine AllReadyH.cons (o := _) rfl (fun K hK => ?_) AllReadyH.nil
  simp only [sq3]
  go_simp
  with_reducible refine (own_any usualC none 0 0 none 0 0 _ (Sle.nil (by decide) fxf_len _) (Sle.nil (by decide) opf_len _) (by decide) (by decide)).mono ?_
  rintro e w15 ⟨Gy, ng2, cg2, Hy, nh2, ch2, rfl, hg3, hh3, frG3, frH3, b15⟩
  dsimp only
  have av_hg3_ca := frG3.av (hlt hca)
  have av_hg3_cb := frG3.av (hlt hcb)
  have av_hh3_ca := frH3.av (hlt hca)
  have av_hh3_cb := frH3.av (hlt hcb)
  replace hca := blk_u hca b15
  replace hcb := blk_u hcb b15
  replace hf := hf.below b15
  replace ho := ho.below b15
  replace bel := bel.trans (b15.mono bel.size)
  clear b15
  replace hg3 : Sle fxf 10 w15 (Gy) (ng2) (cg2) (usualC.fixed) := hg3
  replace hh3 : Sle opf 7 w15 (Hy) (nh2) (ch2) (usualC.opens) := hh3
  refine hK.out _ _ ⟨hca, hcb⟩ (fun hH16 => ?_)
  clear hK K
  refine wpAnyH_ready (rs := [15]) (by kernel_rfl) (by simp) ?_
  refine AllReadyH.cons (o := _) rfl (fun K hK => ?_) AllReadyH.nil
  simp only [sq3]
  go_simp
  with_reducible refine (rusual_any _).mono ?_
  rintro e w17 ⟨rfl, b17⟩
  dsimp only
  replace hca := blk_u hca b17
  replace hcb := blk_u hcb b17
  replace hf := hf.below b17
  replace ho := ho.below b17
  replace hg3 := hg3.below b17
  replace hh3 := hh3.below b17
  replace bel := bel.trans (b17.mono bel.size)
  clear b17
  refine hK.out _ _ ⟨hca, hcb⟩ (fun hH18 => ?_)
  clear hK K
  refine wpAnyH_ready (rs := [16]) (by kernel_rfl) (by simp) ?_
  refine AllReadyH.cons (o := _) rfl (fun K hK => ?_) AllReadyH.nil
  simp only [sq3]
  go_simp
  with_reducible refine (same_us _ _ _ _ _ _ _ hg3 hh3).mono ?_
  rintro e w19 ⟨rfl, b19⟩
  dsimp only
  replace hca := blk_u hca b19
  replace hcb := blk_u hcb b19
  replace hf := hf.below b19
  replace ho := ho.below b19
  replace hg3 := hg3.below b19
  replace hh3 := hh3.below b19
  replace bel := bel.trans (b19.mono bel.size)
  clear b19
  clear hg3
  clear hh3
  refine hK.out _ _ ⟨hca, hcb⟩ (fun hH20 => ?_)
  clear hK K
  refine wpAnyH_take (i := 17) (v := ?_) rfl (by kernel_rfl) (by kernel_rfl) (by kernel_rfl) (fun _ _ _ h => h) (Or.inl ⟨by rfl, ?_⟩) hH20 ?_
  rotate_left
  · ((intro W hW; clear hW; go_simp) <;> with_reducible rfl)
  simp only [sq3, sq4]
  refine wpAnyH_take (i := 18) (v := ?_) rfl (by kernel_rfl) (by kernel_rfl) (by kernel_rfl) (fun _ _ _ h => h) (Or.inl ⟨by rfl, ?_⟩) hH20 ?_
  rotate_left
  · ((intro W hW; clear hW; go_simp) <;> with_reducible rfl)
  simp only [sq3, sq4]
  refine wpAnyH_take (i := 19) (v := .agg (cfl U60 Fx nf cf Ox nx cx).toArray) rfl (by kernel_rfl) (by kernel_rfl) (by kernel_rfl) (fun _ _ _ h => h) (yieldsIf_load_part (by kernel_rfl) 32 _ rfl g1 0 40 rfl _ 32 (0, 0) (fun W hW => hW.1) _ rfl _ Try.underlying32 rfl (by kernel_rfl)) hH20 ?_
  simp only [sq3, sq4]
  refine wpAnyH_ready (rs := [20]) (by kernel_rfl) (by simp) ?_
  refine AllReadyH.cons (o := _) rfl (fun K hK => ?_) AllReadyH.nil
  simp only [sq3]
  go_simp
  with_reducible refine (ccheck_any U60 _ _ _ _ _ _ _ hf ho).mono ?_
  rintro e w21 ⟨rfl, b21⟩
  dsimp only
  replace hca := blk_u hca b21
  replace hcb := blk_u hcb b21
  replace hf := hf.below b21
  replace ho := ho.below b21
  replace bel := bel.trans (b21.mono bel.size)
  clear b21
  rw [show errC U60.check = 0 by rw [check_60]; rfl]
  refine hK.out _ _ ⟨hca, hcb⟩ (fun hH22 => ?_)
  clear hK K
  refine wpAnyH_take (i := 21) (v := ?_) rfl (by kernel_rfl) (by kernel_rfl) (by kernel_rfl) (fun _ _ _ h => h) (Or.inl ⟨by rfl, ?_⟩) hH22 ?_
  rotate_left
  · ((intro W hW; clear hW; go_simp) <;> with_reducible rfl)
  simp only [sq3, sq4]
  refine wpAnyH_take (i := 22) (v := ?_) rfl (by kernel_rfl) (by kernel_rfl) (by kernel_rfl) (fun _ _ _ h => h) (Or.inl ⟨by rfl, ?_⟩) hH22 ?_
  rotate_left
  · ((intro W hW; clear hW; go_simp) <;> with_reducible rfl)
  simp only [sq3, sq4]
  refine wpAnyH_take (i := 23) (v := ?_) rfl (by kernel_rfl) (by kernel_rfl) (by kernel_rfl) (fun _ _ _ h => h) (Or.inl ⟨by rfl, ?_⟩) hH22 ?_
  rotate_left
  · ((intro W hW; clear hW; go_simp) <;> with_reducible rfl)
  simp only [Act.put, List.getElem_toArray, List.getElem_cons_zero, List.getElem_cons_succ, List.setIfInBounds_toArray, List.set_cons_zero]
  refine wpAnyH_done (by kernel_rfl) ?_ _
  go_wp2_with fail
  go_ret
  exact ⟨rfl, bel⟩
open Go.RowKit

theorem cutStep_pre (b : UInt8) (ls m : List (List UInt8)) (c : UInt8) (hm : m ≠ []) : cutStep b (ls ++ m) c = ls ++ cutStep b m c := by
  obtain ⟨q, x, rfl⟩ : ∃ q x, m = q ++ [x] := by
    rcases List.eq_nil_or_concat m with h | ⟨q, x, h⟩
    · exact absurd h hm
    · exact ⟨q, x, by rw [h, List.concat_eq_append]⟩
  unfold cutStep
  split
  · simp
  · rw [← List.append_assoc, List.dropLast_concat, List.dropLast_concat]
    simp
theorem fold_pre (b : UInt8) : ∀ (r : List UInt8) (ls m : List (List UInt8)), m ≠ [] → r.foldl (cutStep b) (ls ++ m) = ls ++ r.foldl (cutStep b) m
  | [], _, _, _ => rfl
  | c :: r, ls, m, hm => by
    rw [List.foldl_cons, cutStep_pre b ls m c hm, List.foldl_cons]
    exact fold_pre b r ls _ (cutStep_ne b m c)
theorem cutF_cons (b : UInt8) (l r : List UInt8) (h : ∀ c ∈ l, c ≠ b) : cutF b (l ++ b :: r) = l :: cutF b r := by
  have h1 : cutF b l = [l] := cut_none b l h
  unfold cutF at h1 ⊢
  rw [List.foldl_append, h1, List.foldl_cons]
  have h2 : cutStep b [l] b = [l] ++ [[]] := by unfold cutStep; rw [if_pos rfl]
  rw [h2, fold_pre b r [l] [[]] (by simp)]
  rfl
/-- Lines as a text. -/
def txt (ls : List (List UInt8)) : List UInt8 := ls.flatMap (· ++ [10])
theorem cparse_is {t : List UInt8} {c : Cf} {l e : Int} (h : parseS t = (c, l, e)) (ht : t.length ≤ 1000000) (w : World) : Calls Try.prog 9 #[.string ⟨t.toArray⟩] w fun r w' => ∃ Fx nf cf Ox nx cx, r = .returned (.tuple #[.agg (cfl c Fx nf cf Ox nx cx).toArray, .int .i64 l, .int .i64 e]) ∧ Sle fxf 10 w' Fx nf cf c.fixed ∧ Sle opf 7 w' Ox nx cx c.opens ∧ Fr w.heap.size Fx nf ∧ Fr w.heap.size Ox nx ∧ Below w.heap.size w w' := by
  refine (cparse_any t w ht).mono ?_
  rintro r w' ⟨Fx, nf, cf, Ox, nx, cx, rfl, hh⟩
  rw [h] at hh ⊢
  exact ⟨Fx, nf, cf, Ox, nx, cx, rfl, hh⟩
open Go.RowKit

def blank (p : List UInt8) : Prop := ∀ c ∈ p, isBl c = true
def free (p : List UInt8) : Prop := ∀ c ∈ p, isBl c = false
theorem blank_nil : blank [] := fun c h => by cases h
theorem free_nil : free [] := fun c h => by cases h
theorem blank_cons {c : UInt8} {l : List UInt8} (hc : isBl c = true) (h : blank l) : blank (c :: l) := fun d hd => by
  rcases List.mem_cons.1 hd with rfl | hd
  · exact hc
  · exact h d hd
theorem free_cons {c : UInt8} {l : List UInt8} (hc : isBl c = false) (h : free l) : free (c :: l) := fun d hd => by
  rcases List.mem_cons.1 hd with rfl | hd
  · exact hc
  · exact h d hd
theorem takeWhile_blank (l : List UInt8) : blank (l.takeWhile isBl) := by
  induction l with
  | nil => intro c h; cases h
  | cons x l ih =>
    intro c h
    rw [List.takeWhile_cons] at h
    split at h
    · rename_i hx
      rcases List.mem_cons.1 h with rfl | h
      · exact hx
      · exact ih c h
    · cases h
theorem trimF_parts (l : List UInt8) : ∃ p, l = p ++ trimF l ∧ blank p :=
  ⟨l.takeWhile isBl, (List.takeWhile_append_dropWhile).symm, takeWhile_blank l⟩
theorem trimB_parts (l : List UInt8) : ∃ q, l = trimB l ++ q ∧ blank q := by
  refine ⟨(l.reverse.takeWhile isBl).reverse, ?_, fun c h => takeWhile_blank _ c (List.mem_reverse.1 h)⟩
  unfold trimB
  rw [← List.reverse_append, List.takeWhile_append_dropWhile, List.reverse_reverse]
theorem trim_parts (l : List UInt8) : ∃ p q, l = p ++ trimL l ++ q ∧ blank p ∧ blank q := by
  obtain ⟨p, hp, bp⟩ := trimF_parts l
  obtain ⟨q, hq, bq⟩ := trimB_parts (trimF l)
  refine ⟨p, q, ?_, bp, bq⟩
  unfold trimL
  rw [List.append_assoc, ← hq]
  exact hp
theorem trimF_pre {p : List UInt8} (hp : blank p) (y : List UInt8) : trimF (p ++ y) = trimF y := List.dropWhile_append_of_pos hp
theorem trimF_blank {p : List UInt8} (hp : blank p) : trimF p = [] := by
  have := trimF_pre hp []
  rwa [List.append_nil] at this
theorem trimB_post {q : List UInt8} (hq : blank q) (y : List UInt8) : trimB (y ++ q) = trimB y := by
  unfold trimB
  rw [List.reverse_append, List.dropWhile_append_of_pos (fun c h => hq c (List.mem_reverse.1 h))]
theorem trim_pre {p : List UInt8} (hp : blank p) (y : List UInt8) : trimL (p ++ y) = trimL y := by unfold trimL; rw [trimF_pre hp]
theorem trimF_cons {c : UInt8} {r : List UInt8} (h : isBl c = false) : trimF (c :: r) = c :: r := by unfold trimF; rw [List.dropWhile_cons, if_neg (by rw [h]; decide)]
theorem trimF_shape (l : List UInt8) : trimF l = [] ∨ ∃ c r, trimF l = c :: r ∧ isBl c = false := by
  induction l with
  | nil => exact .inl rfl
  | cons x l ih =>
    cases hx : isBl x with
    | true => unfold trimF; rw [List.dropWhile_cons, if_pos hx]; exact ih
    | false => exact .inr ⟨x, l, trimF_cons hx, hx⟩
theorem trimF_post {y q : List UInt8} (h : trimF y ≠ []) : trimF (y ++ q) = trimF y ++ q := by
  unfold trimF at h ⊢
  rw [List.dropWhile_append, if_neg (by simpa using h)]
theorem trim_post {q : List UInt8} (hq : blank q) (y : List UInt8) : trimL (y ++ q) = trimL y := by
  unfold trimL
  by_cases h : trimF y = []
  · have e : trimF (y ++ q) = [] := by
      unfold trimF at h ⊢
      rw [List.dropWhile_append, if_pos (by simpa using h)]
      exact trimF_blank hq
    rw [h, e]
  · rw [trimF_post h, trimB_post hq]
theorem trimB_cons {c : UInt8} (h : isBl c = false) (r : List UInt8) : ∃ r', trimB (c :: r) = c :: r' := by
  unfold trimB
  rw [List.reverse_cons, List.dropWhile_append]
  split
  · rw [List.dropWhile_cons, if_neg (by rw [h]; decide)]
    exact ⟨[], rfl⟩
  · rw [List.reverse_append]
    exact ⟨_, rfl⟩
theorem trimB_free {x : List UInt8} (h : free x) : trimB x = x := by
  rcases List.eq_nil_or_concat x with e | ⟨t, c, e⟩
  · rw [e]; rfl
  · rw [e, List.concat_eq_append, trimB_snoc, if_neg]
    rw [h c (by rw [e, List.concat_eq_append]; simp)]
    decide
theorem trimF_free {x : List UInt8} (h : free x) : trimF x = x := by
  cases x with
  | nil => rfl
  | cons c r => exact trimF_cons (h c (by simp))
theorem trim_free {x : List UInt8} (h : free x) : trimL x = x := by unfold trimL; rw [trimF_free h, trimB_free h]
theorem trim_of {p x q : List UInt8} (hp : blank p) (hq : blank q) (hx : free x) : trimL (p ++ x ++ q) = x := by
  rw [trim_post hq, trim_pre hp, trim_free hx]
theorem trim_len (l : List UInt8) : (trimL l).length ≤ l.length := by
  obtain ⟨p, q, h, _, _⟩ := trim_parts l
  have := congrArg List.length h
  simp only [List.length_append] at this
  omega
/-- Words. -/
theorem words_blank_all {q : List UInt8} (hq : blank q) : ∀ u, wordsGo q u = if u = [] then [] else [u] := by
  induction q with
  | nil => intro u; rfl
  | cons c q ih =>
    intro u
    rw [wordsGo, if_pos (hq c (by simp)), ih (fun d hd => hq d (by simp [hd])) [], if_pos rfl]
theorem words_pre {p : List UInt8} (hp : blank p) (y : List UInt8) : wordsGo (p ++ y) [] = wordsGo y [] := by
  induction p with
  | nil => rfl
  | cons c p ih => rw [List.cons_append, wordsGo, if_pos (hp c (by simp)), if_pos rfl, ih (fun d hd => hp d (by simp [hd]))]
theorem words_post {q : List UInt8} (hq : blank q) : ∀ (y u : List UInt8), wordsGo (y ++ q) u = wordsGo y u
  | [], u => by rw [List.nil_append, words_blank_all hq, wordsGo]
  | c :: y, u => by
    rw [List.cons_append, wordsGo, wordsGo, words_post hq y [], words_post hq y (u ++ [c])]
theorem words_trim (l : List UInt8) : wordsL (trimL l) = wordsL l := by
  obtain ⟨p, q, h, bp, bq⟩ := trim_parts l
  conv => rhs; rw [h]
  unfold wordsL
  rw [words_post bq, words_pre bp]
theorem words_ne : ∀ (t u : List UInt8), u ≠ [] → wordsGo t u ≠ []
  | [], u, h => by rw [wordsGo, if_neg h]; simp
  | c :: t, u, h => by
    cases hc : isBl c with
    | true => rw [wordsGo, if_pos hc, if_neg h]; simp
    | false => rw [wordsGo, if_neg (by rw [hc]; decide)]; exact words_ne t _ (by simp)
theorem words_nil : ∀ (t : List UInt8), wordsGo t [] = [] → blank t
  | [], _ => blank_nil
  | c :: t, h => by
    cases hc : isBl c with
    | true =>
      rw [wordsGo, if_pos hc, if_pos rfl] at h
      exact blank_cons hc (words_nil t h)
    | false =>
      rw [wordsGo, if_neg (by rw [hc]; decide)] at h
      exact absurd h (words_ne t _ (by simp))
theorem words_one1 {s : List UInt8} : ∀ (t u : List UInt8), u ≠ [] → wordsGo t u = [s] → ∃ x q, t = x ++ q ∧ free x ∧ blank q ∧ s = u ++ x
  | [], u, hu, h => by
    rw [wordsGo, if_neg hu] at h
    exact ⟨[], [], rfl, free_nil, blank_nil, by rw [List.append_nil]; exact (List.cons.inj h).1.symm⟩
  | c :: t, u, hu, h => by
    cases hc : isBl c with
    | true =>
      rw [wordsGo, if_pos hc, if_neg hu] at h
      obtain ⟨h1, h2⟩ := List.cons.inj h
      exact ⟨[], c :: t, rfl, free_nil, blank_cons hc (words_nil t h2), by rw [List.append_nil]; exact h1.symm⟩
    | false =>
      rw [wordsGo, if_neg (by rw [hc]; decide)] at h
      obtain ⟨x, q, h1, h2, h3, h4⟩ := words_one1 t (u ++ [c]) (by simp) h
      exact ⟨c :: x, q, by rw [h1]; rfl, free_cons hc h2, h3, by rw [h4]; simp⟩
theorem words_one {s : List UInt8} : ∀ (t : List UInt8), wordsGo t [] = [s] → ∃ p q, t = p ++ s ++ q ∧ blank p ∧ blank q ∧ free s ∧ s ≠ []
  | [], h => by rw [wordsGo, if_pos rfl] at h; cases h
  | c :: t, h => by
    cases hc : isBl c with
    | true =>
      rw [wordsGo, if_pos hc, if_pos rfl] at h
      obtain ⟨p, q, h1, h2, h3, h4⟩ := words_one t h
      exact ⟨c :: p, q, by rw [h1]; rfl, blank_cons hc h2, h3, h4⟩
    | false =>
      rw [wordsGo, if_neg (by rw [hc]; decide)] at h
      obtain ⟨x, q, h1, h2, h3, h4⟩ := words_one1 t _ (by simp) h
      refine ⟨[], q, by rw [h1, h4]; simp, blank_nil, h3, ?_, by rw [h4]; simp⟩
      rw [h4, List.nil_append, List.singleton_append]
      exact free_cons hc h2
theorem only_words {l s : List UInt8} (h : onlyW l = some s) : wordsL l = [s] := by
  unfold onlyW at h
  split at h
  · rename_i x hx; rw [hx, Option.some.inj h]
  · cases h
theorem only_trim {l s : List UInt8} (h : onlyW l = some s) : trimL l = s ∧ free s ∧ s ≠ [] := by
  obtain ⟨p, q, h1, h2, h3, h4, h5⟩ := words_one l (only_words h)
  exact ⟨by rw [h1]; exact trim_of h2 h3 h4, h4, h5⟩
theorem only_free {l : List UInt8} (h : free (trimL l)) (hn : trimL l ≠ []) : onlyW l = some (trimL l) := by
  have e : wordsL l = [trimL l] := by
    rw [← words_trim]
    unfold wordsL
    have := words_free (trimL l) [] [] h
    rw [List.append_nil, List.nil_append] at this
    rw [this, wordsGo, if_neg hn]
  unfold onlyW
  rw [e]
/-- Skipped lines. -/
theorem skip_trim (l : List UInt8) : skipL l = (match trimL l with | [] => true | c :: _ => c == 35) := by
  unfold skipL trimL
  rcases trimF_shape l with h | ⟨c, r, h, hc⟩
  · unfold trimF at h ⊢
    rw [h]
    rfl
  · obtain ⟨r', hr⟩ := trimB_cons hc r
    rw [h, hr]
    unfold trimF at h
    rw [h]
/-- The first cut. -/
theorem cut1_some {b : UInt8} : ∀ {l x y : List UInt8}, cut1 b l = some (x, y) → l = x ++ b :: y ∧ ∀ c ∈ x, c ≠ b
  | [], _, _, h => by simp [cut1] at h
  | c :: l, x, y, h => by
    rw [cut1] at h
    split at h
    · rename_i hc
      obtain ⟨rfl, rfl⟩ := Prod.mk.inj (Option.some.inj h)
      exact ⟨by rw [hc]; rfl, fun _ h => (List.not_mem_nil h).elim⟩
    · rename_i hc
      rw [Option.map_eq_some_iff] at h
      obtain ⟨⟨x', y'⟩, h1, h2⟩ := h
      obtain ⟨rfl, rfl⟩ := Prod.mk.inj h2
      obtain ⟨h3, h4⟩ := cut1_some h1
      refine ⟨by rw [h3]; rfl, fun d hd => ?_⟩
      rcases List.mem_cons.1 hd with rfl | hd
      · exact hc
      · exact h4 d hd
theorem cut1_no {b : UInt8} : ∀ {l : List UInt8}, cut1 b l = none → ∀ c ∈ l, c ≠ b
  | [], _ => fun c h => by cases h
  | c :: l, h => by
    rw [cut1] at h
    split at h
    · cases h
    · rename_i hc
      rw [Option.map_eq_none_iff] at h
      intro d hd
      rcases List.mem_cons.1 hd with rfl | hd
      · exact hc
      · exact cut1_no h d hd
theorem cut1_of {b : UInt8} {x y : List UInt8} (h : ∀ c ∈ x, c ≠ b) : cut1 b (x ++ b :: y) = some (x, y) := by
  rw [cut1_skip x _ h, cut1, if_pos rfl]
  simp
theorem cut1_free {b : UInt8} {l : List UInt8} (h : ∀ c ∈ l, c ≠ b) : cut1 b l = none := by
  have := cut1_skip l [] h
  rwa [List.append_nil] at this
theorem blank_61 {p : List UInt8} (h : blank p) : ∀ c ∈ p, c ≠ 61 := fun c hc e => by
  have := h c hc
  rw [e] at this
  exact absurd this (by decide)
theorem cut1_trim (l : List UInt8) : (cut1 61 (trimL l) = none → cut1 61 l = none) ∧ ∀ x y, cut1 61 (trimL l) = some (x, y) → ∃ p q, blank p ∧ blank q ∧ cut1 61 l = some (p ++ x, y ++ q) := by
  obtain ⟨p, q, h, bp, bq⟩ := trim_parts l
  constructor
  · intro hn
    rw [h]
    refine cut1_free fun c hc => ?_
    rcases List.mem_append.1 hc with hc | hc
    · rcases List.mem_append.1 hc with hc | hc
      · exact blank_61 bp c hc
      · exact cut1_no hn c hc
    · exact blank_61 bq c hc
  · intro x y hs
    obtain ⟨e, hx⟩ := cut1_some hs
    refine ⟨p, q, bp, bq, ?_⟩
    rw [h, e, show p ++ (x ++ 61 :: y) ++ q = (p ++ x) ++ 61 :: (y ++ q) by simp]
    refine cut1_of fun c hc => ?_
    rcases List.mem_append.1 hc with hc | hc
    · exact blank_61 bp c hc
    · exact hx c hc
/-- Which texts have a value's form: no blank stands in them. -/
theorem digit_free {c : UInt8} (h : 48 ≤ c.toNat ∧ c.toNat ≤ 57) : isBl c = false := by
  rw [← blN_u8]; unfold blN; simp only [Bool.or_eq_false_iff, beq_eq_false_iff_ne]; omega
theorem dec_free' {l : List UInt8} (h : decOk l = true) : free l ∧ l ≠ [] := by
  obtain ⟨_, h1, h2⟩ := decOk_spec h
  exact ⟨fun c hc => digit_free (h2 c hc), fun e => by rw [e] at h1; simp at h1⟩
theorem cutF_mem (b : UInt8) : ∀ (r : List UInt8), ∀ c ∈ r, c = b ∨ ∃ x ∈ cutF b r.reverse, c ∈ x
  | [] => fun c h => by cases h
  | d :: r => by
    have ih := cutF_mem b r
    have hne := cutF_ne b r.reverse
    rw [List.reverse_cons, cutF_snoc]
    generalize cutF b r.reverse = ls at *
    obtain ⟨i, z, rfl⟩ : ∃ i z, ls = i ++ [z] := ⟨ls.dropLast, ls.getLast hne, (List.dropLast_concat_getLast hne).symm⟩
    intro c hc
    unfold cutStep
    rcases List.mem_cons.1 hc with rfl | hc
    · by_cases hb : c = b
      · exact .inl hb
      · rw [if_neg hb]
        exact .inr ⟨z ++ [c], by simp, by simp⟩
    · rcases ih c hc with h | ⟨x, hx, hcx⟩
      · exact .inl h
      · right
        split
        · exact ⟨x, List.mem_append_left _ hx, hcx⟩
        · rcases List.mem_append.1 hx with hx | hx
          · exact ⟨x, by rw [List.dropLast_concat]; exact List.mem_append_left _ hx, hcx⟩
          · rw [List.mem_singleton.1 hx] at hcx
            exact ⟨z ++ [d], by simp, by simp [hcx]⟩
theorem cutF_mem' (b : UInt8) (l : List UInt8) : ∀ c ∈ l, c = b ∨ ∃ x ∈ cutF b l, c ∈ x := fun c hc => by
  have := cutF_mem b l.reverse c (List.mem_reverse.2 hc)
  rwa [List.reverse_reverse] at this
theorem num_digits {l : List UInt8} {most : Int} (h : 0 ≤ numI l most) : ∀ c ∈ l, 48 ≤ c.toNat ∧ c.toNat ≤ 57 := by
  by_cases hs : l.length < 1 ∨ 9 < l.length ∨ (1 < l.length ∧ l[0]? = some 48)
  · rw [numI_shape _ hs] at h; omega
  · cases hg : numGo l 0 with
    | none => rw [numI_none _ hg] at h; omega
    | some n => exact numGo_digits hg
theorem p4_free {l : List UInt8} (h : p4ok l = true) : free l ∧ l ≠ [] := by
  unfold p4ok parse4 at h
  split at h
  · cases h
  · split at h
    · rename_i a b c d hc
      split at h
      · rename_i hk
        refine ⟨fun x hx => ?_, fun e => by rw [e] at hc; simp [cutF] at hc⟩
        rcases cutF_mem' 46 l x hx with rfl | ⟨y, hy, hxy⟩
        · decide
        · rw [hc] at hy
          simp only [List.mem_cons, List.not_mem_nil, or_false] at hy
          obtain ⟨ha, hb, hc', hd⟩ := hk
          rcases hy with rfl | rfl | rfl | rfl
          · exact digit_free (num_digits ha x hxy)
          · exact digit_free (num_digits hb x hxy)
          · exact digit_free (num_digits hc' x hxy)
          · exact digit_free (num_digits hd x hxy)
      · cases h
    · cases h
theorem hex_free {c : UInt8} (h : 0 ≤ hexI c) : isBl c = false := by
  rw [← blN_u8]; unfold blN
  unfold hexI at h
  simp only [Bool.or_eq_false_iff, beq_eq_false_iff_ne]
  split at h
  · omega
  · split at h
    · omega
    · split at h
      · omega
      · omega
theorem mc_free {l : List UInt8} (h : mcok l = true) : free l ∧ l ≠ [] := by
  obtain ⟨h17, hk⟩ := of_decide_eq_true h
  refine ⟨fun c hc => ?_, fun e => by rw [e] at h17; simp at h17⟩
  obtain ⟨i, hi⟩ := List.getElem?_of_mem hc
  have hi17 : i < 17 := by have := (List.getElem?_eq_some_iff.1 hi).1; omega
  have hd : ∀ j, j = i → l.getD j 0 = c := fun j e => by rw [e, List.getD_eq_getElem?_getD, hi]; rfl
  have hm := hk (i / 3) (by omega)
  unfold macB at hm
  split at hm
  · omega
  · rename_i hn
    rw [not_or, not_or] at hn
    obtain ⟨n1, n2, n3⟩ := hn
    rcases (by omega : i % 3 = 0 ∨ i % 3 = 1 ∨ i % 3 = 2) with e | e | e
    · rw [hd (3 * (i / 3)) (by omega)] at n1
      exact hex_free (by omega)
    · rw [hd (3 * (i / 3) + 1) (by omega)] at n2
      exact hex_free (by omega)
    · rw [hd (3 * (i / 3) + 2) (by omega)] at n3
      have : c = 58 := Classical.byContradiction fun hne => n3 ⟨by omega, hne⟩
      rw [this]
      decide
theorem nw_free {l : List UInt8} (h : nwK l = true) : free l ∧ l ≠ [] := by
  unfold nwK at h
  split at h
  · rename_i x y hc
    rw [Bool.and_eq_true] at h
    obtain ⟨e, _⟩ := cut1_some hc
    obtain ⟨f1, _⟩ := p4_free h.1
    obtain ⟨f2, _⟩ := dec_free' h.2
    refine ⟨fun c hc => ?_, by rw [e]; simp⟩
    rw [e] at hc
    rcases List.mem_append.1 hc with hc | hc
    · exact f1 c hc
    · rcases List.mem_cons.1 hc with rfl | hc
      · decide
      · exact f2 c hc
  · cases h
theorem okV_free {k : Nat} {l : List UInt8} (h : okV k l = true) : free l ∧ l ≠ [] := by
  unfold okV at h
  split at h
  · exact dec_free' h
  · split at h
    · exact p4_free h
    · split at h
      · exact nw_free h
      · exact mc_free h
/-- A net's text cut at each slash. -/
theorem net_two {l x y : List UInt8} (h : cutF 47 l = [x, y]) : cut1 47 l = some (x, y) := by
  cases hc : cut1 47 l with
  | none => rw [cut_none 47 l (cut1_no hc)] at h; simp at h
  | some z =>
    obtain ⟨a, b⟩ := z
    obtain ⟨e, ha⟩ := cut1_some hc
    rw [e, cutF_cons 47 a b ha] at h
    obtain ⟨h1, h2⟩ := List.cons.inj h
    have hb : cut1 47 b = none := by
      cases hd : cut1 47 b with
      | none => rfl
      | some u =>
        obtain ⟨c, d⟩ := u
        obtain ⟨e2, hc2⟩ := cut1_some hd
        rw [e2, cutF_cons 47 c d hc2] at h2
        have := (List.cons.inj h2).2
        exact absurd this (cutF_ne 47 d)
    rw [cut_none 47 b (cut1_no hb)] at h2
    rw [h1, (List.cons.inj h2).1]
theorem net_not {l : List UInt8} (h : (cutF 47 l).length ≠ 2) : nwK l = false := by
  unfold nwK
  split
  · rename_i x y hc
    obtain ⟨e, hx⟩ := cut1_some hc
    cases hd : decOk y with
    | false => rw [Bool.and_false]
    | true =>
      exfalso
      apply h
      rw [e, cutF_cons 47 x y hx, cut_none 47 y (fun c hc e => by have := (decOk_spec hd).2.2 c hc; rw [e] at this; simp at this)]
      rfl
  · rfl
open Go.RowKit

def names13 : List (List UInt8) := names8 ++ names5
theorem known_is (s : List UInt8) : knownB s = names13.contains s := by
  unfold knownB names13
  rw [posI_has, Bool.eq_iff_iff, Bool.or_eq_true, List.contains_iff_mem, List.contains_iff_mem, List.contains_iff_mem, List.mem_append]
theorem names_free : ∀ n ∈ names13, (n.all fun c => !isBl c) = true ∧ n ≠ [] ∧ n.length ≤ 8 := by decide +kernel
theorem known_free {s : List UInt8} (h : knownB s = true) : free s ∧ s ≠ [] ∧ s.length ≤ 8 := by
  rw [known_is, List.contains_iff_mem] at h
  obtain ⟨h1, h2, h3⟩ := names_free s h
  refine ⟨fun c hc => ?_, h2, h3⟩
  have := List.all_eq_true.1 h1 c hc
  simpa using this
theorem kind_known {s : List UInt8} (h : knownB s = false) : kindK s = none ∧ s ≠ [102, 105, 120, 101, 100] ∧ s ≠ [111, 112, 101, 110] := by
  have hn : ∀ n ∈ names13, ¬ (s == n) = true := fun n hn e => by
    rw [known_is, eq_of_beq e] at h
    rw [List.contains_iff_mem.2 hn] at h
    cases h
  refine ⟨?_, fun e => hn _ (by decide) (beq_iff_eq.2 e), fun e => hn _ (by decide) (beq_iff_eq.2 e)⟩
  unfold kindK
  rw [if_neg (hn _ (by decide)), if_neg (hn _ (by decide)), if_neg (hn _ (by decide)), if_neg (hn _ (by decide)), if_neg (hn _ (by decide)), if_neg (hn _ (by decide)), if_neg (hn _ (by decide)), if_neg (hn _ (by decide)), if_neg (hn _ (by decide)), if_neg (hn _ (by decide)), if_neg (hn _ (by decide))]
theorem kind_some : ∀ n ∈ names13, n = [102, 105, 120, 101, 100] ∨ n = [111, 112, 101, 110] ∨ (kindK n).isSome = true := by decide +kernel
def valOk (s v : List UInt8) : Bool := if (s == [102, 105, 120, 101, 100]) = true then fixedE v else if (s == [111, 112, 101, 110]) = true then openE v else match kindK s with
  | some k => okV k v
  | none => false
def valC (c : Cf) (s v : List UInt8) : Cf := if (s == [102, 105, 120, 101, 100]) = true then c.addF v else if (s == [111, 112, 101, 110]) = true then c.addO v else c.put s v
/-- Two lists of names that were there: of the second are told neither fixed nor open. -/
def seenR (nr ns : List (List UInt8)) : Prop := ∀ s, s ≠ [102, 105, 120, 101, 100] → s ≠ [111, 112, 101, 110] → nr.contains s = ns.contains s
theorem seen_nil : seenR [] [] := fun _ _ _ => rfl
theorem has_snoc (nr : List (List UInt8)) (s x : List UInt8) : (nr ++ [s]).contains x = (nr.contains x || x == s) := by
  rw [Bool.eq_iff_iff, Bool.or_eq_true, List.contains_iff_mem, List.contains_iff_mem, List.mem_append, List.mem_singleton, beq_iff_eq]
theorem seen_both {nr ns : List (List UInt8)} (h : seenR nr ns) (s : List UInt8) : seenR (nr ++ [s]) (ns ++ [s]) := fun x h1 h2 => by
  rw [has_snoc, has_snoc, h x h1 h2]
theorem seen_one {nr ns : List (List UInt8)} (h : seenR nr ns) {s : List UInt8} (hs : s = [102, 105, 120, 101, 100] ∨ s = [111, 112, 101, 110]) : seenR (nr ++ [s]) ns := fun x h1 h2 => by
  have hx : (x == s) = false := by
    rw [beq_eq_false_iff_ne]
    rintro rfl
    rcases hs with e | e
    · exact h1 e
    · exact h2 e
  rw [has_snoc, h x h1 h2, hx, Bool.or_false]
/-- The words of a value: what stands about it does not count. -/
theorem words_val {q y : List UInt8} (hq : blank q) : wordsL (y ++ q) = wordsL (trimL y) := by
  rw [words_trim]; unfold wordsL; rw [words_post hq]
theorem only_val {q y : List UInt8} (hq : blank q) : onlyW (y ++ q) = onlyW (trimL y) := by unfold onlyW; rw [words_val hq]
theorem fixedE_val {q y : List UInt8} (hq : blank q) : fixedE (y ++ q) = fixedE (trimL y) := by unfold fixedE; rw [words_val hq]
theorem openE_val {q y : List UInt8} (hq : blank q) : openE (y ++ q) = openE (trimL y) := by unfold openE; rw [words_val hq]
theorem addF_val {q y : List UInt8} (hq : blank q) (c : Cf) : c.addF (y ++ q) = c.addF (trimL y) := by unfold Cf.addF; rw [words_val hq]
theorem addO_val {q y : List UInt8} (hq : blank q) (c : Cf) : c.addO (y ++ q) = c.addO (trimL y) := by unfold Cf.addO; rw [words_val hq]
theorem only_idem {y z : List UInt8} (h : onlyW (trimL y) = some z) : trimL y = z := by
  have e : onlyW y = some z := by
    unfold onlyW at h ⊢
    rwa [words_trim] at h
  exact (only_trim e).1
theorem single_val {ns : List (List UInt8)} {s q y : List UInt8} (hq : blank q) {k : Nat} (hk : kindK s = some k) : singleE ns s (y ++ q) = (if okV k (trimL y) = true then (if ns.contains s = true then 8 else 0) else 9) ∧ (okV k (trimL y) = true → ∀ c : Cf, c.putL s (y ++ q) = c.put s (trimL y)) := by
  unfold singleE Cf.putL
  rw [hk, only_val hq]
  cases ho : onlyW (trimL y) with
  | some z =>
    have := only_idem ho
    subst this
    exact ⟨rfl, fun _ _ => rfl⟩
  | none =>
    have hno : okV k (trimL y) = false := by
      rw [Bool.eq_false_iff]
      intro h
      obtain ⟨h1, h2⟩ := okV_free h
      have := only_free h1 h2
      have e : onlyW y = onlyW (trimL y) := by unfold onlyW; rw [words_trim]
      rw [e, ho] at this
      cases this
    rw [hno]
    exact ⟨rfl, fun h => by cases h⟩
theorem line_skip {l : List UInt8} (h : skipL l = true) (c : Cf) (ns : List (List UInt8)) : lineE ns l = 0 ∧ lineC c l = c ∧ lineN ns l = ns := by
  unfold lineE lineC lineN
  rw [if_pos h, if_pos h, if_pos h]
  exact ⟨rfl, rfl, rfl⟩
theorem line_none {l : List UInt8} (h : skipL l = false) (hc : cut1 61 (trimL l) = none) (ns : List (List UInt8)) : lineE ns l = 9 := by
  unfold lineE
  rw [if_neg (by rw [h]; decide), (cut1_trim l).1 hc]
theorem line_ref {l x y : List UInt8} {nr ns : List (List UInt8)} (c : Cf) (hR : seenR nr ns) (hs : skipL l = false) (hc : cut1 61 (trimL l) = some (x, y)) :
    (knownB (trimL x) = false → lineE ns l = 9) ∧
    (knownB (trimL x) = true → valOk (trimL x) (trimL y) = false → lineE ns l = 9) ∧
    (knownB (trimL x) = true → valOk (trimL x) (trimL y) = true → nr.contains (trimL x) = true → trimL x ≠ [102, 105, 120, 101, 100] → trimL x ≠ [111, 112, 101, 110] → lineE ns l = 8) ∧
    (knownB (trimL x) = true → valOk (trimL x) (trimL y) = true → (nr.contains (trimL x) = false ∨ trimL x = [102, 105, 120, 101, 100] ∨ trimL x = [111, 112, 101, 110]) → lineE ns l = 0 ∧ lineC c l = valC c (trimL x) (trimL y) ∧ seenR (nr ++ [trimL x]) (lineN ns l)) := by
  obtain ⟨p, q, bp, bq, hcl⟩ := (cut1_trim l).2 x y hc
  have hsk : ¬ skipL l = true := by rw [hs]; decide
  have htx : trimL (p ++ x) = trimL x := trim_pre bp x
  refine ⟨fun hk => ?_, ?_⟩
  · obtain ⟨hkk, hf, ho⟩ := kind_known hk
    unfold lineE
    rw [if_neg hsk, hcl]
    simp only
    cases hw : onlyW (p ++ x) with
    | none => rfl
    | some s =>
      have hss := (only_trim hw).1
      rw [htx] at hss
      rw [hss] at hkk hf ho
      simp only
      rw [if_neg (fun e => hf (eq_of_beq e)), if_neg (fun e => ho (eq_of_beq e))]
      unfold singleE
      rw [hkk]
  have hw : knownB (trimL x) = true → onlyW (p ++ x) = some (trimL x) := fun hk => by
    obtain ⟨h1, h2, _⟩ := known_free hk
    have := only_free (l := p ++ x) (by rw [htx]; exact h1) (by rw [htx]; exact h2)
    rwa [htx] at this
  generalize trimL x = s at *
  have hE : knownB s = true → lineE ns l = (if (s == [102, 105, 120, 101, 100]) = true then errI (fixedE (y ++ q)) else if (s == [111, 112, 101, 110]) = true then errI (openE (y ++ q)) else singleE ns s (y ++ q)) := fun hk => by
    unfold lineE
    rw [if_neg hsk, hcl]
    simp only
    rw [hw hk]
  have hC : knownB s = true → lineC c l = (if (s == [102, 105, 120, 101, 100]) = true then c.addF (y ++ q) else if (s == [111, 112, 101, 110]) = true then c.addO (y ++ q) else c.putL s (y ++ q)) := fun hk => by
    unfold lineC
    rw [if_neg hsk, hcl]
    simp only
    rw [hw hk]
  have hN : knownB s = true → lineN ns l = (if (s == [102, 105, 120, 101, 100]) = true then ns else if (s == [111, 112, 101, 110]) = true then ns else ns ++ [s]) := fun hk => by
    unfold lineN
    rw [if_neg hsk, hcl]
    simp only
    rw [hw hk]
  rw [fixedE_val bq, openE_val bq] at hE
  rw [addF_val bq, addO_val bq] at hC
  have hcase : knownB s = true → s = [102, 105, 120, 101, 100] ∨ s = [111, 112, 101, 110] ∨ ((s == [102, 105, 120, 101, 100]) = false ∧ (s == [111, 112, 101, 110]) = false ∧ ∃ k, kindK s = some k) := fun hk => by
    rw [known_is, List.contains_iff_mem] at hk
    by_cases h1 : s = [102, 105, 120, 101, 100]
    · exact .inl h1
    by_cases h2 : s = [111, 112, 101, 110]
    · exact .inr (.inl h2)
    rcases kind_some s hk with h | h | h
    · exact absurd h h1
    · exact absurd h h2
    · exact .inr (.inr ⟨beq_eq_false_iff_ne.2 h1, beq_eq_false_iff_ne.2 h2, Option.isSome_iff_exists.1 h⟩)
  unfold valOk valC
  refine ⟨fun hk hv => ?_, fun hk hv hh hf ho => ?_, fun hk hv hh => ?_⟩
  · rw [hE hk]
    rcases hcase hk with rfl | rfl | ⟨e1, e2, k, e3⟩
    · rw [if_pos (by decide)] at hv ⊢
      rw [hv]; rfl
    · rw [if_neg (by decide), if_pos (by decide)] at hv ⊢
      rw [hv]; rfl
    · rw [if_neg (by rw [e1]; decide), if_neg (by rw [e2]; decide)] at hv ⊢
      rw [e3] at hv
      rw [(single_val bq e3).1, if_neg (by simp only at hv; rw [hv]; decide)]
  · rw [hE hk]
    rcases hcase hk with rfl | rfl | ⟨e1, e2, k, e3⟩
    · exact absurd rfl hf
    · exact absurd rfl ho
    · rw [if_neg (by rw [e1]; decide), if_neg (by rw [e2]; decide)] at hv ⊢
      rw [e3] at hv
      rw [(single_val bq e3).1, if_pos hv, if_pos (by rw [← hR s hf ho]; exact hh)]
  · rw [hE hk, hC hk, hN hk]
    rcases hcase hk with rfl | rfl | ⟨e1, e2, k, e3⟩
    · rw [if_pos (by decide)] at hv
      rw [if_pos (by decide), if_pos (by decide), if_pos (by decide), if_pos (by decide), hv]
      exact ⟨rfl, rfl, seen_one hR (.inl rfl)⟩
    · rw [if_neg (by decide), if_pos (by decide)] at hv
      rw [if_neg (by decide), if_pos (by decide), if_neg (by decide), if_pos (by decide), if_neg (by decide), if_pos (by decide), if_neg (by decide), if_pos (by decide), hv]
      exact ⟨rfl, rfl, seen_one hR (.inr rfl)⟩
    · have e1' : ¬ (s == [102, 105, 120, 101, 100]) = true := by rw [e1]; decide
      have e2' : ¬ (s == [111, 112, 101, 110]) = true := by rw [e2]; decide
      rw [if_neg e1', if_neg e2', e3] at hv
      have hh' : ns.contains s = false := by
        rw [← hR s (beq_eq_false_iff_ne.1 e1) (beq_eq_false_iff_ne.1 e2)]
        rcases hh with h | h | h
        · exact h
        · exact absurd h (beq_eq_false_iff_ne.1 e1)
        · exact absurd h (beq_eq_false_iff_ne.1 e2)
      rw [if_neg e1', if_neg e2', if_neg e1', if_neg e2', if_neg e1', if_neg e2', if_neg e1', if_neg e2', (single_val bq e3).1, if_pos hv, if_neg (by rw [hh']; decide)]
      exact ⟨rfl, (single_val (ns := ns) bq e3).2 hv c, seen_both hR s⟩
/-- What holds of names that were not there. -/
def inv (c : Cf) (nr : List (List UInt8)) : Prop := (nr.contains [108, 97, 110] = false → c.lan = usualC.lan ∧ c.bits = 24) ∧ (nr.contains [102, 105, 114, 115, 116] = false → c.first = usualC.first) ∧ (nr.contains [108, 97, 115, 116] = false → c.last = usualC.last)
theorem inv_nil : inv usualC [] := ⟨fun _ => ⟨rfl, rfl⟩, fun _ => rfl, fun _ => rfl⟩
theorem has_no {nr : List (List UInt8)} {s x : List UInt8} (h : (nr ++ [s]).contains x = false) : nr.contains x = false ∧ ¬ x = s := by
  rw [has_snoc, Bool.or_eq_false_iff] at h
  exact ⟨h.1, beq_eq_false_iff_ne.1 h.2⟩
theorem ite_both {P : Cf → Prop} {b : Prop} [Decidable b] {x y : Cf} (h1 : b → P x) (h2 : ¬ b → P y) : P (if b then x else y) := by
  by_cases h : b
  · rw [if_pos h]; exact h1 h
  · rw [if_neg h]; exact h2 h
def PP (c : Cf) (s : List UInt8) (d : Cf) : Prop := (¬ [108, 97, 110] = s → d.lan = c.lan ∧ d.bits = c.bits) ∧ (¬ [102, 105, 114, 115, 116] = s → d.first = c.first) ∧ (¬ [108, 97, 115, 116] = s → d.last = c.last)
theorem pp_none (c : Cf) (s : List UInt8) {d : Cf} (h : d.lan = c.lan ∧ d.bits = c.bits ∧ d.first = c.first ∧ d.last = c.last) : PP c s d := ⟨fun _ => ⟨h.1, h.2.1⟩, fun _ => h.2.2.1, fun _ => h.2.2.2⟩
theorem put_parts (c : Cf) (s v : List UInt8) : PP c s (valC c s v) := by
  unfold valC
  refine ite_both (fun _ => ?_) (fun _ => ite_both (fun _ => ?_) (fun _ => ?_))
  · unfold Cf.addF; split <;> exact pp_none c s ⟨rfl, rfl, rfl, rfl⟩
  · unfold Cf.addO; split <;> exact pp_none c s ⟨rfl, rfl, rfl, rfl⟩
  unfold Cf.put
  refine ite_both (fun h => ?_) (fun _ => ?_)
  · exact ⟨fun g => absurd (eq_of_beq h).symm g, fun _ => rfl, fun _ => rfl⟩
  refine ite_both (fun _ => pp_none c s ⟨rfl, rfl, rfl, rfl⟩) (fun _ => ?_)
  refine ite_both (fun _ => pp_none c s ⟨rfl, rfl, rfl, rfl⟩) (fun _ => ?_)
  refine ite_both (fun h => ?_) (fun _ => ?_)
  · exact ⟨fun _ => ⟨rfl, rfl⟩, fun g => absurd (eq_of_beq h).symm g, fun _ => rfl⟩
  refine ite_both (fun h => ?_) (fun _ => ?_)
  · exact ⟨fun _ => ⟨rfl, rfl⟩, fun _ => rfl, fun g => absurd (eq_of_beq h).symm g⟩
  refine ite_both (fun _ => pp_none c s ⟨rfl, rfl, rfl, rfl⟩) (fun _ => ?_)
  refine ite_both (fun _ => pp_none c s ⟨rfl, rfl, rfl, rfl⟩) (fun _ => ?_)
  refine ite_both (fun _ => pp_none c s ⟨rfl, rfl, rfl, rfl⟩) (fun _ => ?_)
  refine ite_both (fun _ => pp_none c s ⟨rfl, rfl, rfl, rfl⟩) (fun _ => ?_)
  refine ite_both (fun _ => pp_none c s ⟨rfl, rfl, rfl, rfl⟩) (fun _ => ?_)
  exact ite_both (fun _ => pp_none c s ⟨rfl, rfl, rfl, rfl⟩) (fun _ => pp_none c s ⟨rfl, rfl, rfl, rfl⟩)
theorem inv_step {c : Cf} {nr : List (List UInt8)} (h : inv c nr) (s v : List UInt8) : inv (valC c s v) (nr ++ [s]) := by
  obtain ⟨h1, h2, h3⟩ := h
  obtain ⟨g1, g2, g3⟩ := put_parts c s v
  refine ⟨fun e => ?_, fun e => ?_, fun e => ?_⟩
  · obtain ⟨a, b⟩ := has_no e
    rw [(g1 b).1, (g1 b).2]; exact h1 a
  · obtain ⟨a, b⟩ := has_no e
    rw [g2 b]; exact h2 a
  · obtain ⟨a, b⟩ := has_no e
    rw [g3 b]; exact h3 a
/-- The pool, as the reference reckons it. -/
def rLo (c : Cf) : Int := if 24 < c.bits then (fN c.lan c.bits : Int) + 2 else (fN c.lan c.bits : Int) + 100
def rHi (c : Cf) : Int := if 24 < c.bits then (if (lN c.lan c.bits : Int) - 1 < (fN c.lan c.bits : Int) + 33 then (lN c.lan c.bits : Int) - 1 else (fN c.lan c.bits : Int) + 33) else (fN c.lan c.bits : Int) + 131
def rFi (c : Cf) (nr : List (List UInt8)) : Ad4 := if nr.contains [102, 105, 114, 115, 116] = true then c.first else Ad4.ofN (rLo c % 4294967296).toNat
def rLa (c : Cf) (nr : List (List UInt8)) : Ad4 := if nr.contains [108, 97, 115, 116] = true then c.last else Ad4.ofN (rHi c % 4294967296).toNat
def rfill (c : Cf) (nr : List (List UInt8)) : Cf := if nr.contains [108, 97, 110] = true then { c with first := rFi c nr, last := rLa c nr } else c
theorem rLo_pool {c : Cf} : Ad4.ofN (rLo c % 4294967296).toNat = poolA c.lan c.bits := by
  unfold poolA rLo poolAn
  congr 1
  by_cases h : c.bits ≤ 24
  · rw [if_neg (by omega), if_pos h]; omega
  · rw [if_pos (by omega), if_neg h]; omega
theorem lN_far {n : Ad4} {b : Int} (h : b ≤ 30) : fN n b + 3 ≤ lN n b := by
  unfold fN lN firstN lastN
  have hc : clamp b ≤ 30 := by unfold clamp; split <;> (try split) <;> omega
  have : (2 : Nat) ^ 2 ≤ 2 ^ (32 - clamp b) := Nat.pow_le_pow_right (by omega) (by omega)
  omega
theorem rHi_pool {c : Cf} (hb : c.bits ≤ 30) : Ad4.ofN (rHi c % 4294967296).toNat = poolZ c.lan c.bits := by
  have hf := lN_far (n := c.lan) hb
  have hl := lN_lt c.lan c.bits
  unfold poolZ rHi poolZn
  congr 1
  by_cases h : c.bits ≤ 24
  · rw [if_neg (by omega), if_pos h]; omega
  · rw [if_pos (by omega), if_neg h, show (lN c.lan c.bits + 4294967296 - fN c.lan c.bits - 1) % 4294967296 = lN c.lan c.bits - fN c.lan c.bits - 1 by omega]
    split <;> omega
theorem usual_pool : poolA usualC.lan 24 = usualC.first ∧ poolZ usualC.lan 24 = usualC.last := ⟨by kernel_rfl, by kernel_rfl⟩
theorem fill_ref {c : Cf} {nr ns : List (List UInt8)} (hR : seenR nr ns) (hI : inv c nr) : (c.bits ≤ 30 → rfill c nr = c.fill ns) ∧ (¬ c.bits ≤ 30 → (rfill c nr).check = false ∧ (c.fill ns).check = false) := by
  have e1 := hR [102, 105, 114, 115, 116] (by decide) (by decide)
  have e2 := hR [108, 97, 115, 116] (by decide) (by decide)
  constructor
  · intro hb
    unfold rfill Cf.fill Cf.fill1
    rw [← e1, ← e2]
    cases hl : nr.contains [108, 97, 110] with
    | true =>
      rw [if_pos rfl]
      unfold rFi rLa
      rw [rLo_pool, rHi_pool hb]
      cases nr.contains [102, 105, 114, 115, 116] <;> cases nr.contains [108, 97, 115, 116] <;> rfl
    | false =>
      rw [if_neg (by decide)]
      obtain ⟨i1, i2, i3⟩ := hI
      obtain ⟨i1, i4⟩ := i1 hl
      have p1 : poolA c.lan c.bits = usualC.first := by rw [i1, i4]; exact usual_pool.1
      have p2 : poolZ c.lan c.bits = usualC.last := by rw [i1, i4]; exact usual_pool.2
      rw [p1, p2]
      cases h1 : nr.contains [102, 105, 114, 115, 116] <;> cases h2 : nr.contains [108, 97, 115, 116]
      · rw [if_neg (by decide), if_neg (by decide), ← i2 h1, ← i3 h2]
      · rw [if_pos rfl, if_neg (by decide), ← i2 h1]
      · rw [if_neg (by decide), if_pos rfl, ← i3 h2]
      · rw [if_pos rfl, if_pos rfl]
  · intro hb
    have key : ∀ d : Cf, d.bits = c.bits → d.check = false := fun d e => by
      rw [Cf.check_is]
      unfold Cf.lanB inI
      rw [e, decide_eq_false hb]
      simp
    refine ⟨key _ ?_, key _ ?_⟩
    · unfold rfill; split <;> rfl
    · unfold Cf.fill Cf.fill1; split <;> split <;> rfl
end Go.Proofs.Ytdfobilagidmfaa
