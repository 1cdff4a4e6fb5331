/- Texts put together: Cga, Cgf, Ref3x, Ctl, Shelf, Bld, Adr9, Adr10, Tab. -/
import Derived.Test.YtdfobilagidmfaaDoorQ1
import Derived.Test.YtdfobilagidmfaaDoorQ2
import Derived.Test.YtdfobilagidmfaaDoorQ3
import Derived.Test.YtdfobilagidmfaaDoorQ4
import Derived.Test.YtdfobilagidmfaaDoorQ6
import Derived.Test.YtdfobilagidmfaaDoorQ13
import Derived.Deep.QuietTactic
import Derived.BigQuiet
import Derived.Shelf.Strings.Builder1
import Derived.Shelf.Strconv.Itoa0
import Derived.Shelf.Strconv.Itoa1
import Derived.Shelf.LaysM
import Derived.Shelf.Strconv.Itoa2
import Derived.Shelf.Strconv.Itoa3
import Derived.Shelf.Strconv.AppendUint10
import Derived.Shelf.Strconv.AppendInt10
import Derived.Shelf.Strconv.AppendIntPublic10
import Derived.Test.YtdfobilagidmfaaDoorProg
import Derived.Deep.RegionHeld3
import Derived.Lib.ItoaLen
import Derived.BigCall
import Derived.Test.YtdfobilagidmfaaDoorTie
import Derived.LaidMore
import Derived.Lay
import Derived.Stop.LaidErr
namespace Go.Proofs.YtdfobilagidmfaaDoor
open Go.RowKit

theorem cparse_60 (w : World) : Calls Tryd.prog 8 #[.string ⟨#[116, 105, 109, 101, 32, 61, 32, 54, 48]⟩] w fun e w' => ∃ Fx nf cf Ox nx cx, e = .returned (.tuple #[.agg (cfl U60 Fx nf cf Ox nx cx).toArray, .int .i64 0, .int .i64 0]) ∧ Sle fxf 10 w' Fx nf cf U60.fixed ∧ Sle opf 7 w' Ox nx cx U60.opens ∧ Fr w.heap.size Fx nf ∧ Fr w.heap.size Ox nx ∧ Below w.heap.size w w' := by
  refine (cparse_any [116, 105, 109, 101, 32, 61, 32, 54, 48] w (by decide)).mono ?_
  rintro e w' ⟨Fx, nf, cf, Ox, nx, cx, rfl, h⟩
  rw [parse_60] at h ⊢
  exact ⟨Fx, nf, cf, Ox, nx, cx, rfl, h⟩
theorem same_60 (Gx : Option Addr) (ng cg : Nat) (Hx : Option Addr) (nh ch : Nat) (w : World) (hg : Sle fxf 10 w Gx ng cg U60.fixed) (hh : Sle opf 7 w Hx nh ch U60.opens) : Calls Tryd.prog 10 #[.agg (cfl U60 Gx ng cg Hx nh ch).toArray, .agg #[.int .u8 (usualC.own.a.toNat : Int), .int .u8 (usualC.own.b.toNat : Int), .int .u8 (usualC.own.c.toNat : Int), .int .u8 (usualC.own.d.toNat : Int), .int .u8 (usualC.lan.a.toNat : Int), .int .u8 (usualC.lan.b.toNat : Int), .int .u8 (usualC.lan.c.toNat : Int), .int .u8 (usualC.lan.d.toNat : Int), .int .i64 usualC.bits, .int .u8 (usualC.lanmac.a.toNat : Int), .int .u8 (usualC.lanmac.b.toNat : Int), .int .u8 (usualC.lanmac.c.toNat : Int), .int .u8 (usualC.lanmac.d.toNat : Int), .int .u8 (usualC.lanmac.e.toNat : Int), .int .u8 (usualC.lanmac.f.toNat : Int), .int .u8 (usualC.wanmac.a.toNat : Int), .int .u8 (usualC.wanmac.b.toNat : Int), .int .u8 (usualC.wanmac.c.toNat : Int), .int .u8 (usualC.wanmac.d.toNat : Int), .int .u8 (usualC.wanmac.e.toNat : Int), .int .u8 (usualC.wanmac.f.toNat : Int), .int .u8 (usualC.first.a.toNat : Int), .int .u8 (usualC.first.b.toNat : Int), .int .u8 (usualC.first.c.toNat : Int), .int .u8 (usualC.first.d.toNat : Int), .int .u8 (usualC.last.a.toNat : Int), .int .u8 (usualC.last.b.toNat : Int), .int .u8 (usualC.last.c.toNat : Int), .int .u8 (usualC.last.d.toNat : Int), .int .i64 60, .int .u8 (usualC.dns.a.toNat : Int), .int .u8 (usualC.dns.b.toNat : Int), .int .u8 (usualC.dns.c.toNat : Int), .int .u8 (usualC.dns.d.toNat : Int), .int .i64 usualC.udp, .int .i64 usualC.tcp, .int .i64 usualC.icmp, .int .i64 usualC.low, .slice none 0 0, .slice none 0 0]] w fun e w' => e = .returned (.bool true) ∧ Below w.heap.size w w' :=
  same_any U60 Gx ng cg Hx nh ch none 0 0 none 0 0 w hg hh (Sle.nil (by decide) fxf_len w) (Sle.nil (by decide) opf_len w) (by rw [← hg.1]; decide) (by rw [← hh.1]; decide)
theorem same_us (Gx : Option Addr) (ng cg : Nat) (Hx : Option Addr) (nh ch : Nat) (w : World) (hg : Sle fxf 10 w Gx ng cg usualC.fixed) (hh : Sle opf 7 w Hx nh ch usualC.opens) : Calls Tryd.prog 10 #[.agg (cfl usualC Gx ng cg Hx nh ch).toArray, .agg (cfl usualC none 0 0 none 0 0).toArray] w fun e w' => e = .returned (.bool true) ∧ Below w.heap.size w w' :=
  same_any usualC Gx ng cg Hx nh ch none 0 0 none 0 0 w hg hh (Sle.nil (by decide) fxf_len w) (Sle.nil (by decide) opf_len w) (by rw [← hg.1]; decide) (by rw [← hh.1]; decide)
@[reducible] def W60L : List Value := [.int .u8 (usualC.own.a.toNat : Int), .int .u8 (usualC.own.b.toNat : Int), .int .u8 (usualC.own.c.toNat : Int), .int .u8 (usualC.own.d.toNat : Int), .int .u8 (usualC.lan.a.toNat : Int), .int .u8 (usualC.lan.b.toNat : Int), .int .u8 (usualC.lan.c.toNat : Int), .int .u8 (usualC.lan.d.toNat : Int), .int .i64 usualC.bits, .int .u8 (usualC.lanmac.a.toNat : Int), .int .u8 (usualC.lanmac.b.toNat : Int), .int .u8 (usualC.lanmac.c.toNat : Int), .int .u8 (usualC.lanmac.d.toNat : Int), .int .u8 (usualC.lanmac.e.toNat : Int), .int .u8 (usualC.lanmac.f.toNat : Int), .int .u8 (usualC.wanmac.a.toNat : Int), .int .u8 (usualC.wanmac.b.toNat : Int), .int .u8 (usualC.wanmac.c.toNat : Int), .int .u8 (usualC.wanmac.d.toNat : Int), .int .u8 (usualC.wanmac.e.toNat : Int), .int .u8 (usualC.wanmac.f.toNat : Int), .int .u8 (usualC.first.a.toNat : Int), .int .u8 (usualC.first.b.toNat : Int), .int .u8 (usualC.first.c.toNat : Int), .int .u8 (usualC.first.d.toNat : Int), .int .u8 (usualC.last.a.toNat : Int), .int .u8 (usualC.last.b.toNat : Int), .int .u8 (usualC.last.c.toNat : Int), .int .u8 (usualC.last.d.toNat : Int), .int .i64 60, .int .u8 (usualC.dns.a.toNat : Int), .int .u8 (usualC.dns.b.toNat : Int), .int .u8 (usualC.dns.c.toNat : Int), .int .u8 (usualC.dns.d.toNat : Int), .int .i64 usualC.udp, .int .i64 usualC.tcp, .int .i64 usualC.icmp, .int .i64 usualC.low, .slice none 0 0, .slice none 0 0]
set_option linter.unusedVariables false in
set_option linter.unusedSimpArgs false in
set_option maxRecDepth 100000 in
set_option maxHeartbeats 16000000 in
theorem awake_any (w : World) : Calls Tryd.prog 7 #[] w fun e w' => e = .returned (.bool true) ∧ Below w.heap.size w w' := by
  have bel := Below.refl w.heap.size w
  go_enter Tryd.func7, Tryd.ntmps7
  go_wp2_with fail
  with_reducible refine (cparse_60 _).mono ?_
  rintro e w1 ⟨Fx, nf, cf, Ox, nx, cx, rfl, hf, ho, frF, frO, b1⟩
  replace bel := bel.trans (b1.mono bel.size)
  clear b1
  replace hf : Sle fxf 10 w1 (Fx) (nf) (cf) (U60.fixed) := hf
  replace ho : Sle opf 7 w1 (Ox) (nx) (cx) (U60.opens) := ho
  have hnf : nf ≤ 1000 := by rw [← hf.1]; decide
  have hnx : nx ≤ 1000 := by rw [← ho.1]; decide
  go_wp2_with (first | ((with_reducible show wpList _ _ _ (⟨some 1, _, _, _, _, _⟩ :: _) _ _); refine wpList_new_a rfl 32 rfl #[.int .u8 0, .int .u8 0, .int .u8 0, .int .u8 0, .int .u8 0, .int .u8 0, .int .u8 0, .int .u8 0, .int .i64 0, .int .u8 0, .int .u8 0, .int .u8 0, .int .u8 0, .int .u8 0, .int .u8 0, .int .u8 0, .int .u8 0, .int .u8 0, .int .u8 0, .int .u8 0, .int .u8 0, .int .u8 0, .int .u8 0, .int .u8 0, .int .u8 0, .int .u8 0, .int .u8 0, .int .u8 0, .int .u8 0, .int .i64 0, .int .u8 0, .int .u8 0, .int .u8 0, .int .u8 0, .int .i64 0, .int .i64 0, .int .i64 0, .int .i64 0, .slice none 0 0, .slice none 0 0] (by kernel_rfl) ?_; intro g1 w2 ge hh bb; have av_hf_ca := hf.av_new ge; have av_ho_ca := ho.av_new ge; have oca := Nat.le_trans bel.size ge; replace hf := hf.below bb; replace ho := ho.below bb; replace bel := bel.trans (bb.mono bel.size); have hca := hh; clear hh ge bb) | ((with_reducible show wpList _ _ _ (⟨none, Op.store _ (.tmp 1) _, _, _, _, _⟩ :: _) _ _); refine wpList_store_blk rfl 32 (.tmp 1) (.tmp 7) rfl g1 rfl _ rfl _ 32 hca (by rfl) (by kernel_rfl) (by kernel_rfl) ?_; intro w3 hq gr; replace hf := hf.away av_hf_ca gr; replace ho := ho.away av_ho_ca gr; replace bel := below_grown bel gr oca bel.size; clear hca; have hca := hq; clear hq gr))
  with_reducible refine (rusual_any _).mono ?_
  rintro e w4 ⟨rfl, b4⟩
  replace hca := blk_u hca b4
  replace hf := hf.below b4
  replace ho := ho.below b4
  replace bel := bel.trans (b4.mono bel.size)
  clear b4
  go_wp2_with (first | ((with_reducible show wpList _ _ _ (⟨some 4, _, _, _, _, _⟩ :: _) _ _); refine wpList_new_a rfl 44 rfl #[.int .u8 0, .int .u8 0, .int .u8 0, .int .u8 0, .int .u8 0, .int .u8 0, .int .u8 0, .int .u8 0, .int .i64 0, .int .u8 0, .int .u8 0, .int .u8 0, .int .u8 0, .int .u8 0, .int .u8 0, .int .u8 0, .int .u8 0, .int .u8 0, .int .u8 0, .int .u8 0, .int .u8 0, .int .u8 0, .int .u8 0, .int .u8 0, .int .u8 0, .int .u8 0, .int .u8 0, .int .u8 0, .int .u8 0, .int .i64 0, .int .u8 0, .int .u8 0, .int .u8 0, .int .u8 0, .int .i64 0, .int .i64 0, .int .i64 0, .int .i64 0, .slice none 0 0, .slice none 0 0] (by kernel_rfl) ?_; intro g4 w5 ge hh bb; have d_ca_cb := ne_new (hlt hca) ge; have av_hf_cb := hf.av_new ge; have av_ho_cb := ho.av_new ge; have ocb := Nat.le_trans bel.size ge; replace hca := blk_u hca bb; replace hf := hf.below bb; replace ho := ho.below bb; replace bel := bel.trans (bb.mono bel.size); have hcb := hh; clear hh ge bb) | ((with_reducible show wpList _ _ _ (⟨none, Op.store _ (.tmp 4) _, _, _, _, _⟩ :: _) _ _); refine wpList_store_blk rfl 44 (.tmp 4) (.tmp 10) rfl g4 rfl _ rfl _ 44 hcb (by rfl) (by kernel_rfl) (by kernel_rfl) ?_; intro w6 hq gr; replace hf := hf.away av_hf_cb gr; replace ho := ho.away av_ho_cb gr; replace hca := blk_a hca gr d_ca_cb; replace bel := below_grown bel gr ocb bel.size; clear hcb; have hcb := hq; clear hq gr) | ((with_reducible show wpList _ _ _ (⟨none, Op.store _ (.tmp 11) _, _, _, _, _⟩ :: _) _ _); refine wpList_store_part rfl 3 (.tmp 11) (.const (.int .i64 60)) rfl g4 29 rfl [.int .i64 60] rfl (cfl usualC none 0 0 none 0 0) 44 hcb (by simp) (W60L) rfl (by kernel_rfl) (by rfl) ?_; intro w7 hq gr; replace hf := hf.away av_hf_cb gr; replace ho := ho.away av_ho_cb gr; replace hca := blk_a hca gr d_ca_cb; replace bel := below_grown bel gr ocb bel.size; clear hcb; have hcb := hq; clear hq gr))
  replace bel := bel.drew
  replace hca : w7.drew.heap[g1]? = _ := hca
  replace hcb : w7.drew.heap[g4]? = _ := hcb
  replace hf := hf.drew
  replace ho := ho.drew
  refine wp_region_held_drew (S := fun W => W.heap[g1]? = some (.cells (cfl U60 Fx nf cf Ox nx cx).toArray 32 (0, 0)) ∧ W.heap[g4]? = some (.cells (W60L).toArray 44 (0, 0))) (by kernel_rfl) ⟨hca, hcb⟩ (fun hH => ?_)
  generalize w7.drew = w8 at bel hca hcb hf ho hH ⊢
  refine wpAnyH_take (i := 0) (v := ?_) rfl (by kernel_rfl) (by kernel_rfl) (by kernel_rfl) (fun _ _ _ h => h) (Or.inl ⟨by rfl, ?_⟩) hH ?_
  rotate_left
  · ((intro W hW; clear hW; go_simp) <;> with_reducible rfl)
  simp only [Act.put, List.getElem_toArray, List.getElem_cons_zero, List.setIfInBounds_toArray, List.set_cons_zero, List.set_cons_succ]
  refine wpAnyH_take (i := 1) (v := ?_) rfl (by kernel_rfl) (by kernel_rfl) (by kernel_rfl) (fun _ _ _ h => h) (Or.inl ⟨by rfl, ?_⟩) hH ?_
  rotate_left
  · ((intro W hW; clear hW; go_simp) <;> with_reducible rfl)
  simp only [Act.put, List.getElem_toArray, List.getElem_cons_zero, List.getElem_cons_succ, List.setIfInBounds_toArray, List.set_cons_zero, List.set_cons_succ]
  refine wpAnyH_take (i := 2) (v := ?_) rfl (by kernel_rfl) (by kernel_rfl) (by kernel_rfl) (fun _ _ _ h => h) (Or.inl ⟨by rfl, ?_⟩) hH ?_
  rotate_left
  · ((intro W hW; clear hW; go_simp) <;> with_reducible rfl)
  simp only [Act.put, List.getElem_toArray, List.getElem_cons_zero, List.getElem_cons_succ, List.setIfInBounds_toArray, List.set_cons_zero, List.set_cons_succ]
  refine wpAnyH_take (i := 3) (v := ?_) rfl (by kernel_rfl) (by kernel_rfl) (by kernel_rfl) (fun _ _ _ h => h) (Or.inl ⟨by rfl, ?_⟩) hH ?_
  rotate_left
  · ((intro W hW; clear hW; go_simp) <;> with_reducible rfl)
  simp only [Act.put, List.getElem_toArray, List.getElem_cons_zero, List.getElem_cons_succ, List.setIfInBounds_toArray, List.set_cons_zero, List.set_cons_succ]
  refine wpAnyH_take (i := 4) (v := ?_) rfl (by kernel_rfl) (by kernel_rfl) (by kernel_rfl) (fun _ _ _ h => h) (Or.inl ⟨by rfl, ?_⟩) hH ?_
  rotate_left
  · ((intro W hW; clear hW; go_simp) <;> with_reducible rfl)
  simp only [Act.put, List.getElem_toArray, List.getElem_cons_zero, List.getElem_cons_succ, List.setIfInBounds_toArray, List.set_cons_zero, List.set_cons_succ]
  refine wpAnyH_take (i := 5) (v := ?_) rfl (by kernel_rfl) (by kernel_rfl) (by kernel_rfl) (fun _ _ _ h => h) (Or.inl ⟨by rfl, ?_⟩) hH ?_
  rotate_left
  · ((intro W hW; clear hW; go_simp) <;> with_reducible rfl)
  simp only [Act.put, List.getElem_toArray, List.getElem_cons_zero, List.getElem_cons_succ, List.setIfInBounds_toArray, List.set_cons_zero, List.set_cons_succ]
  refine wpAnyH_take (i := 6) (v := ?_) rfl (by kernel_rfl) (by kernel_rfl) (by kernel_rfl) (fun _ _ _ h => h) (Or.inl ⟨by rfl, ?_⟩) hH ?_
  rotate_left
  · ((intro W hW; clear hW; go_simp) <;> with_reducible rfl)
  simp only [Act.put, List.getElem_toArray, List.getElem_cons_zero, List.getElem_cons_succ, List.setIfInBounds_toArray, List.set_cons_zero, List.set_cons_succ]
  refine wpAnyH_take (i := 7) (v := .agg (cfl U60 Fx nf cf Ox nx cx).toArray) rfl (by kernel_rfl) (by kernel_rfl) (by kernel_rfl) (fun _ _ _ h => h) (yieldsIf_load_part (by kernel_rfl) 32 _ rfl g1 0 40 rfl _ 32 (0, 0) (fun W hW => hW.1) _ rfl _ Tryd.underlying32 rfl (by kernel_rfl)) hH ?_
  simp only [Act.put, List.getElem_toArray, List.getElem_cons_zero, List.getElem_cons_succ, List.setIfInBounds_toArray, List.set_cons_zero, List.set_cons_succ]
  refine wpAnyH_take (i := 9) (v := .agg (W60L).toArray) rfl (by kernel_rfl) (by kernel_rfl) (by kernel_rfl) (fun _ _ _ h => h) (yieldsIf_load_part (by kernel_rfl) 44 _ rfl g4 0 40 rfl _ 44 (0, 0) (fun W hW => hW.2) _ rfl _ Tryd.underlying44 rfl (by kernel_rfl)) hH ?_
  simp only [Act.put, List.getElem_toArray, List.getElem_cons_zero, List.getElem_cons_succ, List.setIfInBounds_toArray, List.set_cons_zero, List.set_cons_succ]
  refine wpAnyH_ready (rs := [8]) (by kernel_rfl) (by simp) ?_
  refine AllReadyH.cons (o := _) rfl (fun K hK => ?_) AllReadyH.nil
  simp only [List.getElem_toArray, List.getElem_cons_zero, List.getElem_cons_succ]
  go_simp
  with_reducible refine (own_any U60 _ _ _ _ _ _ _ hf ho hnf hnx).mono ?_
  rintro e w9 ⟨Gx, ng, cg, Hx, nh, ch, rfl, hg, hh2, frG, frH, b9⟩
  dsimp only
  have av_hg_ca := frG.av (hlt hca)
  have av_hg_cb := frG.av (hlt hcb)
  have av_hh2_ca := frH.av (hlt hca)
  have av_hh2_cb := frH.av (hlt hcb)
  replace hca := blk_u hca b9
  replace hcb := blk_u hcb b9
  replace hf := hf.below b9
  replace ho := ho.below b9
  replace bel := bel.trans (b9.mono bel.size)
  clear b9
  replace hg : Sle fxf 10 w9 (Gx) (ng) (cg) (U60.fixed) := hg
  replace hh2 : Sle opf 7 w9 (Hx) (nh) (ch) (U60.opens) := hh2
  refine hK.out _ _ ⟨hca, hcb⟩ (fun hH10 => ?_)
  clear hK K
  refine wpAnyH_ready (rs := [10]) (by kernel_rfl) (by simp) ?_
  refine AllReadyH.cons (o := _) rfl (fun K hK => ?_) AllReadyH.nil
  simp only [List.getElem_toArray, List.getElem_cons_zero, List.getElem_cons_succ]
  go_simp
  with_reducible refine (same_60 _ _ _ _ _ _ _ hg hh2).mono ?_
  rintro e w11 ⟨rfl, b11⟩
  dsimp only
  replace hca := blk_u hca b11
  replace hcb := blk_u hcb b11
  replace hf := hf.below b11
  replace ho := ho.below b11
  replace hg := hg.below b11
  replace hh2 := hh2.below b11
  replace bel := bel.trans (b11.mono bel.size)
  clear b11
  clear hg
  clear hh2
  refine hK.out _ _ ⟨hca, hcb⟩ (fun hH12 => ?_)
  clear hK K
  refine wpAnyH_take (i := 11) (v := ?_) rfl (by kernel_rfl) (by kernel_rfl) (by kernel_rfl) (fun _ _ _ h => h) (Or.inl ⟨by rfl, ?_⟩) hH12 ?_
  rotate_left
  · ((intro W hW; clear hW; go_simp) <;> with_reducible rfl)
  simp only [Act.put, List.getElem_toArray, List.getElem_cons_zero, List.getElem_cons_succ, List.setIfInBounds_toArray, List.set_cons_zero, List.set_cons_succ]
  refine wpAnyH_take (i := 12) (v := ?_) rfl (by kernel_rfl) (by kernel_rfl) (by kernel_rfl) (fun _ _ _ h => h) (Or.inl ⟨by rfl, ?_⟩) hH12 ?_
  rotate_left
  · ((intro W hW; clear hW; go_simp) <;> with_reducible rfl)
  simp only [Act.put, List.getElem_toArray, List.getElem_cons_zero, List.getElem_cons_succ, List.setIfInBounds_toArray, List.set_cons_zero, List.set_cons_succ]
  refine wpAnyH_ready (rs := [13]) (by kernel_rfl) (by simp) ?_
  refine AllReadyH.cons (o := _) rfl (fun K hK => ?_) AllReadyH.nil
  simp only [List.getElem_toArray, List.getElem_cons_zero, List.getElem_cons_succ]
  go_simp
  with_reducible refine (cusual_c _).mono ?_
  rintro e w13 ⟨rfl, b13⟩
  dsimp only
  replace hca := blk_u hca b13
  replace hcb := blk_u hcb b13
  replace hf := hf.below b13
  replace ho := ho.below b13
  replace bel := bel.trans (b13.mono bel.size)
  clear b13
  refine hK.out _ _ ⟨hca, hcb⟩ (fun hH14 => ?_)
  clear hK K
  refine wpAnyH_ready (rs := [14]) (by kernel_rfl) (by simp) ?_
  refine AllReadyH.cons (o := _) rfl (fun K hK => ?_) AllReadyH.nil
  simp only [List.getElem_toArray, List.getElem_cons_zero, List.getElem_cons_succ]
  go_simp
  with_reducible refine (own_any usualC none 0 0 none 0 0 _ (Sle.nil (by decide) fxf_len _) (Sle.nil (by decide) opf_len _) (by decide) (by decide)).mono ?_
  rintro e w15 ⟨Gy, ng2, cg2, Hy, nh2, ch2, rfl, hg3, hh3, frG3, frH3, b15⟩
  dsimp only
  have av_hg3_ca := frG3.av (hlt hca)
  have av_hg3_cb := frG3.av (hlt hcb)
  have av_hh3_ca := frH3.av (hlt hca)
  have av_hh3_cb := frH3.av (hlt hcb)
  replace hca := blk_u hca b15
  replace hcb := blk_u hcb b15
  replace hf := hf.below b15
  replace ho := ho.below b15
  replace bel := bel.trans (b15.mono bel.size)
  clear b15
  replace hg3 : Sle fxf 10 w15 (Gy) (ng2) (cg2) (usualC.fixed) := hg3
  replace hh3 : Sle opf 7 w15 (Hy) (nh2) (ch2) (usualC.opens) := hh3
  refine hK.out _ _ ⟨hca, hcb⟩ (fun hH16 => ?_)
  clear hK K
  refine wpAnyH_ready (rs := [15]) (by kernel_rfl) (by simp) ?_
  refine AllReadyH.cons (o := _) rfl (fun K hK => ?_) AllReadyH.nil
  simp only [List.getElem_toArray, List.getElem_cons_zero, List.getElem_cons_succ]
  go_simp
  with_reducible refine (rusual_any _).mono ?_
  rintro e w17 ⟨rfl, b17⟩
  dsimp only
  replace hca := blk_u hca b17
  replace hcb := blk_u hcb b17
  replace hf := hf.below b17
  replace ho := ho.below b17
  replace hg3 := hg3.below b17
  replace hh3 := hh3.below b17
  replace bel := bel.trans (b17.mono bel.size)
  clear b17
  refine hK.out _ _ ⟨hca, hcb⟩ (fun hH18 => ?_)
  clear hK K
  refine wpAnyH_ready (rs := [16]) (by kernel_rfl) (by simp) ?_
  refine AllReadyH.cons (o := _) rfl (fun K hK => ?_) AllReadyH.nil
  simp only [List.getElem_toArray, List.getElem_cons_zero, List.getElem_cons_succ]
  go_simp
  with_reducible refine (same_us _ _ _ _ _ _ _ hg3 hh3).mono ?_
  rintro e w19 ⟨rfl, b19⟩
  dsimp only
  replace hca := blk_u hca b19
  replace hcb := blk_u hcb b19
  replace hf := hf.below b19
  replace ho := ho.below b19
  replace hg3 := hg3.below b19
  replace hh3 := hh3.below b19
  replace bel := bel.trans (b19.mono bel.size)
  clear b19
  clear hg3
  clear hh3
  refine hK.out _ _ ⟨hca, hcb⟩ (fun hH20 => ?_)
  clear hK K
  refine wpAnyH_take (i := 17) (v := ?_) rfl (by kernel_rfl) (by kernel_rfl) (by kernel_rfl) (fun _ _ _ h => h) (Or.inl ⟨by rfl, ?_⟩) hH20 ?_
  rotate_left
  · ((intro W hW; clear hW; go_simp) <;> with_reducible rfl)
  simp only [Act.put, List.getElem_toArray, List.getElem_cons_zero, List.getElem_cons_succ, List.setIfInBounds_toArray, List.set_cons_zero, List.set_cons_succ]
  refine wpAnyH_take (i := 18) (v := ?_) rfl (by kernel_rfl) (by kernel_rfl) (by kernel_rfl) (fun _ _ _ h => h) (Or.inl ⟨by rfl, ?_⟩) hH20 ?_
  rotate_left
  · ((intro W hW; clear hW; go_simp) <;> with_reducible rfl)
  simp only [Act.put, List.getElem_toArray, List.getElem_cons_zero, List.getElem_cons_succ, List.setIfInBounds_toArray, List.set_cons_zero, List.set_cons_succ]
  refine wpAnyH_take (i := 19) (v := .agg (cfl U60 Fx nf cf Ox nx cx).toArray) rfl (by kernel_rfl) (by kernel_rfl) (by kernel_rfl) (fun _ _ _ h => h) (yieldsIf_load_part (by kernel_rfl) 32 _ rfl g1 0 40 rfl _ 32 (0, 0) (fun W hW => hW.1) _ rfl _ Tryd.underlying32 rfl (by kernel_rfl)) hH20 ?_
  simp only [Act.put, List.getElem_toArray, List.getElem_cons_zero, List.getElem_cons_succ, List.setIfInBounds_toArray, List.set_cons_zero, List.set_cons_succ]
  refine wpAnyH_ready (rs := [20]) (by kernel_rfl) (by simp) ?_
  refine AllReadyH.cons (o := _) rfl (fun K hK => ?_) AllReadyH.nil
  simp only [List.getElem_toArray, List.getElem_cons_zero, List.getElem_cons_succ]
  go_simp
  with_reducible refine (ccheck_any U60 _ _ _ _ _ _ _ hf ho).mono ?_
  rintro e w21 ⟨rfl, b21⟩
  dsimp only
  replace hca := blk_u hca b21
  replace hcb := blk_u hcb b21
  replace hf := hf.below b21
  replace ho := ho.below b21
  replace bel := bel.trans (b21.mono bel.size)
  clear b21
  rw [show errC U60.check = 0 by rw [check_60]; rfl]
  refine hK.out _ _ ⟨hca, hcb⟩ (fun hH22 => ?_)
  clear hK K
  refine wpAnyH_take (i := 21) (v := ?_) rfl (by kernel_rfl) (by kernel_rfl) (by kernel_rfl) (fun _ _ _ h => h) (Or.inl ⟨by rfl, ?_⟩) hH22 ?_
  rotate_left
  · ((intro W hW; clear hW; go_simp) <;> with_reducible rfl)
  simp only [Act.put, List.getElem_toArray, List.getElem_cons_zero, List.getElem_cons_succ, List.setIfInBounds_toArray, List.set_cons_zero, List.set_cons_succ]
  refine wpAnyH_take (i := 22) (v := ?_) rfl (by kernel_rfl) (by kernel_rfl) (by kernel_rfl) (fun _ _ _ h => h) (Or.inl ⟨by rfl, ?_⟩) hH22 ?_
  rotate_left
  · ((intro W hW; clear hW; go_simp) <;> with_reducible rfl)
  simp only [Act.put, List.getElem_toArray, List.getElem_cons_zero, List.getElem_cons_succ, List.setIfInBounds_toArray, List.set_cons_zero, List.set_cons_succ]
  refine wpAnyH_take (i := 23) (v := ?_) rfl (by kernel_rfl) (by kernel_rfl) (by kernel_rfl) (fun _ _ _ h => h) (Or.inl ⟨by rfl, ?_⟩) hH22 ?_
  rotate_left
  · ((intro W hW; clear hW; go_simp) <;> with_reducible rfl)
  simp only [Act.put, List.getElem_toArray, List.getElem_cons_zero, List.getElem_cons_succ, List.setIfInBounds_toArray, List.set_cons_zero]
  refine wpAnyH_done (by kernel_rfl) ?_ _
  go_wp2_with fail
  go_ret
  exact ⟨rfl, bel⟩
open Go.RowKit

/-- Lines as a text. -/
def txt (ls : List (List UInt8)) : List UInt8 := ls.flatMap (· ++ [10])
theorem txt_append (a b : List (List UInt8)) : txt (a ++ b) = txt a ++ txt b := by unfold txt; rw [List.flatMap_append]
theorem st_cat {x y z : List UInt8} (hz : x ++ y = z) (h : x.length + y.length ≤ 8388608) (W : World) : (Op.stringOp .add ⟨x.toArray⟩ ⟨y.toArray⟩).run Tryd.prog W = .ok (.string ⟨z.toArray⟩) W := by
  subst hz; exact st_add h W
theorem rtext_v {v : Int} {n : Nat} (hv : v = n) (h : n < 1000000000) (w : World) : Calls Tryd.prog 16 #[.int .i64 v] w fun e w' => e = .returned (.string ⟨(decT n).toArray⟩) ∧ Below w.heap.size w w' := by
  subst hv; exact rtext_any 8 (by decide) n w (by omega)
open Go.RowKit

/-- A hexadecimal digit's byte. -/
def hexDig (n : Nat) : UInt8 := if n < 10 then UInt8.ofNat (48 + n) else UInt8.ofNat (87 + n)
/-- The text of the first k bytes of a Mac. -/
def macT (l : List UInt8) : Nat → List UInt8
  | 0 => []
  | k + 1 => macT l k ++ (if 0 < k then [58] else []) ++ [hexDig ((l.getD k 0).toNat / 16)] ++ [hexDig ((l.getD k 0).toNat % 16)]
theorem macT_len (l : List UInt8) : ∀ k, (macT l k).length ≤ 3 * k
  | 0 => by simp [macT]
  | k + 1 => by
    have := macT_len l k
    rw [macT]
    split <;> simp <;> omega
def hexRow : List UInt8 := [48, 49, 50, 51, 52, 53, 54, 55, 56, 57, 97, 98, 99, 100, 101, 102]
theorem hexRow_get : ∀ n : Fin 16, (hexRow.drop n.val).take 1 = [hexDig n.val] := by decide +kernel
theorem hexRow_at (n : Nat) (h : n < 16) : ((⟨#[48, 49, 50, 51, 52, 53, 54, 55, 56, 57, 97, 98, 99, 100, 101, 102]⟩ : ByteArray)).extract n (n + 1) = ⟨[hexDig n].toArray⟩ := by
  apply ByteArray.ext
  rw [ByteArray.data_extract]
  apply Array.ext'
  simp only [Array.toList_extract, List.extract_eq_take_drop]
  have := hexRow_get ⟨n, h⟩
  rw [show n + 1 - n = 1 by omega]
  exact this
theorem u8_and15 (x : UInt8) : bits .and .u8 (x.toNat : Int) 15 = ((x.toNat % 16 : Nat) : Int) := by
  have h := u8_and_nat x.toNat 15 x.toNat_lt (by omega)
  rw [show x.toNat &&& 15 = x.toNat % 16 from Nat.and_two_pow_sub_one_eq_mod x.toNat 4] at h
  exact h
theorem str_add (x y : List UInt8) (hx : x.length ≤ 1000) (hy : y.length ≤ 1000) (W : World) : (Op.stringOp .add ⟨x.toArray⟩ ⟨y.toArray⟩).run Tryd.prog W = .ok (.string ⟨(x ++ y).toArray⟩) W := by
  rw [run_string_add_sum W _ _ (by simp [ByteArray.size]; omega), ByteArray.mk_append_mk]

set_option maxHeartbeats 4000000 in
theorem rmactext_any (b0 b1 b2 b3 b4 b5 : UInt8) (w : World) :
    Calls Tryd.prog 45 #[.agg #[.int .u8 (b0.toNat : Int), .int .u8 (b1.toNat : Int), .int .u8 (b2.toNat : Int), .int .u8 (b3.toNat : Int), .int .u8 (b4.toNat : Int), .int .u8 (b5.toNat : Int)]] w
      fun e w' => e = .returned (.string ⟨(macT [b0, b1, b2, b3, b4, b5] 6).toArray⟩) ∧ Below w.heap.size w w' := by
  have hblk := heap_alloc_new w (.cells #[.int .u8 (b0.toNat : Int), .int .u8 (b1.toNat : Int), .int .u8 (b2.toNat : Int), .int .u8 (b3.toNat : Int), .int .u8 (b4.toNat : Int), .int .u8 (b5.toNat : Int)] 28)
  have bel := (Below.refl w.heap.size w).alloc (Nat.le_refl _) (.cells #[.int .u8 (b0.toNat : Int), .int .u8 (b1.toNat : Int), .int .u8 (b2.toNat : Int), .int .u8 (b3.toNat : Int), .int .u8 (b4.toNat : Int), .int .u8 (b5.toNat : Int)] 28)
  have hcell : ∀ j, j < 6 → (w.alloc (.cells #[.int .u8 (b0.toNat : Int), .int .u8 (b1.toNat : Int), .int .u8 (b2.toNat : Int), .int .u8 (b3.toNat : Int), .int .u8 (b4.toNat : Int), .int .u8 (b5.toNat : Int)] 28)).cell? ⟨w.heap.size, j, none⟩ = some (.int .u8 (([b0, b1, b2, b3, b4, b5].getD j 0).toNat : Int)) := by
    intro j hj
    simp only [World.cell?, hblk]
    match j, hj with
    | 0, _ | 1, _ | 2, _ | 3, _ | 4, _ | 5, _ => rfl
  have HC := Lib.hid hcell
  clear hblk hcell
  generalize [b0, b1, b2, b3, b4, b5] = l at HC ⊢
  go_enter Tryd.func45, Tryd.ntmps45
  go_wp2_with fail
  generalize w.alloc (.cells #[.int .u8 (b0.toNat : Int), .int .u8 (b1.toNat : Int), .int .u8 (b2.toNat : Int), .int .u8 (b3.toNat : Int), .int .u8 (b4.toNat : Int), .int .u8 (b5.toNat : Int)] 28) = w1 at HC bel ⊢
  go_loopw [4, 5] (fun v i wr => ∃ k : Nat, k ≤ 6 ∧ i = .int .i64 k ∧ v = .string ⟨(macT l k).toArray⟩ ∧ ∃ q, wr = w1.drewN q) (fun _ i _ => 6 - (intOf i).toNat)
  case atStart => exact ⟨0, by omega, rfl, rfl, 0, rfl⟩
  case round =>
    obtain ⟨k, hk, rfl, rfl, q, rfl⟩ := hrel
    have hlen := macT_len l k
    by_cases hlt : k < 6
    · have hcell := HC.out k hlt
      obtain ⟨x, hx⟩ : ∃ x, Hid (l.getD k 0 = x) := ⟨_, Lib.hid rfl⟩
      rw [hx.out] at hcell
      have hxl := x.toNat_lt
      have k0 : (0 : Int) ≤ k := by omega
      have k6 : (k : Int) < 6 := by omega
      have hq : (x.toNat : Int) / 16 = ((x.toNat / 16 : Nat) : Int) := by omega
      have hand := u8_and15 x
      have hhi : x.toNat / 16 < 16 := by omega
      have hlo : x.toNat % 16 < 16 := by omega
      have HHI : Hid ((l.getD k 0).toNat / 16 = x.toNat / 16) := Lib.hid (by rw [hx.out])
      have HLO : Hid ((l.getD k 0).toNat % 16 = x.toNat % 16) := Lib.hid (by rw [hx.out])
      have x0 : (0 : Int) ≤ x.toNat := by omega
      have x1 : (x.toNat : Int) < 256 := by omega
      generalize x.toNat / 16 = hi at *
      generalize x.toNat % 16 = lo at *
      clear hx hxl
      by_cases kz : 0 < k
      · have A0 := fun W => str_add (macT l k) [58] (by omega) (by simp) W
        have hstep : macT l (k + 1) = (macT l k ++ [58] ++ [hexDig hi]) ++ [hexDig lo] := by rw [macT, HHI.out, HLO.out]; simp [kz]
        have HSTEP := Lib.hid hstep
        have A1 := fun W => str_add (macT l k ++ [58]) [hexDig hi] (by have := hlen; simp; omega) (by simp) W
        have A2 := fun W => str_add (macT l k ++ [58] ++ [hexDig hi]) [hexDig lo] (by have := hlen; simp; omega) (by simp) W
        rw [← hexRow_at hi hhi] at A1
        rw [← hexRow_at lo hlo] at A2
        have t0 : (0 : Int) < (k : Int) := by omega
        generalize macT l k ++ [58] ++ [hexDig hi] ++ [hexDig lo] = s2 at *
        generalize macT l k ++ [58] ++ [hexDig hi] = s1 at *
        generalize macT l k ++ [58] = s0 at *
        generalize macT l k = sk at *
        clear hstep hlen
        have HQ := Lib.hid hq
        have HAND := Lib.hid hand
        have HA1 := Lib.hid A1
        have HA2 := Lib.hid A2
        clear hq hand A1 A2
        go_wp2_with fail
        have hq := HQ.out
        have hand := HAND.out
        have A1 := HA1.out
        have A2 := HA2.out
        have hw1 : IntKind.u8.wrap ((hi : Int) + 1) = hi + 1 := by simp [IntKind.wrap, IntKind.signed, IntKind.bits]; omega
        have hw2 : IntKind.u8.wrap ((lo : Int) + 1) = lo + 1 := by simp [IntKind.wrap, IntKind.signed, IntKind.bits]; omega
        have hw3 : IntKind.u8.wrap (hi : Int) = hi := by simp [IntKind.wrap, IntKind.signed, IntKind.bits]; omega
        have hn1 : ((hi : Int) + 1).toNat = hi + 1 := by omega
        have hn2 : ((lo : Int) + 1).toNat = lo + 1 := by omega
        have g0 : (0 : Int) ≤ hi := by omega
        have g1 : (hi : Int) < 16 := by omega
        have g2 : (0 : Int) ≤ lo := by omega
        have g3 : (lo : Int) < 16 := by omega
        have g4 : (0 : Int) ≤ (hi : Int) + 1 := by omega
        have g5 : (0 : Int) ≤ (lo : Int) + 1 := by omega
        have g6 : (hi : Int) ≤ (hi : Int) + 1 := by omega
        have g7 : (lo : Int) ≤ (lo : Int) + 1 := by omega
        have g8 : (hi : Int) + 1 ≤ 16 := by omega
        have g9 : (lo : Int) + 1 ≤ 16 := by omega
        clear hhi hlo
        go_quiet (fail)
        clear hw1 hw2 hw3 hn1 hn2 g4 g5 g6 g7 g8 g9 A1 A2 hq hand
        go_wp2
        go_roundw
        case rel => exact ⟨k + 1, by omega, by go_num, by rw [HSTEP.out], _, rfl⟩
        case measure => simp [intOf]; omega
      · obtain rfl : k = 0 := by omega
        have hstep : macT l (0 + 1) = (macT l 0 ++ [hexDig hi]) ++ [hexDig lo] := by
          rw [show macT l (0 + 1) = macT l 0 ++ (if 0 < 0 then [58] else []) ++ [hexDig ((l.getD 0 0).toNat / 16)] ++ [hexDig ((l.getD 0 0).toNat % 16)] from rfl, HHI.out, HLO.out]; simp
        have HSTEP := Lib.hid hstep
        have A1 := fun W => str_add (macT l 0) [hexDig hi] (by have := hlen; simp; omega) (by simp) W
        have A2 := fun W => str_add (macT l 0 ++ [hexDig hi]) [hexDig lo] (by have := hlen; simp; omega) (by simp) W
        rw [← hexRow_at hi hhi] at A1
        rw [← hexRow_at lo hlo] at A2
        generalize macT l 0 ++ [hexDig hi] ++ [hexDig lo] = s2 at *
        generalize macT l 0 ++ [hexDig hi] = s1 at *
        generalize macT l 0 = sk at *
        clear hstep kz hlen
        have HQ := Lib.hid hq
        have HAND := Lib.hid hand
        have HA1 := Lib.hid A1
        have HA2 := Lib.hid A2
        clear hq hand A1 A2
        go_wp2_with fail
        have hq := HQ.out
        have hand := HAND.out
        have A1 := HA1.out
        have A2 := HA2.out
        have hw1 : IntKind.u8.wrap ((hi : Int) + 1) = hi + 1 := by simp [IntKind.wrap, IntKind.signed, IntKind.bits]; omega
        have hw2 : IntKind.u8.wrap ((lo : Int) + 1) = lo + 1 := by simp [IntKind.wrap, IntKind.signed, IntKind.bits]; omega
        have hw3 : IntKind.u8.wrap (hi : Int) = hi := by simp [IntKind.wrap, IntKind.signed, IntKind.bits]; omega
        have hn1 : ((hi : Int) + 1).toNat = hi + 1 := by omega
        have hn2 : ((lo : Int) + 1).toNat = lo + 1 := by omega
        have g0 : (0 : Int) ≤ hi := by omega
        have g1 : (hi : Int) < 16 := by omega
        have g2 : (0 : Int) ≤ lo := by omega
        have g3 : (lo : Int) < 16 := by omega
        have g4 : (0 : Int) ≤ (hi : Int) + 1 := by omega
        have g5 : (0 : Int) ≤ (lo : Int) + 1 := by omega
        have g6 : (hi : Int) ≤ (hi : Int) + 1 := by omega
        have g7 : (lo : Int) ≤ (lo : Int) + 1 := by omega
        have g8 : (hi : Int) + 1 ≤ 16 := by omega
        have g9 : (lo : Int) + 1 ≤ 16 := by omega
        clear hhi hlo
        go_quiet (fail)
        clear hw1 hw2 hw3 hn1 hn2 g4 g5 g6 g7 g8 g9 A1 A2 hq hand
        go_wp2
        go_roundw
        case rel => exact ⟨0 + 1, by omega, by go_num, by rw [HSTEP.out], _, rfl⟩
        case measure => simp [intOf]
    · obtain rfl : k = 6 := by omega
      have belq : Below w.heap.size w (w1.drewN q) := ⟨bel.os, bel.tape, bel.output, bel.size, bel.block⟩
      clear hlen
      go_wp2
      go_ret
      exact ⟨rfl, belq⟩
open Go.RowKit

def tA (x : Ad4) : List UInt8 := adT x.a x.b x.c x.d
def tM (m : Mc6) : List UInt8 := macT [m.a, m.b, m.c, m.d, m.e, m.f] 6
def tN (n : Int) : List UInt8 := decT n.toNat
def lnL (nm v : List UInt8) : List UInt8 := nm ++ [32, 61, 32] ++ v
def hdL (c : Cf) : List (List UInt8) := [lnL [108, 97, 110] (tA c.own ++ 47 :: tN c.bits), lnL [108, 97, 110, 109, 97, 99] (tM c.lanmac), lnL [119, 97, 110, 109, 97, 99] (tM c.wanmac), lnL [102, 105, 114, 115, 116] (tA c.first), lnL [108, 97, 115, 116] (tA c.last), lnL [116, 105, 109, 101] (tN c.time), lnL [100, 110, 115] (tA c.dns), lnL [117, 100, 112, 116, 105, 109, 101] (tN c.udp), lnL [116, 99, 112, 116, 105, 109, 101] (tN c.tcp), lnL [105, 99, 109, 112, 116, 105, 109, 101] (tN c.icmp), lnL [108, 111, 119] (tN c.low)]
def fxL (x : Mc6 × Ad4) : List UInt8 := lnL [102, 105, 120, 101, 100] (tM x.1 ++ [32] ++ tA x.2)
def opP (p : Int) : List UInt8 := if p = 6 then [116, 99, 112] else [117, 100, 112]
def opV (x : Int × Int × Ad4 × Int) : List UInt8 := opP x.1 ++ [32] ++ tN x.2.1 ++ [32] ++ tA x.2.2.1 ++ [32] ++ tN x.2.2.2
def opL (x : Int × Int × Ad4 × Int) : List UInt8 := lnL [111, 112, 101, 110] (opV x)
def linesC (c : Cf) : List (List UInt8) := hdL c ++ c.fixed.map fxL ++ c.opens.map opL
/-- What Text answers. -/
def textS (c : Cf) : List UInt8 := if c.check = true then txt (linesC c) else []
theorem txt_snoc (l : List UInt8) (xs : List (List UInt8)) : txt (xs ++ [l]) = txt xs ++ (l ++ [10]) := by
  rw [txt_append]; unfold txt; simp
theorem tA_len (x : Ad4) : (tA x).length ≤ 15 := by
  have h := fun (u : UInt8) => decT_len 2 u.toNat (by have := u.toNat_lt; omega)
  have h1 := h x.a; have h2 := h x.b; have h3 := h x.c; have h4 := h x.d
  unfold tA adT
  simp only [List.length_append, List.length_cons, List.length_nil]
  omega
theorem tM_len (m : Mc6) : (tM m).length ≤ 18 := macT_len _ 6
theorem tN_len {n : Int} (h : n ≤ 99999) : (tN n).length ≤ 5 := decT_len 4 _ (by omega)
theorem opV_len {x : Int × Int × Ad4 × Int} (h1 : x.2.1 ≤ 60000) (h2 : x.2.2.2 ≤ 65535) : (opV x).length ≤ 34 := by
  have a1 := tA_len x.2.2.1; have a2 := tN_len (n := x.2.1) (by omega); have a3 := tN_len (n := x.2.2.2) (by omega)
  have a4 : (opP x.1).length ≤ 3 := by unfold opP; split <;> decide
  unfold opV
  simp only [List.length_append, List.length_cons, List.length_nil]
  omega
theorem ln_snoc {ls ms : List (List UInt8)} {nm v : List UInt8} (h : ls ++ [lnL nm v] = ms) : txt ms = txt ls ++ (nm ++ [32, 61, 32] ++ v ++ [10]) ∧ (txt ms).length = (txt ls).length + nm.length + v.length + 4 := by
  subst h
  rw [txt_snoc]
  unfold lnL
  refine ⟨rfl, ?_⟩
  simp only [List.length_append, List.length_cons, List.length_nil]
  omega
theorem opAll_mem {c : Cf} : ∀ {l d : List (Int × Int × Ad4 × Int)}, c.opAll d l = true → ∀ x ∈ l, ∃ e, c.opOne e x = true
  | [], _, _, x, hx => by cases hx
  | y :: l, d, h, x, hx => by
    unfold Cf.opAll at h
    rw [Bool.and_eq_true] at h
    rcases List.mem_cons.1 hx with rfl | hx
    · exact ⟨d, h.1⟩
    · exact opAll_mem h.2 x hx
structure Rng (c : Cf) : Prop where
  bits : 8 ≤ c.bits ∧ c.bits ≤ 30
  time : 60 ≤ c.time ∧ c.time ≤ 86400
  udp : 10 ≤ c.udp ∧ c.udp ≤ 86400
  tcp : 10 ≤ c.tcp ∧ c.tcp ≤ 86400
  icmp : 10 ≤ c.icmp ∧ c.icmp ≤ 86400
  low : 1024 ≤ c.low ∧ c.low ≤ 60000
  fixed : c.fixed.length ≤ 32
  opens : c.opens.length ≤ 32
  op : ∀ x ∈ c.opens, (x.1 = 17 ∨ x.1 = 6) ∧ (1 ≤ x.2.1 ∧ x.2.1 ≤ 60000) ∧ (1 ≤ x.2.2.2 ∧ x.2.2.2 ≤ 65535)
theorem check_rng {c : Cf} (h : c.check = true) : Rng c := by
  unfold Cf.check Cf.checkA Cf.checkC inI at h
  simp only [Bool.and_eq_true, decide_eq_true_eq, Bool.not_eq_true', decide_eq_false_iff_not] at h
  obtain ⟨⟨h1, _⟩, _, ⟨h2, _, h3, h4, h5, h6, h7, h8⟩, _, h9⟩ := h
  refine ⟨h1, h2, h3, h4, h5, h6, by omega, by omega, fun x hx => ?_⟩
  obtain ⟨e, he⟩ := opAll_mem h9 x hx
  unfold Cf.opOne inI at he
  simp only [Bool.and_eq_true, Bool.or_eq_true, beq_iff_eq, decide_eq_true_eq] at he
  exact ⟨he.1, ⟨he.2.1.1, by have := he.2.1.2; omega⟩, he.2.2.1⟩
theorem hd_parts {c : Cf} (h : Rng c) : ∃ (v0 v1 v2 v3 v4 v5 v6 v7 v8 v9 v10 : List UInt8) (l1 l2 l3 l4 l5 l6 l7 l8 l9 l10 l11 : List (List UInt8)), Hid (tA c.own ++ 47 :: tN c.bits = v0) ∧ v0.length ≤ 30 ∧ Hid (tM c.lanmac = v1) ∧ v1.length ≤ 30 ∧ Hid (tM c.wanmac = v2) ∧ v2.length ≤ 30 ∧ Hid (tA c.first = v3) ∧ v3.length ≤ 30 ∧ Hid (tA c.last = v4) ∧ v4.length ≤ 30 ∧ Hid (tN c.time = v5) ∧ v5.length ≤ 30 ∧ Hid (tA c.dns = v6) ∧ v6.length ≤ 30 ∧ Hid (tN c.udp = v7) ∧ v7.length ≤ 30 ∧ Hid (tN c.tcp = v8) ∧ v8.length ≤ 30 ∧ Hid (tN c.icmp = v9) ∧ v9.length ≤ 30 ∧ Hid (tN c.low = v10) ∧ v10.length ≤ 30 ∧ Hid (([] : List (List UInt8)) ++ [lnL [108, 97, 110] v0] = l1) ∧ (txt l1).length ≤ 50 ∧ Hid (l1 ++ [lnL [108, 97, 110, 109, 97, 99] v1] = l2) ∧ (txt l2).length ≤ 100 ∧ Hid (l2 ++ [lnL [119, 97, 110, 109, 97, 99] v2] = l3) ∧ (txt l3).length ≤ 150 ∧ Hid (l3 ++ [lnL [102, 105, 114, 115, 116] v3] = l4) ∧ (txt l4).length ≤ 200 ∧ Hid (l4 ++ [lnL [108, 97, 115, 116] v4] = l5) ∧ (txt l5).length ≤ 250 ∧ Hid (l5 ++ [lnL [116, 105, 109, 101] v5] = l6) ∧ (txt l6).length ≤ 300 ∧ Hid (l6 ++ [lnL [100, 110, 115] v6] = l7) ∧ (txt l7).length ≤ 350 ∧ Hid (l7 ++ [lnL [117, 100, 112, 116, 105, 109, 101] v7] = l8) ∧ (txt l8).length ≤ 400 ∧ Hid (l8 ++ [lnL [116, 99, 112, 116, 105, 109, 101] v8] = l9) ∧ (txt l9).length ≤ 450 ∧ Hid (l9 ++ [lnL [105, 99, 109, 112, 116, 105, 109, 101] v9] = l10) ∧ (txt l10).length ≤ 500 ∧ Hid (l10 ++ [lnL [108, 111, 119] v10] = l11) ∧ (txt l11).length ≤ 550 ∧ Hid (l11 = hdL c) := by
  have e0 : (tA c.own ++ 47 :: tN c.bits).length ≤ 30 := by simp only [List.length_append, List.length_cons]; have := tA_len c.own; have := tN_len (n := c.bits) (by have := h.bits; omega); omega
  have e1 : (tM c.lanmac).length ≤ 30 := by have := tM_len c.lanmac; omega
  have e2 : (tM c.wanmac).length ≤ 30 := by have := tM_len c.wanmac; omega
  have e3 : (tA c.first).length ≤ 30 := by have := tA_len c.first; omega
  have e4 : (tA c.last).length ≤ 30 := by have := tA_len c.last; omega
  have e5 : (tN c.time).length ≤ 30 := by have := tN_len (n := c.time) (by have := h.time; omega); omega
  have e6 : (tA c.dns).length ≤ 30 := by have := tA_len c.dns; omega
  have e7 : (tN c.udp).length ≤ 30 := by have := tN_len (n := c.udp) (by have := h.udp; omega); omega
  have e8 : (tN c.tcp).length ≤ 30 := by have := tN_len (n := c.tcp) (by have := h.tcp; omega); omega
  have e9 : (tN c.icmp).length ≤ 30 := by have := tN_len (n := c.icmp) (by have := h.icmp; omega); omega
  have e10 : (tN c.low).length ≤ 30 := by have := tN_len (n := c.low) (by have := h.low; omega); omega
  obtain ⟨v0, hv0⟩ : ∃ z, tA c.own ++ 47 :: tN c.bits = z := ⟨_, rfl⟩
  rw [hv0] at e0
  obtain ⟨v1, hv1⟩ : ∃ z, tM c.lanmac = z := ⟨_, rfl⟩
  rw [hv1] at e1
  obtain ⟨v2, hv2⟩ : ∃ z, tM c.wanmac = z := ⟨_, rfl⟩
  rw [hv2] at e2
  obtain ⟨v3, hv3⟩ : ∃ z, tA c.first = z := ⟨_, rfl⟩
  rw [hv3] at e3
  obtain ⟨v4, hv4⟩ : ∃ z, tA c.last = z := ⟨_, rfl⟩
  rw [hv4] at e4
  obtain ⟨v5, hv5⟩ : ∃ z, tN c.time = z := ⟨_, rfl⟩
  rw [hv5] at e5
  obtain ⟨v6, hv6⟩ : ∃ z, tA c.dns = z := ⟨_, rfl⟩
  rw [hv6] at e6
  obtain ⟨v7, hv7⟩ : ∃ z, tN c.udp = z := ⟨_, rfl⟩
  rw [hv7] at e7
  obtain ⟨v8, hv8⟩ : ∃ z, tN c.tcp = z := ⟨_, rfl⟩
  rw [hv8] at e8
  obtain ⟨v9, hv9⟩ : ∃ z, tN c.icmp = z := ⟨_, rfl⟩
  rw [hv9] at e9
  obtain ⟨v10, hv10⟩ : ∃ z, tN c.low = z := ⟨_, rfl⟩
  rw [hv10] at e10
  obtain ⟨l1, hl1⟩ : ∃ z, ([] : List (List UInt8)) ++ [lnL [108, 97, 110] v0] = z := ⟨_, rfl⟩
  have k1 : (txt l1).length ≤ 50 := by have := (ln_snoc hl1).2; simp only [List.length_cons, List.length_nil] at this; have z0 : (txt []).length = 0 := rfl; omega
  obtain ⟨l2, hl2⟩ : ∃ z, l1 ++ [lnL [108, 97, 110, 109, 97, 99] v1] = z := ⟨_, rfl⟩
  have k2 : (txt l2).length ≤ 100 := by have := (ln_snoc hl2).2; simp only [List.length_cons, List.length_nil] at this; omega
  obtain ⟨l3, hl3⟩ : ∃ z, l2 ++ [lnL [119, 97, 110, 109, 97, 99] v2] = z := ⟨_, rfl⟩
  have k3 : (txt l3).length ≤ 150 := by have := (ln_snoc hl3).2; simp only [List.length_cons, List.length_nil] at this; omega
  obtain ⟨l4, hl4⟩ : ∃ z, l3 ++ [lnL [102, 105, 114, 115, 116] v3] = z := ⟨_, rfl⟩
  have k4 : (txt l4).length ≤ 200 := by have := (ln_snoc hl4).2; simp only [List.length_cons, List.length_nil] at this; omega
  obtain ⟨l5, hl5⟩ : ∃ z, l4 ++ [lnL [108, 97, 115, 116] v4] = z := ⟨_, rfl⟩
  have k5 : (txt l5).length ≤ 250 := by have := (ln_snoc hl5).2; simp only [List.length_cons, List.length_nil] at this; omega
  obtain ⟨l6, hl6⟩ : ∃ z, l5 ++ [lnL [116, 105, 109, 101] v5] = z := ⟨_, rfl⟩
  have k6 : (txt l6).length ≤ 300 := by have := (ln_snoc hl6).2; simp only [List.length_cons, List.length_nil] at this; omega
  obtain ⟨l7, hl7⟩ : ∃ z, l6 ++ [lnL [100, 110, 115] v6] = z := ⟨_, rfl⟩
  have k7 : (txt l7).length ≤ 350 := by have := (ln_snoc hl7).2; simp only [List.length_cons, List.length_nil] at this; omega
  obtain ⟨l8, hl8⟩ : ∃ z, l7 ++ [lnL [117, 100, 112, 116, 105, 109, 101] v7] = z := ⟨_, rfl⟩
  have k8 : (txt l8).length ≤ 400 := by have := (ln_snoc hl8).2; simp only [List.length_cons, List.length_nil] at this; omega
  obtain ⟨l9, hl9⟩ : ∃ z, l8 ++ [lnL [116, 99, 112, 116, 105, 109, 101] v8] = z := ⟨_, rfl⟩
  have k9 : (txt l9).length ≤ 450 := by have := (ln_snoc hl9).2; simp only [List.length_cons, List.length_nil] at this; omega
  obtain ⟨l10, hl10⟩ : ∃ z, l9 ++ [lnL [105, 99, 109, 112, 116, 105, 109, 101] v9] = z := ⟨_, rfl⟩
  have k10 : (txt l10).length ≤ 500 := by have := (ln_snoc hl10).2; simp only [List.length_cons, List.length_nil] at this; omega
  obtain ⟨l11, hl11⟩ : ∃ z, l10 ++ [lnL [108, 111, 119] v10] = z := ⟨_, rfl⟩
  have k11 : (txt l11).length ≤ 550 := by have := (ln_snoc hl11).2; simp only [List.length_cons, List.length_nil] at this; omega
  have hh : l11 = hdL c := by
    rw [← hl11, ← hl10, ← hl9, ← hl8, ← hl7, ← hl6, ← hl5, ← hl4, ← hl3, ← hl2, ← hl1, ← hv0, ← hv1, ← hv2, ← hv3, ← hv4, ← hv5, ← hv6, ← hv7, ← hv8, ← hv9, ← hv10]
    rfl
  exact ⟨_, _, _, _, _, _, _, _, _, _, _, _, _, _, _, _, _, _, _, _, _, _, Lib.hid hv0, e0, Lib.hid hv1, e1, Lib.hid hv2, e2, Lib.hid hv3, e3, Lib.hid hv4, e4, Lib.hid hv5, e5, Lib.hid hv6, e6, Lib.hid hv7, e7, Lib.hid hv8, e8, Lib.hid hv9, e9, Lib.hid hv10, e10, Lib.hid hl1, k1, Lib.hid hl2, k2, Lib.hid hl3, k3, Lib.hid hl4, k4, Lib.hid hl5, k5, Lib.hid hl6, k6, Lib.hid hl7, k7, Lib.hid hl8, k8, Lib.hid hl9, k9, Lib.hid hl10, k10, Lib.hid hl11, k11, Lib.hid hh⟩
end Go.Proofs.YtdfobilagidmfaaDoor
namespace Go.Proofs
open Go.Shelf
def Tryd.lays169_ren : Go.Shelf.Ren := ⟨fun | 169 => 32 | n => n, fun | 70 => 65 | 9 => 9 | 0 => 0 | 72 => 68 | 37 => 66 | 127 => 101 | 3 => 3 | 5 => 5 | n => n, fun | n => n⟩
theorem Tryd.lays169 : Go.Proofs.Lays.n169 Tryd.prog Tryd.lays169_ren := {
  mixed := by kernel_rfl
  f169 := Tryd.func32.trans (congrArg some (by kernel_rfl))
  t0 := Tryd.underlying0
  a0 := Tryd.isAgg0
  z0 := Tryd.sizeOf0
  v0 := Tryd.zeroValue0
  t3 := Tryd.underlying3
  a3 := Tryd.isAgg3
  z3 := Tryd.sizeOf3
  v3 := Tryd.zeroValue3
  t9 := Tryd.underlying9
  a9 := Tryd.isAgg9
  z9 := Tryd.sizeOf9
  v9 := Tryd.zeroValue9
  t37 := Tryd.underlying66
  a37 := Tryd.isAgg66
  z37 := Tryd.sizeOf66
  v37 := Tryd.zeroValue66
  t70 := Tryd.underlying65
  a70 := Tryd.isAgg65
  z70 := Tryd.sizeOf65
  v70 := Tryd.zeroValue65
  t72 := Tryd.underlying68
  a72 := Tryd.isAgg68
  z72 := Tryd.sizeOf68
  v72 := Tryd.zeroValue68
  t127 := Tryd.underlying101
  a127 := Tryd.isAgg101
  z127 := Tryd.sizeOf101
  v127 := Tryd.zeroValue101 }
theorem Tryd.Builder_Extra_169 : Builder.Extra Tryd.prog Tryd.lays169_ren := {
  sizeBuilder := by kernel_rfl
  liesBuilder := by kernel_rfl
  t5 := Tryd.underlying5
  a5 := Tryd.isAgg5
  z5 := Tryd.sizeOf5
  v5 := Tryd.zeroValue5
  infoByte := by kernel_rfl
  cellsByte := by kernel_rfl
  sizeByte := by kernel_rfl
  neB5 := by decide }
open Go.RowKit in
open Go.RowKit in
open Go.RowKit in
theorem Tryd.Builder_String_any (B b : Nat) (l : List UInt8) (w : World) (h : Lib.IsBuilder 68 5 B b (Lib.byteCells l) w) (hBw : B ≤ w.heap.size) :
    Calls Tryd.prog 32 #[.pointer (some ⟨b, 0, none⟩)] w fun e w' => e = .returned (.string ⟨l.toArray⟩) ∧ Below B w w' := Any.Builder_String_any Tryd.lays169 Tryd.Builder_Extra_169 B b l w h hBw
def Tryd.laysM171_ren : Go.Shelf.Ren := ⟨fun | 171 => 30 | 243 => 59 | 246 => 79 | 283 => 87 | 284 => 88 | 285 => 89 | 286 => 90 | 129 => 95 | 317 => 94 | 318 => 96 | 319 => 97 | 320 => 98 | 337 => 100 | 338 => 101 | n => n, fun | 3 => 3 | 9 => 9 | 2 => 2 | 4 => 4 | 171 => 137 | 0 => 0 | 53 => 124 | 37 => 66 | 5 => 5 | 173 => 140 | 212 => 148 | 51 => 53 | 20 => 20 | 213 => 149 | 46 => 90 | 232 => 154 | 233 => 155 | n => n, fun | 17 => 0 | 18 => 1 | 19 => 2 | n => n⟩
theorem Tryd.laysM171 : Go.Proofs.LaysM.n171 Tryd.prog Tryd.laysM171_ren := {
  mixed := by kernel_rfl
  f129 := Tryd.func95.trans (congrArg some (by kernel_rfl))
  f171 := Tryd.func30.trans (congrArg some (by kernel_rfl))
  f243 := Tryd.func59.trans (congrArg some (by kernel_rfl))
  f246 := Tryd.func79.trans (congrArg some (by kernel_rfl))
  f283 := Tryd.func87.trans (congrArg some (by kernel_rfl))
  f284 := Tryd.func88.trans (congrArg some (by kernel_rfl))
  f285 := Tryd.func89.trans (congrArg some (by kernel_rfl))
  f286 := Tryd.func90.trans (congrArg some (by kernel_rfl))
  f317 := Tryd.func94.trans (congrArg some (by kernel_rfl))
  f318 := Tryd.func96.trans (congrArg some (by kernel_rfl))
  f319 := Tryd.func97.trans (congrArg some (by kernel_rfl))
  f320 := Tryd.func98.trans (congrArg some (by kernel_rfl))
  f337 := Tryd.func100.trans (congrArg some (by kernel_rfl))
  f338 := Tryd.func101.trans (congrArg some (by kernel_rfl))
  t0 := Tryd.underlying0
  a0 := Tryd.isAgg0
  z0 := Tryd.sizeOf0
  v0 := Tryd.zeroValue0
  t2 := Tryd.underlying2
  a2 := Tryd.isAgg2
  z2 := Tryd.sizeOf2
  v2 := Tryd.zeroValue2
  t3 := Tryd.underlying3
  a3 := Tryd.isAgg3
  z3 := Tryd.sizeOf3
  v3 := Tryd.zeroValue3
  t4 := Tryd.underlying4
  a4 := Tryd.isAgg4
  z4 := Tryd.sizeOf4
  v4 := Tryd.zeroValue4
  t5 := Tryd.underlying5
  a5 := Tryd.isAgg5
  z5 := Tryd.sizeOf5
  v5 := Tryd.zeroValue5
  t9 := Tryd.underlying9
  a9 := Tryd.isAgg9
  z9 := Tryd.sizeOf9
  v9 := Tryd.zeroValue9
  t20 := Tryd.underlying20
  a20 := Tryd.isAgg20
  z20 := Tryd.sizeOf20
  v20 := Tryd.zeroValue20
  t37 := Tryd.underlying66
  a37 := Tryd.isAgg66
  z37 := Tryd.sizeOf66
  v37 := Tryd.zeroValue66
  t46 := Tryd.underlying90
  a46 := Tryd.isAgg90
  z46 := Tryd.sizeOf90
  v46 := Tryd.zeroValue90
  t51 := Tryd.underlying53
  a51 := Tryd.isAgg53
  z51 := Tryd.sizeOf53
  v51 := Tryd.zeroValue53
  t53 := Tryd.underlying124
  a53 := Tryd.isAgg124
  z53 := Tryd.sizeOf124
  v53 := Tryd.zeroValue124
  t171 := Tryd.underlying137
  a171 := Tryd.isAgg137
  z171 := Tryd.sizeOf137
  v171 := Tryd.zeroValue137
  t173 := Tryd.underlying140
  a173 := Tryd.isAgg140
  z173 := Tryd.sizeOf140
  v173 := Tryd.zeroValue140
  t212 := Tryd.underlying148
  a212 := Tryd.isAgg148
  z212 := Tryd.sizeOf148
  v212 := Tryd.zeroValue148
  t213 := Tryd.underlying149
  a213 := Tryd.isAgg149
  z213 := Tryd.sizeOf149
  t232 := Tryd.underlying154
  a232 := Tryd.isAgg154
  z232 := Tryd.sizeOf154
  v232 := Tryd.zeroValue154
  t233 := Tryd.underlying155
  a233 := Tryd.isAgg155
  z233 := Tryd.sizeOf155
  v233 := Tryd.zeroValue155
  g17 := by kernel_rfl
  g18 := by kernel_rfl
  g19 := by kernel_rfl
  i0 := by kernel_rfl
  i2 := by kernel_rfl
  i3 := by kernel_rfl
  i4 := by kernel_rfl
  i5 := by kernel_rfl
  i9 := by kernel_rfl
  i20 := by kernel_rfl
  i37 := by kernel_rfl
  i46 := by kernel_rfl
  i51 := by kernel_rfl
  i53 := by kernel_rfl
  i171 := by kernel_rfl
  i173 := by kernel_rfl
  i212 := by kernel_rfl
  i232 := by kernel_rfl
  i233 := by kernel_rfl
  m17 := by kernel_rfl
  m18 := by kernel_rfl
  m19 := by kernel_rfl }
open Go.RowKit Go.Sort Go.Lib in
theorem Tryd.strconv_Itoa (n : Int) (h0 : -9223372036854775808 ≤ n) (h1 : n ≤ 9223372036854775807) (w : World) (htab : Lib.TabIs Tryd.prog w "internal/strconv.uint64pow10" .u64 Lib.pow10Tab) :
    Calls Tryd.prog 30 #[.int .i64 n] w fun e w' => e = .returned (.string ⟨(Lib.itoa n).toArray⟩) ∧ ∃ k os, w' = grow (w.drewN k) os := Any.strconv_Itoa Tryd.laysM171 n h0 h1 w htab
def Tryd.lays171_ren : Go.Shelf.Ren := ⟨fun | 171 => 30 | 243 => 59 | 246 => 79 | 283 => 87 | 284 => 88 | 285 => 89 | 286 => 90 | 129 => 95 | 317 => 94 | 318 => 96 | 319 => 97 | 320 => 98 | 337 => 100 | 338 => 101 | n => n, fun | 3 => 3 | 9 => 9 | 2 => 2 | 4 => 4 | 171 => 137 | 0 => 0 | 53 => 124 | 37 => 66 | 5 => 5 | 173 => 140 | 212 => 148 | 51 => 53 | 20 => 20 | 213 => 149 | 46 => 90 | 232 => 154 | 233 => 155 | n => n, fun | 17 => 0 | 18 => 1 | 19 => 2 | n => n⟩
theorem Tryd.lays171 : Go.Proofs.Lays.n171 Tryd.prog Tryd.lays171_ren := {
  mixed := by kernel_rfl
  f129 := Tryd.func95.trans (congrArg some (by kernel_rfl))
  f171 := Tryd.func30.trans (congrArg some (by kernel_rfl))
  f243 := Tryd.func59.trans (congrArg some (by kernel_rfl))
  f246 := Tryd.func79.trans (congrArg some (by kernel_rfl))
  f283 := Tryd.func87.trans (congrArg some (by kernel_rfl))
  f284 := Tryd.func88.trans (congrArg some (by kernel_rfl))
  f285 := Tryd.func89.trans (congrArg some (by kernel_rfl))
  f286 := Tryd.func90.trans (congrArg some (by kernel_rfl))
  f317 := Tryd.func94.trans (congrArg some (by kernel_rfl))
  f318 := Tryd.func96.trans (congrArg some (by kernel_rfl))
  f319 := Tryd.func97.trans (congrArg some (by kernel_rfl))
  f320 := Tryd.func98.trans (congrArg some (by kernel_rfl))
  f337 := Tryd.func100.trans (congrArg some (by kernel_rfl))
  f338 := Tryd.func101.trans (congrArg some (by kernel_rfl))
  t0 := Tryd.underlying0
  a0 := Tryd.isAgg0
  z0 := Tryd.sizeOf0
  v0 := Tryd.zeroValue0
  t2 := Tryd.underlying2
  a2 := Tryd.isAgg2
  z2 := Tryd.sizeOf2
  v2 := Tryd.zeroValue2
  t3 := Tryd.underlying3
  a3 := Tryd.isAgg3
  z3 := Tryd.sizeOf3
  v3 := Tryd.zeroValue3
  t4 := Tryd.underlying4
  a4 := Tryd.isAgg4
  z4 := Tryd.sizeOf4
  v4 := Tryd.zeroValue4
  t5 := Tryd.underlying5
  a5 := Tryd.isAgg5
  z5 := Tryd.sizeOf5
  v5 := Tryd.zeroValue5
  t9 := Tryd.underlying9
  a9 := Tryd.isAgg9
  z9 := Tryd.sizeOf9
  v9 := Tryd.zeroValue9
  t20 := Tryd.underlying20
  a20 := Tryd.isAgg20
  z20 := Tryd.sizeOf20
  v20 := Tryd.zeroValue20
  t37 := Tryd.underlying66
  a37 := Tryd.isAgg66
  z37 := Tryd.sizeOf66
  v37 := Tryd.zeroValue66
  t46 := Tryd.underlying90
  a46 := Tryd.isAgg90
  z46 := Tryd.sizeOf90
  v46 := Tryd.zeroValue90
  t51 := Tryd.underlying53
  a51 := Tryd.isAgg53
  z51 := Tryd.sizeOf53
  v51 := Tryd.zeroValue53
  t53 := Tryd.underlying124
  a53 := Tryd.isAgg124
  z53 := Tryd.sizeOf124
  v53 := Tryd.zeroValue124
  t171 := Tryd.underlying137
  a171 := Tryd.isAgg137
  z171 := Tryd.sizeOf137
  v171 := Tryd.zeroValue137
  t173 := Tryd.underlying140
  a173 := Tryd.isAgg140
  z173 := Tryd.sizeOf140
  v173 := Tryd.zeroValue140
  t212 := Tryd.underlying148
  a212 := Tryd.isAgg148
  z212 := Tryd.sizeOf148
  v212 := Tryd.zeroValue148
  t213 := Tryd.underlying149
  a213 := Tryd.isAgg149
  z213 := Tryd.sizeOf149
  t232 := Tryd.underlying154
  a232 := Tryd.isAgg154
  z232 := Tryd.sizeOf154
  v232 := Tryd.zeroValue154
  t233 := Tryd.underlying155
  a233 := Tryd.isAgg155
  z233 := Tryd.sizeOf155
  v233 := Tryd.zeroValue155
  g17 := by kernel_rfl
  g18 := by kernel_rfl
  g19 := by kernel_rfl }
open Go.RowKit Go.Sort Go.Lib in
theorem Tryd.strconv_Itoa_small (i : Nat) (hi : i < 100) (w : World) :
    Calls Tryd.prog 30 #[.int .i64 i] w fun e w' => e = .returned (.string ⟨(Lib.decDigits i).toArray⟩) ∧ w' = w := Any.strconv_Itoa_small Tryd.lays171 i hi w
def Tryd.laysM176_ren : Go.Shelf.Ren := ⟨fun | 176 => 47 | 249 => 69 | 288 => 81 | 283 => 87 | 284 => 88 | 285 => 89 | 286 => 90 | 129 => 95 | 317 => 94 | 318 => 96 | 319 => 97 | 320 => 98 | 337 => 100 | 338 => 101 | n => n, fun | 37 => 66 | 2 => 2 | 3 => 3 | 53 => 124 | 4 => 4 | 9 => 9 | 171 => 137 | 0 => 0 | 173 => 140 | 212 => 148 | 51 => 53 | 5 => 5 | 20 => 20 | 213 => 149 | 46 => 90 | 232 => 154 | 233 => 155 | n => n, fun | 17 => 0 | 18 => 1 | 19 => 2 | n => n⟩
theorem Tryd.laysM176 : Go.Proofs.LaysM.n176 Tryd.prog Tryd.laysM176_ren := {
  mixed := by kernel_rfl
  f129 := Tryd.func95.trans (congrArg some (by kernel_rfl))
  f176 := Tryd.func47.trans (congrArg some (by kernel_rfl))
  f249 := Tryd.func69.trans (congrArg some (by kernel_rfl))
  f283 := Tryd.func87.trans (congrArg some (by kernel_rfl))
  f284 := Tryd.func88.trans (congrArg some (by kernel_rfl))
  f285 := Tryd.func89.trans (congrArg some (by kernel_rfl))
  f286 := Tryd.func90.trans (congrArg some (by kernel_rfl))
  f288 := Tryd.func81.trans (congrArg some (by kernel_rfl))
  f317 := Tryd.func94.trans (congrArg some (by kernel_rfl))
  f318 := Tryd.func96.trans (congrArg some (by kernel_rfl))
  f319 := Tryd.func97.trans (congrArg some (by kernel_rfl))
  f320 := Tryd.func98.trans (congrArg some (by kernel_rfl))
  f337 := Tryd.func100.trans (congrArg some (by kernel_rfl))
  f338 := Tryd.func101.trans (congrArg some (by kernel_rfl))
  t0 := Tryd.underlying0
  a0 := Tryd.isAgg0
  z0 := Tryd.sizeOf0
  v0 := Tryd.zeroValue0
  t2 := Tryd.underlying2
  a2 := Tryd.isAgg2
  z2 := Tryd.sizeOf2
  v2 := Tryd.zeroValue2
  t3 := Tryd.underlying3
  a3 := Tryd.isAgg3
  z3 := Tryd.sizeOf3
  v3 := Tryd.zeroValue3
  t4 := Tryd.underlying4
  a4 := Tryd.isAgg4
  z4 := Tryd.sizeOf4
  v4 := Tryd.zeroValue4
  t5 := Tryd.underlying5
  a5 := Tryd.isAgg5
  z5 := Tryd.sizeOf5
  v5 := Tryd.zeroValue5
  t9 := Tryd.underlying9
  a9 := Tryd.isAgg9
  z9 := Tryd.sizeOf9
  v9 := Tryd.zeroValue9
  t20 := Tryd.underlying20
  a20 := Tryd.isAgg20
  z20 := Tryd.sizeOf20
  v20 := Tryd.zeroValue20
  t37 := Tryd.underlying66
  a37 := Tryd.isAgg66
  z37 := Tryd.sizeOf66
  v37 := Tryd.zeroValue66
  t46 := Tryd.underlying90
  a46 := Tryd.isAgg90
  z46 := Tryd.sizeOf90
  v46 := Tryd.zeroValue90
  t51 := Tryd.underlying53
  a51 := Tryd.isAgg53
  z51 := Tryd.sizeOf53
  v51 := Tryd.zeroValue53
  t53 := Tryd.underlying124
  a53 := Tryd.isAgg124
  z53 := Tryd.sizeOf124
  v53 := Tryd.zeroValue124
  t171 := Tryd.underlying137
  a171 := Tryd.isAgg137
  z171 := Tryd.sizeOf137
  v171 := Tryd.zeroValue137
  t173 := Tryd.underlying140
  a173 := Tryd.isAgg140
  z173 := Tryd.sizeOf140
  v173 := Tryd.zeroValue140
  t212 := Tryd.underlying148
  a212 := Tryd.isAgg148
  z212 := Tryd.sizeOf148
  v212 := Tryd.zeroValue148
  t213 := Tryd.underlying149
  a213 := Tryd.isAgg149
  z213 := Tryd.sizeOf149
  t232 := Tryd.underlying154
  a232 := Tryd.isAgg154
  z232 := Tryd.sizeOf154
  v232 := Tryd.zeroValue154
  t233 := Tryd.underlying155
  a233 := Tryd.isAgg155
  z233 := Tryd.sizeOf155
  v233 := Tryd.zeroValue155
  g17 := by kernel_rfl
  g18 := by kernel_rfl
  g19 := by kernel_rfl
  i0 := by kernel_rfl
  i2 := by kernel_rfl
  i3 := by kernel_rfl
  i4 := by kernel_rfl
  i5 := by kernel_rfl
  i9 := by kernel_rfl
  i20 := by kernel_rfl
  i37 := by kernel_rfl
  i46 := by kernel_rfl
  i51 := by kernel_rfl
  i53 := by kernel_rfl
  i171 := by kernel_rfl
  i173 := by kernel_rfl
  i212 := by kernel_rfl
  i232 := by kernel_rfl
  i233 := by kernel_rfl
  m17 := by kernel_rfl
  m18 := by kernel_rfl
  m19 := by kernel_rfl }
open Go.RowKit Go.Sort Go.Lib in
theorem Tryd.strconv_AppendInt_10 (B n : Nat) (i : Int) (h0 : -9223372036854775808 ≤ i) (h1 : i ≤ 9223372036854775807) (sv : Value) (xs : List Value) (w : World) (hown : w.ownsRow B 5 1 sv n xs) (hBw : B ≤ w.heap.size) (hlim : n + 21 ≤ 140737488355328) (htab : Lib.TabBelow Tryd.prog B w "internal/strconv.uint64pow10" .u64 Lib.pow10Tab) :
    Calls Tryd.prog 47 #[sv, .int .i64 i, .int .i64 10] w fun e w' => ∃ v', e = .returned v' ∧ w'.ownsRow B 5 1 v' (n + (Lib.itoa i).length) (xs ++ Lib.byteCells (Lib.itoa i)) ∧ Below B w w' ∧ Lib.OthersKept 5 none w w' := Any.strconv_AppendInt_10 Tryd.laysM176 B n i h0 h1 sv xs w hown hBw hlim htab
end Go.Proofs
namespace Go.Proofs.YtdfobilagidmfaaDoor
open Go.RowKit Go.Shelf

def bldRen : Go.Shelf.Ren := ⟨fun | 166 => 27 | 240 => 58 | 276 => 78 | n => n, fun | 0 => 0 | 3 => 3 | 4 => 4 | 5 => 5 | 9 => 9 | 20 => 20 | 37 => 66 | 70 => 65 | 72 => 68 | 75 => 70 | 80 => 80 | 164 => 120 | n => n, fun | n => n⟩
theorem bldLays : Go.Proofs.Lays.n166 Tryd.prog bldRen := {
  mixed := by kernel_rfl
  f166 := Tryd.func27.trans (congrArg some (by kernel_rfl))
  f240 := Tryd.func58.trans (congrArg some (by kernel_rfl))
  f276 := Tryd.func78.trans (congrArg some (by kernel_rfl))
  t0 := Tryd.underlying0
  a0 := Tryd.isAgg0
  z0 := Tryd.sizeOf0
  v0 := Tryd.zeroValue0
  t3 := Tryd.underlying3
  a3 := Tryd.isAgg3
  z3 := Tryd.sizeOf3
  v3 := Tryd.zeroValue3
  t4 := Tryd.underlying4
  a4 := Tryd.isAgg4
  z4 := Tryd.sizeOf4
  v4 := Tryd.zeroValue4
  t9 := Tryd.underlying9
  a9 := Tryd.isAgg9
  z9 := Tryd.sizeOf9
  v9 := Tryd.zeroValue9
  t20 := Tryd.underlying20
  a20 := Tryd.isAgg20
  z20 := Tryd.sizeOf20
  v20 := Tryd.zeroValue20
  t37 := Tryd.underlying66
  a37 := Tryd.isAgg66
  z37 := Tryd.sizeOf66
  v37 := Tryd.zeroValue66
  t70 := Tryd.underlying65
  a70 := Tryd.isAgg65
  z70 := Tryd.sizeOf65
  v70 := Tryd.zeroValue65
  t72 := Tryd.underlying68
  a72 := Tryd.isAgg68
  z72 := Tryd.sizeOf68
  v72 := Tryd.zeroValue68
  t75 := Tryd.underlying70
  a75 := Tryd.isAgg70
  z75 := Tryd.sizeOf70
  v75 := Tryd.zeroValue70
  t164 := Tryd.underlying120
  a164 := Tryd.isAgg120
  z164 := Tryd.sizeOf120
  v164 := Tryd.zeroValue120 }
theorem bldExtra : Builder.Extra Tryd.prog bldRen := {
  sizeBuilder := by kernel_rfl
  liesBuilder := by kernel_rfl
  t5 := Tryd.underlying5
  a5 := Tryd.isAgg5
  z5 := Tryd.sizeOf5
  v5 := Tryd.zeroValue5
  infoByte := by kernel_rfl
  cellsByte := by kernel_rfl
  sizeByte := by kernel_rfl
  neB5 := by decide }
/-- A builder of the call's own, at block b: it holds the bytes l. -/
def Bd (B b : Nat) (l : List UInt8) (w : World) : Prop := Lib.IsBuilder 68 5 B b (Lib.byteCells l) w
theorem bd_write (B b : Nat) (l s : List UInt8) (w : World) (h : Bd B b l w) (hl : l.length + s.length ≤ 1000000) (hB : B ≤ w.heap.size) :
    Calls Tryd.prog 27 #[.pointer (some ⟨b, 0, none⟩), .string ⟨s.toArray⟩] w fun e w' => e = .returned (.tuple #[.int .i64 s.length, .nilIface]) ∧ Bd B b (l ++ s) w' ∧ Below B w w' := by
  refine (Any.Builder_WriteString bldLays bldExtra B b (Lib.byteCells l) ⟨s.toArray⟩ w h (by simp [Lib.byteCells, ByteArray.size]; omega) hB).mono ?_
  rintro e w' ⟨rfl, h1, h2⟩
  refine ⟨by simp [ByteArray.size], ?_, h2⟩
  have h3 : Lib.byteCells l ++ Lib.strCells ⟨s.toArray⟩ = Lib.byteCells (l ++ s) := by simp [Lib.byteCells, Lib.strCells]
  rw [h3] at h1
  exact .inr h1
theorem bd_string (B b : Nat) (l : List UInt8) (w : World) (h : Bd B b l w) (hB : B ≤ w.heap.size) : Calls Tryd.prog 32 #[.pointer (some ⟨b, 0, none⟩)] w fun e w' => e = .returned (.string ⟨l.toArray⟩) ∧ Below B w w' := Tryd.Builder_String_any B b l w h hB
open Go.RowKit

theorem idx6 (b0 b1 b2 b3 b4 b5 : UInt8) (k : Nat) (hk : k < 6) (W : World) : (Instr.index 28 (.agg #[.int .u8 (b0.toNat : Int), .int .u8 (b1.toNat : Int), .int .u8 (b2.toNat : Int), .int .u8 (b3.toNat : Int), .int .u8 (b4.toNat : Int), .int .u8 (b5.toNat : Int)]) (.int .i64 (k : Int))).run Tryd.prog W = .ok (.int .u8 (([b0, b1, b2, b3, b4, b5].getD k 0).toNat : Int)) W := by
  rcases (by omega : k = 0 ∨ k = 1 ∨ k = 2 ∨ k = 3 ∨ k = 4 ∨ k = 5) with rfl | rfl | rfl | rfl | rfl | rfl <;>
    simp [Instr.index, run_underlying Tryd.underlying28, asIntOf, go_sem]
theorem ret_s {a b : List UInt8} (h : a = b) : Ending.returned (.string ⟨a.toArray⟩) = .returned (.string ⟨b.toArray⟩) := by rw [h]
abbrev hexBs : ByteArray := ⟨#[48, 49, 50, 51, 52, 53, 54, 55, 56, 57, 97, 98, 99, 100, 101, 102]⟩
theorem hexBs_get : ∀ n : Fin 16, hexBs[n.val]'(by have := n.isLt; show n.val < 16; omega) = hexDig n.val := by decide +kernel
theorem idx_hex (n : Nat) (h : n < 16) (W : World) : (Instr.index 9 (.string hexBs) (.int .u8 (n : Int))).run Tryd.prog W = .ok (.int .u8 ((hexDig n).toNat : Int)) W := by
  have hs : hexBs.size = 16 := rfl
  rw [run_index_string (h := Tryd.underlying9), dif_pos (by rw [hs]; omega)]
  have e : hexBs[((n : Int)).toNat]'(by rw [hs]; omega) = hexDig n := hexBs_get ⟨n, h⟩
  rw [e]
theorem Tryd.info_u8 : (Tryd.prog.info? 5).map (fun i => (i.zero, i.size, i.bytes)) = some (some (.int .u8 0), 1, 1) := by kernel_rfl
theorem made_two (x y : UInt8) (w : World) : Sl (w.alloc (.cells #[.int .u8 (x.toNat : Int), .int .u8 (y.toNat : Int)] 5)) (some ⟨w.heap.size, 0, none⟩) 2 2 [x, y] := Sl.made w 5 [x, y] (by simp [maxLen])
theorem made_one (x : UInt8) (w : World) : Sl (w.alloc (.cells #[.int .u8 (x.toNat : Int)] 5)) (some ⟨w.heap.size, 0, none⟩) 1 1 [x] := Sl.made w 5 [x] (by simp [maxLen])

set_option maxRecDepth 100000 in
set_option maxHeartbeats 4000000 in
theorem amactext_any (b0 b1 b2 b3 b4 b5 : UInt8) (w : World) :
    Calls Tryd.prog 29 #[.agg #[.int .u8 (b0.toNat : Int), .int .u8 (b1.toNat : Int), .int .u8 (b2.toNat : Int), .int .u8 (b3.toNat : Int), .int .u8 (b4.toNat : Int), .int .u8 (b5.toNat : Int)]] w fun e w' => e = .returned (.string ⟨(macT [b0, b1, b2, b3, b4, b5] 6).toArray⟩) ∧ Below w.heap.size w w' := by
  obtain ⟨ii, hii, hz0, hz1, hz2⟩ := info_parts Tryd.info_u8
  have bel0 := (Below.refl w.heap.size w).alloc (Nat.le_refl _) (.cells #[.int .u8 (b0.toNat : Int), .int .u8 (b1.toNat : Int), .int .u8 (b2.toNat : Int), .int .u8 (b3.toNat : Int), .int .u8 (b4.toNat : Int), .int .u8 (b5.toNat : Int)] 28)
  have IX := Lib.hid fun k hk W => idx6 b0 b1 b2 b3 b4 b5 k hk W
  obtain ⟨l, hl⟩ : ∃ l, Hid ([b0, b1, b2, b3, b4, b5] = l) := ⟨_, Lib.hid rfl⟩
  rw [hl.out] at IX ⊢
  go_enter Tryd.func29, Tryd.ntmps29
  go_wp2
  go_loopw [3, 7] (fun v i wr => ∃ (k : Nat) (j : Int) (v0 : Value), v0 = v ∧ k ≤ 6 ∧ i = .int .i64 j ∧ j = (k : Int) ∧ wr.ownsRow w.heap.size 5 1 v (macT l k).length ((macT l k).map u8v) ∧ Below w.heap.size w wr) (fun _ i _ => 6 - (intOf i).toNat)
  case atStart => exact ⟨0, 0, _, rfl, by omega, rfl, rfl, World.ownsRow_nil _ _ _ _, bel0⟩
  case round =>
    obtain ⟨k, j, v, rfl, hk, rfl, hj, hown, bel⟩ := hrel
    have HJ := Lib.hid hj
    by_cases hlt : k < 6
    · have ix := IX.out k hlt
      rw [← hj] at ix
      have j6 : j < 6 := by omega
      have j0 : 0 ≤ j := by omega
      have hln := macT_len l k
      obtain ⟨x, hx⟩ : ∃ x, Hid (l.getD k 0 = x) := ⟨_, Lib.hid rfl⟩
      rw [hx.out] at ix
      have hm1 : Hid (macT l (k + 1) = macT l k ++ (if k > 0 then [58] else []) ++ [hexDig (x.toNat / 16), hexDig (x.toNat % 16)]) := Lib.hid (by rw [← hx.out]; rw [macT, List.append_assoc _ [_] [_]]; rfl)
      have hxl := x.toNat_lt
      have x1 := fun W => idx_hex (x.toNat / 16) (by omega) W
      have x2 := fun W => idx_hex (x.toNat % 16) (by omega) W
      have h15 := u8_and15 x
      have c0 : (0 : Int) ≤ x.toNat := by omega
      have c1 : (x.toNat : Int) < 256 := by omega
      have e16 : ((x.toNat / 16 : Nat) : Int) = (x.toNat : Int) / 16 := by omega
      have e15 : ((x.toNat % 16 : Nat) : Int) = (x.toNat : Int) % 16 := by omega
      rw [e16] at x1
      rw [e15] at x2 h15
      generalize macT l k = L at *
      obtain ⟨d1, hd1⟩ : ∃ d, Hid (hexDig (x.toNat / 16) = d) := ⟨_, Lib.hid rfl⟩
      obtain ⟨d2, hd2⟩ : ∃ d, Hid (hexDig (x.toNat % 16) = d) := ⟨_, Lib.hid rfl⟩
      rw [hd1.out] at x1 hm1
      rw [hd2.out] at x2 hm1
      by_cases hp : k = 0
      · subst hp
        obtain rfl : j = 0 := by omega
        clear hj j6 j0
        have hm2 : Hid (macT l 1 = L ++ [d1, d2]) := Lib.hid (by have := hm1.out; simpa using this)
        clear hm1 e16 e15
        go_wp2_with fail
        refine wp_region_held_drew (S := fun _ => True) (by kernel_rfl) trivial (fun hH => ?_)
        refine wpAnyH_take (i := 0) (v := ?_) rfl (by kernel_rfl) (by kernel_rfl) (by kernel_rfl) (fun _ _ _ h => h) (Or.inl ⟨by rfl, ?_⟩) hH ?_
        rotate_left
        · ((intro w hw; clear hw; go_simp) <;> with_reducible rfl)
        simp only [Act.put, List.getElem_toArray, List.getElem_cons_zero, List.setIfInBounds_toArray, List.set_cons_zero, List.set_cons_succ]
        refine wpAnyH_take (i := 1) (v := ?_) rfl (by kernel_rfl) (by kernel_rfl) (by kernel_rfl) (fun _ _ _ h => h) (Or.inl ⟨by rfl, ?_⟩) hH ?_
        rotate_left
        · ((intro w hw; clear hw; go_simp) <;> with_reducible rfl)
        simp only [Act.put, List.getElem_toArray, List.getElem_cons_zero, List.getElem_cons_succ, List.setIfInBounds_toArray, List.set_cons_zero, List.set_cons_succ]
        refine wpAnyH_take (i := 2) (v := ?_) rfl (by kernel_rfl) (by kernel_rfl) (by kernel_rfl) (fun _ _ _ h => h) (Or.inl ⟨by rfl, ?_⟩) hH ?_
        rotate_left
        · ((intro w hw; clear hw; go_simp) <;> with_reducible rfl)
        simp only [Act.put, List.getElem_toArray, List.getElem_cons_zero, List.getElem_cons_succ, List.setIfInBounds_toArray, List.set_cons_zero, List.set_cons_succ]
        refine wpAnyH_take (i := 3) (v := ?_) rfl (by kernel_rfl) (by kernel_rfl) (by kernel_rfl) (fun _ _ _ h => h) (Or.inl ⟨by rfl, ?_⟩) hH ?_
        rotate_left
        · ((intro w hw; clear hw; go_simp) <;> with_reducible rfl)
        simp only [Act.put, List.getElem_toArray, List.getElem_cons_zero, List.getElem_cons_succ, List.setIfInBounds_toArray, List.set_cons_zero, List.set_cons_succ]
        refine wpAnyH_take (i := 4) (v := ?_) rfl (by kernel_rfl) (by kernel_rfl) (by kernel_rfl) (fun _ _ _ h => h) (Or.inl ⟨by rfl, ?_⟩) hH ?_
        rotate_left
        · ((intro w hw; clear hw; go_simp) <;> with_reducible rfl)
        simp only [Act.put, List.getElem_toArray, List.getElem_cons_zero, List.getElem_cons_succ, List.setIfInBounds_toArray, List.set_cons_zero, List.set_cons_succ]
        refine wpAnyH_take (i := 5) (v := ?_) rfl (by kernel_rfl) (by kernel_rfl) (by kernel_rfl) (fun _ _ _ h => h) (Or.inl ⟨by rfl, ?_⟩) hH ?_
        rotate_left
        · ((intro w hw; clear hw; go_simp) <;> with_reducible rfl)
        simp only [Act.put, List.getElem_toArray, List.getElem_cons_zero, List.getElem_cons_succ, List.setIfInBounds_toArray, List.set_cons_zero, List.set_cons_succ]
        refine wpAnyH_take (i := 6) (v := ?_) rfl (by kernel_rfl) (by kernel_rfl) (by kernel_rfl) (fun _ _ _ h => h) (Or.inl ⟨by rfl, ?_⟩) hH ?_
        rotate_left
        · ((intro w hw; clear hw; go_simp) <;> with_reducible rfl)
        simp only [Act.put, List.getElem_toArray, List.getElem_cons_zero, List.getElem_cons_succ, List.setIfInBounds_toArray, List.set_cons_zero, List.set_cons_succ]
        refine wpAnyH_ready (rs := [7]) (by kernel_rfl) (by simp) ?_
        refine AllReadyH.cons (o := _) rfl (fun K hK => ?_) AllReadyH.nil
        simp only [List.getElem_toArray, List.getElem_cons_zero, List.getElem_cons_succ]
        go_simp
        have m2 := (made_two d1 d2 wr)
        have hown2 := hown.alloc (.cells #[.int .u8 (d1.toNat : Int), .int .u8 (d2.toNat : Int)] 5)
        have bel2 := bel.alloc bel.size (.cells #[.int .u8 (d1.toNat : Int), .int .u8 (d2.toNat : Int)] 5)
        refine hK.out _ _ trivial (fun _ => ?_)
        clear hK K
        refine wpAnyH_ready (rs := [8]) (by kernel_rfl) (by simp) ?_
        refine AllReadyH.cons (o := _) rfl (fun K hK => ?_) AllReadyH.nil
        simp only [List.getElem_toArray, List.getElem_cons_zero, List.getElem_cons_succ]
        rw [if_pos (by rfl)]
        refine wp_append_bytes (.tmp 16) (.tmp 23) 66 rfl w.heap.size 5 ii (.int .u8 0) Tryd.underlying66 hii hz0 hz1 hz2 rfl v _ (L) rfl hown2.drew (some ⟨wr.heap.size, 0, none⟩) 2 2 [d1, d2] rfl (m2.keep fun _ _ _ h => h) ?_ ?_ ?_
        · omega
        · have := bel2.size; simpa using this
        intro v3 w3 hown3 hg3 hat3
        obtain ⟨bel3, _, _⟩ := own_grown bel2.drew (by have := bel2.size; simpa using this) (fun k h => (hown2.lt k h).1) hg3 (by simpa using hat3)
        refine hK.out _ _ trivial (fun _ => ?_)
        clear hK K hg3 hat3 hown2 m2
        refine wpAnyH_take (i := 9) (v := ?_) rfl (by kernel_rfl) (by kernel_rfl) (by kernel_rfl) (fun _ _ _ h => h) (Or.inl ⟨by rfl, ?_⟩) hH ?_
        rotate_left
        · ((intro w hw; clear hw; go_simp) <;> with_reducible rfl)
        simp only [Act.put, List.getElem_toArray, List.getElem_cons_zero, List.getElem_cons_succ, List.setIfInBounds_toArray, List.set_cons_zero, List.set_cons_succ]
        refine wpAnyH_done (by kernel_rfl) ?_ _
        go_wp2
        go_roundw
        case rel => exact ⟨1, _, _, rfl, by omega, rfl, by have := HJ.out; omega, by rw [hm2.out]; simpa using hown3, bel3⟩
        case measure => simp [intOf]
      · have z1 : (0 : Int) < j := by omega
        clear hj
        have hm2 : Hid (macT l (k + 1) = (L ++ [58]) ++ [d1, d2]) := Lib.hid (by have := hm1.out; rw [if_pos (by omega)] at this; exact this)
        clear hm1 e16 e15
        have m1 := made_one 58 wr
        go_wp2_with (at_builtin; refine wpList_append_bytes _ rfl (.tmp 13) (.tmp 14) 66 rfl w.heap.size 5 ii (.int .u8 0) Tryd.underlying66 hii hz0 hz1 hz2 rfl _ _ L rfl (hown.alloc _) _ 1 1 [58] rfl m1 (by omega) (by have := bel.size; simp; omega) ?_)
        intro v' w1 hown1 hg1 hat1
        replace hown1 : w1.ownsRow w.heap.size 5 1 v' (L.length + 1) ((L ++ [58]).map u8v) := by rw [List.map_append]; exact hown1
        obtain ⟨bel1, _, _⟩ := own_grown (bel.alloc bel.size _) (by have := bel.size; simp; omega) (fun k h => (hown.lt k h).1) hg1 (by simpa using hat1)
        clear hown hg1 hat1 bel m1
        go_wp2_with fail
        refine wp_region_held_drew (S := fun _ => True) (by kernel_rfl) trivial (fun hH => ?_)
        refine wpAnyH_take (i := 0) (v := ?_) rfl (by kernel_rfl) (by kernel_rfl) (by kernel_rfl) (fun _ _ _ h => h) (Or.inl ⟨by rfl, ?_⟩) hH ?_
        rotate_left
        · ((intro w hw; clear hw; go_simp) <;> with_reducible rfl)
        simp only [Act.put, List.getElem_toArray, List.getElem_cons_zero, List.setIfInBounds_toArray, List.set_cons_zero, List.set_cons_succ]
        refine wpAnyH_take (i := 1) (v := ?_) rfl (by kernel_rfl) (by kernel_rfl) (by kernel_rfl) (fun _ _ _ h => h) (Or.inl ⟨by rfl, ?_⟩) hH ?_
        rotate_left
        · ((intro w hw; clear hw; go_simp) <;> with_reducible rfl)
        simp only [Act.put, List.getElem_toArray, List.getElem_cons_zero, List.getElem_cons_succ, List.setIfInBounds_toArray, List.set_cons_zero, List.set_cons_succ]
        refine wpAnyH_take (i := 2) (v := ?_) rfl (by kernel_rfl) (by kernel_rfl) (by kernel_rfl) (fun _ _ _ h => h) (Or.inl ⟨by rfl, ?_⟩) hH ?_
        rotate_left
        · ((intro w hw; clear hw; go_simp) <;> with_reducible rfl)
        simp only [Act.put, List.getElem_toArray, List.getElem_cons_zero, List.getElem_cons_succ, List.setIfInBounds_toArray, List.set_cons_zero, List.set_cons_succ]
        refine wpAnyH_take (i := 3) (v := ?_) rfl (by kernel_rfl) (by kernel_rfl) (by kernel_rfl) (fun _ _ _ h => h) (Or.inl ⟨by rfl, ?_⟩) hH ?_
        rotate_left
        · ((intro w hw; clear hw; go_simp) <;> with_reducible rfl)
        simp only [Act.put, List.getElem_toArray, List.getElem_cons_zero, List.getElem_cons_succ, List.setIfInBounds_toArray, List.set_cons_zero, List.set_cons_succ]
        refine wpAnyH_take (i := 4) (v := ?_) rfl (by kernel_rfl) (by kernel_rfl) (by kernel_rfl) (fun _ _ _ h => h) (Or.inl ⟨by rfl, ?_⟩) hH ?_
        rotate_left
        · ((intro w hw; clear hw; go_simp) <;> with_reducible rfl)
        simp only [Act.put, List.getElem_toArray, List.getElem_cons_zero, List.getElem_cons_succ, List.setIfInBounds_toArray, List.set_cons_zero, List.set_cons_succ]
        refine wpAnyH_take (i := 5) (v := ?_) rfl (by kernel_rfl) (by kernel_rfl) (by kernel_rfl) (fun _ _ _ h => h) (Or.inl ⟨by rfl, ?_⟩) hH ?_
        rotate_left
        · ((intro w hw; clear hw; go_simp) <;> with_reducible rfl)
        simp only [Act.put, List.getElem_toArray, List.getElem_cons_zero, List.getElem_cons_succ, List.setIfInBounds_toArray, List.set_cons_zero, List.set_cons_succ]
        refine wpAnyH_take (i := 6) (v := ?_) rfl (by kernel_rfl) (by kernel_rfl) (by kernel_rfl) (fun _ _ _ h => h) (Or.inl ⟨by rfl, ?_⟩) hH ?_
        rotate_left
        · ((intro w hw; clear hw; go_simp) <;> with_reducible rfl)
        simp only [Act.put, List.getElem_toArray, List.getElem_cons_zero, List.getElem_cons_succ, List.setIfInBounds_toArray, List.set_cons_zero, List.set_cons_succ]
        refine wpAnyH_ready (rs := [7]) (by kernel_rfl) (by simp) ?_
        refine AllReadyH.cons (o := _) rfl (fun K hK => ?_) AllReadyH.nil
        simp only [List.getElem_toArray, List.getElem_cons_zero, List.getElem_cons_succ]
        go_simp
        have m2 := (made_two d1 d2 w1)
        have hown2 := hown1.alloc (.cells #[.int .u8 (d1.toNat : Int), .int .u8 (d2.toNat : Int)] 5)
        have bel2 := bel1.alloc bel1.size (.cells #[.int .u8 (d1.toNat : Int), .int .u8 (d2.toNat : Int)] 5)
        refine hK.out _ _ trivial (fun _ => ?_)
        clear hK K
        refine wpAnyH_ready (rs := [8]) (by kernel_rfl) (by simp) ?_
        refine AllReadyH.cons (o := _) rfl (fun K hK => ?_) AllReadyH.nil
        simp only [List.getElem_toArray, List.getElem_cons_zero, List.getElem_cons_succ]
        rw [if_pos (by rfl)]
        refine wp_append_bytes (.tmp 16) (.tmp 23) 66 rfl w.heap.size 5 ii (.int .u8 0) Tryd.underlying66 hii hz0 hz1 hz2 rfl v' _ (L ++ [58]) rfl hown2.drew (some ⟨w1.heap.size, 0, none⟩) 2 2 [d1, d2] rfl (m2.keep fun _ _ _ h => h) ?_ ?_ ?_
        · omega
        · have := bel2.size; simpa using this
        intro v3 w3 hown3 hg3 hat3
        obtain ⟨bel3, _, _⟩ := own_grown bel2.drew (by have := bel2.size; simpa using this) (fun k h => (hown2.lt k h).1) hg3 (by simpa using hat3)
        refine hK.out _ _ trivial (fun _ => ?_)
        clear hK K hg3 hat3 hown2 m2
        refine wpAnyH_take (i := 9) (v := ?_) rfl (by kernel_rfl) (by kernel_rfl) (by kernel_rfl) (fun _ _ _ h => h) (Or.inl ⟨by rfl, ?_⟩) hH ?_
        rotate_left
        · ((intro w hw; clear hw; go_simp) <;> with_reducible rfl)
        simp only [Act.put, List.getElem_toArray, List.getElem_cons_zero, List.getElem_cons_succ, List.setIfInBounds_toArray, List.set_cons_zero, List.set_cons_succ]
        refine wpAnyH_done (by kernel_rfl) ?_ _
        go_wp2
        go_roundw
        case rel => exact ⟨k + 1, _, _, rfl, by omega, rfl, by have := HJ.out; omega, by rw [hm2.out]; simpa using hown3, bel3⟩
        case measure => simp [intOf]; omega
    · obtain rfl : k = 6 := by omega
      obtain rfl : j = 6 := hj
      have hln := macT_len l 6
      obtain ⟨A, c, rfl, hsl⟩ := Sl.of_own hown
      have st := hsl.str (P := Tryd.prog) 66 5 9 Tryd.underlying66 Tryd.underlying5 Tryd.underlying9
      clear hown hsl hln
      go_wp2
      go_ret
      exact ⟨rfl, bel⟩
open Go.RowKit

theorem dec_eq : ∀ n : Nat, Lib.decDigits n = decT n := by
  intro n
  induction n using Nat.strongRecOn with
  | _ n ih =>
    rw [Lib.decDigits]
    by_cases h : n < 10
    · rw [dif_pos h, decT_small h]; rfl
    · rw [dif_neg h, decT_more h, ih (n / 10) (by omega)]; rfl
theorem itoa_nat (n : Nat) : Lib.itoa (n : Int) = decT n := by
  unfold Lib.itoa
  rw [if_neg (by omega), Int.toNat_natCast, dec_eq]
/-- The text of the first k numbers of an address. -/
def adK (l : List UInt8) : Nat → List UInt8
  | 0 => []
  | k + 1 => adK l k ++ (if 0 < k then [46] else []) ++ decT (l.getD k 0).toNat
theorem adK_len (l : List UInt8) : ∀ k, (adK l k).length ≤ 4 * k
  | 0 => by simp [adK]
  | k + 1 => by
    have := adK_len l k
    have := byte_len (l.getD k 0)
    rw [adK]
    split <;> simp only [List.length_append, List.length_singleton, List.length_nil] <;> omega
theorem adK_four (a b c d : UInt8) : adK [a, b, c, d] 4 = adT a b c d := by simp [adK, adT]
theorem idx4k (a b c d : UInt8) (k : Nat) (hk : k < 4) (W : World) : (Instr.index 24 (.agg #[.int .u8 (a.toNat : Int), .int .u8 (b.toNat : Int), .int .u8 (c.toNat : Int), .int .u8 (d.toNat : Int)]) (.int .i64 (k : Int))).run Tryd.prog W = .ok (.int .u8 (([a, b, c, d].getD k 0).toNat : Int)) W := by
  have h := idx4 (.int .u8 (a.toNat : Int)) (.int .u8 (b.toNat : Int)) (.int .u8 (c.toNat : Int)) (.int .u8 (d.toNat : Int)) W
  rcases (by omega : k = 0 ∨ k = 1 ∨ k = 2 ∨ k = 3) with rfl | rfl | rfl | rfl
  · exact h.1
  · exact h.2.1
  · exact h.2.2.1
  · exact h.2.2.2
/-- The library's table of powers of ten lies as it is laid. -/
def Tab (w : World) : Prop := Lib.TabIs Tryd.prog w (Rows.confNetsRow.laid.getD 2 ("", .nil)).1 .u64 Lib.pow10Tab
theorem Tab.below {w w' : World} (h : Tab w) (hb : Below w.heap.size w w') : Tab w' := (Lib.tabBelow_of_tabIs h) w' hb
theorem append_dec (B n : Nat) (i : Nat) (hi : i < 256) (sv : Value) (L : List UInt8) (w0 w : World) (hT : Tab w0) (hB : B = w0.heap.size) (bel : Below B w0 w) (hown : w.ownsRow B 5 1 sv n (L.map u8v)) (hlim : n ≤ 1000) :
    Calls Tryd.prog 47 #[sv, .int .i64 (i : Int), .int .i64 10] w fun e w' => ∃ v', e = .returned v' ∧ w'.ownsRow B 5 1 v' (n + (decT i).length) ((L ++ decT i).map u8v) ∧ Below B w w' := by
  subst hB
  have hT' : Lib.TabBelow Tryd.prog w0.heap.size w0 (Rows.confNetsRow.laid.getD 2 ("", .nil)).1 .u64 Lib.pow10Tab := Lib.tabBelow_of_tabIs hT
  refine (Tryd.strconv_AppendInt_10 w0.heap.size n (i : Int) (by omega) (by omega) sv (L.map u8v) w hown bel.size (by omega) (hT'.on bel)).mono ?_
  rintro e w' ⟨v', rfl, h1, h2, _⟩
  refine ⟨v', rfl, ?_, h2⟩
  rw [itoa_nat] at h1
  rw [List.map_append]
  exact h1

set_option maxRecDepth 100000 in
set_option maxHeartbeats 4000000 in
theorem atext_any (a b c d : UInt8) (w : World) (hT : Tab w) :
    Calls Tryd.prog 15 #[.agg #[.int .u8 (a.toNat : Int), .int .u8 (b.toNat : Int), .int .u8 (c.toNat : Int), .int .u8 (d.toNat : Int)]] w fun e w' => e = .returned (.string ⟨(adT a b c d).toArray⟩) ∧ Below w.heap.size w w' := by
  obtain ⟨ii, hii, hz0, hz1, hz2⟩ := info_parts Tryd.info_u8
  have bel0 := (Below.refl w.heap.size w).alloc (Nat.le_refl _) (.cells #[.int .u8 (a.toNat : Int), .int .u8 (b.toNat : Int), .int .u8 (c.toNat : Int), .int .u8 (d.toNat : Int)] 24)
  have IX := Lib.hid fun k hk W => idx4k a b c d k hk W
  have HE := Lib.hid (adK_four a b c d)
  obtain ⟨l, hl⟩ : ∃ l, Hid ([a, b, c, d] = l) := ⟨_, Lib.hid rfl⟩
  rw [hl.out] at IX HE
  have HT := Lib.hid hT
  clear hT
  go_enter Tryd.func15, Tryd.ntmps15
  go_wp2
  go_loopw [3, 7] (fun v i wr => ∃ (k : Nat) (j : Int) (v0 : Value), v0 = v ∧ k ≤ 4 ∧ i = .int .i64 j ∧ j = (k : Int) ∧ wr.ownsRow w.heap.size 5 1 v (adK l k).length ((adK l k).map u8v) ∧ Below w.heap.size w wr) (fun _ i _ => 4 - (intOf i).toNat)
  case atStart => exact ⟨0, 0, _, rfl, by omega, rfl, rfl, World.ownsRow_nil _ _ _ _, bel0⟩
  case round =>
    obtain ⟨k, j, v, rfl, hk, rfl, hj, hown, bel⟩ := hrel
    have HJ := Lib.hid hj
    by_cases hlt : k < 4
    · have ix := IX.out k hlt
      rw [← hj] at ix
      have j6 : j < 4 := by omega
      have j0 : 0 ≤ j := by omega
      have hln := adK_len l k
      obtain ⟨x, hx⟩ : ∃ x, Hid (l.getD k 0 = x) := ⟨_, Lib.hid rfl⟩
      rw [hx.out] at ix
      have hm1 : Hid (adK l (k + 1) = adK l k ++ (if 0 < k then [46] else []) ++ decT x.toNat) := Lib.hid (by rw [← hx.out]; rfl)
      have hxl := x.toNat_lt
      have c0 : (0 : Int) ≤ x.toNat := by omega
      have c1 : (x.toNat : Int) < 256 := by omega
      generalize adK l k = L at *
      by_cases hp : k = 0
      · subst hp
        obtain rfl : j = 0 := by omega
        clear hj j6 j0
        have hm2 : Hid (adK l 1 = L ++ decT x.toNat) := Lib.hid (by have := hm1.out; simpa using this)
        have hap := append_dec w.heap.size _ x.toNat hxl v L w wr HT.out rfl bel hown (by omega)
        have HAP := Lib.hid hap
        clear hm1 hap
        go_wp2_with fail
        with_reducible refine (HAP.out).mono ?_
        rintro e w3 ⟨v3, rfl, hown3, bel3⟩
        have bel4 := bel.trans bel3
        clear hown bel bel3
        go_wp2
        go_roundw
        case rel => exact ⟨1, _, _, rfl, by omega, rfl, by have := HJ.out; omega, by rw [hm2.out, List.length_append]; exact hown3, bel4⟩
        case measure => simp [intOf]
      · have z1 : (0 : Int) < j := by omega
        clear hj
        have hm2 : Hid (adK l (k + 1) = (L ++ [46]) ++ decT x.toNat) := Lib.hid (by have := hm1.out; rw [if_pos (by omega)] at this; exact this)
        clear hm1
        have m1 := made_one 46 wr
        go_wp2_with (at_builtin; refine wpList_append_bytes _ rfl (.tmp 13) (.tmp 14) 66 rfl w.heap.size 5 ii (.int .u8 0) Tryd.underlying66 hii hz0 hz1 hz2 rfl _ _ L rfl (hown.alloc _) _ 1 1 [46] rfl m1 (by omega) (by have := bel.size; simp; omega) ?_)
        intro v' w1 hown1 hg1 hat1
        replace hown1 : w1.ownsRow w.heap.size 5 1 v' (L.length + 1) ((L ++ [46]).map u8v) := by rw [List.map_append]; exact hown1
        obtain ⟨bel1, _, _⟩ := own_grown (bel.alloc bel.size _) (by have := bel.size; simp; omega) (fun k h => (hown.lt k h).1) hg1 (by simpa using hat1)
        have hap := append_dec w.heap.size _ x.toNat hxl v' (L ++ [46]) w w1 HT.out rfl bel1 hown1 (by omega)
        have HAP := Lib.hid hap
        clear hown hg1 hat1 bel m1 hap
        go_wp2_with fail
        with_reducible refine (HAP.out).mono ?_
        rintro e w3 ⟨v3, rfl, hown3, bel3⟩
        have bel4 := bel1.trans bel3
        clear hown1 bel1 bel3
        go_wp2
        go_roundw
        case rel => exact ⟨k + 1, _, _, rfl, by omega, rfl, by have := HJ.out; omega, by rw [hm2.out, List.length_append, List.length_append]; exact hown3, bel4⟩
        case measure => simp [intOf]; omega
    · obtain rfl : k = 4 := by omega
      obtain rfl : j = 4 := hj
      rw [HE.out] at hown
      obtain ⟨A, cc, rfl, hsl⟩ := Sl.of_own hown
      have st := hsl.str (P := Tryd.prog) 66 5 9 Tryd.underlying66 Tryd.underlying5 Tryd.underlying9
      clear hown hsl
      go_wp2
      go_ret
      exact ⟨rfl, bel⟩

theorem adT_len' (a b c d : UInt8) : (adT a b c d).length ≤ 15 := by
  have := byte_len a; have := byte_len b; have := byte_len c; have := byte_len d
  unfold adT
  simp only [List.length_append, List.length_singleton]
  omega
set_option maxRecDepth 100000 in
set_option maxHeartbeats 4000000 in
theorem anettext_any (a b c d : UInt8) (n : Nat) (hn : n < 100) (w : World) (hT : Tab w) :
    Calls Tryd.prog 28 #[.agg #[.int .u8 (a.toNat : Int), .int .u8 (b.toNat : Int), .int .u8 (c.toNat : Int), .int .u8 (d.toNat : Int), .int .i64 (n : Int)]] w fun e w' => e = .returned (.string ⟨(adT a b c d ++ [47] ++ decT n).toArray⟩) ∧ Below w.heap.size w w' := by
  have HT := Lib.hid hT
  have HTX := Lib.hid fun W h => atext_any a b c d W h
  have HIT' := fun W => Tryd.strconv_Itoa_small n hn W
  rw [dec_eq] at HIT'
  have HIT : Hid (∀ W, Calls Tryd.prog 30 #[.int .i64 (n : Int)] W fun e w' => e = .returned (.string ⟨(decT n).toArray⟩) ∧ W = w') := Lib.hid fun W => (HIT' W).mono fun e w' h => ⟨h.1, h.2.symm⟩
  have l1 := adT_len' a b c d
  have l2 := decT_len 1 n (by omega)
  have A1 := add_run (adT a b c d) [47] (by omega) (by simp)
  have A2 := add_run (adT a b c d ++ [47]) (decT n) (by rw [List.length_append, List.length_singleton]; omega) (by omega)
  have hb0 := heap_alloc_new w (.cells #[.int .u8 (a.toNat : Int), .int .u8 (b.toNat : Int), .int .u8 (c.toNat : Int), .int .u8 (d.toNat : Int), .int .i64 (n : Int)] 26)
  have bel : Below w.heap.size w (w.alloc (.cells #[.int .u8 (a.toNat : Int), .int .u8 (b.toNat : Int), .int .u8 (c.toNat : Int), .int .u8 (d.toNat : Int), .int .i64 (n : Int)] 26)) := (Below.refl _ w).alloc (Nat.le_refl _) _
  have hz0 : w.heap.size < (w.alloc (.cells #[.int .u8 (a.toNat : Int), .int .u8 (b.toNat : Int), .int .u8 (c.toNat : Int), .int .u8 (d.toNat : Int), .int .i64 (n : Int)] 26)).heap.size := by simp
  obtain ⟨⟨s0, s1, s2, s3, s4⟩, _⟩ := cells5 hb0
  clear hb0 l1 l2 HIT' hT
  go_enter Tryd.func28, Tryd.ntmps28
  go_wp2_with fail
  generalize w.alloc (.cells #[.int .u8 (a.toNat : Int), .int .u8 (b.toNat : Int), .int .u8 (c.toNat : Int), .int .u8 (d.toNat : Int), .int .i64 (n : Int)] 26) = w2 at s0 s1 s2 s3 s4 bel hz0 ⊢
  refine wp_region_held_drew (S := fun W => W.cell? ⟨w.heap.size, 0, none⟩ = some (.int .u8 (a.toNat : Int)) ∧ W.cell? ⟨w.heap.size, 1, none⟩ = some (.int .u8 (b.toNat : Int)) ∧ W.cell? ⟨w.heap.size, 2, none⟩ = some (.int .u8 (c.toNat : Int)) ∧ W.cell? ⟨w.heap.size, 3, none⟩ = some (.int .u8 (d.toNat : Int)) ∧ W.cell? ⟨w.heap.size, 4, none⟩ = some (.int .i64 (n : Int))) (by kernel_rfl) ⟨s0, s1, s2, s3, s4⟩ (fun hH => ?_)
  refine wpAnyH_take (i := 0) (v := ?_) rfl (by kernel_rfl) (by kernel_rfl) (by kernel_rfl) (fun _ _ _ h => h) (Or.inl ⟨by rfl, ?_⟩) hH ?_
  rotate_left
  · ((intro W hW; obtain ⟨s0, s1, s2, s3, s4⟩ := hW; go_simp) <;> with_reducible rfl)
  simp only [Act.put, List.getElem_toArray, List.getElem_cons_zero, List.setIfInBounds_toArray, List.set_cons_zero, List.set_cons_succ]
  refine wpAnyH_take (i := 1) (v := ?_) rfl (by kernel_rfl) (by kernel_rfl) (by kernel_rfl) (fun _ _ _ h => h) (Or.inl ⟨by rfl, ?_⟩) hH ?_
  rotate_left
  · ((intro W hW; obtain ⟨s0, s1, s2, s3, s4⟩ := hW; go_simp) <;> with_reducible rfl)
  simp only [Act.put, List.getElem_toArray, List.getElem_cons_zero, List.getElem_cons_succ, List.setIfInBounds_toArray, List.set_cons_zero, List.set_cons_succ]
  refine wpAnyH_take (i := 4) (v := ?_) rfl (by kernel_rfl) (by kernel_rfl) (by kernel_rfl) (fun _ _ _ h => h) (Or.inl ⟨by rfl, ?_⟩) hH ?_
  rotate_left
  · ((intro W hW; obtain ⟨s0, s1, s2, s3, s4⟩ := hW; go_simp) <;> with_reducible rfl)
  simp only [Act.put, List.getElem_toArray, List.getElem_cons_zero, List.getElem_cons_succ, List.setIfInBounds_toArray, List.set_cons_zero, List.set_cons_succ]
  refine wpAnyH_take (i := 5) (v := ?_) rfl (by kernel_rfl) (by kernel_rfl) (by kernel_rfl) (fun _ _ _ h => h) (Or.inl ⟨by rfl, ?_⟩) hH ?_
  rotate_left
  · ((intro W hW; obtain ⟨s0, s1, s2, s3, s4⟩ := hW; go_simp) <;> with_reducible rfl)
  simp only [Act.put, List.getElem_toArray, List.getElem_cons_zero, List.getElem_cons_succ, List.setIfInBounds_toArray, List.set_cons_zero, List.set_cons_succ]
  refine wpAnyH_ready (rs := [2]) (by kernel_rfl) (by simp) ?_
  refine AllReadyH.cons (o := _) rfl (fun K hK => ?_) AllReadyH.nil
  simp only [List.getElem_toArray, List.getElem_cons_zero, List.getElem_cons_succ]
  go_simp
  with_reducible refine (HTX.out _ (HT.out.below (Below.drew bel))).mono ?_
  rintro e v1 ⟨rfl, b1⟩
  dsimp only
  have bel1 := bel.drew.trans (b1.mono bel.size)
  refine hK.out _ _ ⟨(b1.cell (p := ⟨_, 0, none⟩) hz0).trans hH.1, (b1.cell (p := ⟨_, 1, none⟩) hz0).trans hH.2.1, (b1.cell (p := ⟨_, 2, none⟩) hz0).trans hH.2.2.1, (b1.cell (p := ⟨_, 3, none⟩) hz0).trans hH.2.2.2.1, (b1.cell (p := ⟨_, 4, none⟩) hz0).trans hH.2.2.2.2⟩ (fun hH1 => ?_)
  clear hK K
  replace hz0 := Nat.lt_of_lt_of_le hz0 b1.size
  refine wpAnyH_take (i := 3) (v := ?_) rfl (by kernel_rfl) (by kernel_rfl) (by kernel_rfl) (fun _ _ _ h => h) (Or.inl ⟨by rfl, ?_⟩) hH1 ?_
  rotate_left
  · ((intro W hW; obtain ⟨s0, s1, s2, s3, s4⟩ := hW; go_simp) <;> with_reducible rfl)
  simp only [Act.put, List.getElem_toArray, List.getElem_cons_zero, List.getElem_cons_succ, List.setIfInBounds_toArray, List.set_cons_zero, List.set_cons_succ]
  refine wpAnyH_ready (rs := [6]) (by kernel_rfl) (by simp) ?_
  refine AllReadyH.cons (o := _) rfl (fun K hK => ?_) AllReadyH.nil
  simp only [List.getElem_toArray, List.getElem_cons_zero, List.getElem_cons_succ]
  go_simp
  with_reducible refine (HIT.out _).mono ?_
  rintro e _ ⟨rfl, rfl⟩
  dsimp only
  refine hK.out _ _ hH1 (fun hH2 => ?_)
  clear hK K
  refine wpAnyH_take (i := 7) (v := ?_) rfl (by kernel_rfl) (by kernel_rfl) (by kernel_rfl) (fun _ _ _ h => h) (Or.inl ⟨by rfl, ?_⟩) hH2 ?_
  rotate_left
  · ((intro W hW; obtain ⟨s0, s1, s2, s3, s4⟩ := hW; go_simp) <;> with_reducible rfl)
  simp only [Act.put, List.getElem_toArray, List.getElem_cons_zero, List.getElem_cons_succ, List.setIfInBounds_toArray, List.set_cons_zero, List.set_cons_succ]
  refine wpAnyH_take (i := 8) (v := ?_) rfl (by kernel_rfl) (by kernel_rfl) (by kernel_rfl) (fun _ _ _ h => h) (Or.inl ⟨by rfl, ?_⟩) hH2 ?_
  rotate_left
  · ((intro W hW; obtain ⟨s0, s1, s2, s3, s4⟩ := hW; go_simp) <;> with_reducible rfl)
  simp only [Act.put, List.getElem_toArray, List.getElem_cons_zero, List.getElem_cons_succ, List.setIfInBounds_toArray, List.set_cons_zero, List.set_cons_succ]
  refine wpAnyH_done (by kernel_rfl) ?_ _
  go_wp2
  go_ret
  exact ⟨ret_s (by simp), bel1⟩
open Go.RowKit

theorem laid_plain : Rows.confNetsRow.laid = [("math/bits.deBruijn32tab", Rows.laid_math_bits_deBruijn32tab), ("math/bits.deBruijn64tab", Rows.laid_math_bits_deBruijn64tab), ((Rows.confNetsRow.laid.getD 2 ("", .nil)).1, Lib.tabData .u64 Lib.pow10Tab)] := by kernel_rfl
theorem tab_of_laid {W : World} (h : laidMetH Tryd.prog Rows.confNetsRow.laid W) : Tab W := by
  rw [MakeChecks.laidMetH_plain _ _ _ (by kernel_rfl), laid_plain] at h
  exact Lib.tabIs_of_head (g := 0) (t := 148) (e := 124) (n := 20) (by kernel_rfl) (by kernel_rfl) Tryd.underlying148 Tryd.underlying124 (by kernel_rfl) (by kernel_rfl) h.tail.tail
theorem laid_witness (os : Os) (args : Array Value) : laidMetH Tryd.prog Rows.confNetsRow.laid (((World.laidAll Tryd.prog os Rows.confNetsRow.laid).forCall (fun _ _ => 0) ⟨#[], args, []⟩).memory) := by
  rw [MakeChecks.laidMetH_plain _ _ _ (by kernel_rfl)]; exact laidMet_laidAll _ (by kernel_rfl) (by kernel_rfl)
end Go.Proofs.YtdfobilagidmfaaDoor
