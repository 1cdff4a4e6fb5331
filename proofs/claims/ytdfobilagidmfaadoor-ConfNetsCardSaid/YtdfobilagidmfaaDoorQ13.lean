/- Texts put together: Cga, Cgf, Cnf, Ref3x, Adr9, Shelf, Adr10, Tab. -/
import Derived.Test.YtdfobilagidmfaaDoorQ1
import Derived.Test.YtdfobilagidmfaaDoorQ2
import Derived.Test.YtdfobilagidmfaaDoorQ3
import Derived.Test.YtdfobilagidmfaaDoorQ4
import Derived.Test.YtdfobilagidmfaaDoorQ5
import Derived.Test.YtdfobilagidmfaaDoorQ12
import Derived.Deep.QuietTactic
import Derived.BigQuiet
import Derived.Deep.RegionHeld3
import Derived.Shelf.Strings.Builder1
import Derived.Shelf.Strconv.Itoa0
import Derived.Shelf.Strconv.Itoa1
import Derived.Shelf.LaysM
import Derived.Shelf.Strconv.Itoa2
import Derived.Shelf.Strconv.Itoa3
import Derived.Shelf.Strconv.AppendUint10
import Derived.Shelf.Strconv.AppendInt10
import Derived.Shelf.Strconv.AppendIntPublic10
import Derived.Test.YtdfobilagidmfaaDoorProg
import Derived.Lib.ItoaLen
import Derived.BigCall
import Derived.Test.YtdfobilagidmfaaDoorTie
import Derived.LaidMore
import Derived.Lay
import Derived.Stop.LaidErr
namespace Go.Proofs.YtdfobilagidmfaaDoor
open Go.RowKit

theorem cparse_60 (w : World) : Calls Tryd.prog 8 #[.string ⟨#[116, 105, 109, 101, 32, 61, 32, 54, 48]⟩] w fun e w' => ∃ Fx nf cf Ox nx cx, e = .returned (.tuple #[.agg (cfl U60 Fx nf cf Ox nx cx).toArray, .int .i64 0, .int .i64 0]) ∧ Sle fxf 10 w' Fx nf cf U60.fixed ∧ Sle opf 7 w' Ox nx cx U60.opens ∧ Fr w.heap.size Fx nf ∧ Fr w.heap.size Ox nx ∧ Below w.heap.size w w' := by
  refine (cparse_any [116, 105, 109, 101, 32, 61, 32, 54, 48] w (by decide)).mono ?_
  rintro e w' ⟨Fx, nf, cf, Ox, nx, cx, rfl, h⟩
  rw [parse_60] at h ⊢
  exact ⟨Fx, nf, cf, Ox, nx, cx, rfl, h⟩
theorem same_60 (Gx : Option Addr) (ng cg : Nat) (Hx : Option Addr) (nh ch : Nat) (w : World) (hg : Sle fxf 10 w Gx ng cg U60.fixed) (hh : Sle opf 7 w Hx nh ch U60.opens) : Calls Tryd.prog 10 #[.agg (cfl U60 Gx ng cg Hx nh ch).toArray, .agg #[.int .u8 (usualC.own.a.toNat : Int), .int .u8 (usualC.own.b.toNat : Int), .int .u8 (usualC.own.c.toNat : Int), .int .u8 (usualC.own.d.toNat : Int), .int .u8 (usualC.lan.a.toNat : Int), .int .u8 (usualC.lan.b.toNat : Int), .int .u8 (usualC.lan.c.toNat : Int), .int .u8 (usualC.lan.d.toNat : Int), .int .i64 usualC.bits, .int .u8 (usualC.lanmac.a.toNat : Int), .int .u8 (usualC.lanmac.b.toNat : Int), .int .u8 (usualC.lanmac.c.toNat : Int), .int .u8 (usualC.lanmac.d.toNat : Int), .int .u8 (usualC.lanmac.e.toNat : Int), .int .u8 (usualC.lanmac.f.toNat : Int), .int .u8 (usualC.wanmac.a.toNat : Int), .int .u8 (usualC.wanmac.b.toNat : Int), .int .u8 (usualC.wanmac.c.toNat : Int), .int .u8 (usualC.wanmac.d.toNat : Int), .int .u8 (usualC.wanmac.e.toNat : Int), .int .u8 (usualC.wanmac.f.toNat : Int), .int .u8 (usualC.first.a.toNat : Int), .int .u8 (usualC.first.b.toNat : Int), .int .u8 (usualC.first.c.toNat : Int), .int .u8 (usualC.first.d.toNat : Int), .int .u8 (usualC.last.a.toNat : Int), .int .u8 (usualC.last.b.toNat : Int), .int .u8 (usualC.last.c.toNat : Int), .int .u8 (usualC.last.d.toNat : Int), .int .i64 60, .int .u8 (usualC.dns.a.toNat : Int), .int .u8 (usualC.dns.b.toNat : Int), .int .u8 (usualC.dns.c.toNat : Int), .int .u8 (usualC.dns.d.toNat : Int), .int .i64 usualC.udp, .int .i64 usualC.tcp, .int .i64 usualC.icmp, .int .i64 usualC.low, .slice none 0 0, .slice none 0 0]] w fun e w' => e = .returned (.bool true) ∧ Below w.heap.size w w' :=
  same_any U60 Gx ng cg Hx nh ch none 0 0 none 0 0 w hg hh (Sle.nil (by decide) fxf_len w) (Sle.nil (by decide) opf_len w) (by rw [← hg.1]; decide) (by rw [← hh.1]; decide)
theorem same_us (Gx : Option Addr) (ng cg : Nat) (Hx : Option Addr) (nh ch : Nat) (w : World) (hg : Sle fxf 10 w Gx ng cg usualC.fixed) (hh : Sle opf 7 w Hx nh ch usualC.opens) : Calls Tryd.prog 10 #[.agg (cfl usualC Gx ng cg Hx nh ch).toArray, .agg (cfl usualC none 0 0 none 0 0).toArray] w fun e w' => e = .returned (.bool true) ∧ Below w.heap.size w w' :=
  same_any usualC Gx ng cg Hx nh ch none 0 0 none 0 0 w hg hh (Sle.nil (by decide) fxf_len w) (Sle.nil (by decide) opf_len w) (by rw [← hg.1]; decide) (by rw [← hh.1]; decide)
@[reducible] def W60L : List Value := [.int .u8 (usualC.own.a.toNat : Int), .int .u8 (usualC.own.b.toNat : Int), .int .u8 (usualC.own.c.toNat : Int), .int .u8 (usualC.own.d.toNat : Int), .int .u8 (usualC.lan.a.toNat : Int), .int .u8 (usualC.lan.b.toNat : Int), .int .u8 (usualC.lan.c.toNat : Int), .int .u8 (usualC.lan.d.toNat : Int), .int .i64 usualC.bits, .int .u8 (usualC.lanmac.a.toNat : Int), .int .u8 (usualC.lanmac.b.toNat : Int), .int .u8 (usualC.lanmac.c.toNat : Int), .int .u8 (usualC.lanmac.d.toNat : Int), .int .u8 (usualC.lanmac.e.toNat : Int), .int .u8 (usualC.lanmac.f.toNat : Int), .int .u8 (usualC.wanmac.a.toNat : Int), .int .u8 (usualC.wanmac.b.toNat : Int), .int .u8 (usualC.wanmac.c.toNat : Int), .int .u8 (usualC.wanmac.d.toNat : Int), .int .u8 (usualC.wanmac.e.toNat : Int), .int .u8 (usualC.wanmac.f.toNat : Int), .int .u8 (usualC.first.a.toNat : Int), .int .u8 (usualC.first.b.toNat : Int), .int .u8 (usualC.first.c.toNat : Int), .int .u8 (usualC.first.d.toNat : Int), .int .u8 (usualC.last.a.toNat : Int), .int .u8 (usualC.last.b.toNat : Int), .int .u8 (usualC.last.c.toNat : Int), .int .u8 (usualC.last.d.toNat : Int), .int .i64 60, .int .u8 (usualC.dns.a.toNat : Int), .int .u8 (usualC.dns.b.toNat : Int), .int .u8 (usualC.dns.c.toNat : Int), .int .u8 (usualC.dns.d.toNat : Int), .int .i64 usualC.udp, .int .i64 usualC.tcp, .int .i64 usualC.icmp, .int .i64 usualC.low, .slice none 0 0, .slice none 0 0]
set_option linter.unusedVariables false in
set_option linter.unusedSimpArgs false in
set_option maxRecDepth 100000 in
set_option maxHeartbeats 16000000 in
theorem awake_any (w : World) : Calls Tryd.prog 7 #[] w fun e w' => e = .returned (.bool true) ∧ Below w.heap.size w w' := by
  have bel := Below.refl w.heap.size w
  go_enter Tryd.func7, Tryd.ntmps7
  go_wp2_with fail
  with_reducible refine (cparse_60 _).mono ?_
  rintro e w1 ⟨Fx, nf, cf, Ox, nx, cx, rfl, hf, ho, frF, frO, b1⟩
  replace bel := bel.trans (b1.mono bel.size)
  clear b1
  replace hf : Sle fxf 10 w1 (Fx) (nf) (cf) (U60.fixed) := hf
  replace ho : Sle opf 7 w1 (Ox) (nx) (cx) (U60.opens) := ho
  have hnf : nf ≤ 1000 := by rw [← hf.1]; decide
  have hnx : nx ≤ 1000 := by rw [← ho.1]; decide
  go_wp2_with (first | ((with_reducible show wpList _ _ _ (⟨some 1, _, _, _, _, _⟩ :: _) _ _); refine wpList_new_a rfl 32 rfl #[.int .u8 0, .int .u8 0, .int .u8 0, .int .u8 0, .int .u8 0, .int .u8 0, .int .u8 0, .int .u8 0, .int .i64 0, .int .u8 0, .int .u8 0, .int .u8 0, .int .u8 0, .int .u8 0, .int .u8 0, .int .u8 0, .int .u8 0, .int .u8 0, .int .u8 0, .int .u8 0, .int .u8 0, .int .u8 0, .int .u8 0, .int .u8 0, .int .u8 0, .int .u8 0, .int .u8 0, .int .u8 0, .int .u8 0, .int .i64 0, .int .u8 0, .int .u8 0, .int .u8 0, .int .u8 0, .int .i64 0, .int .i64 0, .int .i64 0, .int .i64 0, .slice none 0 0, .slice none 0 0] (by kernel_rfl) ?_; intro g1 w2 ge hh bb; have av_hf_ca := hf.av_new ge; have av_ho_ca := ho.av_new ge; have oca := Nat.le_trans bel.size ge; replace hf := hf.below bb; replace ho := ho.below bb; replace bel := bel.trans (bb.mono bel.size); have hca := hh; clear hh ge bb) | ((with_reducible show wpList _ _ _ (⟨none, Op.store _ (.tmp 1) _, _, _, _, _⟩ :: _) _ _); refine wpList_store_blk rfl 32 (.tmp 1) (.tmp 7) rfl g1 rfl _ rfl _ 32 hca (by rfl) (by kernel_rfl) (by kernel_rfl) ?_; intro w3 hq gr; replace hf := hf.away av_hf_ca gr; replace ho := ho.away av_ho_ca gr; replace bel := below_grown bel gr oca bel.size; clear hca; have hca := hq; clear hq gr))
  with_reducible refine (rusual_any _).mono ?_
  rintro e w4 ⟨rfl, b4⟩
  replace hca := blk_u hca b4
  replace hf := hf.below b4
  replace ho := ho.below b4
  replace bel := bel.trans (b4.mono bel.size)
  clear b4
  go_wp2_with (first | ((with_reducible show wpList _ _ _ (⟨some 4, _, _, _, _, _⟩ :: _) _ _); refine wpList_new_a rfl 44 rfl #[.int .u8 0, .int .u8 0, .int .u8 0, .int .u8 0, .int .u8 0, .int .u8 0, .int .u8 0, .int .u8 0, .int .i64 0, .int .u8 0, .int .u8 0, .int .u8 0, .int .u8 0, .int .u8 0, .int .u8 0, .int .u8 0, .int .u8 0, .int .u8 0, .int .u8 0, .int .u8 0, .int .u8 0, .int .u8 0, .int .u8 0, .int .u8 0, .int .u8 0, .int .u8 0, .int .u8 0, .int .u8 0, .int .u8 0, .int .i64 0, .int .u8 0, .int .u8 0, .int .u8 0, .int .u8 0, .int .i64 0, .int .i64 0, .int .i64 0, .int .i64 0, .slice none 0 0, .slice none 0 0] (by kernel_rfl) ?_; intro g4 w5 ge hh bb; have d_ca_cb := ne_new (hlt hca) ge; have av_hf_cb := hf.av_new ge; have av_ho_cb := ho.av_new ge; have ocb := Nat.le_trans bel.size ge; replace hca := blk_u hca bb; replace hf := hf.below bb; replace ho := ho.below bb; replace bel := bel.trans (bb.mono bel.size); have hcb := hh; clear hh ge bb) | ((with_reducible show wpList _ _ _ (⟨none, Op.store _ (.tmp 4) _, _, _, _, _⟩ :: _) _ _); refine wpList_store_blk rfl 44 (.tmp 4) (.tmp 10) rfl g4 rfl _ rfl _ 44 hcb (by rfl) (by kernel_rfl) (by kernel_rfl) ?_; intro w6 hq gr; replace hf := hf.away av_hf_cb gr; replace ho := ho.away av_ho_cb gr; replace hca := blk_a hca gr d_ca_cb; replace bel := below_grown bel gr ocb bel.size; clear hcb; have hcb := hq; clear hq gr) | ((with_reducible show wpList _ _ _ (⟨none, Op.store _ (.tmp 11) _, _, _, _, _⟩ :: _) _ _); refine wpList_store_part rfl 3 (.tmp 11) (.const (.int .i64 60)) rfl g4 29 rfl [.int .i64 60] rfl (cfl usualC none 0 0 none 0 0) 44 hcb (by simp) (W60L) rfl (by kernel_rfl) (by rfl) ?_; intro w7 hq gr; replace hf := hf.away av_hf_cb gr; replace ho := ho.away av_ho_cb gr; replace hca := blk_a hca gr d_ca_cb; replace bel := below_grown bel gr ocb bel.size; clear hcb; have hcb := hq; clear hq gr))
  replace bel := bel.drew
  replace hca : w7.drew.heap[g1]? = _ := hca
  replace hcb : w7.drew.heap[g4]? = _ := hcb
  replace hf := hf.drew
  replace ho := ho.drew
  refine wp_region_held_drew (S := fun W => W.heap[g1]? = some (.cells (cfl U60 Fx nf cf Ox nx cx).toArray 32 (0, 0)) ∧ W.heap[g4]? = some (.cells (W60L).toArray 44 (0, 0))) (by kernel_rfl) ⟨hca, hcb⟩ (fun hH => ?_)
  generalize w7.drew = w8 at bel hca hcb hf ho hH ⊢
  refine wpAnyH_take (i := 0) (v := ?_) rfl (by kernel_rfl) (by kernel_rfl) (by kernel_rfl) (fun _ _ _ h => h) (Or.inl ⟨by rfl, ?_⟩) hH ?_
  rotate_left
  · ((intro W hW; clear hW; go_simp) <;> with_reducible rfl)
  simp only [Act.put, List.getElem_toArray, List.getElem_cons_zero, List.setIfInBounds_toArray, List.set_cons_zero, List.set_cons_succ]
  refine wpAnyH_take (i := 1) (v := ?_) rfl (by kernel_rfl) (by kernel_rfl) (by kernel_rfl) (fun _ _ _ h => h) (Or.inl ⟨by rfl, ?_⟩) hH ?_
  rotate_left
  · ((intro W hW; clear hW; go_simp) <;> with_reducible rfl)
  simp only [Act.put, List.getElem_toArray, List.getElem_cons_zero, List.getElem_cons_succ, List.setIfInBounds_toArray, List.set_cons_zero, List.set_cons_succ]
  refine wpAnyH_take (i := 2) (v := ?_) rfl (by kernel_rfl) (by kernel_rfl) (by kernel_rfl) (fun _ _ _ h => h) (Or.inl ⟨by rfl, ?_⟩) hH ?_
  rotate_left
  · ((intro W hW; clear hW; go_simp) <;> with_reducible rfl)
  simp only [Act.put, List.getElem_toArray, List.getElem_cons_zero, List.getElem_cons_succ, List.setIfInBounds_toArray, List.set_cons_zero, List.set_cons_succ]
  refine wpAnyH_take (i := 3) (v := ?_) rfl (by kernel_rfl) (by kernel_rfl) (by kernel_rfl) (fun _ _ _ h => h) (Or.inl ⟨by rfl, ?_⟩) hH ?_
  rotate_left
  · ((intro W hW; clear hW; go_simp) <;> with_reducible rfl)
  simp only [Act.put, List.getElem_toArray, List.getElem_cons_zero, List.getElem_cons_succ, List.setIfInBounds_toArray, List.set_cons_zero, List.set_cons_succ]
  refine wpAnyH_take (i := 4) (v := ?_) rfl (by kernel_rfl) (by kernel_rfl) (by kernel_rfl) (fun _ _ _ h => h) (Or.inl ⟨by rfl, ?_⟩) hH ?_
  rotate_left
  · ((intro W hW; clear hW; go_simp) <;> with_reducible rfl)
  simp only [Act.put, List.getElem_toArray, List.getElem_cons_zero, List.getElem_cons_succ, List.setIfInBounds_toArray, List.set_cons_zero, List.set_cons_succ]
  refine wpAnyH_take (i := 5) (v := ?_) rfl (by kernel_rfl) (by kernel_rfl) (by kernel_rfl) (fun _ _ _ h => h) (Or.inl ⟨by rfl, ?_⟩) hH ?_
  rotate_left
  · ((intro W hW; clear hW; go_simp) <;> with_reducible rfl)
  simp only [Act.put, List.getElem_toArray, List.getElem_cons_zero, List.getElem_cons_succ, List.setIfInBounds_toArray, List.set_cons_zero, List.set_cons_succ]
  refine wpAnyH_take (i := 6) (v := ?_) rfl (by kernel_rfl) (by kernel_rfl) (by kernel_rfl) (fun _ _ _ h => h) (Or.inl ⟨by rfl, ?_⟩) hH ?_
  rotate_left
  · ((intro W hW; clear hW; go_simp) <;> with_reducible rfl)
  simp only [Act.put, List.getElem_toArray, List.getElem_cons_zero, List.getElem_cons_succ, List.setIfInBounds_toArray, List.set_cons_zero, List.set_cons_succ]
  refine wpAnyH_take (i := 7) (v := .agg (cfl U60 Fx nf cf Ox nx cx).toArray) rfl (by kernel_rfl) (by kernel_rfl) (by kernel_rfl) (fun _ _ _ h => h) (yieldsIf_load_part (by kernel_rfl) 32 _ rfl g1 0 40 rfl _ 32 (0, 0) (fun W hW => hW.1) _ rfl _ Tryd.underlying32 rfl (by kernel_rfl)) hH ?_
  simp only [Act.put, List.getElem_toArray, List.getElem_cons_zero, List.getElem_cons_succ, List.setIfInBounds_toArray, List.set_cons_zero, List.set_cons_succ]
  refine wpAnyH_take (i := 9) (v := .agg (W60L).toArray) rfl (by kernel_rfl) (by kernel_rfl) (by kernel_rfl) (fun _ _ _ h => h) (yieldsIf_load_part (by kernel_rfl) 44 _ rfl g4 0 40 rfl _ 44 (0, 0) (fun W hW => hW.2) _ rfl _ Tryd.underlying44 rfl (by kernel_rfl)) hH ?_
  simp only [Act.put, List.getElem_toArray, List.getElem_cons_zero, List.getElem_cons_succ, List.setIfInBounds_toArray, List.set_cons_zero, List.set_cons_succ]
  refine wpAnyH_ready (rs := [8]) (by kernel_rfl) (by simp) ?_
  refine AllReadyH.cons (o := _) rfl (fun K hK => ?_) AllReadyH.nil
  simp only [List.getElem_toArray, List.getElem_cons_zero, List.getElem_cons_succ]
  go_simp
  with_reducible refine (own_any U60 _ _ _ _ _ _ _ hf ho hnf hnx).mono ?_
  rintro e w9 ⟨Gx, ng, cg, Hx, nh, ch, rfl, hg, hh2, frG, frH, b9⟩
  dsimp only
  have av_hg_ca := frG.av (hlt hca)
  have av_hg_cb := frG.av (hlt hcb)
  have av_hh2_ca := frH.av (hlt hca)
  have av_hh2_cb := frH.av (hlt hcb)
  replace hca := blk_u hca b9
  replace hcb := blk_u hcb b9
  replace hf := hf.below b9
  replace ho := ho.below b9
  replace bel := bel.trans (b9.mono bel.size)
  clear b9
  replace hg : Sle fxf 10 w9 (Gx) (ng) (cg) (U60.fixed) := hg
  replace hh2 : Sle opf 7 w9 (Hx) (nh) (ch) (U60.opens) := hh2
  refine hK.out _ _ ⟨hca, hcb⟩ (fun hH10 => ?_)
  clear hK K
  refine wpAnyH_ready (rs := [10]) (by kernel_rfl) (by simp) ?_
  refine AllReadyH.cons (o := _) rfl (fun K hK => ?_) AllReadyH.nil
  simp only [List.getElem_toArray, List.getElem_cons_zero, List.getElem_cons_succ]
  go_simp
  with_reducible refine (same_60 _ _ _ _ _ _ _ hg hh2).mono ?_
  rintro e w11 ⟨rfl, b11⟩
  dsimp only
  replace hca := blk_u hca b11
  replace hcb := blk_u hcb b11
  replace hf := hf.below b11
  replace ho := ho.below b11
  replace hg := hg.below b11
  replace hh2 := hh2.below b11
  replace bel := bel.trans (b11.mono bel.size)
  clear b11
  clear hg
  clear hh2
  refine hK.out _ _ ⟨hca, hcb⟩ (fun hH12 => ?_)
  clear hK K
  refine wpAnyH_take (i := 11) (v := ?_) rfl (by kernel_rfl) (by kernel_rfl) (by kernel_rfl) (fun _ _ _ h => h) (Or.inl ⟨by rfl, ?_⟩) hH12 ?_
  rotate_left
  · ((intro W hW; clear hW; go_simp) <;> with_reducible rfl)
  simp only [Act.put, List.getElem_toArray, List.getElem_cons_zero, List.getElem_cons_succ, List.setIfInBounds_toArray, List.set_cons_zero, List.set_cons_succ]
  refine wpAnyH_take (i := 12) (v := ?_) rfl (by kernel_rfl) (by kernel_rfl) (by kernel_rfl) (fun _ _ _ h => h) (Or.inl ⟨by rfl, ?_⟩) hH12 ?_
  rotate_left
  · ((intro W hW; clear hW; go_simp) <;> with_reducible rfl)
  simp only [Act.put, List.getElem_toArray, List.getElem_cons_zero, List.getElem_cons_succ, List.setIfInBounds_toArray, List.set_cons_zero, List.set_cons_succ]
  refine wpAnyH_ready (rs := [13]) (by kernel_rfl) (by simp) ?_
  refine AllReadyH.cons (o := _) rfl (fun K hK => ?_) AllReadyH.nil
  simp only [List.getElem_toArray, List.getElem_cons_zero, List.getElem_cons_succ]
  go_simp
  with_reducible refine (cusual_c _).mono ?_
  rintro e w13 ⟨rfl, b13⟩
  dsimp only
  replace hca := blk_u hca b13
  replace hcb := blk_u hcb b13
  replace hf := hf.below b13
  replace ho := ho.below b13
  replace bel := bel.trans (b13.mono bel.size)
  clear b13
  refine hK.out _ _ ⟨hca, hcb⟩ (fun hH14 => ?_)
  clear hK K
  refine wpAnyH_ready (rs := [14]) (by kernel_rfl) (by simp) ?_
  refine AllReadyH.cons (o := _) rfl (fun K hK => ?_) AllReadyH.nil
  simp only [List.getElem_toArray, List.getElem_cons_zero, List.getElem_cons_succ]
  go_simp
  with_reducible refine (own_any usualC none 0 0 none 0 0 _ (Sle.nil (by decide) fxf_len _) (Sle.nil (by decide) opf_len _) (by decide) (by decide)).mono ?_
  rintro e w15 ⟨Gy, ng2, cg2, Hy, nh2, ch2, rfl, hg3, hh3, frG3, frH3, b15⟩
  dsimp only
  have av_hg3_ca := frG3.av (hlt hca)
  have av_hg3_cb := frG3.av (hlt hcb)
  have av_hh3_ca := frH3.av (hlt hca)
  have av_hh3_cb := frH3.av (hlt hcb)
  replace hca := blk_u hca b15
  replace hcb := blk_u hcb b15
  replace hf := hf.below b15
  replace ho := ho.below b15
  replace bel := bel.trans (b15.mono bel.size)
  clear b15
  replace hg3 : Sle fxf 10 w15 (Gy) (ng2) (cg2) (usualC.fixed) := hg3
  replace hh3 : Sle opf 7 w15 (Hy) (nh2) (ch2) (usualC.opens) := hh3
  refine hK.out _ _ ⟨hca, hcb⟩ (fun hH16 => ?_)
  clear hK K
  refine wpAnyH_ready (rs := [15]) (by kernel_rfl) (by simp) ?_
  refine AllReadyH.cons (o := _) rfl (fun K hK => ?_) AllReadyH.nil
  simp only [List.getElem_toArray, List.getElem_cons_zero, List.getElem_cons_succ]
  go_simp
  with_reducible refine (rusual_any _).mono ?_
  rintro e w17 ⟨rfl, b17⟩
  dsimp only
  replace hca := blk_u hca b17
  replace hcb := blk_u hcb b17
  replace hf := hf.below b17
  replace ho := ho.below b17
  replace hg3 := hg3.below b17
  replace hh3 := hh3.below b17
  replace bel := bel.trans (b17.mono bel.size)
  clear b17
  refine hK.out _ _ ⟨hca, hcb⟩ (fun hH18 => ?_)
  clear hK K
  refine wpAnyH_ready (rs := [16]) (by kernel_rfl) (by simp) ?_
  refine AllReadyH.cons (o := _) rfl (fun K hK => ?_) AllReadyH.nil
  simp only [List.getElem_toArray, List.getElem_cons_zero, List.getElem_cons_succ]
  go_simp
  with_reducible refine (same_us _ _ _ _ _ _ _ hg3 hh3).mono ?_
  rintro e w19 ⟨rfl, b19⟩
  dsimp only
  replace hca := blk_u hca b19
  replace hcb := blk_u hcb b19
  replace hf := hf.below b19
  replace ho := ho.below b19
  replace hg3 := hg3.below b19
  replace hh3 := hh3.below b19
  replace bel := bel.trans (b19.mono bel.size)
  clear b19
  clear hg3
  clear hh3
  refine hK.out _ _ ⟨hca, hcb⟩ (fun hH20 => ?_)
  clear hK K
  refine wpAnyH_take (i := 17) (v := ?_) rfl (by kernel_rfl) (by kernel_rfl) (by kernel_rfl) (fun _ _ _ h => h) (Or.inl ⟨by rfl, ?_⟩) hH20 ?_
  rotate_left
  · ((intro W hW; clear hW; go_simp) <;> with_reducible rfl)
  simp only [Act.put, List.getElem_toArray, List.getElem_cons_zero, List.getElem_cons_succ, List.setIfInBounds_toArray, List.set_cons_zero, List.set_cons_succ]
  refine wpAnyH_take (i := 18) (v := ?_) rfl (by kernel_rfl) (by kernel_rfl) (by kernel_rfl) (fun _ _ _ h => h) (Or.inl ⟨by rfl, ?_⟩) hH20 ?_
  rotate_left
  · ((intro W hW; clear hW; go_simp) <;> with_reducible rfl)
  simp only [Act.put, List.getElem_toArray, List.getElem_cons_zero, List.getElem_cons_succ, List.setIfInBounds_toArray, List.set_cons_zero, List.set_cons_succ]
  refine wpAnyH_take (i := 19) (v := .agg (cfl U60 Fx nf cf Ox nx cx).toArray) rfl (by kernel_rfl) (by kernel_rfl) (by kernel_rfl) (fun _ _ _ h => h) (yieldsIf_load_part (by kernel_rfl) 32 _ rfl g1 0 40 rfl _ 32 (0, 0) (fun W hW => hW.1) _ rfl _ Tryd.underlying32 rfl (by kernel_rfl)) hH20 ?_
  simp only [Act.put, List.getElem_toArray, List.getElem_cons_zero, List.getElem_cons_succ, List.setIfInBounds_toArray, List.set_cons_zero, List.set_cons_succ]
  refine wpAnyH_ready (rs := [20]) (by kernel_rfl) (by simp) ?_
  refine AllReadyH.cons (o := _) rfl (fun K hK => ?_) AllReadyH.nil
  simp only [List.getElem_toArray, List.getElem_cons_zero, List.getElem_cons_succ]
  go_simp
  with_reducible refine (ccheck_any U60 _ _ _ _ _ _ _ hf ho).mono ?_
  rintro e w21 ⟨rfl, b21⟩
  dsimp only
  replace hca := blk_u hca b21
  replace hcb := blk_u hcb b21
  replace hf := hf.below b21
  replace ho := ho.below b21
  replace bel := bel.trans (b21.mono bel.size)
  clear b21
  rw [show errC U60.check = 0 by rw [check_60]; rfl]
  refine hK.out _ _ ⟨hca, hcb⟩ (fun hH22 => ?_)
  clear hK K
  refine wpAnyH_take (i := 21) (v := ?_) rfl (by kernel_rfl) (by kernel_rfl) (by kernel_rfl) (fun _ _ _ h => h) (Or.inl ⟨by rfl, ?_⟩) hH22 ?_
  rotate_left
  · ((intro W hW; clear hW; go_simp) <;> with_reducible rfl)
  simp only [Act.put, List.getElem_toArray, List.getElem_cons_zero, List.getElem_cons_succ, List.setIfInBounds_toArray, List.set_cons_zero, List.set_cons_succ]
  refine wpAnyH_take (i := 22) (v := ?_) rfl (by kernel_rfl) (by kernel_rfl) (by kernel_rfl) (fun _ _ _ h => h) (Or.inl ⟨by rfl, ?_⟩) hH22 ?_
  rotate_left
  · ((intro W hW; clear hW; go_simp) <;> with_reducible rfl)
  simp only [Act.put, List.getElem_toArray, List.getElem_cons_zero, List.getElem_cons_succ, List.setIfInBounds_toArray, List.set_cons_zero, List.set_cons_succ]
  refine wpAnyH_take (i := 23) (v := ?_) rfl (by kernel_rfl) (by kernel_rfl) (by kernel_rfl) (fun _ _ _ h => h) (Or.inl ⟨by rfl, ?_⟩) hH22 ?_
  rotate_left
  · ((intro W hW; clear hW; go_simp) <;> with_reducible rfl)
  simp only [Act.put, List.getElem_toArray, List.getElem_cons_zero, List.getElem_cons_succ, List.setIfInBounds_toArray, List.set_cons_zero]
  refine wpAnyH_done (by kernel_rfl) ?_ _
  go_wp2_with fail
  go_ret
  exact ⟨rfl, bel⟩
open Go.RowKit

theorem lines_one {l : List UInt8} (h : ∀ c ∈ l, c ≠ 10) (hn : l ≠ []) : linesL l = [l] := by
  unfold linesL
  rw [cut_none 10 l h]
  simp [hn]
/-- Lines as a text. -/
def txt (ls : List (List UInt8)) : List UInt8 := ls.flatMap (· ++ [10])
/-- A line NAME=VALUE of digits: which field is set. -/
theorem digits_word {n : Nat} (h : n < 1000000000) : onlyW (decT n) = some (decT n) ∧ okV 0 (decT n) = true ∧ decV (decT n) = n := by
  have hd := decT_digits 8 n (by omega)
  have hp := decT_pos n
  have hnum := numI_decT n 999999999 h (by omega)
  refine ⟨?_, ?_, (dec_yes hnum).1⟩
  · have hb : ∀ c ∈ decT n, isBl c = false := fun c hc => by
      have := hd c hc
      rw [← blN_u8]; unfold blN; simp only [Bool.or_eq_false_iff, beq_eq_false_iff_ne]; omega
    unfold onlyW wordsL
    have e := words_free (decT n) [] [] hb
    rw [List.append_nil, List.nil_append] at e
    rw [e, wordsGo, if_neg (by intro h0; rw [h0] at hp; simp at hp)]
  · exact (dec_yes hnum).2
theorem cut1_name {x v : List UInt8} (h : ∀ c ∈ x, c ≠ 61) : cut1 61 (x ++ 61 :: v) = some (x, v) := by
  rw [cut1_skip x _ h, cut1, if_pos rfl]
  simp
theorem st_cat {x y z : List UInt8} (hz : x ++ y = z) (h : x.length + y.length ≤ 8388608) (W : World) : (Op.stringOp .add ⟨x.toArray⟩ ⟨y.toArray⟩).run Tryd.prog W = .ok (.string ⟨z.toArray⟩) W := by
  subst hz; exact st_add h W
theorem cparse_is {t : List UInt8} {c : Cf} {l e : Int} (h : parseS t = (c, l, e)) (ht : t.length ≤ 1000000) (w : World) : Calls Tryd.prog 8 #[.string ⟨t.toArray⟩] w fun r w' => ∃ Fx nf cf Ox nx cx, r = .returned (.tuple #[.agg (cfl c Fx nf cf Ox nx cx).toArray, .int .i64 l, .int .i64 e]) ∧ Sle fxf 10 w' Fx nf cf c.fixed ∧ Sle opf 7 w' Ox nx cx c.opens ∧ Fr w.heap.size Fx nf ∧ Fr w.heap.size Ox nx ∧ Below w.heap.size w w' := by
  refine (cparse_any t w ht).mono ?_
  rintro r w' ⟨Fx, nf, cf, Ox, nx, cx, rfl, hh⟩
  rw [h] at hh ⊢
  exact ⟨Fx, nf, cf, Ox, nx, cx, rfl, hh⟩
theorem rtext_v {v : Int} {n : Nat} (hv : v = n) (h : n < 1000000000) (w : World) : Calls Tryd.prog 16 #[.int .i64 v] w fun e w' => e = .returned (.string ⟨(decT n).toArray⟩) ∧ Below w.heap.size w w' := by
  subst hv; exact rtext_any 8 (by decide) n w (by omega)
theorem skip_name {c : UInt8} {s r : List UInt8} (h : isBl c = false) (h2 : (c == 35) = false) : skipL (c :: s ++ r) = false := by
  unfold skipL
  rw [List.cons_append, List.dropWhile_cons, if_neg (by rw [h]; decide)]
  exact h2
open Go.RowKit

theorem adT_chars (A : Ad4) : ∀ x ∈ adT A.a A.b A.c A.d, x = 46 ∨ (48 ≤ x.toNat ∧ x.toNat ≤ 57) := by
  have h := fun (u : UInt8) (x : UInt8) (hx : x ∈ decT u.toNat) => decT_digits 8 u.toNat (by have := u.toNat_lt; omega) x hx
  intro x hx
  unfold adT at hx
  simp only [List.mem_append, List.mem_cons, List.not_mem_nil, or_false] at hx
  rcases hx with (((((hx | hx) | hx) | hx) | hx) | hx) | hx <;> first | exact .inl hx | exact .inr (h _ _ hx)
def netX (A : Ad4) (n : Nat) : List UInt8 := adT A.a A.b A.c A.d ++ 47 :: decT n
def lanT (A : Ad4) (n : Nat) : List UInt8 := [108, 97, 110, 32, 61, 32] ++ netX A n
theorem netX_chars (A : Ad4) {n : Nat} (hn : n ≤ 99) : ∀ x ∈ netX A n, x = 46 ∨ x = 47 ∨ (48 ≤ x.toNat ∧ x.toNat ≤ 57) := by
  intro x hx
  unfold netX at hx
  rcases List.mem_append.1 hx with hx | hx
  · rcases adT_chars A x hx with h | h
    · exact .inl h
    · exact .inr (.inr h)
  · rcases List.mem_cons.1 hx with hx | hx
    · exact .inr (.inl hx)
    · exact .inr (.inr (decT_digits 8 n (by omega) x hx))
theorem netX_free (A : Ad4) {n : Nat} (hn : n ≤ 99) : (∀ x ∈ netX A n, isBl x = false) ∧ (∀ x ∈ netX A n, x ≠ 10) ∧ (netX A n).length ≤ 30 := by
  have h := netX_chars A hn
  refine ⟨fun x hx => ?_, fun x hx e => ?_, ?_⟩
  · rcases h x hx with rfl | rfl | h
    · rfl
    · rfl
    · rw [← blN_u8]; unfold blN; simp only [Bool.or_eq_false_iff, beq_eq_false_iff_ne]; omega
  · rcases h x hx with rfl | rfl | h
    · cases e
    · cases e
    · rw [e] at h; simp at h
  · have h1 := adT_len A.a A.b A.c A.d
    have h2 := decT_len 8 n (by omega)
    unfold netX
    simp
    omega
theorem net_read (A : Ad4) {n : Nat} (hn : n ≤ 99) : nwO (netX A n) = A ∧ nwB (netX A n) = n ∧ nwK (netX A n) = true := by
  have hc : cut1 47 (netX A n) = some (adT A.a A.b A.c A.d, decT n) := by
    unfold netX
    rw [cut1_skip _ _ (adT_free A.a A.b A.c A.d), cut1, if_pos rfl]
    simp
  have hp := parse_adT A.a A.b A.c A.d
  have hok : p4ok (adT A.a A.b A.c A.d) = true := by unfold p4ok; rw [hp]; rfl
  obtain ⟨_, h2, h3⟩ := digits_word (n := n) (by omega)
  refine ⟨?_, ?_, ?_⟩
  · unfold nwO; rw [hc]; show p4 _ = A; unfold p4; rw [hp]
  · unfold nwB; rw [hc]; simp only [hok]; exact h3
  · unfold nwK; rw [hc]; simp only [hok]; exact h2
/-- The configuration of a line lan alone. -/
def netC (A : Ad4) (n : Nat) : Cf := { usualC with own := A, lan := Ad4.ofN (fN A n), bits := n, first := poolA (Ad4.ofN (fN A n)) n, last := poolZ (Ad4.ofN (fN A n)) n }
theorem net_run (A : Ad4) {n : Nat} (hn : n ≤ 99) : (linesL (lanT A n)) = [lanT A n] ∧ lineE [] (lanT A n) = 0 ∧ (lineC usualC (lanT A n)).fill (lineN [] (lanT A n)) = netC A n := by
  obtain ⟨hb, h10, hl⟩ := netX_free A hn
  obtain ⟨hO, hB, hK⟩ := net_read A hn
  have hsk : skipL (lanT A n) = false := by unfold lanT; exact skip_name (c := 108) (s := [97, 110, 32, 61, 32]) (by decide) (by decide)
  have hcut : cut1 61 (lanT A n) = some ([108, 97, 110, 32], 32 :: netX A n) := by
    unfold lanT
    exact cut1_name (x := [108, 97, 110, 32]) (v := 32 :: netX A n) (by decide)
  have ho : onlyW [108, 97, 110, 32] = some [108, 97, 110] := by decide
  have hne : netX A n ≠ [] := by unfold netX; simp
  have hw : onlyW (32 :: netX A n) = some (netX A n) := by
    have e := words_free (netX A n) [] [] hb
    rw [List.append_nil, List.nil_append] at e
    unfold onlyW wordsL
    rw [show wordsGo (32 :: netX A n) [] = wordsGo (netX A n) [] from rfl, e, wordsGo, if_neg hne]
  have hkk : kindK [108, 97, 110] = some 2 := by decide
  refine ⟨?_, ?_, ?_⟩
  · refine lines_one (fun c hc => ?_) (by unfold lanT; simp)
    unfold lanT at hc
    rcases List.mem_append.1 hc with h | h
    · exact (by decide : ∀ c ∈ ([108, 97, 110, 32, 61, 32] : List UInt8), c ≠ 10) c h
    · exact h10 c h
  · unfold lineE
    rw [if_neg (by rw [hsk]; decide), hcut]
    simp only [ho]
    rw [if_neg (by decide), if_neg (by decide)]
    unfold singleE
    rw [hkk]
    simp only [hw]
    rw [show okV 2 (netX A n) = nwK (netX A n) from rfl, hK]
    rfl
  · have e1 : lineC usualC (lanT A n) = usualC.put [108, 97, 110] (netX A n) := by
      unfold lineC
      rw [if_neg (by rw [hsk]; decide), hcut]
      simp only [ho]
      rw [if_neg (by decide), if_neg (by decide)]
      unfold Cf.putL
      rw [hw]
    have e2 : lineN [] (lanT A n) = [[108, 97, 110]] := by
      unfold lineN
      rw [if_neg (by rw [hsk]; decide), hcut]
      simp only [ho]
      rw [if_neg (by decide), if_neg (by decide)]
      rfl
    rw [e1, e2, show usualC.put [108, 97, 110] (netX A n) = { usualC with own := nwO (netX A n), lan := Ad4.ofN (fN (nwO (netX A n)) (nwB (netX A n))), bits := nwB (netX A n) } by kernel_rfl, hO, hB]
    rfl
/-! ### The pool's place in the net -/
def loN (A : Ad4) (n : Nat) : Nat := fN A n + (if n ≤ 24 then 100 else 2)
def hiN (A : Ad4) (n : Nat) : Nat := fN A n + (if n ≤ 24 then 131 else min 33 (lN A n - fN A n - 1))
theorem net_place (A : Ad4) {n : Nat} (h8 : 8 ≤ n) (h28 : n ≤ 28) : ∃ S q, fN A n = S * q ∧ lN A n = S * q + (S - 1) ∧ S * q + S ≤ 4294967296 ∧ 16 ≤ S ∧ (n ≤ 24 → 256 ≤ S) ∧ S = 2 ^ (32 - n) ∧ (24 < n → S ≤ 128) := by
  have hc : clamp (n : Int) = n := by unfold clamp; rw [if_neg (by omega), if_neg (by omega)]; omega
  refine ⟨2 ^ (32 - n), A.num / 2 ^ (32 - n), ?_, ?_, ?_, ?_, ?_, rfl, ?_⟩
  · unfold fN firstN; rw [hc]
  · unfold lN lastN; rw [hc]
  · exact net_top A.num n (by omega) A.lt
  · exact Nat.le_trans (by decide : 16 ≤ 2 ^ 4) (Nat.pow_le_pow_right (by omega) (by omega))
  · intro h; exact Nat.le_trans (by decide : 256 ≤ 2 ^ 8) (Nat.pow_le_pow_right (by omega) (by omega))
  · intro h; exact Nat.le_trans (Nat.pow_le_pow_right (by omega) (by omega : 32 - n ≤ 7)) (by decide)
theorem lan_num (A : Ad4) (n : Int) : (Ad4.ofN (fN A n)).num = fN A n := Ad4.ofN_num (fN_lt A n)
theorem lan_fN (A : Ad4) (n : Int) : fN (Ad4.ofN (fN A n)) n = fN A n := by
  have h := lan_num A n
  unfold fN at h ⊢
  rw [h, firstN_idem]
theorem lan_lN (A : Ad4) (n : Int) : lN (Ad4.ofN (fN A n)) n = lN A n := by
  have h := lan_fN A n
  have e : ∀ B : Ad4, lN B n = fN B n + (2 ^ (32 - clamp n) - 1) := fun B => rfl
  rw [e, e, h]
theorem pool_nums (A : Ad4) {n : Nat} (h8 : 8 ≤ n) (h28 : n ≤ 28) : (netC A n).first.num = loN A n ∧ (netC A n).last.num = hiN A n ∧ loN A n < 4294967296 ∧ hiN A n < 4294967296 ∧ fN A n < loN A n ∧ loN A n ≤ hiN A n ∧ hiN A n < lN A n ∧ hiN A n - loN A n < 64 := by
  obtain ⟨S, q, hF, hZ, hT, h16, h24, _, h128⟩ := net_place A h8 h28
  have e1 : (netC A n).first.num = poolAn (Ad4.ofN (fN A n)) n := Ad4.ofN_num (poolAn_lt _ _)
  have e2 : (netC A n).last.num = poolZn (Ad4.ofN (fN A n)) n := Ad4.ofN_num (poolZn_lt _ _)
  rw [e1, e2]
  unfold poolAn poolZn loN hiN
  rw [lan_fN, lan_lN, hF, hZ]
  generalize S * q = P at *
  by_cases hn : n ≤ 24
  · have hS := h24 hn
    have hi : ((n : Int) ≤ 24) := by omega
    simp only [if_pos hi, if_pos hn]
    omega
  · have hi : ¬ ((n : Int) ≤ 24) := by omega
    simp only [if_neg hi, if_neg hn]
    have hS := h128 (by omega)
    have e3 : (P + (S - 1) + 4294967296 - P - 1) % 4294967296 = S - 2 := by omega
    have e4 : P + (S - 1) - P - 1 = S - 2 := by omega
    rw [e3, e4]
    omega
theorem in_net (A y : Ad4) {n : Nat} (h1 : fN A n ≤ y.num) (h2 : y.num ≤ lN A n) : fN A n = fN y n := by
  unfold fN lN at *
  exact (has_between A.num y.num (clamp n)).2 ⟨h1, h2⟩
theorem netC_inner (A y : Ad4) {n : Nat} (h1 : fN A n < y.num) (h2 : y.num < lN A n) : (netC A n).inner y = true := by
  rw [inner_host]
  show hostB (Ad4.ofN (fN A n)) n y = true
  unfold hostB
  rw [lan_fN, lan_lN, ← in_net A y (Nat.le_of_lt h1) (Nat.le_of_lt h2)]
  simp only [beq_self_eq_true, Bool.true_and, Bool.and_eq_true, Bool.not_eq_true', beq_eq_false_iff_ne]
  omega
theorem netC_check (A : Ad4) {n : Nat} (h8 : 8 ≤ n) (h28 : n ≤ 28) : (netC A n).check = (!(A.num == fN A n) && (!(A.num == lN A n) && (decide (A.num < loN A n) || decide (hiN A n < A.num)))) := by
  obtain ⟨p1, p2, p3, p4, p5, p6, p7, p8⟩ := pool_nums A h8 h28
  have hl : (netC A n).lanB = (!(A.num == fN A n) && !(A.num == lN A n)) := by
    show (inI (n : Int) 8 30 && (((Ad4.ofN (fN A n)).num == fN A n) && hostB A n A)) = _
    rw [lan_num]
    unfold inI hostB
    rw [decide_eq_true (by omega), decide_eq_true (by omega)]
    simp
  have hp : (netC A n).poolB = (decide (A.num < loN A n) || decide (hiN A n < A.num)) := by
    show ((netC A n).inner (netC A n).first && ((netC A n).inner (netC A n).last && (decide ((netC A n).first.num ≤ (netC A n).last.num) && (decide ((netC A n).last.num - (netC A n).first.num < 64) && (decide (A.num < (netC A n).first.num) || decide ((netC A n).last.num < A.num)))))) = _
    rw [netC_inner A _ (by rw [p1]; exact p5) (by rw [p1]; omega), netC_inner A _ (by rw [p2]; omega) (by rw [p2]; exact p7), p1, p2, decide_eq_true p6, decide_eq_true p8]
    simp
  rw [Cf.check_is, hl, hp, show (netC A n).restB = true by kernel_rfl, show (netC A n).fixB = true by kernel_rfl, show (netC A n).opnB = true by kernel_rfl]
  simp [Bool.and_assoc]
theorem nets_law (A : Ad4) {n : Nat} (h8 : 8 ≤ n) (h28 : n ≤ 28) : ((!(A.num == fN A n) && (!(A.num == lN A n) && (decide (A.num < loN A n) || decide (hiN A n < A.num)))) = true → parseS (lanT A n) = (netC A n, 0, 0)) ∧ ((!(A.num == fN A n) && (!(A.num == lN A n) && (decide (A.num < loN A n) || decide (hiN A n < A.num)))) = false → parseS (lanT A n) = (zeroC, 0, 1)) ∧ (lanT A n).length ≤ 36 := by
  obtain ⟨h1, h2, h3⟩ := net_run A (n := n) (by omega)
  have hlen : (lanT A n).length ≤ 36 := by have := (netX_free A (n := n) (by omega)).2.2; unfold lanT; simp; omega
  rw [← netC_check A h8 h28]
  have hp : parseS (lanT A n) = if (netC A n).check = true then (netC A n, 0, 0) else (zeroC, 0, 1) := by
    unfold parseS
    rw [if_neg (by omega), h1, if_neg (by simp), runL, if_pos h2, runL]
    simp only [h3]
  rw [hp]
  exact ⟨fun h => if_pos h, fun h => if_neg (by rw [h]; decide), hlen⟩
open Go.RowKit

/-- A hexadecimal digit's byte. -/
def hexDig (n : Nat) : UInt8 := if n < 10 then UInt8.ofNat (48 + n) else UInt8.ofNat (87 + n)
/-- The text of the first k bytes of a Mac. -/
def macT (l : List UInt8) : Nat → List UInt8
  | 0 => []
  | k + 1 => macT l k ++ (if 0 < k then [58] else []) ++ [hexDig ((l.getD k 0).toNat / 16)] ++ [hexDig ((l.getD k 0).toNat % 16)]
def hexRow : List UInt8 := [48, 49, 50, 51, 52, 53, 54, 55, 56, 57, 97, 98, 99, 100, 101, 102]
open Go.RowKit

abbrev hexBs : ByteArray := ⟨#[48, 49, 50, 51, 52, 53, 54, 55, 56, 57, 97, 98, 99, 100, 101, 102]⟩
theorem Tryd.info_u8 : (Tryd.prog.info? 5).map (fun i => (i.zero, i.size, i.bytes)) = some (some (.int .u8 0), 1, 1) := by kernel_rfl
theorem made_one (x : UInt8) (w : World) : Sl (w.alloc (.cells #[.int .u8 (x.toNat : Int)] 5)) (some ⟨w.heap.size, 0, none⟩) 1 1 [x] := Sl.made w 5 [x] (by simp [maxLen])

end Go.Proofs.YtdfobilagidmfaaDoor
namespace Go.Proofs
open Go.Shelf
def Tryd.lays171_ren : Go.Shelf.Ren := ⟨fun | 171 => 30 | 243 => 59 | 246 => 79 | 283 => 87 | 284 => 88 | 285 => 89 | 286 => 90 | 129 => 95 | 317 => 94 | 318 => 96 | 319 => 97 | 320 => 98 | 337 => 100 | 338 => 101 | n => n, fun | 3 => 3 | 9 => 9 | 2 => 2 | 4 => 4 | 171 => 137 | 0 => 0 | 53 => 124 | 37 => 66 | 5 => 5 | 173 => 140 | 212 => 148 | 51 => 53 | 20 => 20 | 213 => 149 | 46 => 90 | 232 => 154 | 233 => 155 | n => n, fun | 17 => 0 | 18 => 1 | 19 => 2 | n => n⟩
open Go.RowKit Go.Sort Go.Lib in
def Tryd.laysM176_ren : Go.Shelf.Ren := ⟨fun | 176 => 47 | 249 => 69 | 288 => 81 | 283 => 87 | 284 => 88 | 285 => 89 | 286 => 90 | 129 => 95 | 317 => 94 | 318 => 96 | 319 => 97 | 320 => 98 | 337 => 100 | 338 => 101 | n => n, fun | 37 => 66 | 2 => 2 | 3 => 3 | 53 => 124 | 4 => 4 | 9 => 9 | 171 => 137 | 0 => 0 | 173 => 140 | 212 => 148 | 51 => 53 | 5 => 5 | 20 => 20 | 213 => 149 | 46 => 90 | 232 => 154 | 233 => 155 | n => n, fun | 17 => 0 | 18 => 1 | 19 => 2 | n => n⟩
theorem Tryd.laysM176 : Go.Proofs.LaysM.n176 Tryd.prog Tryd.laysM176_ren := {
  mixed := by kernel_rfl
  f129 := Tryd.func95.trans (congrArg some (by kernel_rfl))
  f176 := Tryd.func47.trans (congrArg some (by kernel_rfl))
  f249 := Tryd.func69.trans (congrArg some (by kernel_rfl))
  f283 := Tryd.func87.trans (congrArg some (by kernel_rfl))
  f284 := Tryd.func88.trans (congrArg some (by kernel_rfl))
  f285 := Tryd.func89.trans (congrArg some (by kernel_rfl))
  f286 := Tryd.func90.trans (congrArg some (by kernel_rfl))
  f288 := Tryd.func81.trans (congrArg some (by kernel_rfl))
  f317 := Tryd.func94.trans (congrArg some (by kernel_rfl))
  f318 := Tryd.func96.trans (congrArg some (by kernel_rfl))
  f319 := Tryd.func97.trans (congrArg some (by kernel_rfl))
  f320 := Tryd.func98.trans (congrArg some (by kernel_rfl))
  f337 := Tryd.func100.trans (congrArg some (by kernel_rfl))
  f338 := Tryd.func101.trans (congrArg some (by kernel_rfl))
  t0 := Tryd.underlying0
  a0 := Tryd.isAgg0
  z0 := Tryd.sizeOf0
  v0 := Tryd.zeroValue0
  t2 := Tryd.underlying2
  a2 := Tryd.isAgg2
  z2 := Tryd.sizeOf2
  v2 := Tryd.zeroValue2
  t3 := Tryd.underlying3
  a3 := Tryd.isAgg3
  z3 := Tryd.sizeOf3
  v3 := Tryd.zeroValue3
  t4 := Tryd.underlying4
  a4 := Tryd.isAgg4
  z4 := Tryd.sizeOf4
  v4 := Tryd.zeroValue4
  t5 := Tryd.underlying5
  a5 := Tryd.isAgg5
  z5 := Tryd.sizeOf5
  v5 := Tryd.zeroValue5
  t9 := Tryd.underlying9
  a9 := Tryd.isAgg9
  z9 := Tryd.sizeOf9
  v9 := Tryd.zeroValue9
  t20 := Tryd.underlying20
  a20 := Tryd.isAgg20
  z20 := Tryd.sizeOf20
  v20 := Tryd.zeroValue20
  t37 := Tryd.underlying66
  a37 := Tryd.isAgg66
  z37 := Tryd.sizeOf66
  v37 := Tryd.zeroValue66
  t46 := Tryd.underlying90
  a46 := Tryd.isAgg90
  z46 := Tryd.sizeOf90
  v46 := Tryd.zeroValue90
  t51 := Tryd.underlying53
  a51 := Tryd.isAgg53
  z51 := Tryd.sizeOf53
  v51 := Tryd.zeroValue53
  t53 := Tryd.underlying124
  a53 := Tryd.isAgg124
  z53 := Tryd.sizeOf124
  v53 := Tryd.zeroValue124
  t171 := Tryd.underlying137
  a171 := Tryd.isAgg137
  z171 := Tryd.sizeOf137
  v171 := Tryd.zeroValue137
  t173 := Tryd.underlying140
  a173 := Tryd.isAgg140
  z173 := Tryd.sizeOf140
  v173 := Tryd.zeroValue140
  t212 := Tryd.underlying148
  a212 := Tryd.isAgg148
  z212 := Tryd.sizeOf148
  v212 := Tryd.zeroValue148
  t213 := Tryd.underlying149
  a213 := Tryd.isAgg149
  z213 := Tryd.sizeOf149
  t232 := Tryd.underlying154
  a232 := Tryd.isAgg154
  z232 := Tryd.sizeOf154
  v232 := Tryd.zeroValue154
  t233 := Tryd.underlying155
  a233 := Tryd.isAgg155
  z233 := Tryd.sizeOf155
  v233 := Tryd.zeroValue155
  g17 := by kernel_rfl
  g18 := by kernel_rfl
  g19 := by kernel_rfl
  i0 := by kernel_rfl
  i2 := by kernel_rfl
  i3 := by kernel_rfl
  i4 := by kernel_rfl
  i5 := by kernel_rfl
  i9 := by kernel_rfl
  i20 := by kernel_rfl
  i37 := by kernel_rfl
  i46 := by kernel_rfl
  i51 := by kernel_rfl
  i53 := by kernel_rfl
  i171 := by kernel_rfl
  i173 := by kernel_rfl
  i212 := by kernel_rfl
  i232 := by kernel_rfl
  i233 := by kernel_rfl
  m17 := by kernel_rfl
  m18 := by kernel_rfl
  m19 := by kernel_rfl }
open Go.RowKit Go.Sort Go.Lib in
theorem Tryd.strconv_AppendInt_10 (B n : Nat) (i : Int) (h0 : -9223372036854775808 ≤ i) (h1 : i ≤ 9223372036854775807) (sv : Value) (xs : List Value) (w : World) (hown : w.ownsRow B 5 1 sv n xs) (hBw : B ≤ w.heap.size) (hlim : n + 21 ≤ 140737488355328) (htab : Lib.TabBelow Tryd.prog B w "internal/strconv.uint64pow10" .u64 Lib.pow10Tab) :
    Calls Tryd.prog 47 #[sv, .int .i64 i, .int .i64 10] w fun e w' => ∃ v', e = .returned v' ∧ w'.ownsRow B 5 1 v' (n + (Lib.itoa i).length) (xs ++ Lib.byteCells (Lib.itoa i)) ∧ Below B w w' ∧ Lib.OthersKept 5 none w w' := Any.strconv_AppendInt_10 Tryd.laysM176 B n i h0 h1 sv xs w hown hBw hlim htab
end Go.Proofs
namespace Go.Proofs.YtdfobilagidmfaaDoor
open Go.RowKit

theorem dec_eq : ∀ n : Nat, Lib.decDigits n = decT n := by
  intro n
  induction n using Nat.strongRecOn with
  | _ n ih =>
    rw [Lib.decDigits]
    by_cases h : n < 10
    · rw [dif_pos h, decT_small h]; rfl
    · rw [dif_neg h, decT_more h, ih (n / 10) (by omega)]; rfl
theorem itoa_nat (n : Nat) : Lib.itoa (n : Int) = decT n := by
  unfold Lib.itoa
  rw [if_neg (by omega), Int.toNat_natCast, dec_eq]
/-- The text of the first k numbers of an address. -/
def adK (l : List UInt8) : Nat → List UInt8
  | 0 => []
  | k + 1 => adK l k ++ (if 0 < k then [46] else []) ++ decT (l.getD k 0).toNat
theorem adK_len (l : List UInt8) : ∀ k, (adK l k).length ≤ 4 * k
  | 0 => by simp [adK]
  | k + 1 => by
    have := adK_len l k
    have := byte_len (l.getD k 0)
    rw [adK]
    split <;> simp only [List.length_append, List.length_singleton, List.length_nil] <;> omega
theorem adK_four (a b c d : UInt8) : adK [a, b, c, d] 4 = adT a b c d := by simp [adK, adT]
theorem idx4k (a b c d : UInt8) (k : Nat) (hk : k < 4) (W : World) : (Instr.index 24 (.agg #[.int .u8 (a.toNat : Int), .int .u8 (b.toNat : Int), .int .u8 (c.toNat : Int), .int .u8 (d.toNat : Int)]) (.int .i64 (k : Int))).run Tryd.prog W = .ok (.int .u8 (([a, b, c, d].getD k 0).toNat : Int)) W := by
  have h := idx4 (.int .u8 (a.toNat : Int)) (.int .u8 (b.toNat : Int)) (.int .u8 (c.toNat : Int)) (.int .u8 (d.toNat : Int)) W
  rcases (by omega : k = 0 ∨ k = 1 ∨ k = 2 ∨ k = 3) with rfl | rfl | rfl | rfl
  · exact h.1
  · exact h.2.1
  · exact h.2.2.1
  · exact h.2.2.2
/-- The library's table of powers of ten lies as it is laid. -/
def Tab (w : World) : Prop := Lib.TabIs Tryd.prog w (Rows.confNetsRow.laid.getD 2 ("", .nil)).1 .u64 Lib.pow10Tab
theorem Tab.below {w w' : World} (h : Tab w) (hb : Below w.heap.size w w') : Tab w' := (Lib.tabBelow_of_tabIs h) w' hb
theorem append_dec (B n : Nat) (i : Nat) (hi : i < 256) (sv : Value) (L : List UInt8) (w0 w : World) (hT : Tab w0) (hB : B = w0.heap.size) (bel : Below B w0 w) (hown : w.ownsRow B 5 1 sv n (L.map u8v)) (hlim : n ≤ 1000) :
    Calls Tryd.prog 47 #[sv, .int .i64 (i : Int), .int .i64 10] w fun e w' => ∃ v', e = .returned v' ∧ w'.ownsRow B 5 1 v' (n + (decT i).length) ((L ++ decT i).map u8v) ∧ Below B w w' := by
  subst hB
  have hT' : Lib.TabBelow Tryd.prog w0.heap.size w0 (Rows.confNetsRow.laid.getD 2 ("", .nil)).1 .u64 Lib.pow10Tab := Lib.tabBelow_of_tabIs hT
  refine (Tryd.strconv_AppendInt_10 w0.heap.size n (i : Int) (by omega) (by omega) sv (L.map u8v) w hown bel.size (by omega) (hT'.on bel)).mono ?_
  rintro e w' ⟨v', rfl, h1, h2, _⟩
  refine ⟨v', rfl, ?_, h2⟩
  rw [itoa_nat] at h1
  rw [List.map_append]
  exact h1

set_option maxRecDepth 100000 in
set_option maxHeartbeats 4000000 in
theorem atext_any (a b c d : UInt8) (w : World) (hT : Tab w) :
    Calls Tryd.prog 15 #[.agg #[.int .u8 (a.toNat : Int), .int .u8 (b.toNat : Int), .int .u8 (c.toNat : Int), .int .u8 (d.toNat : Int)]] w fun e w' => e = .returned (.string ⟨(adT a b c d).toArray⟩) ∧ Below w.heap.size w w' := by
  obtain ⟨ii, hii, hz0, hz1, hz2⟩ := info_parts Tryd.info_u8
  have bel0 := (Below.refl w.heap.size w).alloc (Nat.le_refl _) (.cells #[.int .u8 (a.toNat : Int), .int .u8 (b.toNat : Int), .int .u8 (c.toNat : Int), .int .u8 (d.toNat : Int)] 24)
  have IX := Lib.hid fun k hk W => idx4k a b c d k hk W
  have HE := Lib.hid (adK_four a b c d)
  obtain ⟨l, hl⟩ : ∃ l, Hid ([a, b, c, d] = l) := ⟨_, Lib.hid rfl⟩
  rw [hl.out] at IX HE
  have HT := Lib.hid hT
  clear hT
  go_enter Tryd.func15, Tryd.ntmps15
  go_wp2
  go_loopw [3, 7] (fun v i wr => ∃ (k : Nat) (j : Int) (v0 : Value), v0 = v ∧ k ≤ 4 ∧ i = .int .i64 j ∧ j = (k : Int) ∧ wr.ownsRow w.heap.size 5 1 v (adK l k).length ((adK l k).map u8v) ∧ Below w.heap.size w wr) (fun _ i _ => 4 - (intOf i).toNat)
  case atStart => exact ⟨0, 0, _, rfl, by omega, rfl, rfl, World.ownsRow_nil _ _ _ _, bel0⟩
  case round =>
    obtain ⟨k, j, v, rfl, hk, rfl, hj, hown, bel⟩ := hrel
    have HJ := Lib.hid hj
    by_cases hlt : k < 4
    · have ix := IX.out k hlt
      rw [← hj] at ix
      have j6 : j < 4 := by omega
      have j0 : 0 ≤ j := by omega
      have hln := adK_len l k
      obtain ⟨x, hx⟩ : ∃ x, Hid (l.getD k 0 = x) := ⟨_, Lib.hid rfl⟩
      rw [hx.out] at ix
      have hm1 : Hid (adK l (k + 1) = adK l k ++ (if 0 < k then [46] else []) ++ decT x.toNat) := Lib.hid (by rw [← hx.out]; rfl)
      have hxl := x.toNat_lt
      have c0 : (0 : Int) ≤ x.toNat := by omega
      have c1 : (x.toNat : Int) < 256 := by omega
      generalize adK l k = L at *
      by_cases hp : k = 0
      · subst hp
        obtain rfl : j = 0 := by omega
        clear hj j6 j0
        have hm2 : Hid (adK l 1 = L ++ decT x.toNat) := Lib.hid (by have := hm1.out; simpa using this)
        have hap := append_dec w.heap.size _ x.toNat hxl v L w wr HT.out rfl bel hown (by omega)
        have HAP := Lib.hid hap
        clear hm1 hap
        go_wp2_with fail
        with_reducible refine (HAP.out).mono ?_
        rintro e w3 ⟨v3, rfl, hown3, bel3⟩
        have bel4 := bel.trans bel3
        clear hown bel bel3
        go_wp2
        go_roundw
        case rel => exact ⟨1, _, _, rfl, by omega, rfl, by have := HJ.out; omega, by rw [hm2.out, List.length_append]; exact hown3, bel4⟩
        case measure => simp [intOf]
      · have z1 : (0 : Int) < j := by omega
        clear hj
        have hm2 : Hid (adK l (k + 1) = (L ++ [46]) ++ decT x.toNat) := Lib.hid (by have := hm1.out; rw [if_pos (by omega)] at this; exact this)
        clear hm1
        have m1 := made_one 46 wr
        go_wp2_with (at_builtin; refine wpList_append_bytes _ rfl (.tmp 13) (.tmp 14) 66 rfl w.heap.size 5 ii (.int .u8 0) Tryd.underlying66 hii hz0 hz1 hz2 rfl _ _ L rfl (hown.alloc _) _ 1 1 [46] rfl m1 (by omega) (by have := bel.size; simp; omega) ?_)
        intro v' w1 hown1 hg1 hat1
        replace hown1 : w1.ownsRow w.heap.size 5 1 v' (L.length + 1) ((L ++ [46]).map u8v) := by rw [List.map_append]; exact hown1
        obtain ⟨bel1, _, _⟩ := own_grown (bel.alloc bel.size _) (by have := bel.size; simp; omega) (fun k h => (hown.lt k h).1) hg1 (by simpa using hat1)
        have hap := append_dec w.heap.size _ x.toNat hxl v' (L ++ [46]) w w1 HT.out rfl bel1 hown1 (by omega)
        have HAP := Lib.hid hap
        clear hown hg1 hat1 bel m1 hap
        go_wp2_with fail
        with_reducible refine (HAP.out).mono ?_
        rintro e w3 ⟨v3, rfl, hown3, bel3⟩
        have bel4 := bel1.trans bel3
        clear hown1 bel1 bel3
        go_wp2
        go_roundw
        case rel => exact ⟨k + 1, _, _, rfl, by omega, rfl, by have := HJ.out; omega, by rw [hm2.out, List.length_append, List.length_append]; exact hown3, bel4⟩
        case measure => simp [intOf]; omega
    · obtain rfl : k = 4 := by omega
      obtain rfl : j = 4 := hj
      rw [HE.out] at hown
      obtain ⟨A, cc, rfl, hsl⟩ := Sl.of_own hown
      have st := hsl.str (P := Tryd.prog) 66 5 9 Tryd.underlying66 Tryd.underlying5 Tryd.underlying9
      clear hown hsl
      go_wp2
      go_ret
      exact ⟨rfl, bel⟩

open Go.RowKit

theorem laid_plain : Rows.confNetsRow.laid = [("math/bits.deBruijn32tab", Rows.laid_math_bits_deBruijn32tab), ("math/bits.deBruijn64tab", Rows.laid_math_bits_deBruijn64tab), ((Rows.confNetsRow.laid.getD 2 ("", .nil)).1, Lib.tabData .u64 Lib.pow10Tab)] := by kernel_rfl
theorem tab_of_laid {W : World} (h : laidMetH Tryd.prog Rows.confNetsRow.laid W) : Tab W := by
  rw [MakeChecks.laidMetH_plain _ _ _ (by kernel_rfl), laid_plain] at h
  exact Lib.tabIs_of_head (g := 0) (t := 148) (e := 124) (n := 20) (by kernel_rfl) (by kernel_rfl) Tryd.underlying148 Tryd.underlying124 (by kernel_rfl) (by kernel_rfl) h.tail.tail
theorem laid_witness (os : Os) (args : Array Value) : laidMetH Tryd.prog Rows.confNetsRow.laid (((World.laidAll Tryd.prog os Rows.confNetsRow.laid).forCall (fun _ _ => 0) ⟨#[], args, []⟩).memory) := by
  rw [MakeChecks.laidMetH_plain _ _ _ (by kernel_rfl)]; exact laidMet_laidAll _ (by kernel_rfl) (by kernel_rfl)
end Go.Proofs.YtdfobilagidmfaaDoor
