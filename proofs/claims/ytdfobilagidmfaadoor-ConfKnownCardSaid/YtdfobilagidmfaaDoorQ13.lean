/- Texts put together: Cg9. -/
import Derived.Test.YtdfobilagidmfaaDoorQ12
namespace Go.Proofs.YtdfobilagidmfaaDoor
open Go.RowKit

theorem Tryd.info_rfix : (Tryd.prog.info? 81).map (fun i => (i.zero, i.size, i.bytes)) = some (some (.agg #[.int .u8 0, .int .u8 0, .int .u8 0, .int .u8 0, .int .u8 0, .int .u8 0, .int .u8 0, .int .u8 0, .int .u8 0, .int .u8 0]), 10, 10) := by kernel_rfl
theorem Tryd.info_ropn : (Tryd.prog.info? 82).map (fun i => (i.zero, i.size, i.bytes)) = some (some (.agg #[.int .i64 0, .int .i64 0, .int .u8 0, .int .u8 0, .int .u8 0, .int .u8 0, .int .i64 0]), 7, 32) := by kernel_rfl
theorem self_ad (x : Ad4) (w : World) : (Op.equalIn 9999 24 (.agg #[.int .u8 (x.a.toNat : Int), .int .u8 (x.b.toNat : Int), .int .u8 (x.c.toNat : Int), .int .u8 (x.d.toNat : Int)]) (.agg #[.int .u8 (x.a.toNat : Int), .int .u8 (x.b.toNat : Int), .int .u8 (x.c.toNat : Int), .int .u8 (x.d.toNat : Int)])).run Tryd.prog w = .ok true w := by
  have h := run_equalIn_bytes (P := Tryd.prog) w 9997 24 5 4 (by kernel_rfl) (by kernel_rfl) (fun w => by kernel_rfl) [x.a, x.b, x.c, x.d] [x.a, x.b, x.c, x.d] rfl rfl
  rw [beq_self_eq_true] at h
  exact h
theorem self_mc (x : Mc6) (w : World) : (Op.equalIn 9999 28 (.agg #[.int .u8 (x.a.toNat : Int), .int .u8 (x.b.toNat : Int), .int .u8 (x.c.toNat : Int), .int .u8 (x.d.toNat : Int), .int .u8 (x.e.toNat : Int), .int .u8 (x.f.toNat : Int)]) (.agg #[.int .u8 (x.a.toNat : Int), .int .u8 (x.b.toNat : Int), .int .u8 (x.c.toNat : Int), .int .u8 (x.d.toNat : Int), .int .u8 (x.e.toNat : Int), .int .u8 (x.f.toNat : Int)])).run Tryd.prog w = .ok true w := by
  have h := run_equalIn_bytes (P := Tryd.prog) w 9997 28 5 6 (by kernel_rfl) (by kernel_rfl) (fun w => by kernel_rfl) x.l x.l rfl rfl
  rw [beq_self_eq_true] at h
  exact h
theorem take_snoc {α : Type} {l : List α} {j : Nat} {x : α} (h : l[j]? = some x) : l.take (j + 1) = l.take j ++ [x] := by
  rw [List.take_add_one, h]; rfl
set_option linter.unusedVariables false in
set_option linter.unusedSimpArgs false in
set_option maxRecDepth 100000 in
set_option maxHeartbeats 16000000 in
theorem own_any (c : Cf) (Fx : Option Addr) (nf cf : Nat) (Ox : Option Addr) (nx cx : Nat) (w : World) (hf : Sle fxf 10 w Fx nf cf c.fixed) (ho : Sle opf 7 w Ox nx cx c.opens) (hnf : nf ≤ 1000) (hnx : nx ≤ 1000) : Calls Tryd.prog 11 #[.agg (cfl c Fx nf cf Ox nx cx).toArray] w fun e w' => ∃ Gx ng cg Hx nh ch, e = .returned (.agg (cfl c Gx ng cg Hx nh ch).toArray) ∧ Sle fxf 10 w' Gx ng cg c.fixed ∧ Sle opf 7 w' Hx nh ch c.opens ∧ Fr w.heap.size Gx ng ∧ Fr w.heap.size Hx nh ∧ Below w.heap.size w w' := by
  obtain ⟨ig, hig, hig0, hig1, hig2⟩ := info_parts Tryd.info_rfix
  obtain ⟨ih, hih, hih0, hih1, hih2⟩ := info_parts Tryd.info_ropn
  have bl_hf := hf.bl_new
  have bl_ho := ho.bl_new
  have bel := Below.refl w.heap.size w
  go_enter Tryd.func11, Tryd.ntmps11
  go_wp2_with (first | ((with_reducible show wpList _ _ _ (⟨some 1, _, _, _, _, _⟩ :: _) _ _); refine wpList_box_n rfl 32 (.tmp 0) rfl (cfl c Fx nf cf Ox nx cx).toArray rfl ?_; intro g1 w1 ge lt hh bb; have av_hf_p := hf.av_new ge; have av_ho_p := ho.av_new ge; have op := Nat.le_trans bel.size ge; replace hf := hf.below bb; replace ho := ho.below bb; replace bel := bel.trans (bb.mono bel.size); have hp := hh; clear hh lt ge bb) | ((with_reducible show wpList _ _ _ (⟨some 2, _, _, _, _, _⟩ :: _) _ _); refine wpList_new_a rfl 44 rfl #[.int .u8 0, .int .u8 0, .int .u8 0, .int .u8 0, .int .u8 0, .int .u8 0, .int .u8 0, .int .u8 0, .int .i64 0, .int .u8 0, .int .u8 0, .int .u8 0, .int .u8 0, .int .u8 0, .int .u8 0, .int .u8 0, .int .u8 0, .int .u8 0, .int .u8 0, .int .u8 0, .int .u8 0, .int .u8 0, .int .u8 0, .int .u8 0, .int .u8 0, .int .u8 0, .int .u8 0, .int .u8 0, .int .u8 0, .int .i64 0, .int .u8 0, .int .u8 0, .int .u8 0, .int .u8 0, .int .i64 0, .int .i64 0, .int .i64 0, .int .i64 0, .slice none 0 0, .slice none 0 0] (by kernel_rfl) ?_; intro g2 w2 ge hh bb; have d_p_r := ne_new (hlt hp) ge; have av_hf_r := hf.av_new ge; have av_ho_r := ho.av_new ge; have or := Nat.le_trans bel.size ge; replace hp := blk_u hp bb; replace hf := hf.below bb; replace ho := ho.below bb; replace bel := bel.trans (bb.mono bel.size); have hr := hh; clear hh ge bb; have R8 := Lib.hid (range_lit hp 0 4 [.int .u8 (c.own.a.toNat : Int), .int .u8 (c.own.b.toNat : Int), .int .u8 (c.own.c.toNat : Int), .int .u8 (c.own.d.toNat : Int)] rfl)) | ((with_reducible show wpList _ _ _ (⟨some 8, _, _, _, _, _⟩ :: _) _ _); refine wpList_load_rng 24 (.tmp 7) rfl (by kernel_rfl) _ _ rfl _ R8.out _ Tryd.underlying24 rfl (by kernel_rfl) ?_; have R11 := Lib.hid (range_lit hp 4 4 [.int .u8 (c.lan.a.toNat : Int), .int .u8 (c.lan.b.toNat : Int), .int .u8 (c.lan.c.toNat : Int), .int .u8 (c.lan.d.toNat : Int)] rfl)) | ((with_reducible show wpList _ _ _ (⟨some 11, _, _, _, _, _⟩ :: _) _ _); refine wpList_load_rng 24 (.tmp 10) rfl (by kernel_rfl) _ _ rfl _ R11.out _ Tryd.underlying24 rfl (by kernel_rfl) ?_; have R14 := cell_lit hp 8 _ rfl; have R17 := Lib.hid (range_lit hp 9 6 [.int .u8 (c.lanmac.a.toNat : Int), .int .u8 (c.lanmac.b.toNat : Int), .int .u8 (c.lanmac.c.toNat : Int), .int .u8 (c.lanmac.d.toNat : Int), .int .u8 (c.lanmac.e.toNat : Int), .int .u8 (c.lanmac.f.toNat : Int)] rfl)) | ((with_reducible show wpList _ _ _ (⟨some 17, _, _, _, _, _⟩ :: _) _ _); refine wpList_load_rng 28 (.tmp 16) rfl (by kernel_rfl) _ _ rfl _ R17.out _ Tryd.underlying28 rfl (by kernel_rfl) ?_; have R19 := Lib.hid (range_lit hp 15 6 [.int .u8 (c.wanmac.a.toNat : Int), .int .u8 (c.wanmac.b.toNat : Int), .int .u8 (c.wanmac.c.toNat : Int), .int .u8 (c.wanmac.d.toNat : Int), .int .u8 (c.wanmac.e.toNat : Int), .int .u8 (c.wanmac.f.toNat : Int)] rfl)) | ((with_reducible show wpList _ _ _ (⟨some 19, _, _, _, _, _⟩ :: _) _ _); refine wpList_load_rng 28 (.tmp 18) rfl (by kernel_rfl) _ _ rfl _ R19.out _ Tryd.underlying28 rfl (by kernel_rfl) ?_; have R21 := Lib.hid (range_lit hp 21 4 [.int .u8 (c.first.a.toNat : Int), .int .u8 (c.first.b.toNat : Int), .int .u8 (c.first.c.toNat : Int), .int .u8 (c.first.d.toNat : Int)] rfl)) | ((with_reducible show wpList _ _ _ (⟨some 21, _, _, _, _, _⟩ :: _) _ _); refine wpList_load_rng 24 (.tmp 20) rfl (by kernel_rfl) _ _ rfl _ R21.out _ Tryd.underlying24 rfl (by kernel_rfl) ?_; have R23 := Lib.hid (range_lit hp 25 4 [.int .u8 (c.last.a.toNat : Int), .int .u8 (c.last.b.toNat : Int), .int .u8 (c.last.c.toNat : Int), .int .u8 (c.last.d.toNat : Int)] rfl)) | ((with_reducible show wpList _ _ _ (⟨some 23, _, _, _, _, _⟩ :: _) _ _); refine wpList_load_rng 24 (.tmp 22) rfl (by kernel_rfl) _ _ rfl _ R23.out _ Tryd.underlying24 rfl (by kernel_rfl) ?_; have R25 := cell_lit hp 29 _ rfl; have R27 := Lib.hid (range_lit hp 30 4 [.int .u8 (c.dns.a.toNat : Int), .int .u8 (c.dns.b.toNat : Int), .int .u8 (c.dns.c.toNat : Int), .int .u8 (c.dns.d.toNat : Int)] rfl)) | ((with_reducible show wpList _ _ _ (⟨some 27, _, _, _, _, _⟩ :: _) _ _); refine wpList_load_rng 24 (.tmp 26) rfl (by kernel_rfl) _ _ rfl _ R27.out _ Tryd.underlying24 rfl (by kernel_rfl) ?_; have R29 := cell_lit hp 34 _ rfl; have R31 := cell_lit hp 35 _ rfl; have R33 := cell_lit hp 36 _ rfl; have R35 := cell_lit hp 37 _ rfl) | ((with_reducible show wpList _ _ _ (⟨some 3, _, _, _, _, _⟩ :: _) _ _); refine wpList_new_a rfl 44 rfl #[.int .u8 0, .int .u8 0, .int .u8 0, .int .u8 0, .int .u8 0, .int .u8 0, .int .u8 0, .int .u8 0, .int .i64 0, .int .u8 0, .int .u8 0, .int .u8 0, .int .u8 0, .int .u8 0, .int .u8 0, .int .u8 0, .int .u8 0, .int .u8 0, .int .u8 0, .int .u8 0, .int .u8 0, .int .u8 0, .int .u8 0, .int .u8 0, .int .u8 0, .int .u8 0, .int .u8 0, .int .u8 0, .int .u8 0, .int .i64 0, .int .u8 0, .int .u8 0, .int .u8 0, .int .u8 0, .int .i64 0, .int .i64 0, .int .i64 0, .int .i64 0, .slice none 0 0, .slice none 0 0] (by kernel_rfl) ?_; intro g3 w3 ge hh bb; have d_p_xb := ne_new (hlt hp) ge; have d_r_xb := ne_new (hlt hr) ge; have av_hf_xb := hf.av_new ge; have av_ho_xb := ho.av_new ge; have oxb := Nat.le_trans bel.size ge; replace hp := blk_u hp bb; replace hr := blk_u hr bb; replace hf := hf.below bb; replace ho := ho.below bb; replace bel := bel.trans (bb.mono bel.size); have hxb := hh; clear hh ge bb) | ((with_reducible show wpList _ _ _ (⟨none, Op.store _ (.tmp 3) _, _, _, _, _⟩ :: _) _ _); refine wpList_store_blk rfl 44 (.tmp 3) (.tmp 36) rfl g3 rfl _ rfl _ 44 hxb (by rfl) (by kernel_rfl) (by kernel_rfl) ?_; intro w4 hq gr; replace hf := hf.away av_hf_xb gr; replace ho := ho.away av_ho_xb gr; replace hp := blk_a hp gr d_p_xb; replace hr := blk_a hr gr d_r_xb; replace bel := below_grown bel gr oxb bel.size; clear hxb; have hxb := hq; clear hq gr))
  try clear R8
  try clear R11
  try clear R14
  try clear R17
  try clear R19
  try clear R21
  try clear R23
  try clear R25
  try clear R27
  try clear R29
  try clear R31
  try clear R33
  try clear R35
  go_loopg [4] (nf + 1) (fun gk s4 wr => ∃ i : Nat, ∃ (AxF : Option Addr) (cxF : Nat), gk = nf + 1 - i ∧ i ≤ nf ∧ s4 = .int .i64 (i : Int) ∧ wr.ownsRow (w.heap.size) 81 10 (.slice AxF (i) cxF) (i) ((c.fixed.take i : List (Mc6 × Ad4)).flatMap fxf) ∧ Ofs (.slice AxF (i) cxF) g1 ∧ Ofs (.slice AxF (i) cxF) g2 ∧ Ofs (.slice AxF (i) cxF) g3 ∧ wr.heap[g1]? = some (.cells (cfl c Fx nf cf Ox nx cx).toArray 32 (0, 0)) ∧ wr.heap[g2]? = some (.cells #[.int .u8 0, .int .u8 0, .int .u8 0, .int .u8 0, .int .u8 0, .int .u8 0, .int .u8 0, .int .u8 0, .int .i64 0, .int .u8 0, .int .u8 0, .int .u8 0, .int .u8 0, .int .u8 0, .int .u8 0, .int .u8 0, .int .u8 0, .int .u8 0, .int .u8 0, .int .u8 0, .int .u8 0, .int .u8 0, .int .u8 0, .int .u8 0, .int .u8 0, .int .u8 0, .int .u8 0, .int .u8 0, .int .u8 0, .int .i64 0, .int .u8 0, .int .u8 0, .int .u8 0, .int .u8 0, .int .i64 0, .int .i64 0, .int .i64 0, .int .i64 0, .slice none 0 0, .slice none 0 0] 44 (0, 0)) ∧ wr.heap[g3]? = some (.cells #[.int .u8 (c.own.a.toNat : Int), .int .u8 (c.own.b.toNat : Int), .int .u8 (c.own.c.toNat : Int), .int .u8 (c.own.d.toNat : Int), .int .u8 (c.lan.a.toNat : Int), .int .u8 (c.lan.b.toNat : Int), .int .u8 (c.lan.c.toNat : Int), .int .u8 (c.lan.d.toNat : Int), .int .i64 c.bits, .int .u8 (c.lanmac.a.toNat : Int), .int .u8 (c.lanmac.b.toNat : Int), .int .u8 (c.lanmac.c.toNat : Int), .int .u8 (c.lanmac.d.toNat : Int), .int .u8 (c.lanmac.e.toNat : Int), .int .u8 (c.lanmac.f.toNat : Int), .int .u8 (c.wanmac.a.toNat : Int), .int .u8 (c.wanmac.b.toNat : Int), .int .u8 (c.wanmac.c.toNat : Int), .int .u8 (c.wanmac.d.toNat : Int), .int .u8 (c.wanmac.e.toNat : Int), .int .u8 (c.wanmac.f.toNat : Int), .int .u8 (c.first.a.toNat : Int), .int .u8 (c.first.b.toNat : Int), .int .u8 (c.first.c.toNat : Int), .int .u8 (c.first.d.toNat : Int), .int .u8 (c.last.a.toNat : Int), .int .u8 (c.last.b.toNat : Int), .int .u8 (c.last.c.toNat : Int), .int .u8 (c.last.d.toNat : Int), .int .i64 c.time, .int .u8 (c.dns.a.toNat : Int), .int .u8 (c.dns.b.toNat : Int), .int .u8 (c.dns.c.toNat : Int), .int .u8 (c.dns.d.toNat : Int), .int .i64 c.udp, .int .i64 c.tcp, .int .i64 c.icmp, .int .i64 c.low, .slice AxF i cxF, .slice none 0 0] 44 (0, 0)) ∧ Sle fxf 10 wr (Fx) (nf) (cf) (c.fixed) ∧ Sle opf 7 wr (Ox) (nx) (cx) (c.opens) ∧ Below w.heap.size w wr)
  case atStart => exact ⟨0, none, 0, rfl, Nat.zero_le _, rfl, owk_nil _ _ _, (fun g h => by simp [Value.ownBlock] at h), (fun g h => by simp [Value.ownBlock] at h), (fun g h => by simp [Value.ownBlock] at h), hp, hr, hxb, hf, ho, bel⟩
  case round =>
    clear hp hr hxb hf ho bel
    obtain ⟨i, AxF, cxF, HGK, hi, rfl, xFw, of_xF_p, of_xF_r, of_xF_xb, hp, hr, hxb, hf, ho, bel⟩ := hrel
    have HGK_ := Lib.hid HGK
    clear HGK
    have xF := (owk_sle (by decide) fxf_len xFw).1
    have fr_xF := (owk_sle (by decide) fxf_len xFw).2
    have lz_xF := bel.size
    have xFlo := Nat.le_refl (w.heap.size)
    have av_xF_p := owk_av xFw of_xF_p
    have av_xF_r := owk_av xFw of_xF_r
    have av_xF_xb := owk_av xFw of_xF_xb
    have i0 : (0 : Int) ≤ i := by omega
    have i1 : (i : Int) ≤ 100000 := by omega
    by_cases hi2 : i < nf
    · obtain ⟨gF, oF, hF⟩ := hf.place (by omega)
      subst hF
      obtain ⟨x, hx⟩ : ∃ x, c.fixed[i]? = some x := ⟨_, List.getElem?_eq_getElem (by rw [hf.1]; exact hi2)⟩
      have HX := Lib.hid hx
      have HT := Lib.hid (take_snoc hx)
      clear hx
      have R39 := cell_lit hp 38 _ rfl
      go_wp2_with fail
      clear R39
      replace bel := bel.drew
      replace hp : wr.drew.heap[g1]? = _ := hp
      replace hr : wr.drew.heap[g2]? = _ := hr
      replace hxb : wr.drew.heap[g3]? = _ := hxb
      replace hf := hf.drew
      replace ho := ho.drew
      replace xF := xF.drew
      replace xFw : wr.drew.ownsRow _ _ _ _ _ _ := xFw
      replace lz_xF : _ ≤ wr.drew.heap.size := lz_xF
      refine wp_region_held_drew (S := fun W => W.heap[g1]? = some (.cells #[.int .u8 (c.own.a.toNat : Int), .int .u8 (c.own.b.toNat : Int), .int .u8 (c.own.c.toNat : Int), .int .u8 (c.own.d.toNat : Int), .int .u8 (c.lan.a.toNat : Int), .int .u8 (c.lan.b.toNat : Int), .int .u8 (c.lan.c.toNat : Int), .int .u8 (c.lan.d.toNat : Int), .int .i64 c.bits, .int .u8 (c.lanmac.a.toNat : Int), .int .u8 (c.lanmac.b.toNat : Int), .int .u8 (c.lanmac.c.toNat : Int), .int .u8 (c.lanmac.d.toNat : Int), .int .u8 (c.lanmac.e.toNat : Int), .int .u8 (c.lanmac.f.toNat : Int), .int .u8 (c.wanmac.a.toNat : Int), .int .u8 (c.wanmac.b.toNat : Int), .int .u8 (c.wanmac.c.toNat : Int), .int .u8 (c.wanmac.d.toNat : Int), .int .u8 (c.wanmac.e.toNat : Int), .int .u8 (c.wanmac.f.toNat : Int), .int .u8 (c.first.a.toNat : Int), .int .u8 (c.first.b.toNat : Int), .int .u8 (c.first.c.toNat : Int), .int .u8 (c.first.d.toNat : Int), .int .u8 (c.last.a.toNat : Int), .int .u8 (c.last.b.toNat : Int), .int .u8 (c.last.c.toNat : Int), .int .u8 (c.last.d.toNat : Int), .int .i64 c.time, .int .u8 (c.dns.a.toNat : Int), .int .u8 (c.dns.b.toNat : Int), .int .u8 (c.dns.c.toNat : Int), .int .u8 (c.dns.d.toNat : Int), .int .i64 c.udp, .int .i64 c.tcp, .int .i64 c.icmp, .int .i64 c.low, .slice (some ⟨gF, oF, none⟩) nf cf, .slice Ox nx cx] 32 (0, 0)) ∧ Sle fxf 10 W (some ⟨gF, oF, none⟩) (nf) (cf) (c.fixed)) (by kernel_rfl) ⟨hp, hf⟩ (fun hH => ?_)
      generalize wr.drew = w5 at bel hp hr hxb hf ho xF xFw lz_xF hH ⊢
      refine wpAnyH_take (i := 0) (v := ?_) rfl (by kernel_rfl) (by kernel_rfl) (by kernel_rfl) (fun _ _ _ h => h) (Or.inl ⟨by rfl, ?_⟩) hH ?_
      rotate_left
      · ((intro W hW; clear hW; go_simp) <;> with_reducible rfl)
      simp only [Act.put, List.getElem_toArray, List.getElem_cons_zero, List.setIfInBounds_toArray, List.set_cons_zero, List.set_cons_succ]
      refine wpAnyH_take (i := 2) (v := ?_) rfl (by kernel_rfl) (by kernel_rfl) (by kernel_rfl) (fun _ _ _ h => h) (Or.inl ⟨by rfl, ?_⟩) hH ?_
      rotate_left
      · ((intro W hW; clear hW; go_simp) <;> with_reducible rfl)
      simp only [Act.put, List.getElem_toArray, List.getElem_cons_zero, List.getElem_cons_succ, List.setIfInBounds_toArray, List.set_cons_zero, List.set_cons_succ]
      refine wpAnyH_take (i := 3) (v := ?_) rfl (by kernel_rfl) (by kernel_rfl) (by kernel_rfl) (fun _ _ _ h => h) (Or.inl ⟨by rfl, ?_⟩) hH ?_
      rotate_left
      · ((intro W hW; have hk := cell_lit (hW.1) 38 _ rfl; clear hW; go_simp) <;> with_reducible rfl)
      simp only [Act.put, List.getElem_toArray, List.getElem_cons_zero, List.getElem_cons_succ, List.setIfInBounds_toArray, List.set_cons_zero, List.set_cons_succ]
      refine wpAnyH_take (i := 4) (v := ?_) rfl (by kernel_rfl) (by kernel_rfl) (by kernel_rfl) (fun _ _ _ h => h) (Or.inl ⟨by rfl, ?_⟩) hH ?_
      rotate_left
      · ((intro W hW; clear hW; go_simp) <;> with_reducible rfl)
      simp only [Act.put, List.getElem_toArray, List.getElem_cons_zero, List.getElem_cons_succ, List.setIfInBounds_toArray, List.set_cons_zero, List.set_cons_succ]
      refine wpAnyH_take (i := 5) (v := ?_) rfl (by kernel_rfl) (by kernel_rfl) (by kernel_rfl) (fun _ _ _ h => h) (Or.inl ⟨by rfl, ?_⟩) hH ?_
      rotate_left
      · ((intro W hW; clear hW; go_simp) <;> with_reducible rfl)
      simp only [Act.put, List.getElem_toArray, List.getElem_cons_zero, List.getElem_cons_succ, List.setIfInBounds_toArray, List.set_cons_zero, List.set_cons_succ]
      refine wpAnyH_take (i := 6) (v := ?_) rfl (by kernel_rfl) (by kernel_rfl) (by kernel_rfl) (fun _ _ _ h => h) (Or.inl ⟨by rfl, ?_⟩) hH ?_
      rotate_left
      · ((intro W hW; clear hW; go_simp) <;> with_reducible rfl)
      simp only [Act.put, List.getElem_toArray, List.getElem_cons_zero, List.getElem_cons_succ, List.setIfInBounds_toArray, List.set_cons_zero, List.set_cons_succ]
      refine wpAnyH_take (i := 7) (v := .agg #[.int .u8 (x.1.a.toNat : Int), .int .u8 (x.1.b.toNat : Int), .int .u8 (x.1.c.toNat : Int), .int .u8 (x.1.d.toNat : Int), .int .u8 (x.1.e.toNat : Int), .int .u8 (x.1.f.toNat : Int)]) rfl (by kernel_rfl) (by kernel_rfl) (by kernel_rfl) (fun _ _ _ h => h) (yieldsIf_load_mid (by kernel_rfl) 28 _ rfl gF (oF + i * 10) rfl [.int .u8 (x.1.a.toNat : Int), .int .u8 (x.1.b.toNat : Int), .int .u8 (x.1.c.toNat : Int), .int .u8 (x.1.d.toNat : Int), .int .u8 (x.1.e.toNat : Int), .int .u8 (x.1.f.toNat : Int)] _ (fun W hW => Sle.range0 (hW.2) HX.out 6 [.int .u8 (x.1.a.toNat : Int), .int .u8 (x.1.b.toNat : Int), .int .u8 (x.1.c.toNat : Int), .int .u8 (x.1.d.toNat : Int), .int .u8 (x.1.e.toNat : Int), .int .u8 (x.1.f.toNat : Int)] rfl) Tryd.underlying28 rfl (by kernel_rfl)) hH ?_
      simp only [Act.put, List.getElem_toArray, List.getElem_cons_zero, List.getElem_cons_succ, List.setIfInBounds_toArray, List.set_cons_zero, List.set_cons_succ]
      refine wpAnyH_take (i := 8) (v := ?_) rfl (by kernel_rfl) (by kernel_rfl) (by kernel_rfl) (fun _ _ _ h => h) (Or.inl ⟨by rfl, ?_⟩) hH ?_
      rotate_left
      · ((intro W hW; clear hW; go_simp) <;> with_reducible rfl)
      simp only [Act.put, List.getElem_toArray, List.getElem_cons_zero, List.getElem_cons_succ, List.setIfInBounds_toArray, List.set_cons_zero, List.set_cons_succ]
      refine wpAnyH_take (i := 9) (v := ?_) rfl (by kernel_rfl) (by kernel_rfl) (by kernel_rfl) (fun _ _ _ h => h) (Or.inl ⟨by rfl, ?_⟩) hH ?_
      rotate_left
      · ((intro W hW; have hk := cell_lit (hW.1) 38 _ rfl; clear hW; go_simp) <;> with_reducible rfl)
      simp only [Act.put, List.getElem_toArray, List.getElem_cons_zero, List.getElem_cons_succ, List.setIfInBounds_toArray, List.set_cons_zero, List.set_cons_succ]
      refine wpAnyH_take (i := 10) (v := ?_) rfl (by kernel_rfl) (by kernel_rfl) (by kernel_rfl) (fun _ _ _ h => h) (Or.inl ⟨by rfl, ?_⟩) hH ?_
      rotate_left
      · ((intro W hW; clear hW; go_simp) <;> with_reducible rfl)
      simp only [Act.put, List.getElem_toArray, List.getElem_cons_zero, List.getElem_cons_succ, List.setIfInBounds_toArray, List.set_cons_zero, List.set_cons_succ]
      refine wpAnyH_take (i := 11) (v := ?_) rfl (by kernel_rfl) (by kernel_rfl) (by kernel_rfl) (fun _ _ _ h => h) (Or.inl ⟨by rfl, ?_⟩) hH ?_
      rotate_left
      · ((intro W hW; clear hW; go_simp) <;> with_reducible rfl)
      simp only [Act.put, List.getElem_toArray, List.getElem_cons_zero, List.getElem_cons_succ, List.setIfInBounds_toArray, List.set_cons_zero, List.set_cons_succ]
      refine wpAnyH_take (i := 12) (v := ?_) rfl (by kernel_rfl) (by kernel_rfl) (by kernel_rfl) (fun _ _ _ h => h) (Or.inl ⟨by rfl, ?_⟩) hH ?_
      rotate_left
      · ((intro W hW; clear hW; go_simp) <;> with_reducible rfl)
      simp only [Act.put, List.getElem_toArray, List.getElem_cons_zero, List.getElem_cons_succ, List.setIfInBounds_toArray, List.set_cons_zero, List.set_cons_succ]
      refine wpAnyH_take (i := 13) (v := .agg #[.int .u8 (x.2.a.toNat : Int), .int .u8 (x.2.b.toNat : Int), .int .u8 (x.2.c.toNat : Int), .int .u8 (x.2.d.toNat : Int)]) rfl (by kernel_rfl) (by kernel_rfl) (by kernel_rfl) (fun _ _ _ h => h) (yieldsIf_load_mid (by kernel_rfl) 24 _ rfl gF (oF + i * 10 + 6) rfl [.int .u8 (x.2.a.toNat : Int), .int .u8 (x.2.b.toNat : Int), .int .u8 (x.2.c.toNat : Int), .int .u8 (x.2.d.toNat : Int)] _ (fun W hW => Sle.range (hW.2) HX.out 6 4 [.int .u8 (x.2.a.toNat : Int), .int .u8 (x.2.b.toNat : Int), .int .u8 (x.2.c.toNat : Int), .int .u8 (x.2.d.toNat : Int)] rfl) Tryd.underlying24 rfl (by kernel_rfl)) hH ?_
      simp only [Act.put, List.getElem_toArray, List.getElem_cons_zero, List.getElem_cons_succ, List.setIfInBounds_toArray, List.set_cons_zero, List.set_cons_succ]
      refine wpAnyH_take (i := 14) (v := ?_) rfl (by kernel_rfl) (by kernel_rfl) (by kernel_rfl) (fun _ _ _ h => h) (Or.inl ⟨by rfl, ?_⟩) hH ?_
      rotate_left
      · ((intro W hW; clear hW; go_simp) <;> with_reducible rfl)
      simp only [Act.put, List.getElem_toArray, List.getElem_cons_zero, List.getElem_cons_succ, List.setIfInBounds_toArray, List.set_cons_zero, List.set_cons_succ]
      refine wpAnyH_ready (rs := [1, 15]) (by kernel_rfl) (by simp) ?_
      refine AllReadyH.cons (o := _) rfl (fun K hK => ?_) (AllReadyH.cons (o := _) rfl (fun K hK => ?_) AllReadyH.nil)
      · simp only [List.getElem_toArray, List.getElem_cons_zero, List.getElem_cons_succ]
        rw [if_pos (by rfl)]
        have hk_ := cell_lit hxb 38 _ rfl
        refine wp_val (v := .slice AxF i cxF) (by (go_simp) <;> with_reducible rfl) ?_
        clear hk_
        refine hK.out _ _ ⟨hp, hf⟩ (fun hH6 => ?_)
        clear hK K
        simp only [Act.put, List.setIfInBounds_toArray, List.set_cons_zero, List.set_cons_succ]
        refine wpAnyH_ready (rs := [15]) (by kernel_rfl) (by simp) ?_
        refine AllReadyH.cons (o := _) rfl (fun K hK => ?_) AllReadyH.nil
        simp only [List.getElem_toArray, List.getElem_cons_zero, List.getElem_cons_succ]
        rw [if_pos (by rfl)]
        refine wp_lit_n 41 81 1 _ rfl #[.int .u8 (x.1.a.toNat : Int), .int .u8 (x.1.b.toNat : Int), .int .u8 (x.1.c.toNat : Int), .int .u8 (x.1.d.toNat : Int), .int .u8 (x.1.e.toNat : Int), .int .u8 (x.1.f.toNat : Int), .int .u8 (x.2.a.toNat : Int), .int .u8 (x.2.b.toNat : Int), .int .u8 (x.2.c.toNat : Int), .int .u8 (x.2.d.toNat : Int)] (.agg #[.int .u8 0, .int .u8 0, .int .u8 0, .int .u8 0, .int .u8 0, .int .u8 0, .int .u8 0, .int .u8 0, .int .u8 0, .int .u8 0]) Tryd.underlying41 (by kernel_rfl) 10 (by kernel_rfl) (by decide) (by kernel_rfl) ?_
        intro g59 w7 ge lt hh bb
        have d_p_b59 := ne_new (hlt hp) ge
        have d_r_b59 := ne_new (hlt hr) ge
        have d_xb_b59 := ne_new (hlt hxb) ge
        have av_hf_b59 := hf.av_new ge
        have av_ho_b59 := ho.av_new ge
        have av_xF_b59 := xF.av_new ge
        have of_xF_b59 := owk_new xFw ge
        have ob59 := Nat.le_trans bel.size ge
        replace hp := blk_u hp bb
        replace hr := blk_u hr bb
        replace hxb := blk_u hxb bb
        replace hf := hf.below bb
        replace ho := ho.below bb
        replace xF := xF.below bb
        replace xFw := owk_under xFw bb
        replace lz_xF := Nat.le_trans lz_xF bb.size
        replace bel := bel.trans (bb.mono bel.size)
        have hb59 := hh
        clear hh lt ge bb
        have lt : Sle fxf 10 w7 (some ⟨g59, 0, none⟩) (1) (1) ([x]) := sle_lit ([x]) (by decide) fxf_len hb59 rfl (by simp [maxLen])
        refine hK.out _ _ ⟨hp, hf⟩ (fun hH8 => ?_)
        clear hK K
        simp only [Act.put, List.setIfInBounds_toArray, List.set_cons_zero, List.set_cons_succ]
        refine wpAnyH_ready (rs := [16]) (by kernel_rfl) (by simp) ?_
        refine AllReadyH.cons (o := _) rfl (fun K hK => ?_) AllReadyH.nil
        simp only [List.getElem_toArray, List.getElem_cons_zero, List.getElem_cons_succ]
        rw [if_pos (by rfl)]
        refine wp_append_sle (.tmp 45) (.tmp 59) 41 rfl (w.heap.size) 81 ig (.agg #[.int .u8 0, .int .u8 0, .int .u8 0, .int .u8 0, .int .u8 0, .int .u8 0, .int .u8 0, .int .u8 0, .int .u8 0, .int .u8 0]) 10 Tryd.underlying41 hig hig0 hig1 hig2 rfl fxf_one _ (i) (c.fixed.take i) rfl xFw (some ⟨g59, 0, none⟩) (1) (1) ([x]) rfl lt (by unfold maxLen; omega) (by omega) lz_xF ?_
        intro v60 w9 own_ bb gw ofw
        have of60_p := ofw _ (hlt hp) of_xF_p
        have of60_r := ofw _ (hlt hr) of_xF_r
        have of60_xb := ofw _ (hlt hxb) of_xF_xb
        have of60_b59 := ofw _ (hlt hb59) of_xF_b59
        clear ofw
        replace hf := hf.under bl_hf bb
        replace ho := ho.under bl_ho bb
        clear lt
        replace hp := blk_own hp gw of_xF_p
        replace hr := blk_own hr gw of_xF_r
        replace hxb := blk_own hxb gw of_xF_xb
        replace hb59 := blk_own hb59 gw of_xF_b59
        clear gw
        replace bel := bel.trans (bb.mono xFlo)
        have lz_zF := Nat.le_trans lz_xF bb.size
        clear bb
        clear xF xFw lz_xF
        replace own_ : w9.ownsRow (w.heap.size) 81 10 v60 (i + 1) ((c.fixed.take i ++ [x] : List (Mc6 × Ad4)).flatMap fxf) := own_
        obtain ⟨A60, c60, rfl⟩ := owk_val own_
        have zFw := own_
        have zF := (owk_sle (by decide) fxf_len own_).1
        have fr_zF := (owk_sle (by decide) fxf_len own_).2
        clear own_
        have av_zF_p := owk_av zFw of60_p
        have av_zF_r := owk_av zFw of60_r
        have av_zF_xb := owk_av zFw of60_xb
        have av_zF_b59 := owk_av zFw of60_b59
        refine hK.out _ _ ⟨hp, hf⟩ (fun hH10 => ?_)
        clear hK K
        simp only [Act.put, List.setIfInBounds_toArray, List.set_cons_zero, List.set_cons_succ]
        refine wpAnyH_take (i := 17) (v := ?_) rfl (by kernel_rfl) (by kernel_rfl) (by kernel_rfl) (fun _ _ _ h => h) (Or.inl ⟨by rfl, ?_⟩) hH10 ?_
        rotate_left
        · ((intro W hW; clear hW; go_simp) <;> with_reducible rfl)
        simp only [Act.put, List.getElem_toArray, List.getElem_cons_zero, List.getElem_cons_succ, List.setIfInBounds_toArray, List.set_cons_zero, List.set_cons_succ]
        refine wpAnyH_ready (rs := [18]) (by kernel_rfl) (by simp) ?_
        refine AllReadyH.cons (o := _) rfl (fun K hK => ?_) AllReadyH.nil
        simp only [List.getElem_toArray, List.getElem_cons_zero, List.getElem_cons_succ]
        rw [if_pos (by rfl)]
        refine wp_store_part 41 (.tmp 61) (.tmp 60) rfl g3 38 rfl [.slice A60 (i + 1) c60] rfl [.int .u8 (c.own.a.toNat : Int), .int .u8 (c.own.b.toNat : Int), .int .u8 (c.own.c.toNat : Int), .int .u8 (c.own.d.toNat : Int), .int .u8 (c.lan.a.toNat : Int), .int .u8 (c.lan.b.toNat : Int), .int .u8 (c.lan.c.toNat : Int), .int .u8 (c.lan.d.toNat : Int), .int .i64 c.bits, .int .u8 (c.lanmac.a.toNat : Int), .int .u8 (c.lanmac.b.toNat : Int), .int .u8 (c.lanmac.c.toNat : Int), .int .u8 (c.lanmac.d.toNat : Int), .int .u8 (c.lanmac.e.toNat : Int), .int .u8 (c.lanmac.f.toNat : Int), .int .u8 (c.wanmac.a.toNat : Int), .int .u8 (c.wanmac.b.toNat : Int), .int .u8 (c.wanmac.c.toNat : Int), .int .u8 (c.wanmac.d.toNat : Int), .int .u8 (c.wanmac.e.toNat : Int), .int .u8 (c.wanmac.f.toNat : Int), .int .u8 (c.first.a.toNat : Int), .int .u8 (c.first.b.toNat : Int), .int .u8 (c.first.c.toNat : Int), .int .u8 (c.first.d.toNat : Int), .int .u8 (c.last.a.toNat : Int), .int .u8 (c.last.b.toNat : Int), .int .u8 (c.last.c.toNat : Int), .int .u8 (c.last.d.toNat : Int), .int .i64 c.time, .int .u8 (c.dns.a.toNat : Int), .int .u8 (c.dns.b.toNat : Int), .int .u8 (c.dns.c.toNat : Int), .int .u8 (c.dns.d.toNat : Int), .int .i64 c.udp, .int .i64 c.tcp, .int .i64 c.icmp, .int .i64 c.low, .slice AxF i cxF, .slice none 0 0] 44 hxb (by simp) [.int .u8 (c.own.a.toNat : Int), .int .u8 (c.own.b.toNat : Int), .int .u8 (c.own.c.toNat : Int), .int .u8 (c.own.d.toNat : Int), .int .u8 (c.lan.a.toNat : Int), .int .u8 (c.lan.b.toNat : Int), .int .u8 (c.lan.c.toNat : Int), .int .u8 (c.lan.d.toNat : Int), .int .i64 c.bits, .int .u8 (c.lanmac.a.toNat : Int), .int .u8 (c.lanmac.b.toNat : Int), .int .u8 (c.lanmac.c.toNat : Int), .int .u8 (c.lanmac.d.toNat : Int), .int .u8 (c.lanmac.e.toNat : Int), .int .u8 (c.lanmac.f.toNat : Int), .int .u8 (c.wanmac.a.toNat : Int), .int .u8 (c.wanmac.b.toNat : Int), .int .u8 (c.wanmac.c.toNat : Int), .int .u8 (c.wanmac.d.toNat : Int), .int .u8 (c.wanmac.e.toNat : Int), .int .u8 (c.wanmac.f.toNat : Int), .int .u8 (c.first.a.toNat : Int), .int .u8 (c.first.b.toNat : Int), .int .u8 (c.first.c.toNat : Int), .int .u8 (c.first.d.toNat : Int), .int .u8 (c.last.a.toNat : Int), .int .u8 (c.last.b.toNat : Int), .int .u8 (c.last.c.toNat : Int), .int .u8 (c.last.d.toNat : Int), .int .i64 c.time, .int .u8 (c.dns.a.toNat : Int), .int .u8 (c.dns.b.toNat : Int), .int .u8 (c.dns.c.toNat : Int), .int .u8 (c.dns.d.toNat : Int), .int .i64 c.udp, .int .i64 c.tcp, .int .i64 c.icmp, .int .i64 c.low, .slice A60 (i + 1) c60, .slice none 0 0] rfl (by kernel_rfl) (by rfl) ?_
        intro w11 hq gr
        replace hf := hf.away av_hf_xb gr
        replace ho := ho.away av_ho_xb gr
        replace zF := zF.away av_zF_xb gr
        replace zFw := owk_off zFw of60_xb gr
        replace lz_zF := Nat.le_trans lz_zF gr.size
        replace hp := blk_a hp gr d_p_xb
        replace hr := blk_a hr gr d_r_xb
        replace hb59 := blk_a hb59 gr (ne_symm d_xb_b59)
        replace bel := below_grown bel gr oxb bel.size
        clear hxb
        have hxb := hq
        clear hq gr
        refine hK.out _ _ ⟨hp, hf⟩ (fun hH12 => ?_)
        clear hK K
        simp only [Act.put]
        refine wpAnyH_done (by kernel_rfl) ?_ _
        go_wp2_with fail
        go_roundg (nf + 1 - (i + 1))
        case measure => have := HGK_.out; omega
        case rel => exact ⟨i + 1, A60, c60, rfl, by omega, by go_num, by have h_ := zFw; rw [← HT.out] at h_; exact h_, of60_p, of60_r, of60_xb, hp, hr, hxb, hf, ho, bel⟩
      · simp only [List.getElem_toArray, List.getElem_cons_zero, List.getElem_cons_succ]
        rw [if_pos (by rfl)]
        refine wp_lit_n 41 81 1 _ rfl #[.int .u8 (x.1.a.toNat : Int), .int .u8 (x.1.b.toNat : Int), .int .u8 (x.1.c.toNat : Int), .int .u8 (x.1.d.toNat : Int), .int .u8 (x.1.e.toNat : Int), .int .u8 (x.1.f.toNat : Int), .int .u8 (x.2.a.toNat : Int), .int .u8 (x.2.b.toNat : Int), .int .u8 (x.2.c.toNat : Int), .int .u8 (x.2.d.toNat : Int)] (.agg #[.int .u8 0, .int .u8 0, .int .u8 0, .int .u8 0, .int .u8 0, .int .u8 0, .int .u8 0, .int .u8 0, .int .u8 0, .int .u8 0]) Tryd.underlying41 (by kernel_rfl) 10 (by kernel_rfl) (by decide) (by kernel_rfl) ?_
        intro g59 w6 ge lt hh bb
        have d_p_b59 := ne_new (hlt hp) ge
        have d_r_b59 := ne_new (hlt hr) ge
        have d_xb_b59 := ne_new (hlt hxb) ge
        have av_hf_b59 := hf.av_new ge
        have av_ho_b59 := ho.av_new ge
        have av_xF_b59 := xF.av_new ge
        have of_xF_b59 := owk_new xFw ge
        have ob59 := Nat.le_trans bel.size ge
        replace hp := blk_u hp bb
        replace hr := blk_u hr bb
        replace hxb := blk_u hxb bb
        replace hf := hf.below bb
        replace ho := ho.below bb
        replace xF := xF.below bb
        replace xFw := owk_under xFw bb
        replace lz_xF := Nat.le_trans lz_xF bb.size
        replace bel := bel.trans (bb.mono bel.size)
        have hb59 := hh
        clear hh lt ge bb
        have lt : Sle fxf 10 w6 (some ⟨g59, 0, none⟩) (1) (1) ([x]) := sle_lit ([x]) (by decide) fxf_len hb59 rfl (by simp [maxLen])
        refine hK.out _ _ ⟨hp, hf⟩ (fun hH7 => ?_)
        clear hK K
        simp only [Act.put, List.setIfInBounds_toArray, List.set_cons_zero, List.set_cons_succ]
        refine wpAnyH_ready (rs := [1]) (by kernel_rfl) (by simp) ?_
        refine AllReadyH.cons (o := _) rfl (fun K hK => ?_) AllReadyH.nil
        simp only [List.getElem_toArray, List.getElem_cons_zero, List.getElem_cons_succ]
        rw [if_pos (by rfl)]
        have hk_ := cell_lit hxb 38 _ rfl
        refine wp_val (v := .slice AxF i cxF) (by (go_simp) <;> with_reducible rfl) ?_
        clear hk_
        refine hK.out _ _ ⟨hp, hf⟩ (fun hH8 => ?_)
        clear hK K
        simp only [Act.put, List.setIfInBounds_toArray, List.set_cons_zero, List.set_cons_succ]
        refine wpAnyH_ready (rs := [16]) (by kernel_rfl) (by simp) ?_
        refine AllReadyH.cons (o := _) rfl (fun K hK => ?_) AllReadyH.nil
        simp only [List.getElem_toArray, List.getElem_cons_zero, List.getElem_cons_succ]
        rw [if_pos (by rfl)]
        refine wp_append_sle (.tmp 45) (.tmp 59) 41 rfl (w.heap.size) 81 ig (.agg #[.int .u8 0, .int .u8 0, .int .u8 0, .int .u8 0, .int .u8 0, .int .u8 0, .int .u8 0, .int .u8 0, .int .u8 0, .int .u8 0]) 10 Tryd.underlying41 hig hig0 hig1 hig2 rfl fxf_one _ (i) (c.fixed.take i) rfl xFw (some ⟨g59, 0, none⟩) (1) (1) ([x]) rfl lt (by unfold maxLen; omega) (by omega) lz_xF ?_
        intro v60 w9 own_ bb gw ofw
        have of60_p := ofw _ (hlt hp) of_xF_p
        have of60_r := ofw _ (hlt hr) of_xF_r
        have of60_xb := ofw _ (hlt hxb) of_xF_xb
        have of60_b59 := ofw _ (hlt hb59) of_xF_b59
        clear ofw
        replace hf := hf.under bl_hf bb
        replace ho := ho.under bl_ho bb
        clear lt
        replace hp := blk_own hp gw of_xF_p
        replace hr := blk_own hr gw of_xF_r
        replace hxb := blk_own hxb gw of_xF_xb
        replace hb59 := blk_own hb59 gw of_xF_b59
        clear gw
        replace bel := bel.trans (bb.mono xFlo)
        have lz_zF := Nat.le_trans lz_xF bb.size
        clear bb
        clear xF xFw lz_xF
        replace own_ : w9.ownsRow (w.heap.size) 81 10 v60 (i + 1) ((c.fixed.take i ++ [x] : List (Mc6 × Ad4)).flatMap fxf) := own_
        obtain ⟨A60, c60, rfl⟩ := owk_val own_
        have zFw := own_
        have zF := (owk_sle (by decide) fxf_len own_).1
        have fr_zF := (owk_sle (by decide) fxf_len own_).2
        clear own_
        have av_zF_p := owk_av zFw of60_p
        have av_zF_r := owk_av zFw of60_r
        have av_zF_xb := owk_av zFw of60_xb
        have av_zF_b59 := owk_av zFw of60_b59
        refine hK.out _ _ ⟨hp, hf⟩ (fun hH10 => ?_)
        clear hK K
        simp only [Act.put, List.setIfInBounds_toArray, List.set_cons_zero, List.set_cons_succ]
        refine wpAnyH_take (i := 17) (v := ?_) rfl (by kernel_rfl) (by kernel_rfl) (by kernel_rfl) (fun _ _ _ h => h) (Or.inl ⟨by rfl, ?_⟩) hH10 ?_
        rotate_left
        · ((intro W hW; clear hW; go_simp) <;> with_reducible rfl)
        simp only [Act.put, List.getElem_toArray, List.getElem_cons_zero, List.getElem_cons_succ, List.setIfInBounds_toArray, List.set_cons_zero, List.set_cons_succ]
        refine wpAnyH_ready (rs := [18]) (by kernel_rfl) (by simp) ?_
        refine AllReadyH.cons (o := _) rfl (fun K hK => ?_) AllReadyH.nil
        simp only [List.getElem_toArray, List.getElem_cons_zero, List.getElem_cons_succ]
        rw [if_pos (by rfl)]
        refine wp_store_part 41 (.tmp 61) (.tmp 60) rfl g3 38 rfl [.slice A60 (i + 1) c60] rfl [.int .u8 (c.own.a.toNat : Int), .int .u8 (c.own.b.toNat : Int), .int .u8 (c.own.c.toNat : Int), .int .u8 (c.own.d.toNat : Int), .int .u8 (c.lan.a.toNat : Int), .int .u8 (c.lan.b.toNat : Int), .int .u8 (c.lan.c.toNat : Int), .int .u8 (c.lan.d.toNat : Int), .int .i64 c.bits, .int .u8 (c.lanmac.a.toNat : Int), .int .u8 (c.lanmac.b.toNat : Int), .int .u8 (c.lanmac.c.toNat : Int), .int .u8 (c.lanmac.d.toNat : Int), .int .u8 (c.lanmac.e.toNat : Int), .int .u8 (c.lanmac.f.toNat : Int), .int .u8 (c.wanmac.a.toNat : Int), .int .u8 (c.wanmac.b.toNat : Int), .int .u8 (c.wanmac.c.toNat : Int), .int .u8 (c.wanmac.d.toNat : Int), .int .u8 (c.wanmac.e.toNat : Int), .int .u8 (c.wanmac.f.toNat : Int), .int .u8 (c.first.a.toNat : Int), .int .u8 (c.first.b.toNat : Int), .int .u8 (c.first.c.toNat : Int), .int .u8 (c.first.d.toNat : Int), .int .u8 (c.last.a.toNat : Int), .int .u8 (c.last.b.toNat : Int), .int .u8 (c.last.c.toNat : Int), .int .u8 (c.last.d.toNat : Int), .int .i64 c.time, .int .u8 (c.dns.a.toNat : Int), .int .u8 (c.dns.b.toNat : Int), .int .u8 (c.dns.c.toNat : Int), .int .u8 (c.dns.d.toNat : Int), .int .i64 c.udp, .int .i64 c.tcp, .int .i64 c.icmp, .int .i64 c.low, .slice AxF i cxF, .slice none 0 0] 44 hxb (by simp) [.int .u8 (c.own.a.toNat : Int), .int .u8 (c.own.b.toNat : Int), .int .u8 (c.own.c.toNat : Int), .int .u8 (c.own.d.toNat : Int), .int .u8 (c.lan.a.toNat : Int), .int .u8 (c.lan.b.toNat : Int), .int .u8 (c.lan.c.toNat : Int), .int .u8 (c.lan.d.toNat : Int), .int .i64 c.bits, .int .u8 (c.lanmac.a.toNat : Int), .int .u8 (c.lanmac.b.toNat : Int), .int .u8 (c.lanmac.c.toNat : Int), .int .u8 (c.lanmac.d.toNat : Int), .int .u8 (c.lanmac.e.toNat : Int), .int .u8 (c.lanmac.f.toNat : Int), .int .u8 (c.wanmac.a.toNat : Int), .int .u8 (c.wanmac.b.toNat : Int), .int .u8 (c.wanmac.c.toNat : Int), .int .u8 (c.wanmac.d.toNat : Int), .int .u8 (c.wanmac.e.toNat : Int), .int .u8 (c.wanmac.f.toNat : Int), .int .u8 (c.first.a.toNat : Int), .int .u8 (c.first.b.toNat : Int), .int .u8 (c.first.c.toNat : Int), .int .u8 (c.first.d.toNat : Int), .int .u8 (c.last.a.toNat : Int), .int .u8 (c.last.b.toNat : Int), .int .u8 (c.last.c.toNat : Int), .int .u8 (c.last.d.toNat : Int), .int .i64 c.time, .int .u8 (c.dns.a.toNat : Int), .int .u8 (c.dns.b.toNat : Int), .int .u8 (c.dns.c.toNat : Int), .int .u8 (c.dns.d.toNat : Int), .int .i64 c.udp, .int .i64 c.tcp, .int .i64 c.icmp, .int .i64 c.low, .slice A60 (i + 1) c60, .slice none 0 0] rfl (by kernel_rfl) (by rfl) ?_
        intro w11 hq gr
        replace hf := hf.away av_hf_xb gr
        replace ho := ho.away av_ho_xb gr
        replace zF := zF.away av_zF_xb gr
        replace zFw := owk_off zFw of60_xb gr
        replace lz_zF := Nat.le_trans lz_zF gr.size
        replace hp := blk_a hp gr d_p_xb
        replace hr := blk_a hr gr d_r_xb
        replace hb59 := blk_a hb59 gr (ne_symm d_xb_b59)
        replace bel := below_grown bel gr oxb bel.size
        clear hxb
        have hxb := hq
        clear hq gr
        refine hK.out _ _ ⟨hp, hf⟩ (fun hH12 => ?_)
        clear hK K
        simp only [Act.put]
        refine wpAnyH_done (by kernel_rfl) ?_ _
        go_wp2_with fail
        go_roundg (nf + 1 - (i + 1))
        case measure => have := HGK_.out; omega
        case rel => exact ⟨i + 1, A60, c60, rfl, by omega, by go_num, by have h_ := zFw; rw [← HT.out] at h_; exact h_, of60_p, of60_r, of60_xb, hp, hr, hxb, hf, ho, bel⟩
    · have hie : i = nf := by omega
      subst hie
      have hi3 : decide (i < i) = false := decide_eq_false hi2
      replace xFw : wr.ownsRow w.heap.size 81 10 (.slice AxF i cxF) i (c.fixed.flatMap fxf) := by have h_ := xFw; rw [List.take_of_length_le (by rw [hf.1]; exact Nat.le_refl _)] at h_; exact h_
      replace xF := (owk_sle (by decide) fxf_len xFw).1
      have frxF := fr_xF
      have R39 := cell_lit hp 38 _ rfl
      go_wp2_with fail
      clear R39
      have bl_xF := xF.bl_new
      have bl2_hf := hf.bl_new
      have bl2_ho := ho.bl_new
      have xOlo := bel.size
      obtain ⟨lo2, hlo2⟩ : ∃ k, wr.heap.size = k := ⟨_, rfl⟩
      rw [hlo2] at bl_xF bl2_hf bl2_ho xOlo
      have lz2 := Nat.le_of_eq hlo2.symm
      clear xFw lz_xF
      go_loopg [5] (nx + 1) (fun gk s5 wr => ∃ k : Nat, ∃ (AxO : Option Addr) (cxO : Nat), gk = nx + 1 - k ∧ k ≤ nx ∧ s5 = .int .i64 (k : Int) ∧ wr.ownsRow (lo2) 82 7 (.slice AxO (k) cxO) (k) ((c.opens.take k : List (Int × Int × Ad4 × Int)).flatMap opf) ∧ Ofs (.slice AxO (k) cxO) g1 ∧ Ofs (.slice AxO (k) cxO) g2 ∧ Ofs (.slice AxO (k) cxO) g3 ∧ lo2 ≤ wr.heap.size ∧ wr.heap[g1]? = some (.cells #[.int .u8 (c.own.a.toNat : Int), .int .u8 (c.own.b.toNat : Int), .int .u8 (c.own.c.toNat : Int), .int .u8 (c.own.d.toNat : Int), .int .u8 (c.lan.a.toNat : Int), .int .u8 (c.lan.b.toNat : Int), .int .u8 (c.lan.c.toNat : Int), .int .u8 (c.lan.d.toNat : Int), .int .i64 c.bits, .int .u8 (c.lanmac.a.toNat : Int), .int .u8 (c.lanmac.b.toNat : Int), .int .u8 (c.lanmac.c.toNat : Int), .int .u8 (c.lanmac.d.toNat : Int), .int .u8 (c.lanmac.e.toNat : Int), .int .u8 (c.lanmac.f.toNat : Int), .int .u8 (c.wanmac.a.toNat : Int), .int .u8 (c.wanmac.b.toNat : Int), .int .u8 (c.wanmac.c.toNat : Int), .int .u8 (c.wanmac.d.toNat : Int), .int .u8 (c.wanmac.e.toNat : Int), .int .u8 (c.wanmac.f.toNat : Int), .int .u8 (c.first.a.toNat : Int), .int .u8 (c.first.b.toNat : Int), .int .u8 (c.first.c.toNat : Int), .int .u8 (c.first.d.toNat : Int), .int .u8 (c.last.a.toNat : Int), .int .u8 (c.last.b.toNat : Int), .int .u8 (c.last.c.toNat : Int), .int .u8 (c.last.d.toNat : Int), .int .i64 c.time, .int .u8 (c.dns.a.toNat : Int), .int .u8 (c.dns.b.toNat : Int), .int .u8 (c.dns.c.toNat : Int), .int .u8 (c.dns.d.toNat : Int), .int .i64 c.udp, .int .i64 c.tcp, .int .i64 c.icmp, .int .i64 c.low, .slice Fx i cf, .slice Ox nx cx] 32 (0, 0)) ∧ wr.heap[g2]? = some (.cells #[.int .u8 0, .int .u8 0, .int .u8 0, .int .u8 0, .int .u8 0, .int .u8 0, .int .u8 0, .int .u8 0, .int .i64 0, .int .u8 0, .int .u8 0, .int .u8 0, .int .u8 0, .int .u8 0, .int .u8 0, .int .u8 0, .int .u8 0, .int .u8 0, .int .u8 0, .int .u8 0, .int .u8 0, .int .u8 0, .int .u8 0, .int .u8 0, .int .u8 0, .int .u8 0, .int .u8 0, .int .u8 0, .int .u8 0, .int .i64 0, .int .u8 0, .int .u8 0, .int .u8 0, .int .u8 0, .int .i64 0, .int .i64 0, .int .i64 0, .int .i64 0, .slice none 0 0, .slice none 0 0] 44 (0, 0)) ∧ wr.heap[g3]? = some (.cells #[.int .u8 (c.own.a.toNat : Int), .int .u8 (c.own.b.toNat : Int), .int .u8 (c.own.c.toNat : Int), .int .u8 (c.own.d.toNat : Int), .int .u8 (c.lan.a.toNat : Int), .int .u8 (c.lan.b.toNat : Int), .int .u8 (c.lan.c.toNat : Int), .int .u8 (c.lan.d.toNat : Int), .int .i64 c.bits, .int .u8 (c.lanmac.a.toNat : Int), .int .u8 (c.lanmac.b.toNat : Int), .int .u8 (c.lanmac.c.toNat : Int), .int .u8 (c.lanmac.d.toNat : Int), .int .u8 (c.lanmac.e.toNat : Int), .int .u8 (c.lanmac.f.toNat : Int), .int .u8 (c.wanmac.a.toNat : Int), .int .u8 (c.wanmac.b.toNat : Int), .int .u8 (c.wanmac.c.toNat : Int), .int .u8 (c.wanmac.d.toNat : Int), .int .u8 (c.wanmac.e.toNat : Int), .int .u8 (c.wanmac.f.toNat : Int), .int .u8 (c.first.a.toNat : Int), .int .u8 (c.first.b.toNat : Int), .int .u8 (c.first.c.toNat : Int), .int .u8 (c.first.d.toNat : Int), .int .u8 (c.last.a.toNat : Int), .int .u8 (c.last.b.toNat : Int), .int .u8 (c.last.c.toNat : Int), .int .u8 (c.last.d.toNat : Int), .int .i64 c.time, .int .u8 (c.dns.a.toNat : Int), .int .u8 (c.dns.b.toNat : Int), .int .u8 (c.dns.c.toNat : Int), .int .u8 (c.dns.d.toNat : Int), .int .i64 c.udp, .int .i64 c.tcp, .int .i64 c.icmp, .int .i64 c.low, .slice AxF i cxF, .slice AxO k cxO] 44 (0, 0)) ∧ Sle fxf 10 wr (Fx) (i) (cf) (c.fixed) ∧ Sle opf 7 wr (Ox) (nx) (cx) (c.opens) ∧ Sle fxf 10 wr (AxF) (i) (cxF) (c.fixed) ∧ Below w.heap.size w wr)
      case atStart => exact ⟨0, none, 0, rfl, Nat.zero_le _, rfl, owk_nil _ _ _, (fun g h => by simp [Value.ownBlock] at h), (fun g h => by simp [Value.ownBlock] at h), (fun g h => by simp [Value.ownBlock] at h), lz2, hp, hr, hxb, hf, ho, xF, bel⟩
      case round =>
        clear hp hr hxb hf ho xF bel
        obtain ⟨k, AxO, cxO, HGK, hk, rfl, xOw, of_xO_p, of_xO_r, of_xO_xb, lz_xO, hp, hr, hxb, hf, ho, xF, bel⟩ := hrel
        have HGK_ := Lib.hid HGK
        clear HGK
        have xO := (owk_sle (by decide) opf_len xOw).1
        have fr_xO := (owk_sle (by decide) opf_len xOw).2
        have av_xO_p := owk_av xOw of_xO_p
        have av_xO_r := owk_av xOw of_xO_r
        have av_xO_xb := owk_av xOw of_xO_xb
        have k0 : (0 : Int) ≤ k := by omega
        have k1 : (k : Int) ≤ 100000 := by omega
        by_cases hk2 : k < nx
        · obtain ⟨gO, oO, hF⟩ := ho.place (by omega)
          subst hF
          obtain ⟨x, hx⟩ : ∃ x, c.opens[k]? = some x := ⟨_, List.getElem?_eq_getElem (by rw [ho.1]; exact hk2)⟩
          have HX := Lib.hid hx
          have HT := Lib.hid (take_snoc hx)
          clear hx
          have R64 := cell_lit hp 39 _ rfl
          have R70 := cell_lit hp 39 _ rfl
          have R73 := Lib.hid (Sle.range0 ho HX.out 7 [.int .i64 x.1, .int .i64 x.2.1, .int .u8 (x.2.2.1.a.toNat : Int), .int .u8 (x.2.2.1.b.toNat : Int), .int .u8 (x.2.2.1.c.toNat : Int), .int .u8 (x.2.2.1.d.toNat : Int), .int .i64 x.2.2.2] rfl)
          go_wp2_with (first | ((with_reducible show wpList _ _ _ (⟨some 73, _, _, _, _, _⟩ :: _) _ _); refine wpList_load_rng 38 (.tmp 72) rfl (by kernel_rfl) _ _ rfl _ R73.out _ Tryd.underlying38 rfl (by kernel_rfl) ?_) | ((with_reducible show wpList _ _ _ (⟨some 6, _, _, _, _, _⟩ :: _) _ _); refine wpList_new_a rfl 38 rfl #[.int .i64 0, .int .i64 0, .int .u8 0, .int .u8 0, .int .u8 0, .int .u8 0, .int .i64 0] (by kernel_rfl) ?_; intro g6 w5 ge hh bb; have d_p_y := ne_new (hlt hp) ge; have d_r_y := ne_new (hlt hr) ge; have d_xb_y := ne_new (hlt hxb) ge; have av_hf_y := hf.av_new ge; have av_ho_y := ho.av_new ge; have av_xF_y := xF.av_new ge; have av_xO_y := xO.av_new ge; have of_xO_y := owk_new xOw ge; have oy := Nat.le_trans bel.size ge; replace hp := blk_u hp bb; replace hr := blk_u hr bb; replace hxb := blk_u hxb bb; replace hf := hf.below bb; replace ho := ho.below bb; replace xF := xF.below bb; replace xO := xO.below bb; replace xOw := owk_under xOw bb; replace lz_xO := Nat.le_trans lz_xO bb.size; replace bel := bel.trans (bb.mono bel.size); have hy := hh; clear hh ge bb) | ((with_reducible show wpList _ _ _ (⟨none, Op.store _ (.tmp 6) _, _, _, _, _⟩ :: _) _ _); refine wpList_store_blk rfl 38 (.tmp 6) (.tmp 73) rfl g6 rfl _ rfl _ 38 hy (by rfl) (by kernel_rfl) (by kernel_rfl) ?_; intro w6 hq gr; replace hf := hf.away av_hf_y gr; replace ho := ho.away av_ho_y gr; replace xF := xF.away av_xF_y gr; replace xO := xO.away av_xO_y gr; replace xOw := owk_off xOw of_xO_y gr; replace lz_xO := Nat.le_trans lz_xO gr.size; replace hp := blk_a hp gr d_p_y; replace hr := blk_a hr gr d_r_y; replace hxb := blk_a hxb gr d_xb_y; replace bel := below_grown bel gr oy bel.size; clear hy; have hy := hq; clear hq gr; have R75 := cell_lit hxb 39 _ rfl; have R77 := cell_lit hy 0 _ rfl; have R79 := cell_lit hy 1 _ rfl; have R81 := Lib.hid (range_lit hy 2 4 [.int .u8 (x.2.2.1.a.toNat : Int), .int .u8 (x.2.2.1.b.toNat : Int), .int .u8 (x.2.2.1.c.toNat : Int), .int .u8 (x.2.2.1.d.toNat : Int)] rfl)) | ((with_reducible show wpList _ _ _ (⟨some 81, _, _, _, _, _⟩ :: _) _ _); refine wpList_load_rng 24 (.tmp 80) rfl (by kernel_rfl) _ _ rfl _ R81.out _ Tryd.underlying24 rfl (by kernel_rfl) ?_; have R83 := cell_lit hy 6 _ rfl) | ((with_reducible show wpList _ _ _ (⟨some 85, _, _, _, _, _⟩ :: _) _ _); refine wpList_lit_n rfl 42 82 1 _ rfl #[.int .i64 x.1, .int .i64 x.2.1, .int .u8 (x.2.2.1.a.toNat : Int), .int .u8 (x.2.2.1.b.toNat : Int), .int .u8 (x.2.2.1.c.toNat : Int), .int .u8 (x.2.2.1.d.toNat : Int), .int .i64 x.2.2.2] (.agg #[.int .i64 0, .int .i64 0, .int .u8 0, .int .u8 0, .int .u8 0, .int .u8 0, .int .i64 0]) Tryd.underlying42 (by kernel_rfl) 7 (by kernel_rfl) (by decide) (by kernel_rfl) ?_; intro g85 w7 ge lt hh bb; have d_p_b85 := ne_new (hlt hp) ge; have d_r_b85 := ne_new (hlt hr) ge; have d_xb_b85 := ne_new (hlt hxb) ge; have d_y_b85 := ne_new (hlt hy) ge; have av_hf_b85 := hf.av_new ge; have av_ho_b85 := ho.av_new ge; have av_xF_b85 := xF.av_new ge; have av_xO_b85 := xO.av_new ge; have of_xO_b85 := owk_new xOw ge; have ob85 := Nat.le_trans bel.size ge; replace hp := blk_u hp bb; replace hr := blk_u hr bb; replace hxb := blk_u hxb bb; replace hy := blk_u hy bb; replace hf := hf.below bb; replace ho := ho.below bb; replace xF := xF.below bb; replace xO := xO.below bb; replace xOw := owk_under xOw bb; replace lz_xO := Nat.le_trans lz_xO bb.size; replace bel := bel.trans (bb.mono bel.size); have hb85 := hh; clear hh lt ge bb; have lt : Sle opf 7 w7 (some ⟨g85, 0, none⟩) (1) (1) ([x]) := sle_lit ([x]) (by decide) opf_len hb85 rfl (by simp [maxLen])) | ((with_reducible show wpList _ _ _ (⟨some 86, _, _, _, _, _⟩ :: _) _ _); refine wpList_append_sle rfl (.tmp 75) (.tmp 85) 42 rfl (lo2) 82 ih (.agg #[.int .i64 0, .int .i64 0, .int .u8 0, .int .u8 0, .int .u8 0, .int .u8 0, .int .i64 0]) 32 Tryd.underlying42 hih hih0 hih1 hih2 rfl opf_one _ (k) (c.opens.take k) rfl xOw (some ⟨g85, 0, none⟩) (1) (1) ([x]) rfl lt (by unfold maxLen; omega) (by omega) lz_xO ?_; intro v86 w8 own_ bb gw ofw; have of86_p := ofw _ (hlt hp) of_xO_p; have of86_r := ofw _ (hlt hr) of_xO_r; have of86_xb := ofw _ (hlt hxb) of_xO_xb; have of86_y := ofw _ (hlt hy) of_xO_y; have of86_b85 := ofw _ (hlt hb85) of_xO_b85; clear ofw; replace hf := hf.under bl2_hf bb; replace ho := ho.under bl2_ho bb; replace xF := xF.under bl_xF bb; clear lt; replace hp := blk_own hp gw of_xO_p; replace hr := blk_own hr gw of_xO_r; replace hxb := blk_own hxb gw of_xO_xb; replace hy := blk_own hy gw of_xO_y; replace hb85 := blk_own hb85 gw of_xO_b85; clear gw; replace bel := bel.trans (bb.mono xOlo); have lz_zO := Nat.le_trans lz_xO bb.size; clear bb; clear xO xOw lz_xO; replace own_ : w8.ownsRow (lo2) 82 7 v86 (k + 1) ((c.opens.take k ++ [x] : List (Int × Int × Ad4 × Int)).flatMap opf) := own_; obtain ⟨A86, c86, rfl⟩ := owk_val own_; have zOw := own_; have zO := (owk_sle (by decide) opf_len own_).1; have fr_zO := (owk_sle (by decide) opf_len own_).2; clear own_; have av_zO_p := owk_av zOw of86_p; have av_zO_r := owk_av zOw of86_r; have av_zO_xb := owk_av zOw of86_xb; have av_zO_y := owk_av zOw of86_y; have av_zO_b85 := owk_av zOw of86_b85) | ((with_reducible show wpList _ _ _ (⟨none, Op.store _ (.tmp 87) _, _, _, _, _⟩ :: _) _ _); refine wpList_store_part rfl 42 (.tmp 87) (.tmp 86) rfl g3 39 rfl [.slice A86 (k + 1) c86] rfl [.int .u8 (c.own.a.toNat : Int), .int .u8 (c.own.b.toNat : Int), .int .u8 (c.own.c.toNat : Int), .int .u8 (c.own.d.toNat : Int), .int .u8 (c.lan.a.toNat : Int), .int .u8 (c.lan.b.toNat : Int), .int .u8 (c.lan.c.toNat : Int), .int .u8 (c.lan.d.toNat : Int), .int .i64 c.bits, .int .u8 (c.lanmac.a.toNat : Int), .int .u8 (c.lanmac.b.toNat : Int), .int .u8 (c.lanmac.c.toNat : Int), .int .u8 (c.lanmac.d.toNat : Int), .int .u8 (c.lanmac.e.toNat : Int), .int .u8 (c.lanmac.f.toNat : Int), .int .u8 (c.wanmac.a.toNat : Int), .int .u8 (c.wanmac.b.toNat : Int), .int .u8 (c.wanmac.c.toNat : Int), .int .u8 (c.wanmac.d.toNat : Int), .int .u8 (c.wanmac.e.toNat : Int), .int .u8 (c.wanmac.f.toNat : Int), .int .u8 (c.first.a.toNat : Int), .int .u8 (c.first.b.toNat : Int), .int .u8 (c.first.c.toNat : Int), .int .u8 (c.first.d.toNat : Int), .int .u8 (c.last.a.toNat : Int), .int .u8 (c.last.b.toNat : Int), .int .u8 (c.last.c.toNat : Int), .int .u8 (c.last.d.toNat : Int), .int .i64 c.time, .int .u8 (c.dns.a.toNat : Int), .int .u8 (c.dns.b.toNat : Int), .int .u8 (c.dns.c.toNat : Int), .int .u8 (c.dns.d.toNat : Int), .int .i64 c.udp, .int .i64 c.tcp, .int .i64 c.icmp, .int .i64 c.low, .slice AxF i cxF, .slice AxO k cxO] 44 hxb (by simp) [.int .u8 (c.own.a.toNat : Int), .int .u8 (c.own.b.toNat : Int), .int .u8 (c.own.c.toNat : Int), .int .u8 (c.own.d.toNat : Int), .int .u8 (c.lan.a.toNat : Int), .int .u8 (c.lan.b.toNat : Int), .int .u8 (c.lan.c.toNat : Int), .int .u8 (c.lan.d.toNat : Int), .int .i64 c.bits, .int .u8 (c.lanmac.a.toNat : Int), .int .u8 (c.lanmac.b.toNat : Int), .int .u8 (c.lanmac.c.toNat : Int), .int .u8 (c.lanmac.d.toNat : Int), .int .u8 (c.lanmac.e.toNat : Int), .int .u8 (c.lanmac.f.toNat : Int), .int .u8 (c.wanmac.a.toNat : Int), .int .u8 (c.wanmac.b.toNat : Int), .int .u8 (c.wanmac.c.toNat : Int), .int .u8 (c.wanmac.d.toNat : Int), .int .u8 (c.wanmac.e.toNat : Int), .int .u8 (c.wanmac.f.toNat : Int), .int .u8 (c.first.a.toNat : Int), .int .u8 (c.first.b.toNat : Int), .int .u8 (c.first.c.toNat : Int), .int .u8 (c.first.d.toNat : Int), .int .u8 (c.last.a.toNat : Int), .int .u8 (c.last.b.toNat : Int), .int .u8 (c.last.c.toNat : Int), .int .u8 (c.last.d.toNat : Int), .int .i64 c.time, .int .u8 (c.dns.a.toNat : Int), .int .u8 (c.dns.b.toNat : Int), .int .u8 (c.dns.c.toNat : Int), .int .u8 (c.dns.d.toNat : Int), .int .i64 c.udp, .int .i64 c.tcp, .int .i64 c.icmp, .int .i64 c.low, .slice AxF i cxF, .slice A86 (k + 1) c86] rfl (by kernel_rfl) (by rfl) ?_; intro w9 hq gr; replace hf := hf.away av_hf_xb gr; replace ho := ho.away av_ho_xb gr; replace xF := xF.away av_xF_xb gr; replace zO := zO.away av_zO_xb gr; replace zOw := owk_off zOw of86_xb gr; replace lz_zO := Nat.le_trans lz_zO gr.size; replace hp := blk_a hp gr d_p_xb; replace hr := blk_a hr gr d_r_xb; replace hy := blk_a hy gr (ne_symm d_xb_y); replace hb85 := blk_a hb85 gr (ne_symm d_xb_b85); replace bel := below_grown bel gr oxb bel.size; clear hxb; have hxb := hq; clear hq gr))
          try clear R64
          try clear R70
          try clear R73
          try clear R75
          try clear R77
          try clear R79
          try clear R81
          try clear R83
          go_roundg (nx + 1 - (k + 1))
          case measure => have := HGK_.out; omega
          case rel => exact ⟨k + 1, A86, c86, rfl, by omega, by go_num, by have h_ := zOw; rw [← HT.out] at h_; exact h_, of86_p, of86_r, of86_xb, lz_zO, hp, hr, hxb, hf, ho, xF, bel⟩
        · have hke : k = nx := by omega
          subst hke
          have hk3 : decide (k < k) = false := decide_eq_false hk2
          have R64 := cell_lit hp 39 _ rfl
          have R88 := Lib.hid (range_lit hxb 0 40 [.int .u8 (c.own.a.toNat : Int), .int .u8 (c.own.b.toNat : Int), .int .u8 (c.own.c.toNat : Int), .int .u8 (c.own.d.toNat : Int), .int .u8 (c.lan.a.toNat : Int), .int .u8 (c.lan.b.toNat : Int), .int .u8 (c.lan.c.toNat : Int), .int .u8 (c.lan.d.toNat : Int), .int .i64 c.bits, .int .u8 (c.lanmac.a.toNat : Int), .int .u8 (c.lanmac.b.toNat : Int), .int .u8 (c.lanmac.c.toNat : Int), .int .u8 (c.lanmac.d.toNat : Int), .int .u8 (c.lanmac.e.toNat : Int), .int .u8 (c.lanmac.f.toNat : Int), .int .u8 (c.wanmac.a.toNat : Int), .int .u8 (c.wanmac.b.toNat : Int), .int .u8 (c.wanmac.c.toNat : Int), .int .u8 (c.wanmac.d.toNat : Int), .int .u8 (c.wanmac.e.toNat : Int), .int .u8 (c.wanmac.f.toNat : Int), .int .u8 (c.first.a.toNat : Int), .int .u8 (c.first.b.toNat : Int), .int .u8 (c.first.c.toNat : Int), .int .u8 (c.first.d.toNat : Int), .int .u8 (c.last.a.toNat : Int), .int .u8 (c.last.b.toNat : Int), .int .u8 (c.last.c.toNat : Int), .int .u8 (c.last.d.toNat : Int), .int .i64 c.time, .int .u8 (c.dns.a.toNat : Int), .int .u8 (c.dns.b.toNat : Int), .int .u8 (c.dns.c.toNat : Int), .int .u8 (c.dns.d.toNat : Int), .int .i64 c.udp, .int .i64 c.tcp, .int .i64 c.icmp, .int .i64 c.low, .slice AxF i cxF, .slice AxO k cxO] rfl)
          go_wp2_with (first | ((with_reducible show wpList _ _ _ (⟨some 88, _, _, _, _, _⟩ :: _) _ _); refine wpList_load_rng 44 (.tmp 3) rfl (by kernel_rfl) _ _ rfl _ R88.out _ Tryd.underlying44 rfl (by kernel_rfl) ?_) | ((with_reducible show wpList _ _ _ (⟨none, Op.store _ (.tmp 2) _, _, _, _, _⟩ :: _) _ _); refine wpList_store_blk rfl 44 (.tmp 2) (.tmp 88) rfl g2 rfl _ rfl _ 44 hr (by rfl) (by kernel_rfl) (by kernel_rfl) ?_; intro w5 hq gr; replace hf := hf.away av_hf_r gr; replace ho := ho.away av_ho_r gr; replace xF := xF.away av_xF_r gr; replace xO := xO.away av_xO_r gr; replace xOw := owk_off xOw of_xO_r gr; replace lz_xO := Nat.le_trans lz_xO gr.size; replace hp := blk_a hp gr d_p_r; replace hxb := blk_a hxb gr (ne_symm d_r_xb); replace bel := below_grown bel gr or bel.size; clear hr; have hr := hq; clear hq gr))
          try clear R64
          try clear R88
          exact bodyPost_ret (results_cell_row' rfl _ _ _ _ _ _ _ rfl hr Tryd.underlying44 rfl (by kernel_rfl)) rfl ⟨AxF, i, cxF, AxO, k, cxO, rfl, xF, by have h_ := xO; rw [List.take_of_length_le (by rw [ho.1]; exact Nat.le_refl _)] at h_; exact h_, frxF, fr_xO.mono xOlo, bel⟩
theorem ad_neq_self (x : Ad4) (W : World) : (binOp .neq 24 (.agg #[.int .u8 (x.a.toNat : Int), .int .u8 (x.b.toNat : Int), .int .u8 (x.c.toNat : Int), .int .u8 (x.d.toNat : Int)]) (.agg #[.int .u8 (x.a.toNat : Int), .int .u8 (x.b.toNat : Int), .int .u8 (x.c.toNat : Int), .int .u8 (x.d.toNat : Int)])).run Tryd.prog W = .ok (.bool false) W := by
  rw [ad_neq2, beq_self_eq_true]; rfl
theorem mc_neq_self (x : Mc6) (W : World) : (binOp .neq 28 (.agg #[.int .u8 (x.a.toNat : Int), .int .u8 (x.b.toNat : Int), .int .u8 (x.c.toNat : Int), .int .u8 (x.d.toNat : Int), .int .u8 (x.e.toNat : Int), .int .u8 (x.f.toNat : Int)]) (.agg #[.int .u8 (x.a.toNat : Int), .int .u8 (x.b.toNat : Int), .int .u8 (x.c.toNat : Int), .int .u8 (x.d.toNat : Int), .int .u8 (x.e.toNat : Int), .int .u8 (x.f.toNat : Int)])).run Tryd.prog W = .ok (.bool false) W := by
  have h := run_equalIn_bytes (P := Tryd.prog) W 9998 28 5 6 (by kernel_rfl) (by kernel_rfl) (fun w => by kernel_rfl) x.l x.l rfl rfl
  rw [beq_self_eq_true] at h
  rw [run_neq_struct]
  exact congrArg (fun r => Result.andThen r _) h
theorem fix_neq_self (x : Mc6 × Ad4) (W : World) : (binOp .neq 81 (.agg #[.int .u8 (x.1.a.toNat : Int), .int .u8 (x.1.b.toNat : Int), .int .u8 (x.1.c.toNat : Int), .int .u8 (x.1.d.toNat : Int), .int .u8 (x.1.e.toNat : Int), .int .u8 (x.1.f.toNat : Int), .int .u8 (x.2.a.toNat : Int), .int .u8 (x.2.b.toNat : Int), .int .u8 (x.2.c.toNat : Int), .int .u8 (x.2.d.toNat : Int)]) (.agg #[.int .u8 (x.1.a.toNat : Int), .int .u8 (x.1.b.toNat : Int), .int .u8 (x.1.c.toNat : Int), .int .u8 (x.1.d.toNat : Int), .int .u8 (x.1.e.toNat : Int), .int .u8 (x.1.f.toNat : Int), .int .u8 (x.2.a.toNat : Int), .int .u8 (x.2.b.toNat : Int), .int .u8 (x.2.c.toNat : Int), .int .u8 (x.2.d.toNat : Int)])).run Tryd.prog W = .ok (.bool false) W := by
  have h6 := self_mc
  have h4 := self_ad
  rw [run_neq_struct, run_equalIn_agg W 9999 81 _ _ (by kernel_rfl) (by kernel_rfl)]
  simp [go_sem, h4, h6]
theorem opn_neq_self (x : Int × Int × Ad4 × Int) (W : World) : (binOp .neq 82 (.agg #[.int .i64 x.1, .int .i64 x.2.1, .int .u8 (x.2.2.1.a.toNat : Int), .int .u8 (x.2.2.1.b.toNat : Int), .int .u8 (x.2.2.1.c.toNat : Int), .int .u8 (x.2.2.1.d.toNat : Int), .int .i64 x.2.2.2]) (.agg #[.int .i64 x.1, .int .i64 x.2.1, .int .u8 (x.2.2.1.a.toNat : Int), .int .u8 (x.2.2.1.b.toNat : Int), .int .u8 (x.2.2.1.c.toNat : Int), .int .u8 (x.2.2.1.d.toNat : Int), .int .i64 x.2.2.2])).run Tryd.prog W = .ok (.bool false) W := by
  have h4 := self_ad
  rw [run_neq_struct, run_equalIn_agg W 9999 82 _ _ (by kernel_rfl) (by kernel_rfl)]
  simp [go_sem, h4]
theorem fix_guard (op : BinOp) (y z : Operand) (a b : Array Value) (W : World) : (eqGuard op 81 y z (.agg a) (.agg b)).run Tryd.prog W = .ok () W := run_eqGuard_agg W op 81 y z _ _ (by kernel_rfl)
theorem opn_guard (op : BinOp) (y z : Operand) (a b : Array Value) (W : World) : (eqGuard op 82 y z (.agg a) (.agg b)).run Tryd.prog W = .ok () W := run_eqGuard_agg W op 82 y z _ _ (by kernel_rfl)
set_option linter.unusedVariables false in
set_option linter.unusedSimpArgs false in
set_option maxRecDepth 100000 in
set_option maxHeartbeats 16000000 in
theorem same_n (c : Cf) (Fx : Option Addr) (nf cf : Nat) (Ox : Option Addr) (nx cx : Nat) (Gx : Option Addr) (cg : Nat) (Hx : Option Addr) (ch : Nat) (w : World) (hf : Sle fxf 10 w Fx nf cf c.fixed) (ho : Sle opf 7 w Ox nx cx c.opens) (hg : Sle fxf 10 w Gx nf cg c.fixed) (hh2 : Sle opf 7 w Hx nx ch c.opens) (hnf : nf ≤ 1000) (hnx : nx ≤ 1000) : Calls Tryd.prog 10 #[.agg (cfl c Fx nf cf Ox nx cx).toArray, .agg (cfl c Gx nf cg Hx nx ch).toArray] w fun e w' => e = .returned (.bool true) ∧ Below w.heap.size w w' := by
  have gd2 := ad_guard2
  have gd3 := mc_guard2
  have gd4 := fix_guard
  have gd5 := opn_guard
  have nA := ad_neq_self
  have nM := mc_neq_self
  have nF := fix_neq_self
  have nO := opn_neq_self
  have bel := Below.refl w.heap.size w
  go_enter Tryd.func10, Tryd.ntmps10
  go_upto_region 1 with (first | ((with_reducible show wpList _ _ _ (⟨some 2, _, _, _, _, _⟩ :: _) _ _); refine wpList_box_n rfl 44 (.tmp 0) rfl (cfl c Fx nf cf Ox nx cx).toArray rfl ?_; intro g2 w1 ge lt hh bb; have av_hf_pa := hf.av_new ge; have av_ho_pa := ho.av_new ge; have av_hg_pa := hg.av_new ge; have av_hh2_pa := hh2.av_new ge; have opa := Nat.le_trans bel.size ge; replace hf := hf.below bb; replace ho := ho.below bb; replace hg := hg.below bb; replace hh2 := hh2.below bb; replace bel := bel.trans (bb.mono bel.size); have hpa := hh; clear hh lt ge bb) | ((with_reducible show wpList _ _ _ (⟨some 3, _, _, _, _, _⟩ :: _) _ _); refine wpList_box_n rfl 44 (.tmp 1) rfl (cfl c Gx nf cg Hx nx ch).toArray rfl ?_; intro g3 w2 ge lt hh bb; have d_pa_pb := ne_new (hlt hpa) ge; have av_hf_pb := hf.av_new ge; have av_ho_pb := ho.av_new ge; have av_hg_pb := hg.av_new ge; have av_hh2_pb := hh2.av_new ge; have opb := Nat.le_trans bel.size ge; replace hpa := blk_u hpa bb; replace hf := hf.below bb; replace ho := ho.below bb; replace hg := hg.below bb; replace hh2 := hh2.below bb; replace bel := bel.trans (bb.mono bel.size); have hpb := hh; clear hh lt ge bb))
  simp only [List.append_eq, List.cons_append, List.nil_append]
  have R8 := Lib.hid (range_lit hpa 0 4 [.int .u8 (c.own.a.toNat : Int), .int .u8 (c.own.b.toNat : Int), .int .u8 (c.own.c.toNat : Int), .int .u8 (c.own.d.toNat : Int)] rfl)
  go_wp2_with (first | ((with_reducible show wpList _ _ _ (⟨some 8, _, _, _, _, _⟩ :: _) _ _); refine wpList_load_rng 24 (.tmp 7) rfl (by kernel_rfl) _ _ rfl _ R8.out _ Tryd.underlying24 rfl (by kernel_rfl) ?_; have R10 := Lib.hid (range_lit hpb 0 4 [.int .u8 (c.own.a.toNat : Int), .int .u8 (c.own.b.toNat : Int), .int .u8 (c.own.c.toNat : Int), .int .u8 (c.own.d.toNat : Int)] rfl)) | ((with_reducible show wpList _ _ _ (⟨some 10, _, _, _, _, _⟩ :: _) _ _); refine wpList_load_rng 24 (.tmp 9) rfl (by kernel_rfl) _ _ rfl _ R10.out _ Tryd.underlying24 rfl (by kernel_rfl) ?_; have R15 := Lib.hid (range_lit hpa 4 4 [.int .u8 (c.lan.a.toNat : Int), .int .u8 (c.lan.b.toNat : Int), .int .u8 (c.lan.c.toNat : Int), .int .u8 (c.lan.d.toNat : Int)] rfl)) | ((with_reducible show wpList _ _ _ (⟨some 15, _, _, _, _, _⟩ :: _) _ _); refine wpList_load_rng 24 (.tmp 14) rfl (by kernel_rfl) _ _ rfl _ R15.out _ Tryd.underlying24 rfl (by kernel_rfl) ?_; have R18 := Lib.hid (range_lit hpb 4 4 [.int .u8 (c.lan.a.toNat : Int), .int .u8 (c.lan.b.toNat : Int), .int .u8 (c.lan.c.toNat : Int), .int .u8 (c.lan.d.toNat : Int)] rfl)) | ((with_reducible show wpList _ _ _ (⟨some 18, _, _, _, _, _⟩ :: _) _ _); refine wpList_load_rng 24 (.tmp 17) rfl (by kernel_rfl) _ _ rfl _ R18.out _ Tryd.underlying24 rfl (by kernel_rfl) ?_; have R24 := cell_lit hpa 8 _ rfl; have R27 := cell_lit hpb 8 _ rfl; have R32 := Lib.hid (range_lit hpa 9 6 [.int .u8 (c.lanmac.a.toNat : Int), .int .u8 (c.lanmac.b.toNat : Int), .int .u8 (c.lanmac.c.toNat : Int), .int .u8 (c.lanmac.d.toNat : Int), .int .u8 (c.lanmac.e.toNat : Int), .int .u8 (c.lanmac.f.toNat : Int)] rfl)) | ((with_reducible show wpList _ _ _ (⟨some 32, _, _, _, _, _⟩ :: _) _ _); refine wpList_load_rng 28 (.tmp 31) rfl (by kernel_rfl) _ _ rfl _ R32.out _ Tryd.underlying28 rfl (by kernel_rfl) ?_; have R34 := Lib.hid (range_lit hpb 9 6 [.int .u8 (c.lanmac.a.toNat : Int), .int .u8 (c.lanmac.b.toNat : Int), .int .u8 (c.lanmac.c.toNat : Int), .int .u8 (c.lanmac.d.toNat : Int), .int .u8 (c.lanmac.e.toNat : Int), .int .u8 (c.lanmac.f.toNat : Int)] rfl)) | ((with_reducible show wpList _ _ _ (⟨some 34, _, _, _, _, _⟩ :: _) _ _); refine wpList_load_rng 28 (.tmp 33) rfl (by kernel_rfl) _ _ rfl _ R34.out _ Tryd.underlying28 rfl (by kernel_rfl) ?_; have R39 := Lib.hid (range_lit hpa 15 6 [.int .u8 (c.wanmac.a.toNat : Int), .int .u8 (c.wanmac.b.toNat : Int), .int .u8 (c.wanmac.c.toNat : Int), .int .u8 (c.wanmac.d.toNat : Int), .int .u8 (c.wanmac.e.toNat : Int), .int .u8 (c.wanmac.f.toNat : Int)] rfl)) | ((with_reducible show wpList _ _ _ (⟨some 39, _, _, _, _, _⟩ :: _) _ _); refine wpList_load_rng 28 (.tmp 38) rfl (by kernel_rfl) _ _ rfl _ R39.out _ Tryd.underlying28 rfl (by kernel_rfl) ?_; have R41 := Lib.hid (range_lit hpb 15 6 [.int .u8 (c.wanmac.a.toNat : Int), .int .u8 (c.wanmac.b.toNat : Int), .int .u8 (c.wanmac.c.toNat : Int), .int .u8 (c.wanmac.d.toNat : Int), .int .u8 (c.wanmac.e.toNat : Int), .int .u8 (c.wanmac.f.toNat : Int)] rfl)) | ((with_reducible show wpList _ _ _ (⟨some 41, _, _, _, _, _⟩ :: _) _ _); refine wpList_load_rng 28 (.tmp 40) rfl (by kernel_rfl) _ _ rfl _ R41.out _ Tryd.underlying28 rfl (by kernel_rfl) ?_; have R46 := Lib.hid (range_lit hpa 21 4 [.int .u8 (c.first.a.toNat : Int), .int .u8 (c.first.b.toNat : Int), .int .u8 (c.first.c.toNat : Int), .int .u8 (c.first.d.toNat : Int)] rfl)) | ((with_reducible show wpList _ _ _ (⟨some 46, _, _, _, _, _⟩ :: _) _ _); refine wpList_load_rng 24 (.tmp 45) rfl (by kernel_rfl) _ _ rfl _ R46.out _ Tryd.underlying24 rfl (by kernel_rfl) ?_; have R48 := Lib.hid (range_lit hpb 21 4 [.int .u8 (c.first.a.toNat : Int), .int .u8 (c.first.b.toNat : Int), .int .u8 (c.first.c.toNat : Int), .int .u8 (c.first.d.toNat : Int)] rfl)) | ((with_reducible show wpList _ _ _ (⟨some 48, _, _, _, _, _⟩ :: _) _ _); refine wpList_load_rng 24 (.tmp 47) rfl (by kernel_rfl) _ _ rfl _ R48.out _ Tryd.underlying24 rfl (by kernel_rfl) ?_; have R53 := Lib.hid (range_lit hpa 25 4 [.int .u8 (c.last.a.toNat : Int), .int .u8 (c.last.b.toNat : Int), .int .u8 (c.last.c.toNat : Int), .int .u8 (c.last.d.toNat : Int)] rfl)) | ((with_reducible show wpList _ _ _ (⟨some 53, _, _, _, _, _⟩ :: _) _ _); refine wpList_load_rng 24 (.tmp 52) rfl (by kernel_rfl) _ _ rfl _ R53.out _ Tryd.underlying24 rfl (by kernel_rfl) ?_; have R55 := Lib.hid (range_lit hpb 25 4 [.int .u8 (c.last.a.toNat : Int), .int .u8 (c.last.b.toNat : Int), .int .u8 (c.last.c.toNat : Int), .int .u8 (c.last.d.toNat : Int)] rfl)) | ((with_reducible show wpList _ _ _ (⟨some 55, _, _, _, _, _⟩ :: _) _ _); refine wpList_load_rng 24 (.tmp 54) rfl (by kernel_rfl) _ _ rfl _ R55.out _ Tryd.underlying24 rfl (by kernel_rfl) ?_; have R60 := cell_lit hpa 29 _ rfl; have R62 := cell_lit hpb 29 _ rfl; have R67 := Lib.hid (range_lit hpa 30 4 [.int .u8 (c.dns.a.toNat : Int), .int .u8 (c.dns.b.toNat : Int), .int .u8 (c.dns.c.toNat : Int), .int .u8 (c.dns.d.toNat : Int)] rfl)) | ((with_reducible show wpList _ _ _ (⟨some 67, _, _, _, _, _⟩ :: _) _ _); refine wpList_load_rng 24 (.tmp 66) rfl (by kernel_rfl) _ _ rfl _ R67.out _ Tryd.underlying24 rfl (by kernel_rfl) ?_; have R69 := Lib.hid (range_lit hpb 30 4 [.int .u8 (c.dns.a.toNat : Int), .int .u8 (c.dns.b.toNat : Int), .int .u8 (c.dns.c.toNat : Int), .int .u8 (c.dns.d.toNat : Int)] rfl)) | ((with_reducible show wpList _ _ _ (⟨some 69, _, _, _, _, _⟩ :: _) _ _); refine wpList_load_rng 24 (.tmp 68) rfl (by kernel_rfl) _ _ rfl _ R69.out _ Tryd.underlying24 rfl (by kernel_rfl) ?_; have R74 := cell_lit hpa 34 _ rfl; have R76 := cell_lit hpb 34 _ rfl; have R81 := cell_lit hpa 35 _ rfl; have R83 := cell_lit hpb 35 _ rfl; have R88 := cell_lit hpa 36 _ rfl; have R90 := cell_lit hpb 36 _ rfl; have R95 := cell_lit hpa 37 _ rfl; have R97 := cell_lit hpb 37 _ rfl; have R102 := cell_lit hpa 38 _ rfl; have R105 := cell_lit hpb 38 _ rfl; have R111 := cell_lit hpa 39 _ rfl; have R114 := cell_lit hpb 39 _ rfl))
  try clear R8
  try clear R10
  try clear R15
  try clear R18
  try clear R24
  try clear R27
  try clear R32
  try clear R34
  try clear R39
  try clear R41
  try clear R46
  try clear R48
  try clear R53
  try clear R55
  try clear R60
  try clear R62
  try clear R67
  try clear R69
  try clear R74
  try clear R76
  try clear R81
  try clear R83
  try clear R88
  try clear R90
  try clear R95
  try clear R97
  try clear R102
  try clear R105
  try clear R111
  try clear R114
  go_loopg [5] (nf + 1) (fun gk s5 wr => ∃ i : Nat, gk = nf + 1 - i ∧ i ≤ nf ∧ s5 = .int .i64 (i : Int) ∧ wr.heap[g2]? = some (.cells (cfl c Fx nf cf Ox nx cx).toArray 44 (0, 0)) ∧ wr.heap[g3]? = some (.cells (cfl c Gx nf cg Hx nx ch).toArray 44 (0, 0)) ∧ Sle fxf 10 wr (Fx) (nf) (cf) (c.fixed) ∧ Sle opf 7 wr (Ox) (nx) (cx) (c.opens) ∧ Sle fxf 10 wr (Gx) (nf) (cg) (c.fixed) ∧ Sle opf 7 wr (Hx) (nx) (ch) (c.opens) ∧ Below w.heap.size w wr)
  case atStart => exact ⟨0, rfl, Nat.zero_le _, rfl, hpa, hpb, hf, ho, hg, hh2, bel⟩
  case round =>
    clear hpa hpb hf ho hg hh2 bel
    obtain ⟨i, HGK, hi, rfl, hpa, hpb, hf, ho, hg, hh2, bel⟩ := hrel
    have HGK_ := Lib.hid HGK
    clear HGK
    have i0 : (0 : Int) ≤ i := by omega
    have i1 : (i : Int) ≤ 100000 := by omega
    by_cases hi2 : i < nf
    · obtain ⟨gF1, gFo1, hF1⟩ := hf.place (by omega)
      subst hF1
      obtain ⟨gF2, gFo2, hF2⟩ := hg.place (by omega)
      subst hF2
      obtain ⟨x, hx⟩ : ∃ x, c.fixed[i]? = some x := ⟨_, List.getElem?_eq_getElem (by rw [hf.1]; exact hi2)⟩
      have HX := Lib.hid hx
      clear hx
      have R120 := cell_lit hpa 38 _ rfl
      go_wp2_with fail
      clear R120
      replace bel := bel.drew
      replace hpa : wr.drew.heap[g2]? = _ := hpa
      replace hpb : wr.drew.heap[g3]? = _ := hpb
      replace hf := hf.drew
      replace ho := ho.drew
      replace hg := hg.drew
      replace hh2 := hh2.drew
      refine wp_region_held_drew (S := fun W => W.heap[g2]? = some (.cells #[.int .u8 (c.own.a.toNat : Int), .int .u8 (c.own.b.toNat : Int), .int .u8 (c.own.c.toNat : Int), .int .u8 (c.own.d.toNat : Int), .int .u8 (c.lan.a.toNat : Int), .int .u8 (c.lan.b.toNat : Int), .int .u8 (c.lan.c.toNat : Int), .int .u8 (c.lan.d.toNat : Int), .int .i64 c.bits, .int .u8 (c.lanmac.a.toNat : Int), .int .u8 (c.lanmac.b.toNat : Int), .int .u8 (c.lanmac.c.toNat : Int), .int .u8 (c.lanmac.d.toNat : Int), .int .u8 (c.lanmac.e.toNat : Int), .int .u8 (c.lanmac.f.toNat : Int), .int .u8 (c.wanmac.a.toNat : Int), .int .u8 (c.wanmac.b.toNat : Int), .int .u8 (c.wanmac.c.toNat : Int), .int .u8 (c.wanmac.d.toNat : Int), .int .u8 (c.wanmac.e.toNat : Int), .int .u8 (c.wanmac.f.toNat : Int), .int .u8 (c.first.a.toNat : Int), .int .u8 (c.first.b.toNat : Int), .int .u8 (c.first.c.toNat : Int), .int .u8 (c.first.d.toNat : Int), .int .u8 (c.last.a.toNat : Int), .int .u8 (c.last.b.toNat : Int), .int .u8 (c.last.c.toNat : Int), .int .u8 (c.last.d.toNat : Int), .int .i64 c.time, .int .u8 (c.dns.a.toNat : Int), .int .u8 (c.dns.b.toNat : Int), .int .u8 (c.dns.c.toNat : Int), .int .u8 (c.dns.d.toNat : Int), .int .i64 c.udp, .int .i64 c.tcp, .int .i64 c.icmp, .int .i64 c.low, .slice (some ⟨gF1, gFo1, none⟩) nf cf, .slice Ox nx cx] 44 (0, 0)) ∧ W.heap[g3]? = some (.cells #[.int .u8 (c.own.a.toNat : Int), .int .u8 (c.own.b.toNat : Int), .int .u8 (c.own.c.toNat : Int), .int .u8 (c.own.d.toNat : Int), .int .u8 (c.lan.a.toNat : Int), .int .u8 (c.lan.b.toNat : Int), .int .u8 (c.lan.c.toNat : Int), .int .u8 (c.lan.d.toNat : Int), .int .i64 c.bits, .int .u8 (c.lanmac.a.toNat : Int), .int .u8 (c.lanmac.b.toNat : Int), .int .u8 (c.lanmac.c.toNat : Int), .int .u8 (c.lanmac.d.toNat : Int), .int .u8 (c.lanmac.e.toNat : Int), .int .u8 (c.lanmac.f.toNat : Int), .int .u8 (c.wanmac.a.toNat : Int), .int .u8 (c.wanmac.b.toNat : Int), .int .u8 (c.wanmac.c.toNat : Int), .int .u8 (c.wanmac.d.toNat : Int), .int .u8 (c.wanmac.e.toNat : Int), .int .u8 (c.wanmac.f.toNat : Int), .int .u8 (c.first.a.toNat : Int), .int .u8 (c.first.b.toNat : Int), .int .u8 (c.first.c.toNat : Int), .int .u8 (c.first.d.toNat : Int), .int .u8 (c.last.a.toNat : Int), .int .u8 (c.last.b.toNat : Int), .int .u8 (c.last.c.toNat : Int), .int .u8 (c.last.d.toNat : Int), .int .i64 c.time, .int .u8 (c.dns.a.toNat : Int), .int .u8 (c.dns.b.toNat : Int), .int .u8 (c.dns.c.toNat : Int), .int .u8 (c.dns.d.toNat : Int), .int .i64 c.udp, .int .i64 c.tcp, .int .i64 c.icmp, .int .i64 c.low, .slice (some ⟨gF2, gFo2, none⟩) nf cg, .slice Hx nx ch] 44 (0, 0)) ∧ Sle fxf 10 W (some ⟨gF1, gFo1, none⟩) (nf) (cf) (c.fixed) ∧ Sle fxf 10 W (some ⟨gF2, gFo2, none⟩) (nf) (cg) (c.fixed)) (by kernel_rfl) ⟨hpa, hpb, hf, hg⟩ (fun hH => ?_)
      generalize wr.drew = w3 at bel hpa hpb hf ho hg hh2 hH ⊢
      refine wpAnyH_take (i := 0) (v := ?_) rfl (by kernel_rfl) (by kernel_rfl) (by kernel_rfl) (fun _ _ _ h => h) (Or.inl ⟨by rfl, ?_⟩) hH ?_
      rotate_left
      · ((intro W hW; clear hW; go_simp) <;> with_reducible rfl)
      simp only [Act.put, List.getElem_toArray, List.getElem_cons_zero, List.setIfInBounds_toArray, List.set_cons_zero, List.set_cons_succ]
      refine wpAnyH_take (i := 1) (v := ?_) rfl (by kernel_rfl) (by kernel_rfl) (by kernel_rfl) (fun _ _ _ h => h) (Or.inl ⟨by rfl, ?_⟩) hH ?_
      rotate_left
      · ((intro W hW; have hk := cell_lit (hW.1) 38 _ rfl; clear hW; go_simp) <;> with_reducible rfl)
      simp only [Act.put, List.getElem_toArray, List.getElem_cons_zero, List.getElem_cons_succ, List.setIfInBounds_toArray, List.set_cons_zero, List.set_cons_succ]
      refine wpAnyH_take (i := 2) (v := ?_) rfl (by kernel_rfl) (by kernel_rfl) (by kernel_rfl) (fun _ _ _ h => h) (Or.inl ⟨by rfl, ?_⟩) hH ?_
      rotate_left
      · ((intro W hW; clear hW; go_simp) <;> with_reducible rfl)
      simp only [Act.put, List.getElem_toArray, List.getElem_cons_zero, List.getElem_cons_succ, List.setIfInBounds_toArray, List.set_cons_zero, List.set_cons_succ]
      refine wpAnyH_take (i := 3) (v := ?_) rfl (by kernel_rfl) (by kernel_rfl) (by kernel_rfl) (fun _ _ _ h => h) (Or.inl ⟨by rfl, ?_⟩) hH ?_
      rotate_left
      · ((intro W hW; clear hW; go_simp) <;> with_reducible rfl)
      simp only [Act.put, List.getElem_toArray, List.getElem_cons_zero, List.getElem_cons_succ, List.setIfInBounds_toArray, List.set_cons_zero, List.set_cons_succ]
      refine wpAnyH_take (i := 4) (v := .agg #[.int .u8 (x.1.a.toNat : Int), .int .u8 (x.1.b.toNat : Int), .int .u8 (x.1.c.toNat : Int), .int .u8 (x.1.d.toNat : Int), .int .u8 (x.1.e.toNat : Int), .int .u8 (x.1.f.toNat : Int), .int .u8 (x.2.a.toNat : Int), .int .u8 (x.2.b.toNat : Int), .int .u8 (x.2.c.toNat : Int), .int .u8 (x.2.d.toNat : Int)]) rfl (by kernel_rfl) (by kernel_rfl) (by kernel_rfl) (fun _ _ _ h => h) (yieldsIf_load_mid (by kernel_rfl) 81 _ rfl gF1 (gFo1 + i * 10) rfl [.int .u8 (x.1.a.toNat : Int), .int .u8 (x.1.b.toNat : Int), .int .u8 (x.1.c.toNat : Int), .int .u8 (x.1.d.toNat : Int), .int .u8 (x.1.e.toNat : Int), .int .u8 (x.1.f.toNat : Int), .int .u8 (x.2.a.toNat : Int), .int .u8 (x.2.b.toNat : Int), .int .u8 (x.2.c.toNat : Int), .int .u8 (x.2.d.toNat : Int)] _ (fun W hW => Sle.range0 (hW.2.2.1) HX.out 10 [.int .u8 (x.1.a.toNat : Int), .int .u8 (x.1.b.toNat : Int), .int .u8 (x.1.c.toNat : Int), .int .u8 (x.1.d.toNat : Int), .int .u8 (x.1.e.toNat : Int), .int .u8 (x.1.f.toNat : Int), .int .u8 (x.2.a.toNat : Int), .int .u8 (x.2.b.toNat : Int), .int .u8 (x.2.c.toNat : Int), .int .u8 (x.2.d.toNat : Int)] rfl) Tryd.underlying81 rfl (by kernel_rfl)) hH ?_
      simp only [Act.put, List.getElem_toArray, List.getElem_cons_zero, List.getElem_cons_succ, List.setIfInBounds_toArray, List.set_cons_zero, List.set_cons_succ]
      refine wpAnyH_take (i := 5) (v := ?_) rfl (by kernel_rfl) (by kernel_rfl) (by kernel_rfl) (fun _ _ _ h => h) (Or.inl ⟨by rfl, ?_⟩) hH ?_
      rotate_left
      · ((intro W hW; clear hW; go_simp) <;> with_reducible rfl)
      simp only [Act.put, List.getElem_toArray, List.getElem_cons_zero, List.getElem_cons_succ, List.setIfInBounds_toArray, List.set_cons_zero, List.set_cons_succ]
      refine wpAnyH_take (i := 6) (v := ?_) rfl (by kernel_rfl) (by kernel_rfl) (by kernel_rfl) (fun _ _ _ h => h) (Or.inl ⟨by rfl, ?_⟩) hH ?_
      rotate_left
      · ((intro W hW; have hk := cell_lit (hW.2.1) 38 _ rfl; clear hW; go_simp) <;> with_reducible rfl)
      simp only [Act.put, List.getElem_toArray, List.getElem_cons_zero, List.getElem_cons_succ, List.setIfInBounds_toArray, List.set_cons_zero, List.set_cons_succ]
      refine wpAnyH_take (i := 7) (v := ?_) rfl (by kernel_rfl) (by kernel_rfl) (by kernel_rfl) (fun _ _ _ h => h) (Or.inl ⟨by rfl, ?_⟩) hH ?_
      rotate_left
      · ((intro W hW; clear hW; go_simp) <;> with_reducible rfl)
      simp only [Act.put, List.getElem_toArray, List.getElem_cons_zero, List.getElem_cons_succ, List.setIfInBounds_toArray, List.set_cons_zero, List.set_cons_succ]
      refine wpAnyH_take (i := 8) (v := ?_) rfl (by kernel_rfl) (by kernel_rfl) (by kernel_rfl) (fun _ _ _ h => h) (Or.inl ⟨by rfl, ?_⟩) hH ?_
      rotate_left
      · ((intro W hW; clear hW; go_simp) <;> with_reducible rfl)
      simp only [Act.put, List.getElem_toArray, List.getElem_cons_zero, List.getElem_cons_succ, List.setIfInBounds_toArray, List.set_cons_zero, List.set_cons_succ]
      refine wpAnyH_take (i := 9) (v := .agg #[.int .u8 (x.1.a.toNat : Int), .int .u8 (x.1.b.toNat : Int), .int .u8 (x.1.c.toNat : Int), .int .u8 (x.1.d.toNat : Int), .int .u8 (x.1.e.toNat : Int), .int .u8 (x.1.f.toNat : Int), .int .u8 (x.2.a.toNat : Int), .int .u8 (x.2.b.toNat : Int), .int .u8 (x.2.c.toNat : Int), .int .u8 (x.2.d.toNat : Int)]) rfl (by kernel_rfl) (by kernel_rfl) (by kernel_rfl) (fun _ _ _ h => h) (yieldsIf_load_mid (by kernel_rfl) 81 _ rfl gF2 (gFo2 + i * 10) rfl [.int .u8 (x.1.a.toNat : Int), .int .u8 (x.1.b.toNat : Int), .int .u8 (x.1.c.toNat : Int), .int .u8 (x.1.d.toNat : Int), .int .u8 (x.1.e.toNat : Int), .int .u8 (x.1.f.toNat : Int), .int .u8 (x.2.a.toNat : Int), .int .u8 (x.2.b.toNat : Int), .int .u8 (x.2.c.toNat : Int), .int .u8 (x.2.d.toNat : Int)] _ (fun W hW => Sle.range0 (hW.2.2.2) HX.out 10 [.int .u8 (x.1.a.toNat : Int), .int .u8 (x.1.b.toNat : Int), .int .u8 (x.1.c.toNat : Int), .int .u8 (x.1.d.toNat : Int), .int .u8 (x.1.e.toNat : Int), .int .u8 (x.1.f.toNat : Int), .int .u8 (x.2.a.toNat : Int), .int .u8 (x.2.b.toNat : Int), .int .u8 (x.2.c.toNat : Int), .int .u8 (x.2.d.toNat : Int)] rfl) Tryd.underlying81 rfl (by kernel_rfl)) hH ?_
      simp only [Act.put, List.getElem_toArray, List.getElem_cons_zero, List.getElem_cons_succ, List.setIfInBounds_toArray, List.set_cons_zero, List.set_cons_succ]
      refine wpAnyH_take (i := 10) (v := ?_) rfl (by kernel_rfl) (by kernel_rfl) (by kernel_rfl) (fun _ _ _ h => h) (Or.inl ⟨by rfl, ?_⟩) hH ?_
      rotate_left
      · ((intro W hW; clear hW; go_simp) <;> with_reducible rfl)
      simp only [Act.put, List.getElem_toArray, List.getElem_cons_zero, List.getElem_cons_succ, List.setIfInBounds_toArray, List.set_cons_zero, List.set_cons_succ]
      refine wpAnyH_done (by kernel_rfl) ?_ _
      go_wp2_with fail
      go_roundg (nf + 1 - (i + 1))
      case measure => have := HGK_.out; omega
      case rel => exact ⟨i + 1, rfl, by omega, by go_num, hpa, hpb, hf, ho, hg, hh2, bel⟩
    · have hi3 : decide (i < nf) = false := decide_eq_false hi2
      have R120 := cell_lit hpa 38 _ rfl
      go_wp2_with fail
      clear R120
      go_loopg [6] (nx + 1) (fun gk s6 wr => ∃ k : Nat, gk = nx + 1 - k ∧ k ≤ nx ∧ s6 = .int .i64 (k : Int) ∧ wr.heap[g2]? = some (.cells (cfl c Fx nf cf Ox nx cx).toArray 44 (0, 0)) ∧ wr.heap[g3]? = some (.cells (cfl c Gx nf cg Hx nx ch).toArray 44 (0, 0)) ∧ Sle fxf 10 wr (Fx) (nf) (cf) (c.fixed) ∧ Sle opf 7 wr (Ox) (nx) (cx) (c.opens) ∧ Sle fxf 10 wr (Gx) (nf) (cg) (c.fixed) ∧ Sle opf 7 wr (Hx) (nx) (ch) (c.opens) ∧ Below w.heap.size w wr)
      case atStart => exact ⟨0, rfl, Nat.zero_le _, rfl, hpa, hpb, hf, ho, hg, hh2, bel⟩
      case round =>
        clear hpa hpb hf ho hg hh2 bel
        obtain ⟨k, HGK, hk, rfl, hpa, hpb, hf, ho, hg, hh2, bel⟩ := hrel
        have HGK_ := Lib.hid HGK
        clear HGK
        have k0 : (0 : Int) ≤ k := by omega
        have k1 : (k : Int) ≤ 100000 := by omega
        by_cases hk2 : k < nx
        · obtain ⟨gO1, gOo1, hF1⟩ := ho.place (by omega)
          subst hF1
          obtain ⟨gO2, gOo2, hF2⟩ := hh2.place (by omega)
          subst hF2
          obtain ⟨x, hx⟩ : ∃ x, c.opens[k]? = some x := ⟨_, List.getElem?_eq_getElem (by rw [ho.1]; exact hk2)⟩
          have HX := Lib.hid hx
          clear hx
          have R138 := cell_lit hpa 39 _ rfl
          go_wp2_with fail
          clear R138
          replace bel := bel.drew
          replace hpa : wr.drew.heap[g2]? = _ := hpa
          replace hpb : wr.drew.heap[g3]? = _ := hpb
          replace hf := hf.drew
          replace ho := ho.drew
          replace hg := hg.drew
          replace hh2 := hh2.drew
          refine wp_region_held_drew (S := fun W => W.heap[g2]? = some (.cells #[.int .u8 (c.own.a.toNat : Int), .int .u8 (c.own.b.toNat : Int), .int .u8 (c.own.c.toNat : Int), .int .u8 (c.own.d.toNat : Int), .int .u8 (c.lan.a.toNat : Int), .int .u8 (c.lan.b.toNat : Int), .int .u8 (c.lan.c.toNat : Int), .int .u8 (c.lan.d.toNat : Int), .int .i64 c.bits, .int .u8 (c.lanmac.a.toNat : Int), .int .u8 (c.lanmac.b.toNat : Int), .int .u8 (c.lanmac.c.toNat : Int), .int .u8 (c.lanmac.d.toNat : Int), .int .u8 (c.lanmac.e.toNat : Int), .int .u8 (c.lanmac.f.toNat : Int), .int .u8 (c.wanmac.a.toNat : Int), .int .u8 (c.wanmac.b.toNat : Int), .int .u8 (c.wanmac.c.toNat : Int), .int .u8 (c.wanmac.d.toNat : Int), .int .u8 (c.wanmac.e.toNat : Int), .int .u8 (c.wanmac.f.toNat : Int), .int .u8 (c.first.a.toNat : Int), .int .u8 (c.first.b.toNat : Int), .int .u8 (c.first.c.toNat : Int), .int .u8 (c.first.d.toNat : Int), .int .u8 (c.last.a.toNat : Int), .int .u8 (c.last.b.toNat : Int), .int .u8 (c.last.c.toNat : Int), .int .u8 (c.last.d.toNat : Int), .int .i64 c.time, .int .u8 (c.dns.a.toNat : Int), .int .u8 (c.dns.b.toNat : Int), .int .u8 (c.dns.c.toNat : Int), .int .u8 (c.dns.d.toNat : Int), .int .i64 c.udp, .int .i64 c.tcp, .int .i64 c.icmp, .int .i64 c.low, .slice Fx nf cf, .slice (some ⟨gO1, gOo1, none⟩) nx cx] 44 (0, 0)) ∧ W.heap[g3]? = some (.cells #[.int .u8 (c.own.a.toNat : Int), .int .u8 (c.own.b.toNat : Int), .int .u8 (c.own.c.toNat : Int), .int .u8 (c.own.d.toNat : Int), .int .u8 (c.lan.a.toNat : Int), .int .u8 (c.lan.b.toNat : Int), .int .u8 (c.lan.c.toNat : Int), .int .u8 (c.lan.d.toNat : Int), .int .i64 c.bits, .int .u8 (c.lanmac.a.toNat : Int), .int .u8 (c.lanmac.b.toNat : Int), .int .u8 (c.lanmac.c.toNat : Int), .int .u8 (c.lanmac.d.toNat : Int), .int .u8 (c.lanmac.e.toNat : Int), .int .u8 (c.lanmac.f.toNat : Int), .int .u8 (c.wanmac.a.toNat : Int), .int .u8 (c.wanmac.b.toNat : Int), .int .u8 (c.wanmac.c.toNat : Int), .int .u8 (c.wanmac.d.toNat : Int), .int .u8 (c.wanmac.e.toNat : Int), .int .u8 (c.wanmac.f.toNat : Int), .int .u8 (c.first.a.toNat : Int), .int .u8 (c.first.b.toNat : Int), .int .u8 (c.first.c.toNat : Int), .int .u8 (c.first.d.toNat : Int), .int .u8 (c.last.a.toNat : Int), .int .u8 (c.last.b.toNat : Int), .int .u8 (c.last.c.toNat : Int), .int .u8 (c.last.d.toNat : Int), .int .i64 c.time, .int .u8 (c.dns.a.toNat : Int), .int .u8 (c.dns.b.toNat : Int), .int .u8 (c.dns.c.toNat : Int), .int .u8 (c.dns.d.toNat : Int), .int .i64 c.udp, .int .i64 c.tcp, .int .i64 c.icmp, .int .i64 c.low, .slice Gx nf cg, .slice (some ⟨gO2, gOo2, none⟩) nx ch] 44 (0, 0)) ∧ Sle opf 7 W (some ⟨gO1, gOo1, none⟩) (nx) (cx) (c.opens) ∧ Sle opf 7 W (some ⟨gO2, gOo2, none⟩) (nx) (ch) (c.opens)) (by kernel_rfl) ⟨hpa, hpb, ho, hh2⟩ (fun hH => ?_)
          generalize wr.drew = w3 at bel hpa hpb hf ho hg hh2 hH ⊢
          refine wpAnyH_take (i := 0) (v := ?_) rfl (by kernel_rfl) (by kernel_rfl) (by kernel_rfl) (fun _ _ _ h => h) (Or.inl ⟨by rfl, ?_⟩) hH ?_
          rotate_left
          · ((intro W hW; clear hW; go_simp) <;> with_reducible rfl)
          simp only [Act.put, List.getElem_toArray, List.getElem_cons_zero, List.setIfInBounds_toArray, List.set_cons_zero, List.set_cons_succ]
          refine wpAnyH_take (i := 1) (v := ?_) rfl (by kernel_rfl) (by kernel_rfl) (by kernel_rfl) (fun _ _ _ h => h) (Or.inl ⟨by rfl, ?_⟩) hH ?_
          rotate_left
          · ((intro W hW; have hk := cell_lit (hW.1) 39 _ rfl; clear hW; go_simp) <;> with_reducible rfl)
          simp only [Act.put, List.getElem_toArray, List.getElem_cons_zero, List.getElem_cons_succ, List.setIfInBounds_toArray, List.set_cons_zero, List.set_cons_succ]
          refine wpAnyH_take (i := 2) (v := ?_) rfl (by kernel_rfl) (by kernel_rfl) (by kernel_rfl) (fun _ _ _ h => h) (Or.inl ⟨by rfl, ?_⟩) hH ?_
          rotate_left
          · ((intro W hW; clear hW; go_simp) <;> with_reducible rfl)
          simp only [Act.put, List.getElem_toArray, List.getElem_cons_zero, List.getElem_cons_succ, List.setIfInBounds_toArray, List.set_cons_zero, List.set_cons_succ]
          refine wpAnyH_take (i := 3) (v := ?_) rfl (by kernel_rfl) (by kernel_rfl) (by kernel_rfl) (fun _ _ _ h => h) (Or.inl ⟨by rfl, ?_⟩) hH ?_
          rotate_left
          · ((intro W hW; clear hW; go_simp) <;> with_reducible rfl)
          simp only [Act.put, List.getElem_toArray, List.getElem_cons_zero, List.getElem_cons_succ, List.setIfInBounds_toArray, List.set_cons_zero, List.set_cons_succ]
          refine wpAnyH_take (i := 4) (v := .agg #[.int .i64 x.1, .int .i64 x.2.1, .int .u8 (x.2.2.1.a.toNat : Int), .int .u8 (x.2.2.1.b.toNat : Int), .int .u8 (x.2.2.1.c.toNat : Int), .int .u8 (x.2.2.1.d.toNat : Int), .int .i64 x.2.2.2]) rfl (by kernel_rfl) (by kernel_rfl) (by kernel_rfl) (fun _ _ _ h => h) (yieldsIf_load_mid (by kernel_rfl) 82 _ rfl gO1 (gOo1 + k * 7) rfl [.int .i64 x.1, .int .i64 x.2.1, .int .u8 (x.2.2.1.a.toNat : Int), .int .u8 (x.2.2.1.b.toNat : Int), .int .u8 (x.2.2.1.c.toNat : Int), .int .u8 (x.2.2.1.d.toNat : Int), .int .i64 x.2.2.2] _ (fun W hW => Sle.range0 (hW.2.2.1) HX.out 7 [.int .i64 x.1, .int .i64 x.2.1, .int .u8 (x.2.2.1.a.toNat : Int), .int .u8 (x.2.2.1.b.toNat : Int), .int .u8 (x.2.2.1.c.toNat : Int), .int .u8 (x.2.2.1.d.toNat : Int), .int .i64 x.2.2.2] rfl) Tryd.underlying82 rfl (by kernel_rfl)) hH ?_
          simp only [Act.put, List.getElem_toArray, List.getElem_cons_zero, List.getElem_cons_succ, List.setIfInBounds_toArray, List.set_cons_zero, List.set_cons_succ]
          refine wpAnyH_take (i := 5) (v := ?_) rfl (by kernel_rfl) (by kernel_rfl) (by kernel_rfl) (fun _ _ _ h => h) (Or.inl ⟨by rfl, ?_⟩) hH ?_
          rotate_left
          · ((intro W hW; clear hW; go_simp) <;> with_reducible rfl)
          simp only [Act.put, List.getElem_toArray, List.getElem_cons_zero, List.getElem_cons_succ, List.setIfInBounds_toArray, List.set_cons_zero, List.set_cons_succ]
          refine wpAnyH_take (i := 6) (v := ?_) rfl (by kernel_rfl) (by kernel_rfl) (by kernel_rfl) (fun _ _ _ h => h) (Or.inl ⟨by rfl, ?_⟩) hH ?_
          rotate_left
          · ((intro W hW; have hk := cell_lit (hW.2.1) 39 _ rfl; clear hW; go_simp) <;> with_reducible rfl)
          simp only [Act.put, List.getElem_toArray, List.getElem_cons_zero, List.getElem_cons_succ, List.setIfInBounds_toArray, List.set_cons_zero, List.set_cons_succ]
          refine wpAnyH_take (i := 7) (v := ?_) rfl (by kernel_rfl) (by kernel_rfl) (by kernel_rfl) (fun _ _ _ h => h) (Or.inl ⟨by rfl, ?_⟩) hH ?_
          rotate_left
          · ((intro W hW; clear hW; go_simp) <;> with_reducible rfl)
          simp only [Act.put, List.getElem_toArray, List.getElem_cons_zero, List.getElem_cons_succ, List.setIfInBounds_toArray, List.set_cons_zero, List.set_cons_succ]
          refine wpAnyH_take (i := 8) (v := ?_) rfl (by kernel_rfl) (by kernel_rfl) (by kernel_rfl) (fun _ _ _ h => h) (Or.inl ⟨by rfl, ?_⟩) hH ?_
          rotate_left
          · ((intro W hW; clear hW; go_simp) <;> with_reducible rfl)
          simp only [Act.put, List.getElem_toArray, List.getElem_cons_zero, List.getElem_cons_succ, List.setIfInBounds_toArray, List.set_cons_zero, List.set_cons_succ]
          refine wpAnyH_take (i := 9) (v := .agg #[.int .i64 x.1, .int .i64 x.2.1, .int .u8 (x.2.2.1.a.toNat : Int), .int .u8 (x.2.2.1.b.toNat : Int), .int .u8 (x.2.2.1.c.toNat : Int), .int .u8 (x.2.2.1.d.toNat : Int), .int .i64 x.2.2.2]) rfl (by kernel_rfl) (by kernel_rfl) (by kernel_rfl) (fun _ _ _ h => h) (yieldsIf_load_mid (by kernel_rfl) 82 _ rfl gO2 (gOo2 + k * 7) rfl [.int .i64 x.1, .int .i64 x.2.1, .int .u8 (x.2.2.1.a.toNat : Int), .int .u8 (x.2.2.1.b.toNat : Int), .int .u8 (x.2.2.1.c.toNat : Int), .int .u8 (x.2.2.1.d.toNat : Int), .int .i64 x.2.2.2] _ (fun W hW => Sle.range0 (hW.2.2.2) HX.out 7 [.int .i64 x.1, .int .i64 x.2.1, .int .u8 (x.2.2.1.a.toNat : Int), .int .u8 (x.2.2.1.b.toNat : Int), .int .u8 (x.2.2.1.c.toNat : Int), .int .u8 (x.2.2.1.d.toNat : Int), .int .i64 x.2.2.2] rfl) Tryd.underlying82 rfl (by kernel_rfl)) hH ?_
          simp only [Act.put, List.getElem_toArray, List.getElem_cons_zero, List.getElem_cons_succ, List.setIfInBounds_toArray, List.set_cons_zero, List.set_cons_succ]
          refine wpAnyH_take (i := 10) (v := ?_) rfl (by kernel_rfl) (by kernel_rfl) (by kernel_rfl) (fun _ _ _ h => h) (Or.inl ⟨by rfl, ?_⟩) hH ?_
          rotate_left
          · ((intro W hW; clear hW; go_simp) <;> with_reducible rfl)
          simp only [Act.put, List.getElem_toArray, List.getElem_cons_zero, List.getElem_cons_succ, List.setIfInBounds_toArray, List.set_cons_zero, List.set_cons_succ]
          refine wpAnyH_done (by kernel_rfl) ?_ _
          go_wp2_with fail
          go_roundg (nx + 1 - (k + 1))
          case measure => have := HGK_.out; omega
          case rel => exact ⟨k + 1, rfl, by omega, by go_num, hpa, hpb, hf, ho, hg, hh2, bel⟩
        · have hk3 : decide (k < nx) = false := decide_eq_false hk2
          have R138 := cell_lit hpa 39 _ rfl
          go_wp2_with fail
          clear R138
          go_ret
          exact ⟨rfl, bel⟩
theorem same_any (c : Cf) (Fx : Option Addr) (nf cf : Nat) (Ox : Option Addr) (nx cx : Nat) (Gx : Option Addr) (ng cg : Nat) (Hx : Option Addr) (nh ch : Nat) (w : World) (hf : Sle fxf 10 w Fx nf cf c.fixed) (ho : Sle opf 7 w Ox nx cx c.opens) (hg : Sle fxf 10 w Gx ng cg c.fixed) (hh2 : Sle opf 7 w Hx nh ch c.opens) (hnf : nf ≤ 1000) (hnx : nx ≤ 1000) : Calls Tryd.prog 10 #[.agg (cfl c Fx nf cf Ox nx cx).toArray, .agg (cfl c Gx ng cg Hx nh ch).toArray] w fun e w' => e = .returned (.bool true) ∧ Below w.heap.size w w' := by
  obtain rfl : nf = ng := by rw [← hf.1, hg.1]
  obtain rfl : nx = nh := by rw [← ho.1, hh2.1]
  exact same_n c _ _ _ _ _ _ _ _ _ _ w hf ho hg hh2 hnf hnx
set_option linter.unusedVariables false in
set_option linter.unusedSimpArgs false in
set_option maxRecDepth 100000 in
set_option maxHeartbeats 16000000 in
theorem rusual_lit (w : World) : Calls Tryd.prog 21 #[] w fun e w' => e = .returned (.agg #[.int .u8 192, .int .u8 168, .int .u8 1, .int .u8 1, .int .u8 192, .int .u8 168, .int .u8 1, .int .u8 0, .int .i64 24, .int .u8 2, .int .u8 0, .int .u8 0, .int .u8 0, .int .u8 0, .int .u8 1, .int .u8 2, .int .u8 0, .int .u8 0, .int .u8 0, .int .u8 0, .int .u8 2, .int .u8 192, .int .u8 168, .int .u8 1, .int .u8 100, .int .u8 192, .int .u8 168, .int .u8 1, .int .u8 131, .int .i64 3600, .int .u8 9, .int .u8 9, .int .u8 9, .int .u8 9, .int .i64 120, .int .i64 7200, .int .i64 30, .int .i64 40000, .slice none 0 0, .slice none 0 0]) ∧ Below w.heap.size w w' := by
  have bel := Below.refl w.heap.size w
  go_enter Tryd.func21, Tryd.ntmps21
  go_wp2_with (first | ((with_reducible show wpList _ _ _ (⟨some 0, _, _, _, _, _⟩ :: _) _ _); refine wpList_new_a rfl 44 rfl #[.int .u8 0, .int .u8 0, .int .u8 0, .int .u8 0, .int .u8 0, .int .u8 0, .int .u8 0, .int .u8 0, .int .i64 0, .int .u8 0, .int .u8 0, .int .u8 0, .int .u8 0, .int .u8 0, .int .u8 0, .int .u8 0, .int .u8 0, .int .u8 0, .int .u8 0, .int .u8 0, .int .u8 0, .int .u8 0, .int .u8 0, .int .u8 0, .int .u8 0, .int .u8 0, .int .u8 0, .int .u8 0, .int .u8 0, .int .i64 0, .int .u8 0, .int .u8 0, .int .u8 0, .int .u8 0, .int .i64 0, .int .i64 0, .int .i64 0, .int .i64 0, .slice none 0 0, .slice none 0 0] (by kernel_rfl) ?_; intro g0 w1 ge hh bb; have or := Nat.le_trans bel.size ge; replace bel := bel.trans (bb.mono bel.size); have hr := hh; clear hh ge bb) | ((with_reducible show wpList _ _ _ (⟨none, Op.store _ (.tmp 0) _, _, _, _, _⟩ :: _) _ _); refine wpList_store_blk rfl 44 (.tmp 0) (.tmp 9) rfl g0 rfl _ rfl _ 44 hr (by rfl) (by kernel_rfl) (by kernel_rfl) ?_; intro w2 hq gr; replace bel := below_grown bel gr or bel.size; clear hr; have hr := hq; clear hq gr))
  exact bodyPost_ret (results_cell_row' rfl _ _ _ _ _ _ _ rfl hr Tryd.underlying44 rfl (by kernel_rfl)) rfl ⟨rfl, bel⟩
theorem rusual_any (w : World) : Calls Tryd.prog 21 #[] w fun e w' => e = .returned (.agg (cfl usualC none 0 0 none 0 0).toArray) ∧ Below w.heap.size w w' := rusual_lit w
theorem cusual_c (w : World) : Calls Tryd.prog 22 #[] w fun e w' => e = .returned (.agg (cfl usualC none 0 0 none 0 0).toArray) ∧ Below w.heap.size w w' := cusual_any w
def U60 : Cf := { usualC with time := 60 }
theorem parse_60 : parseS [116, 105, 109, 101, 32, 61, 32, 54, 48] = (U60, 0, 0) := by kernel_rfl
theorem check_60 : U60.check = true := by kernel_rfl
end Go.Proofs.YtdfobilagidmfaaDoor
