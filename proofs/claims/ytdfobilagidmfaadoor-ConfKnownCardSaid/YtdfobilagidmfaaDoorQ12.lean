/- Texts put together: Cg8. -/
import Derived.Test.YtdfobilagidmfaaDoorQ11
namespace Go.Proofs.YtdfobilagidmfaaDoor
open Go.RowKit

/-- The ends of the pool that no lines tell. -/
def Cf.fill1 (c : Cf) (ns : List (List UInt8)) : Cf := if ns.contains [102, 105, 114, 115, 116] = true then c else { c with first := poolA c.lan c.bits }
def Cf.fill (c : Cf) (ns : List (List UInt8)) : Cf := if ns.contains [108, 97, 115, 116] = true then c.fill1 ns else { c.fill1 ns with last := poolZ c.lan c.bits }
def zeroC : Cf := ⟨⟨0, 0, 0, 0⟩, ⟨0, 0, 0, 0⟩, 0, ⟨0, 0, 0, 0, 0, 0⟩, ⟨0, 0, 0, 0, 0, 0⟩, ⟨0, 0, 0, 0⟩, ⟨0, 0, 0, 0⟩, 0, ⟨0, 0, 0, 0⟩, 0, 0, 0, 0, [], []⟩
/-- Line by line. -/
def runL : Cf → List (List UInt8) → List (List UInt8) → Nat → Except (Nat × Int) (Cf × List (List UInt8))
  | c, ns, [], _ => .ok (c, ns)
  | c, ns, l :: ls, i => if lineE ns l = 0 then runL (lineC c l) (lineN ns l) ls (i + 1) else .error (i + 1, lineE ns l)
/-- What Parse answers: the configuration, the line, the error. -/
def parseS (t : List UInt8) : Cf × Int × Int :=
  if 16384 < t.length then (zeroC, 0, 2) else
  if 400 < (linesL t).length then (zeroC, 0, 2) else
  match runL usualC [] (linesL t) 0 with
  | .error (i, e) => (zeroC, (i : Int), e)
  | .ok (c, ns) => if (c.fill ns).check = true then (c.fill ns, 0, 0) else (zeroC, 0, 1)
theorem run_ok {c : Cf} {ns ls : List (List UInt8)} {j i : Nat} {l : List UInt8} (hl : ls[j]? = some l) (h : lineE ns l = 0) : runL c ns (ls.drop j) i = runL (lineC c l) (lineN ns l) (ls.drop (j + 1)) (i + 1) := by
  obtain ⟨hj, e⟩ := List.getElem?_eq_some_iff.1 hl
  rw [List.drop_eq_getElem_cons hj, e, runL, if_pos h]
theorem run_no {c : Cf} {ns ls : List (List UInt8)} {j i : Nat} {l : List UInt8} (hl : ls[j]? = some l) (h : ¬ lineE ns l = 0) : runL c ns (ls.drop j) i = .error (i + 1, lineE ns l) := by
  obtain ⟨hj, e⟩ := List.getElem?_eq_some_iff.1 hl
  rw [List.drop_eq_getElem_cons hj, e, runL, if_neg h]
theorem line_len {t x : List UInt8} {j n : Nat} (ht : t.length ≤ n) (h : (linesL t)[j]? = some x) : x.length ≤ n := by
  have hm := List.mem_of_getElem? h
  have : x ∈ cutF 10 t := by
    unfold linesL at hm
    split at hm
    · exact (List.dropLast_sublist _).subset hm
    · exact hm
  exact Nat.le_trans (cutF_piece 10 t x this) ht
set_option linter.unusedVariables false in
set_option linter.unusedSimpArgs false in
set_option maxRecDepth 100000 in
set_option maxHeartbeats 16000000 in
theorem fill_c {lo gr : Nat} {c : Cf} {ns : List (List UInt8)} {m : Nat} (w : World) (hlo : lo ≤ w.heap.size) (hR : Rdr lo gr w c ns m) (hm : m ≤ 100000) : Calls Tryd.prog 25 #[.pointer (some ⟨gr, 0, none⟩)] w fun e w' => e = .returned (.tuple #[]) ∧ Rdr lo gr w' (c.fill ns) ns m ∧ Below lo w w' := by
  obtain ⟨Fx, nf, cf, Ox, nx, cx, Nx, nn, cn, hrd, ord, sFw, sOw, sNw, of_sF_rd, of_sO_rd, of_sN_rd, apFO, apFN, apON, bF, bO, bN⟩ := hR
  have sF := (owk_sle (by decide) fxf_len sFw).1
  have sO := (owk_sle (by decide) opf_len sOw).1
  have sN := (owk_sle (by decide) stf_len sNw).1
  have av_sF_rd := owk_av sFw of_sF_rd
  have av_sO_rd := owk_av sOw of_sO_rd
  have av_sN_rd := owk_av sNw of_sN_rd
  have sFlo := Nat.le_refl lo
  have sOlo := Nat.le_refl lo
  have sNlo := Nat.le_refl lo
  have n0F : (0 : Int) ≤ nf := by omega
  have n0O : (0 : Int) ≤ nx := by omega
  have n0N : (0 : Int) ≤ nn := by omega
  have lz_sF : lo ≤ _ := hlo
  have lz_sO : lo ≤ _ := hlo
  have lz_sN : lo ≤ _ := hlo
  have bel := Below.refl lo w
  go_enter Tryd.func25, Tryd.ntmps25
  have R9 := Lib.hid (range_lit hrd 4 5 [.int .u8 (c.lan.a.toNat : Int), .int .u8 (c.lan.b.toNat : Int), .int .u8 (c.lan.c.toNat : Int), .int .u8 (c.lan.d.toNat : Int), .int .i64 c.bits] rfl)
  go_wp2_with (first | ((with_reducible show wpList _ _ _ (⟨some 9, _, _, _, _, _⟩ :: _) _ _); refine wpList_load_rng 26 (.tmp 8) rfl (by kernel_rfl) _ _ rfl _ R9.out _ Tryd.underlying26 rfl (by kernel_rfl) ?_))
  try clear R9
  with_reducible refine (usualPool_any c.lan c.bits _).mono ?_
  rintro e w1 ⟨rfl, b1⟩
  replace hrd := blk_u hrd b1
  replace sF := sF.below b1
  replace sFw := owk_under sFw b1
  replace sO := sO.below b1
  replace sOw := owk_under sOw b1
  replace sN := sN.below b1
  replace sNw := owk_under sNw b1
  replace lz_sF := Nat.le_trans lz_sF b1.size
  replace lz_sO := Nat.le_trans lz_sO b1.size
  replace lz_sN := Nat.le_trans lz_sN b1.size
  replace bel := bel.trans (b1.mono (Nat.le_trans hlo bel.size))
  clear b1
  rcases h1 : ns.contains [102, 105, 114, 115, 116] with _ | _
  · go_wp2_with (first | ((with_reducible show wpList _ _ _ (⟨some 2, _, _, _, _, _⟩ :: _) _ _); refine wpList_new_a rfl 24 rfl #[.int .u8 0, .int .u8 0, .int .u8 0, .int .u8 0] (by kernel_rfl) ?_; intro g2 w2 ge hh bb; have d_rd_fa := ne_new (hlt hrd) ge; have av_sF_fa := sF.av_new ge; have of_sF_fa := owk_new sFw ge; have av_sO_fa := sO.av_new ge; have of_sO_fa := owk_new sOw ge; have av_sN_fa := sN.av_new ge; have of_sN_fa := owk_new sNw ge; have ofa := Nat.le_trans (Nat.le_trans hlo bel.size) ge; replace hrd := blk_u hrd bb; replace sF := sF.below bb; replace sFw := owk_under sFw bb; replace sO := sO.below bb; replace sOw := owk_under sOw bb; replace sN := sN.below bb; replace sNw := owk_under sNw bb; replace lz_sF := Nat.le_trans lz_sF bb.size; replace lz_sO := Nat.le_trans lz_sO bb.size; replace lz_sN := Nat.le_trans lz_sN bb.size; replace bel := bel.trans (bb.mono (Nat.le_trans hlo bel.size)); have hfa := hh; clear hh ge bb) | ((with_reducible show wpList _ _ _ (⟨some 3, _, _, _, _, _⟩ :: _) _ _); refine wpList_new_a rfl 24 rfl #[.int .u8 0, .int .u8 0, .int .u8 0, .int .u8 0] (by kernel_rfl) ?_; intro g3 w3 ge hh bb; have d_rd_la := ne_new (hlt hrd) ge; have d_fa_la := ne_new (hlt hfa) ge; have av_sF_la := sF.av_new ge; have of_sF_la := owk_new sFw ge; have av_sO_la := sO.av_new ge; have of_sO_la := owk_new sOw ge; have av_sN_la := sN.av_new ge; have of_sN_la := owk_new sNw ge; have ola := Nat.le_trans (Nat.le_trans hlo bel.size) ge; replace hrd := blk_u hrd bb; replace hfa := blk_u hfa bb; replace sF := sF.below bb; replace sFw := owk_under sFw bb; replace sO := sO.below bb; replace sOw := owk_under sOw bb; replace sN := sN.below bb; replace sNw := owk_under sNw bb; replace lz_sF := Nat.le_trans lz_sF bb.size; replace lz_sO := Nat.le_trans lz_sO bb.size; replace lz_sN := Nat.le_trans lz_sN bb.size; replace bel := bel.trans (bb.mono (Nat.le_trans hlo bel.size)); have hla := hh; clear hh ge bb) | ((with_reducible show wpList _ _ _ (⟨none, Op.store _ (.tmp 2) _, _, _, _, _⟩ :: _) _ _); refine wpList_store_blk rfl 24 (.tmp 2) (.tmp 11) rfl g2 rfl _ rfl _ 24 hfa (by rfl) (by kernel_rfl) (by kernel_rfl) ?_; intro w4 hq gr; replace sF := sF.away av_sF_fa gr; replace sFw := owk_off sFw of_sF_fa gr; replace sO := sO.away av_sO_fa gr; replace sOw := owk_off sOw of_sO_fa gr; replace sN := sN.away av_sN_fa gr; replace sNw := owk_off sNw of_sN_fa gr; replace lz_sF := Nat.le_trans lz_sF gr.size; replace lz_sO := Nat.le_trans lz_sO gr.size; replace lz_sN := Nat.le_trans lz_sN gr.size; replace hrd := blk_a hrd gr d_rd_fa; replace hla := blk_a hla gr (ne_symm d_fa_la); replace bel := below_grown bel gr ofa (Nat.le_trans hlo bel.size); clear hfa; have hfa := hq; clear hq gr) | ((with_reducible show wpList _ _ _ (⟨none, Op.store _ (.tmp 3) _, _, _, _, _⟩ :: _) _ _); refine wpList_store_blk rfl 24 (.tmp 3) (.tmp 12) rfl g3 rfl _ rfl _ 24 hla (by rfl) (by kernel_rfl) (by kernel_rfl) ?_; intro w5 hq gr; replace sF := sF.away av_sF_la gr; replace sFw := owk_off sFw of_sF_la gr; replace sO := sO.away av_sO_la gr; replace sOw := owk_off sOw of_sO_la gr; replace sN := sN.away av_sN_la gr; replace sNw := owk_off sNw of_sN_la gr; replace lz_sF := Nat.le_trans lz_sF gr.size; replace lz_sO := Nat.le_trans lz_sO gr.size; replace lz_sN := Nat.le_trans lz_sN gr.size; replace hrd := blk_a hrd gr d_rd_la; replace hfa := blk_a hfa gr d_fa_la; replace bel := below_grown bel gr ola (Nat.le_trans hlo bel.size); clear hla; have hla := hq; clear hq gr))
    with_reducible refine (has_c (c := c) (ns := ns) (m := m) [102, 105, 114, 115, 116] _ (Rdr.of ⟨Fx, nf, cf, Ox, nx, cx, Nx, nn, cn, hrd, ord, sFw, sOw, sNw, of_sF_rd, of_sO_rd, of_sN_rd, apFO, apFN, apON, bF, bO, bN⟩) hm).mono ?_
    rintro e _ ⟨rfl, rfl⟩
    rw [h1]
    rcases h2 : ns.contains [108, 97, 115, 116] with _ | _
    · have HP : Hid (c.fill ns = { { c with first := poolA c.lan c.bits } with last := poolZ c.lan c.bits }) := Lib.hid (by unfold Cf.fill Cf.fill1; rw [if_neg (by rw [h2]; decide), if_neg (by rw [h1]; decide)])
      have R17 := Lib.hid (range_lit hfa 0 4 [.int .u8 ((poolA c.lan c.bits).a.toNat : Int), .int .u8 ((poolA c.lan c.bits).b.toNat : Int), .int .u8 ((poolA c.lan c.bits).c.toNat : Int), .int .u8 ((poolA c.lan c.bits).d.toNat : Int)] rfl)
      go_wp2_with (first | ((with_reducible show wpList _ _ _ (⟨some 17, _, _, _, _, _⟩ :: _) _ _); refine wpList_load_rng 24 (.tmp 2) rfl (by kernel_rfl) _ _ rfl _ R17.out _ Tryd.underlying24 rfl (by kernel_rfl) ?_) | ((with_reducible show wpList _ _ _ (⟨none, Op.store _ (.tmp 20) _, _, _, _, _⟩ :: _) _ _); refine wpList_store_part rfl 24 (.tmp 20) (.tmp 17) rfl gr 21 rfl [.int .u8 ((poolA c.lan c.bits).a.toNat : Int), .int .u8 ((poolA c.lan c.bits).b.toNat : Int), .int .u8 ((poolA c.lan c.bits).c.toNat : Int), .int .u8 ((poolA c.lan c.bits).d.toNat : Int)] rfl [.int .u8 (c.own.a.toNat : Int), .int .u8 (c.own.b.toNat : Int), .int .u8 (c.own.c.toNat : Int), .int .u8 (c.own.d.toNat : Int), .int .u8 (c.lan.a.toNat : Int), .int .u8 (c.lan.b.toNat : Int), .int .u8 (c.lan.c.toNat : Int), .int .u8 (c.lan.d.toNat : Int), .int .i64 c.bits, .int .u8 (c.lanmac.a.toNat : Int), .int .u8 (c.lanmac.b.toNat : Int), .int .u8 (c.lanmac.c.toNat : Int), .int .u8 (c.lanmac.d.toNat : Int), .int .u8 (c.lanmac.e.toNat : Int), .int .u8 (c.lanmac.f.toNat : Int), .int .u8 (c.wanmac.a.toNat : Int), .int .u8 (c.wanmac.b.toNat : Int), .int .u8 (c.wanmac.c.toNat : Int), .int .u8 (c.wanmac.d.toNat : Int), .int .u8 (c.wanmac.e.toNat : Int), .int .u8 (c.wanmac.f.toNat : Int), .int .u8 (c.first.a.toNat : Int), .int .u8 (c.first.b.toNat : Int), .int .u8 (c.first.c.toNat : Int), .int .u8 (c.first.d.toNat : Int), .int .u8 (c.last.a.toNat : Int), .int .u8 (c.last.b.toNat : Int), .int .u8 (c.last.c.toNat : Int), .int .u8 (c.last.d.toNat : Int), .int .i64 c.time, .int .u8 (c.dns.a.toNat : Int), .int .u8 (c.dns.b.toNat : Int), .int .u8 (c.dns.c.toNat : Int), .int .u8 (c.dns.d.toNat : Int), .int .i64 c.udp, .int .i64 c.tcp, .int .i64 c.icmp, .int .i64 c.low, .slice Fx nf cf, .slice Ox nx cx, .slice Nx nn cn] 63 hrd (by simp) [.int .u8 (c.own.a.toNat : Int), .int .u8 (c.own.b.toNat : Int), .int .u8 (c.own.c.toNat : Int), .int .u8 (c.own.d.toNat : Int), .int .u8 (c.lan.a.toNat : Int), .int .u8 (c.lan.b.toNat : Int), .int .u8 (c.lan.c.toNat : Int), .int .u8 (c.lan.d.toNat : Int), .int .i64 c.bits, .int .u8 (c.lanmac.a.toNat : Int), .int .u8 (c.lanmac.b.toNat : Int), .int .u8 (c.lanmac.c.toNat : Int), .int .u8 (c.lanmac.d.toNat : Int), .int .u8 (c.lanmac.e.toNat : Int), .int .u8 (c.lanmac.f.toNat : Int), .int .u8 (c.wanmac.a.toNat : Int), .int .u8 (c.wanmac.b.toNat : Int), .int .u8 (c.wanmac.c.toNat : Int), .int .u8 (c.wanmac.d.toNat : Int), .int .u8 (c.wanmac.e.toNat : Int), .int .u8 (c.wanmac.f.toNat : Int), .int .u8 ((poolA c.lan c.bits).a.toNat : Int), .int .u8 ((poolA c.lan c.bits).b.toNat : Int), .int .u8 ((poolA c.lan c.bits).c.toNat : Int), .int .u8 ((poolA c.lan c.bits).d.toNat : Int), .int .u8 (c.last.a.toNat : Int), .int .u8 (c.last.b.toNat : Int), .int .u8 (c.last.c.toNat : Int), .int .u8 (c.last.d.toNat : Int), .int .i64 c.time, .int .u8 (c.dns.a.toNat : Int), .int .u8 (c.dns.b.toNat : Int), .int .u8 (c.dns.c.toNat : Int), .int .u8 (c.dns.d.toNat : Int), .int .i64 c.udp, .int .i64 c.tcp, .int .i64 c.icmp, .int .i64 c.low, .slice Fx nf cf, .slice Ox nx cx, .slice Nx nn cn] rfl (by kernel_rfl) (by rfl) ?_; intro w6 hq gr; replace sF := sF.away av_sF_rd gr; replace sFw := owk_off sFw of_sF_rd gr; replace sO := sO.away av_sO_rd gr; replace sOw := owk_off sOw of_sO_rd gr; replace sN := sN.away av_sN_rd gr; replace sNw := owk_off sNw of_sN_rd gr; replace lz_sF := Nat.le_trans lz_sF gr.size; replace lz_sO := Nat.le_trans lz_sO gr.size; replace lz_sN := Nat.le_trans lz_sN gr.size; replace hfa := blk_a hfa gr (ne_symm d_rd_fa); replace hla := blk_a hla gr (ne_symm d_rd_la); replace bel := below_grown bel gr ord (Nat.le_trans hlo bel.size); clear hrd; have hrd := hq; clear hq gr))
      try clear R17
      with_reducible refine (has_c (c := { c with first := poolA c.lan c.bits }) (ns := ns) (m := m) [108, 97, 115, 116] _ (Rdr.of ⟨Fx, nf, cf, Ox, nx, cx, Nx, nn, cn, hrd, ord, sFw, sOw, sNw, of_sF_rd, of_sO_rd, of_sN_rd, apFO, apFN, apON, bF, bO, bN⟩) hm).mono ?_
      rintro e _ ⟨rfl, rfl⟩
      rw [h2]
      have R25 := Lib.hid (range_lit hla 0 4 [.int .u8 ((poolZ c.lan c.bits).a.toNat : Int), .int .u8 ((poolZ c.lan c.bits).b.toNat : Int), .int .u8 ((poolZ c.lan c.bits).c.toNat : Int), .int .u8 ((poolZ c.lan c.bits).d.toNat : Int)] rfl)
      go_wp2_with (first | ((with_reducible show wpList _ _ _ (⟨some 25, _, _, _, _, _⟩ :: _) _ _); refine wpList_load_rng 24 (.tmp 3) rfl (by kernel_rfl) _ _ rfl _ R25.out _ Tryd.underlying24 rfl (by kernel_rfl) ?_) | ((with_reducible show wpList _ _ _ (⟨none, Op.store _ (.tmp 28) _, _, _, _, _⟩ :: _) _ _); refine wpList_store_part rfl 24 (.tmp 28) (.tmp 25) rfl gr 25 rfl [.int .u8 ((poolZ c.lan c.bits).a.toNat : Int), .int .u8 ((poolZ c.lan c.bits).b.toNat : Int), .int .u8 ((poolZ c.lan c.bits).c.toNat : Int), .int .u8 ((poolZ c.lan c.bits).d.toNat : Int)] rfl [.int .u8 (c.own.a.toNat : Int), .int .u8 (c.own.b.toNat : Int), .int .u8 (c.own.c.toNat : Int), .int .u8 (c.own.d.toNat : Int), .int .u8 (c.lan.a.toNat : Int), .int .u8 (c.lan.b.toNat : Int), .int .u8 (c.lan.c.toNat : Int), .int .u8 (c.lan.d.toNat : Int), .int .i64 c.bits, .int .u8 (c.lanmac.a.toNat : Int), .int .u8 (c.lanmac.b.toNat : Int), .int .u8 (c.lanmac.c.toNat : Int), .int .u8 (c.lanmac.d.toNat : Int), .int .u8 (c.lanmac.e.toNat : Int), .int .u8 (c.lanmac.f.toNat : Int), .int .u8 (c.wanmac.a.toNat : Int), .int .u8 (c.wanmac.b.toNat : Int), .int .u8 (c.wanmac.c.toNat : Int), .int .u8 (c.wanmac.d.toNat : Int), .int .u8 (c.wanmac.e.toNat : Int), .int .u8 (c.wanmac.f.toNat : Int), .int .u8 ((poolA c.lan c.bits).a.toNat : Int), .int .u8 ((poolA c.lan c.bits).b.toNat : Int), .int .u8 ((poolA c.lan c.bits).c.toNat : Int), .int .u8 ((poolA c.lan c.bits).d.toNat : Int), .int .u8 (c.last.a.toNat : Int), .int .u8 (c.last.b.toNat : Int), .int .u8 (c.last.c.toNat : Int), .int .u8 (c.last.d.toNat : Int), .int .i64 c.time, .int .u8 (c.dns.a.toNat : Int), .int .u8 (c.dns.b.toNat : Int), .int .u8 (c.dns.c.toNat : Int), .int .u8 (c.dns.d.toNat : Int), .int .i64 c.udp, .int .i64 c.tcp, .int .i64 c.icmp, .int .i64 c.low, .slice Fx nf cf, .slice Ox nx cx, .slice Nx nn cn] 63 hrd (by simp) [.int .u8 (c.own.a.toNat : Int), .int .u8 (c.own.b.toNat : Int), .int .u8 (c.own.c.toNat : Int), .int .u8 (c.own.d.toNat : Int), .int .u8 (c.lan.a.toNat : Int), .int .u8 (c.lan.b.toNat : Int), .int .u8 (c.lan.c.toNat : Int), .int .u8 (c.lan.d.toNat : Int), .int .i64 c.bits, .int .u8 (c.lanmac.a.toNat : Int), .int .u8 (c.lanmac.b.toNat : Int), .int .u8 (c.lanmac.c.toNat : Int), .int .u8 (c.lanmac.d.toNat : Int), .int .u8 (c.lanmac.e.toNat : Int), .int .u8 (c.lanmac.f.toNat : Int), .int .u8 (c.wanmac.a.toNat : Int), .int .u8 (c.wanmac.b.toNat : Int), .int .u8 (c.wanmac.c.toNat : Int), .int .u8 (c.wanmac.d.toNat : Int), .int .u8 (c.wanmac.e.toNat : Int), .int .u8 (c.wanmac.f.toNat : Int), .int .u8 ((poolA c.lan c.bits).a.toNat : Int), .int .u8 ((poolA c.lan c.bits).b.toNat : Int), .int .u8 ((poolA c.lan c.bits).c.toNat : Int), .int .u8 ((poolA c.lan c.bits).d.toNat : Int), .int .u8 ((poolZ c.lan c.bits).a.toNat : Int), .int .u8 ((poolZ c.lan c.bits).b.toNat : Int), .int .u8 ((poolZ c.lan c.bits).c.toNat : Int), .int .u8 ((poolZ c.lan c.bits).d.toNat : Int), .int .i64 c.time, .int .u8 (c.dns.a.toNat : Int), .int .u8 (c.dns.b.toNat : Int), .int .u8 (c.dns.c.toNat : Int), .int .u8 (c.dns.d.toNat : Int), .int .i64 c.udp, .int .i64 c.tcp, .int .i64 c.icmp, .int .i64 c.low, .slice Fx nf cf, .slice Ox nx cx, .slice Nx nn cn] rfl (by kernel_rfl) (by rfl) ?_; intro w7 hq gr; replace sF := sF.away av_sF_rd gr; replace sFw := owk_off sFw of_sF_rd gr; replace sO := sO.away av_sO_rd gr; replace sOw := owk_off sOw of_sO_rd gr; replace sN := sN.away av_sN_rd gr; replace sNw := owk_off sNw of_sN_rd gr; replace lz_sF := Nat.le_trans lz_sF gr.size; replace lz_sO := Nat.le_trans lz_sO gr.size; replace lz_sN := Nat.le_trans lz_sN gr.size; replace hfa := blk_a hfa gr (ne_symm d_rd_fa); replace hla := blk_a hla gr (ne_symm d_rd_la); replace bel := below_grown bel gr ord (Nat.le_trans hlo bel.size); clear hrd; have hrd := hq; clear hq gr))
      try clear R25
      exact bodyPost_end (results_none rfl _ _ _) rfl ⟨rfl, (by rw [HP.out]; exact ⟨Fx, nf, cf, Ox, nx, cx, Nx, nn, cn, hrd, ord, sFw, sOw, sNw, of_sF_rd, of_sO_rd, of_sN_rd, apFO, apFN, apON, bF, bO, bN⟩), bel⟩
    · have HP : Hid (c.fill ns = { c with first := poolA c.lan c.bits }) := Lib.hid (by unfold Cf.fill Cf.fill1; rw [if_pos h2, if_neg (by rw [h1]; decide)])
      have R17 := Lib.hid (range_lit hfa 0 4 [.int .u8 ((poolA c.lan c.bits).a.toNat : Int), .int .u8 ((poolA c.lan c.bits).b.toNat : Int), .int .u8 ((poolA c.lan c.bits).c.toNat : Int), .int .u8 ((poolA c.lan c.bits).d.toNat : Int)] rfl)
      go_wp2_with (first | ((with_reducible show wpList _ _ _ (⟨some 17, _, _, _, _, _⟩ :: _) _ _); refine wpList_load_rng 24 (.tmp 2) rfl (by kernel_rfl) _ _ rfl _ R17.out _ Tryd.underlying24 rfl (by kernel_rfl) ?_) | ((with_reducible show wpList _ _ _ (⟨none, Op.store _ (.tmp 20) _, _, _, _, _⟩ :: _) _ _); refine wpList_store_part rfl 24 (.tmp 20) (.tmp 17) rfl gr 21 rfl [.int .u8 ((poolA c.lan c.bits).a.toNat : Int), .int .u8 ((poolA c.lan c.bits).b.toNat : Int), .int .u8 ((poolA c.lan c.bits).c.toNat : Int), .int .u8 ((poolA c.lan c.bits).d.toNat : Int)] rfl [.int .u8 (c.own.a.toNat : Int), .int .u8 (c.own.b.toNat : Int), .int .u8 (c.own.c.toNat : Int), .int .u8 (c.own.d.toNat : Int), .int .u8 (c.lan.a.toNat : Int), .int .u8 (c.lan.b.toNat : Int), .int .u8 (c.lan.c.toNat : Int), .int .u8 (c.lan.d.toNat : Int), .int .i64 c.bits, .int .u8 (c.lanmac.a.toNat : Int), .int .u8 (c.lanmac.b.toNat : Int), .int .u8 (c.lanmac.c.toNat : Int), .int .u8 (c.lanmac.d.toNat : Int), .int .u8 (c.lanmac.e.toNat : Int), .int .u8 (c.lanmac.f.toNat : Int), .int .u8 (c.wanmac.a.toNat : Int), .int .u8 (c.wanmac.b.toNat : Int), .int .u8 (c.wanmac.c.toNat : Int), .int .u8 (c.wanmac.d.toNat : Int), .int .u8 (c.wanmac.e.toNat : Int), .int .u8 (c.wanmac.f.toNat : Int), .int .u8 (c.first.a.toNat : Int), .int .u8 (c.first.b.toNat : Int), .int .u8 (c.first.c.toNat : Int), .int .u8 (c.first.d.toNat : Int), .int .u8 (c.last.a.toNat : Int), .int .u8 (c.last.b.toNat : Int), .int .u8 (c.last.c.toNat : Int), .int .u8 (c.last.d.toNat : Int), .int .i64 c.time, .int .u8 (c.dns.a.toNat : Int), .int .u8 (c.dns.b.toNat : Int), .int .u8 (c.dns.c.toNat : Int), .int .u8 (c.dns.d.toNat : Int), .int .i64 c.udp, .int .i64 c.tcp, .int .i64 c.icmp, .int .i64 c.low, .slice Fx nf cf, .slice Ox nx cx, .slice Nx nn cn] 63 hrd (by simp) [.int .u8 (c.own.a.toNat : Int), .int .u8 (c.own.b.toNat : Int), .int .u8 (c.own.c.toNat : Int), .int .u8 (c.own.d.toNat : Int), .int .u8 (c.lan.a.toNat : Int), .int .u8 (c.lan.b.toNat : Int), .int .u8 (c.lan.c.toNat : Int), .int .u8 (c.lan.d.toNat : Int), .int .i64 c.bits, .int .u8 (c.lanmac.a.toNat : Int), .int .u8 (c.lanmac.b.toNat : Int), .int .u8 (c.lanmac.c.toNat : Int), .int .u8 (c.lanmac.d.toNat : Int), .int .u8 (c.lanmac.e.toNat : Int), .int .u8 (c.lanmac.f.toNat : Int), .int .u8 (c.wanmac.a.toNat : Int), .int .u8 (c.wanmac.b.toNat : Int), .int .u8 (c.wanmac.c.toNat : Int), .int .u8 (c.wanmac.d.toNat : Int), .int .u8 (c.wanmac.e.toNat : Int), .int .u8 (c.wanmac.f.toNat : Int), .int .u8 ((poolA c.lan c.bits).a.toNat : Int), .int .u8 ((poolA c.lan c.bits).b.toNat : Int), .int .u8 ((poolA c.lan c.bits).c.toNat : Int), .int .u8 ((poolA c.lan c.bits).d.toNat : Int), .int .u8 (c.last.a.toNat : Int), .int .u8 (c.last.b.toNat : Int), .int .u8 (c.last.c.toNat : Int), .int .u8 (c.last.d.toNat : Int), .int .i64 c.time, .int .u8 (c.dns.a.toNat : Int), .int .u8 (c.dns.b.toNat : Int), .int .u8 (c.dns.c.toNat : Int), .int .u8 (c.dns.d.toNat : Int), .int .i64 c.udp, .int .i64 c.tcp, .int .i64 c.icmp, .int .i64 c.low, .slice Fx nf cf, .slice Ox nx cx, .slice Nx nn cn] rfl (by kernel_rfl) (by rfl) ?_; intro w6 hq gr; replace sF := sF.away av_sF_rd gr; replace sFw := owk_off sFw of_sF_rd gr; replace sO := sO.away av_sO_rd gr; replace sOw := owk_off sOw of_sO_rd gr; replace sN := sN.away av_sN_rd gr; replace sNw := owk_off sNw of_sN_rd gr; replace lz_sF := Nat.le_trans lz_sF gr.size; replace lz_sO := Nat.le_trans lz_sO gr.size; replace lz_sN := Nat.le_trans lz_sN gr.size; replace hfa := blk_a hfa gr (ne_symm d_rd_fa); replace hla := blk_a hla gr (ne_symm d_rd_la); replace bel := below_grown bel gr ord (Nat.le_trans hlo bel.size); clear hrd; have hrd := hq; clear hq gr))
      try clear R17
      with_reducible refine (has_c (c := { c with first := poolA c.lan c.bits }) (ns := ns) (m := m) [108, 97, 115, 116] _ (Rdr.of ⟨Fx, nf, cf, Ox, nx, cx, Nx, nn, cn, hrd, ord, sFw, sOw, sNw, of_sF_rd, of_sO_rd, of_sN_rd, apFO, apFN, apON, bF, bO, bN⟩) hm).mono ?_
      rintro e _ ⟨rfl, rfl⟩
      rw [h2]
      go_wp2_with fail
      exact bodyPost_end (results_none rfl _ _ _) rfl ⟨rfl, (by rw [HP.out]; exact ⟨Fx, nf, cf, Ox, nx, cx, Nx, nn, cn, hrd, ord, sFw, sOw, sNw, of_sF_rd, of_sO_rd, of_sN_rd, apFO, apFN, apON, bF, bO, bN⟩), bel⟩
  · go_wp2_with (first | ((with_reducible show wpList _ _ _ (⟨some 2, _, _, _, _, _⟩ :: _) _ _); refine wpList_new_a rfl 24 rfl #[.int .u8 0, .int .u8 0, .int .u8 0, .int .u8 0] (by kernel_rfl) ?_; intro g2 w2 ge hh bb; have d_rd_fa := ne_new (hlt hrd) ge; have av_sF_fa := sF.av_new ge; have of_sF_fa := owk_new sFw ge; have av_sO_fa := sO.av_new ge; have of_sO_fa := owk_new sOw ge; have av_sN_fa := sN.av_new ge; have of_sN_fa := owk_new sNw ge; have ofa := Nat.le_trans (Nat.le_trans hlo bel.size) ge; replace hrd := blk_u hrd bb; replace sF := sF.below bb; replace sFw := owk_under sFw bb; replace sO := sO.below bb; replace sOw := owk_under sOw bb; replace sN := sN.below bb; replace sNw := owk_under sNw bb; replace lz_sF := Nat.le_trans lz_sF bb.size; replace lz_sO := Nat.le_trans lz_sO bb.size; replace lz_sN := Nat.le_trans lz_sN bb.size; replace bel := bel.trans (bb.mono (Nat.le_trans hlo bel.size)); have hfa := hh; clear hh ge bb) | ((with_reducible show wpList _ _ _ (⟨some 3, _, _, _, _, _⟩ :: _) _ _); refine wpList_new_a rfl 24 rfl #[.int .u8 0, .int .u8 0, .int .u8 0, .int .u8 0] (by kernel_rfl) ?_; intro g3 w3 ge hh bb; have d_rd_la := ne_new (hlt hrd) ge; have d_fa_la := ne_new (hlt hfa) ge; have av_sF_la := sF.av_new ge; have of_sF_la := owk_new sFw ge; have av_sO_la := sO.av_new ge; have of_sO_la := owk_new sOw ge; have av_sN_la := sN.av_new ge; have of_sN_la := owk_new sNw ge; have ola := Nat.le_trans (Nat.le_trans hlo bel.size) ge; replace hrd := blk_u hrd bb; replace hfa := blk_u hfa bb; replace sF := sF.below bb; replace sFw := owk_under sFw bb; replace sO := sO.below bb; replace sOw := owk_under sOw bb; replace sN := sN.below bb; replace sNw := owk_under sNw bb; replace lz_sF := Nat.le_trans lz_sF bb.size; replace lz_sO := Nat.le_trans lz_sO bb.size; replace lz_sN := Nat.le_trans lz_sN bb.size; replace bel := bel.trans (bb.mono (Nat.le_trans hlo bel.size)); have hla := hh; clear hh ge bb) | ((with_reducible show wpList _ _ _ (⟨none, Op.store _ (.tmp 2) _, _, _, _, _⟩ :: _) _ _); refine wpList_store_blk rfl 24 (.tmp 2) (.tmp 11) rfl g2 rfl _ rfl _ 24 hfa (by rfl) (by kernel_rfl) (by kernel_rfl) ?_; intro w4 hq gr; replace sF := sF.away av_sF_fa gr; replace sFw := owk_off sFw of_sF_fa gr; replace sO := sO.away av_sO_fa gr; replace sOw := owk_off sOw of_sO_fa gr; replace sN := sN.away av_sN_fa gr; replace sNw := owk_off sNw of_sN_fa gr; replace lz_sF := Nat.le_trans lz_sF gr.size; replace lz_sO := Nat.le_trans lz_sO gr.size; replace lz_sN := Nat.le_trans lz_sN gr.size; replace hrd := blk_a hrd gr d_rd_fa; replace hla := blk_a hla gr (ne_symm d_fa_la); replace bel := below_grown bel gr ofa (Nat.le_trans hlo bel.size); clear hfa; have hfa := hq; clear hq gr) | ((with_reducible show wpList _ _ _ (⟨none, Op.store _ (.tmp 3) _, _, _, _, _⟩ :: _) _ _); refine wpList_store_blk rfl 24 (.tmp 3) (.tmp 12) rfl g3 rfl _ rfl _ 24 hla (by rfl) (by kernel_rfl) (by kernel_rfl) ?_; intro w5 hq gr; replace sF := sF.away av_sF_la gr; replace sFw := owk_off sFw of_sF_la gr; replace sO := sO.away av_sO_la gr; replace sOw := owk_off sOw of_sO_la gr; replace sN := sN.away av_sN_la gr; replace sNw := owk_off sNw of_sN_la gr; replace lz_sF := Nat.le_trans lz_sF gr.size; replace lz_sO := Nat.le_trans lz_sO gr.size; replace lz_sN := Nat.le_trans lz_sN gr.size; replace hrd := blk_a hrd gr d_rd_la; replace hfa := blk_a hfa gr d_fa_la; replace bel := below_grown bel gr ola (Nat.le_trans hlo bel.size); clear hla; have hla := hq; clear hq gr))
    with_reducible refine (has_c (c := c) (ns := ns) (m := m) [102, 105, 114, 115, 116] _ (Rdr.of ⟨Fx, nf, cf, Ox, nx, cx, Nx, nn, cn, hrd, ord, sFw, sOw, sNw, of_sF_rd, of_sO_rd, of_sN_rd, apFO, apFN, apON, bF, bO, bN⟩) hm).mono ?_
    rintro e _ ⟨rfl, rfl⟩
    rw [h1]
    rcases h2 : ns.contains [108, 97, 115, 116] with _ | _
    · have HP : Hid (c.fill ns = { c with last := poolZ c.lan c.bits }) := Lib.hid (by unfold Cf.fill Cf.fill1; rw [if_neg (by rw [h2]; decide), if_pos h1])
      go_wp2_with fail
      with_reducible refine (has_c (c := c) (ns := ns) (m := m) [108, 97, 115, 116] _ (Rdr.of ⟨Fx, nf, cf, Ox, nx, cx, Nx, nn, cn, hrd, ord, sFw, sOw, sNw, of_sF_rd, of_sO_rd, of_sN_rd, apFO, apFN, apON, bF, bO, bN⟩) hm).mono ?_
      rintro e _ ⟨rfl, rfl⟩
      rw [h2]
      have R25 := Lib.hid (range_lit hla 0 4 [.int .u8 ((poolZ c.lan c.bits).a.toNat : Int), .int .u8 ((poolZ c.lan c.bits).b.toNat : Int), .int .u8 ((poolZ c.lan c.bits).c.toNat : Int), .int .u8 ((poolZ c.lan c.bits).d.toNat : Int)] rfl)
      go_wp2_with (first | ((with_reducible show wpList _ _ _ (⟨some 25, _, _, _, _, _⟩ :: _) _ _); refine wpList_load_rng 24 (.tmp 3) rfl (by kernel_rfl) _ _ rfl _ R25.out _ Tryd.underlying24 rfl (by kernel_rfl) ?_) | ((with_reducible show wpList _ _ _ (⟨none, Op.store _ (.tmp 28) _, _, _, _, _⟩ :: _) _ _); refine wpList_store_part rfl 24 (.tmp 28) (.tmp 25) rfl gr 25 rfl [.int .u8 ((poolZ c.lan c.bits).a.toNat : Int), .int .u8 ((poolZ c.lan c.bits).b.toNat : Int), .int .u8 ((poolZ c.lan c.bits).c.toNat : Int), .int .u8 ((poolZ c.lan c.bits).d.toNat : Int)] rfl [.int .u8 (c.own.a.toNat : Int), .int .u8 (c.own.b.toNat : Int), .int .u8 (c.own.c.toNat : Int), .int .u8 (c.own.d.toNat : Int), .int .u8 (c.lan.a.toNat : Int), .int .u8 (c.lan.b.toNat : Int), .int .u8 (c.lan.c.toNat : Int), .int .u8 (c.lan.d.toNat : Int), .int .i64 c.bits, .int .u8 (c.lanmac.a.toNat : Int), .int .u8 (c.lanmac.b.toNat : Int), .int .u8 (c.lanmac.c.toNat : Int), .int .u8 (c.lanmac.d.toNat : Int), .int .u8 (c.lanmac.e.toNat : Int), .int .u8 (c.lanmac.f.toNat : Int), .int .u8 (c.wanmac.a.toNat : Int), .int .u8 (c.wanmac.b.toNat : Int), .int .u8 (c.wanmac.c.toNat : Int), .int .u8 (c.wanmac.d.toNat : Int), .int .u8 (c.wanmac.e.toNat : Int), .int .u8 (c.wanmac.f.toNat : Int), .int .u8 (c.first.a.toNat : Int), .int .u8 (c.first.b.toNat : Int), .int .u8 (c.first.c.toNat : Int), .int .u8 (c.first.d.toNat : Int), .int .u8 (c.last.a.toNat : Int), .int .u8 (c.last.b.toNat : Int), .int .u8 (c.last.c.toNat : Int), .int .u8 (c.last.d.toNat : Int), .int .i64 c.time, .int .u8 (c.dns.a.toNat : Int), .int .u8 (c.dns.b.toNat : Int), .int .u8 (c.dns.c.toNat : Int), .int .u8 (c.dns.d.toNat : Int), .int .i64 c.udp, .int .i64 c.tcp, .int .i64 c.icmp, .int .i64 c.low, .slice Fx nf cf, .slice Ox nx cx, .slice Nx nn cn] 63 hrd (by simp) [.int .u8 (c.own.a.toNat : Int), .int .u8 (c.own.b.toNat : Int), .int .u8 (c.own.c.toNat : Int), .int .u8 (c.own.d.toNat : Int), .int .u8 (c.lan.a.toNat : Int), .int .u8 (c.lan.b.toNat : Int), .int .u8 (c.lan.c.toNat : Int), .int .u8 (c.lan.d.toNat : Int), .int .i64 c.bits, .int .u8 (c.lanmac.a.toNat : Int), .int .u8 (c.lanmac.b.toNat : Int), .int .u8 (c.lanmac.c.toNat : Int), .int .u8 (c.lanmac.d.toNat : Int), .int .u8 (c.lanmac.e.toNat : Int), .int .u8 (c.lanmac.f.toNat : Int), .int .u8 (c.wanmac.a.toNat : Int), .int .u8 (c.wanmac.b.toNat : Int), .int .u8 (c.wanmac.c.toNat : Int), .int .u8 (c.wanmac.d.toNat : Int), .int .u8 (c.wanmac.e.toNat : Int), .int .u8 (c.wanmac.f.toNat : Int), .int .u8 (c.first.a.toNat : Int), .int .u8 (c.first.b.toNat : Int), .int .u8 (c.first.c.toNat : Int), .int .u8 (c.first.d.toNat : Int), .int .u8 ((poolZ c.lan c.bits).a.toNat : Int), .int .u8 ((poolZ c.lan c.bits).b.toNat : Int), .int .u8 ((poolZ c.lan c.bits).c.toNat : Int), .int .u8 ((poolZ c.lan c.bits).d.toNat : Int), .int .i64 c.time, .int .u8 (c.dns.a.toNat : Int), .int .u8 (c.dns.b.toNat : Int), .int .u8 (c.dns.c.toNat : Int), .int .u8 (c.dns.d.toNat : Int), .int .i64 c.udp, .int .i64 c.tcp, .int .i64 c.icmp, .int .i64 c.low, .slice Fx nf cf, .slice Ox nx cx, .slice Nx nn cn] rfl (by kernel_rfl) (by rfl) ?_; intro w6 hq gr; replace sF := sF.away av_sF_rd gr; replace sFw := owk_off sFw of_sF_rd gr; replace sO := sO.away av_sO_rd gr; replace sOw := owk_off sOw of_sO_rd gr; replace sN := sN.away av_sN_rd gr; replace sNw := owk_off sNw of_sN_rd gr; replace lz_sF := Nat.le_trans lz_sF gr.size; replace lz_sO := Nat.le_trans lz_sO gr.size; replace lz_sN := Nat.le_trans lz_sN gr.size; replace hfa := blk_a hfa gr (ne_symm d_rd_fa); replace hla := blk_a hla gr (ne_symm d_rd_la); replace bel := below_grown bel gr ord (Nat.le_trans hlo bel.size); clear hrd; have hrd := hq; clear hq gr))
      try clear R25
      exact bodyPost_end (results_none rfl _ _ _) rfl ⟨rfl, (by rw [HP.out]; exact ⟨Fx, nf, cf, Ox, nx, cx, Nx, nn, cn, hrd, ord, sFw, sOw, sNw, of_sF_rd, of_sO_rd, of_sN_rd, apFO, apFN, apON, bF, bO, bN⟩), bel⟩
    · have HP : Hid (c.fill ns = c) := Lib.hid (by unfold Cf.fill Cf.fill1; rw [if_pos h2, if_pos h1])
      go_wp2_with fail
      with_reducible refine (has_c (c := c) (ns := ns) (m := m) [108, 97, 115, 116] _ (Rdr.of ⟨Fx, nf, cf, Ox, nx, cx, Nx, nn, cn, hrd, ord, sFw, sOw, sNw, of_sF_rd, of_sO_rd, of_sN_rd, apFO, apFN, apON, bF, bO, bN⟩) hm).mono ?_
      rintro e _ ⟨rfl, rfl⟩
      rw [h2]
      go_wp2_with fail
      exact bodyPost_end (results_none rfl _ _ _) rfl ⟨rfl, (by rw [HP.out]; exact ⟨Fx, nf, cf, Ox, nx, cx, Nx, nn, cn, hrd, ord, sFw, sOw, sNw, of_sF_rd, of_sO_rd, of_sN_rd, apFO, apFN, apON, bF, bO, bN⟩), bel⟩
theorem ofs_nil (q : Nat) : Ofs (.slice none 0 0) q := fun g h => by simp [Value.ownBlock] at h
theorem hlt_le {lo gr : Nat} {w : World} {c : Cf} {ns : List (List UInt8)} {m : Nat} (h : Rdr lo gr w c ns m) : lo ≤ w.heap.size := by
  obtain ⟨Fx, nf, cf, Ox, nx, cx, Nx, nn, cn, h1, h2, _⟩ := h
  exact Nat.le_trans h2 (Nat.le_of_lt (hlt h1))
set_option linter.unusedVariables false in
set_option linter.unusedSimpArgs false in
set_option maxRecDepth 100000 in
set_option maxHeartbeats 16000000 in
theorem cparse_any (t : List UInt8) (w : World) (htl : t.length ≤ 1000000) : Calls Tryd.prog 8 #[.string ⟨t.toArray⟩] w fun e w' => ∃ Fx nf cf Ox nx cx, e = .returned (.tuple #[.agg (cfl (parseS t).1 Fx nf cf Ox nx cx).toArray, .int .i64 (parseS t).2.1, .int .i64 (parseS t).2.2]) ∧ Sle fxf 10 w' Fx nf cf (parseS t).1.fixed ∧ Sle opf 7 w' Ox nx cx (parseS t).1.opens ∧ Fr w.heap.size Fx nf ∧ Fr w.heap.size Ox nx ∧ Below w.heap.size w w' := by
  have bel := Below.refl w.heap.size w
  go_enter Tryd.func8, Tryd.ntmps8
  by_cases h16 : 16384 < t.length
  · have h16k : (16384 : Int) < t.length := by omega
    have HP : Hid (parseS t = (zeroC, 0, 2)) := Lib.hid (by unfold parseS; rw [if_pos h16])
    go_wp2_with (first | ((with_reducible show wpList _ _ _ (⟨some 2, _, _, _, _, _⟩ :: _) _ _); refine wpList_new_a rfl 32 rfl #[.int .u8 0, .int .u8 0, .int .u8 0, .int .u8 0, .int .u8 0, .int .u8 0, .int .u8 0, .int .u8 0, .int .i64 0, .int .u8 0, .int .u8 0, .int .u8 0, .int .u8 0, .int .u8 0, .int .u8 0, .int .u8 0, .int .u8 0, .int .u8 0, .int .u8 0, .int .u8 0, .int .u8 0, .int .u8 0, .int .u8 0, .int .u8 0, .int .u8 0, .int .u8 0, .int .u8 0, .int .u8 0, .int .u8 0, .int .i64 0, .int .u8 0, .int .u8 0, .int .u8 0, .int .u8 0, .int .i64 0, .int .i64 0, .int .i64 0, .int .i64 0, .slice none 0 0, .slice none 0 0] (by kernel_rfl) ?_; intro g2 w1 ge hh bb; have ores := Nat.le_trans bel.size ge; replace bel := bel.trans (bb.mono bel.size); have hres := hh; clear hh ge bb; have R12 := fun W => st_len t 3 W) | ((with_reducible show wpList _ _ _ (⟨none, Op.store _ (.tmp 2) _, _, _, _, _⟩ :: _) _ _); refine wpList_store_blk rfl 32 (.tmp 2) (.tmp 14) rfl g2 rfl _ rfl _ 32 hres (by rfl) (by kernel_rfl) (by kernel_rfl) ?_; intro w2 hq gr; replace bel := below_grown bel gr ores bel.size; clear hres; have hres := hq; clear hq gr))
    try clear R12
    exact bodyPost_ret (results_cell_tt_row rfl _ _ _ _ _ _ _ rfl hres Tryd.underlying32 rfl (by kernel_rfl) _ _ rfl rfl) rfl ⟨none, 0, 0, none, 0, 0, by rw [HP.out]; rfl, by rw [HP.out]; exact Sle.nil (by decide) fxf_len _, by rw [HP.out]; exact Sle.nil (by decide) opf_len _, fun h => absurd h (by omega), fun h => absurd h (by omega), bel⟩
  · have h16k : decide ((16384 : Int) < t.length) = false := decide_eq_false (by omega)
    go_wp2_with (first | ((with_reducible show wpList _ _ _ (⟨some 2, _, _, _, _, _⟩ :: _) _ _); refine wpList_new_a rfl 32 rfl #[.int .u8 0, .int .u8 0, .int .u8 0, .int .u8 0, .int .u8 0, .int .u8 0, .int .u8 0, .int .u8 0, .int .i64 0, .int .u8 0, .int .u8 0, .int .u8 0, .int .u8 0, .int .u8 0, .int .u8 0, .int .u8 0, .int .u8 0, .int .u8 0, .int .u8 0, .int .u8 0, .int .u8 0, .int .u8 0, .int .u8 0, .int .u8 0, .int .u8 0, .int .u8 0, .int .u8 0, .int .u8 0, .int .u8 0, .int .i64 0, .int .u8 0, .int .u8 0, .int .u8 0, .int .u8 0, .int .i64 0, .int .i64 0, .int .i64 0, .int .i64 0, .slice none 0 0, .slice none 0 0] (by kernel_rfl) ?_; intro g2 w1 ge hh bb; have ores := Nat.le_trans bel.size ge; replace bel := bel.trans (bb.mono bel.size); have hres := hh; clear hh ge bb; have R12 := fun W => st_len t 3 W))
    try clear R12
    with_reducible refine (linesOf_any t _ (by omega)).mono ?_
    rintro e w2 ⟨v_, rfl, wtw, b2⟩
    have y_wt_res := Lib.hid (hlt hres)
    have wtlo := bel.size
    have lz_wt := b2.size
    replace hres := blk_u hres b2
    replace bel := bel.trans (b2.mono bel.size)
    clear b2
    obtain ⟨Awt, cwt, rfl⟩ := owk_val wtw
    have wt := (owk_sle (by decide) stf_len wtw).1
    have fr_wt := (owk_sle (by decide) stf_len wtw).2
    have av_wt_res := fr_wt.av y_wt_res.out
    obtain ⟨ls, hls⟩ : ∃ ls, linesL t = ls := ⟨_, rfl⟩
    obtain ⟨n, hn⟩ : ∃ n, ls.length = n := ⟨_, rfl⟩
    rw [hls, hn] at wt wtw fr_wt av_wt_res
    rw [hls, hn]
    have HLS := Lib.hid hls
    have HNN := Lib.hid hn
    have n0 : (0 : Int) ≤ n := by omega
    clear hls hn
    clear wtw lz_wt
    by_cases h4 : 400 < n
    · have h4k : (400 : Int) < n := by omega
      have HP : Hid (parseS t = (zeroC, 0, 2)) := Lib.hid (by unfold parseS; rw [if_neg h16, if_pos (by rw [HLS.out, HNN.out]; exact h4)])
      go_wp2_with (first | ((with_reducible show wpList _ _ _ (⟨none, Op.store _ (.tmp 2) _, _, _, _, _⟩ :: _) _ _); refine wpList_store_blk rfl 32 (.tmp 2) (.tmp 20) rfl g2 rfl _ rfl _ 32 hres (by rfl) (by kernel_rfl) (by kernel_rfl) ?_; intro w3 hq gr; replace wt := wt.away av_wt_res gr; replace bel := below_grown bel gr ores bel.size; clear hres; have hres := hq; clear hq gr))
      exact bodyPost_ret (results_cell_tt_row rfl _ _ _ _ _ _ _ rfl hres Tryd.underlying32 rfl (by kernel_rfl) _ _ rfl rfl) rfl ⟨none, 0, 0, none, 0, 0, by rw [HP.out]; rfl, by rw [HP.out]; exact Sle.nil (by decide) fxf_len _, by rw [HP.out]; exact Sle.nil (by decide) opf_len _, fun h => absurd h (by omega), fun h => absurd h (by omega), bel⟩
    · have h4k : decide ((400 : Int) < n) = false := decide_eq_false (by omega)
      go_wp2_with fail
      with_reducible refine (cusual_any _).mono ?_
      rintro e w3 ⟨rfl, b3⟩
      replace hres := blk_u hres b3
      replace wt := wt.below b3
      replace bel := bel.trans (b3.mono bel.size)
      clear b3
      obtain ⟨lo, hlo_⟩ : ∃ lo, w3.heap.size = lo := ⟨_, rfl⟩
      have lo_le : w.heap.size ≤ lo := hlo_ ▸ bel.size
      have y_lob_res := Lib.hid (hlt hres)
      have bl_wt_lob := wt.bl_new
      rw [hlo_] at y_lob_res bl_wt_lob
      go_wp2_with (first | ((with_reducible show wpList _ _ _ (⟨some 6, _, _, _, _, _⟩ :: _) _ _); refine wpList_new_a rfl 63 rfl #[.int .u8 0, .int .u8 0, .int .u8 0, .int .u8 0, .int .u8 0, .int .u8 0, .int .u8 0, .int .u8 0, .int .i64 0, .int .u8 0, .int .u8 0, .int .u8 0, .int .u8 0, .int .u8 0, .int .u8 0, .int .u8 0, .int .u8 0, .int .u8 0, .int .u8 0, .int .u8 0, .int .u8 0, .int .u8 0, .int .u8 0, .int .u8 0, .int .u8 0, .int .u8 0, .int .u8 0, .int .u8 0, .int .u8 0, .int .i64 0, .int .u8 0, .int .u8 0, .int .u8 0, .int .u8 0, .int .i64 0, .int .i64 0, .int .i64 0, .int .i64 0, .slice none 0 0, .slice none 0 0, .slice none 0 0] (by kernel_rfl) ?_; intro g6 w4 ge hh bb; have hlr : lo ≤ g6 := hlo_ ▸ ge; have d_res_rd := ne_new (hlt hres) ge; have av_wt_rd := wt.av_new ge; have ord := Nat.le_trans bel.size ge; replace hres := blk_u hres bb; replace wt := wt.below bb; replace bel := bel.trans (bb.mono bel.size); have hrd := hh; clear hh ge bb) | ((with_reducible show wpList _ _ _ (⟨none, Op.store _ (.tmp 6) _, _, _, _, _⟩ :: _) _ _); refine wpList_store_blk rfl 63 (.tmp 6) (.tmp 22) rfl g6 rfl _ rfl _ 63 hrd (by rfl) (by kernel_rfl) (by kernel_rfl) ?_; intro w5 hq gr; replace wt := wt.away av_wt_rd gr; replace hres := blk_a hres gr d_res_rd; replace bel := below_grown bel gr ord bel.size; clear hrd; have hrd := hq; clear hq gr))
      have hR : Rdr lo g6 w5 usualC [] 0 := Rdr.of ⟨none, 0, 0, none, 0, 0, none, 0, 0, hrd, hlr, World.ownsRow_nil _ _ _ _, World.ownsRow_nil _ _ _ _, World.ownsRow_nil _ _ _ _, ofs_nil _, ofs_nil _, ofs_nil _, apr_nil _, apr_nil _, apr_nil _, Nat.le_refl _, Nat.le_refl _, Nat.le_refl _⟩
      clear hrd
      go_wp2_with fail
      go_loopg [25] (n + 1) (fun gk s25 wr => ∃ j : Nat, ∃ c : Cf, ∃ ns : List (List UInt8), gk = n + 1 - j ∧ j ≤ n ∧ Rdr lo g6 wr c ns j ∧ Hid (runL usualC [] ls 0 = runL c ns (ls.drop j) j) ∧ s25 = .int .i64 (j : Int) ∧ wr.heap[g2]? = some (.cells #[.int .u8 0, .int .u8 0, .int .u8 0, .int .u8 0, .int .u8 0, .int .u8 0, .int .u8 0, .int .u8 0, .int .i64 0, .int .u8 0, .int .u8 0, .int .u8 0, .int .u8 0, .int .u8 0, .int .u8 0, .int .u8 0, .int .u8 0, .int .u8 0, .int .u8 0, .int .u8 0, .int .u8 0, .int .u8 0, .int .u8 0, .int .u8 0, .int .u8 0, .int .u8 0, .int .u8 0, .int .u8 0, .int .u8 0, .int .i64 0, .int .u8 0, .int .u8 0, .int .u8 0, .int .u8 0, .int .i64 0, .int .i64 0, .int .i64 0, .int .i64 0, .slice none 0 0, .slice none 0 0] 32 (0, 0)) ∧ Sle stf 1 wr (Awt) (n) (cwt) (ls) ∧ Below w.heap.size w wr)
      case atStart => exact ⟨0, usualC, [], rfl, Nat.zero_le _, hR, Lib.hid rfl, rfl, hres, wt, bel⟩
      case round =>
        clear hres wt bel
        obtain ⟨j, c, ns, HGK, hj, hR, HRUN, rfl, hres, wt, bel⟩ := hrel
        have HGK_ := Lib.hid HGK
        clear HGK
        have j0 : (0 : Int) ≤ j := by omega
        have j1 : (j : Int) ≤ 400 := by omega
        by_cases hjn : j < n
        · obtain ⟨gW, oW, hWp⟩ := wt.place (by omega)
          subst hWp
          obtain ⟨x, hx⟩ : ∃ x, ls[j]? = some x := ⟨_, List.getElem?_eq_getElem (by rw [HNN.out]; exact hjn)⟩
          have HX := Lib.hid hx
          have HXL := Lib.hid (line_len (t := t) (n := 100000) (by omega) (by rw [HLS.out]; exact hx))
          clear hx
          have R29 := Sle.st (i := j) wt HX.out
          go_wp2_with fail
          clear R29
          have hsz : lo ≤ wr.heap.size := Nat.le_trans (hlt_le hR) (Nat.le_refl _)
          with_reducible refine (line_c x _ hsz hR (by omega) (HXL.out)).mono ?_
          rintro e w6 ⟨rfl, hR2, b6⟩
          replace bel := bel.trans (b6.mono lo_le)
          replace hres := blk_under hres b6 y_lob_res.out
          replace wt := wt.under bl_wt_lob b6
          clear hR
          clear b6
          obtain ⟨ev, hev⟩ : ∃ k, lineE ns x = k := ⟨_, rfl⟩
          rw [hev]
          have HEV := Lib.hid hev
          rw [hev] at hR2
          clear hev hsz
          by_cases he : ev = 0
          · have e0 : (ev == 0) = true := beq_iff_eq.2 he
            have e1 : (ev != 0) = false := by rw [bne, e0]; rfl
            have hR3 := hR2 he
            have HRN := Lib.hid (HRUN.out.trans (run_ok (i := j) HX.out (HEV.out.trans he)))
            clear he
            go_wp2_with fail
            go_roundg (n + 1 - (j + 1))
            case measure => have := HGK_.out; omega
            case rel => exact ⟨j + 1, lineC c x, lineN ns x, rfl, by omega, hR3, HRN, by go_num, hres, wt, bel⟩
          · have e0 : (ev == 0) = false := beq_eq_false_iff_ne.2 he
            have e1 : (ev != 0) = true := by rw [bne, e0]; rfl
            have HP : Hid (parseS t = (zeroC, ((j + 1 : Nat) : Int), ev)) := Lib.hid (by unfold parseS; rw [if_neg h16, if_neg (by rw [HLS.out, HNN.out]; exact h4), HLS.out, HRUN.out, run_no HX.out (fun h => he (HEV.out ▸ h)), HEV.out])
            go_wp2_with (first | ((with_reducible show wpList _ _ _ (⟨none, Op.store _ (.tmp 2) _, _, _, _, _⟩ :: _) _ _); refine wpList_store_blk rfl 32 (.tmp 2) (.tmp 34) rfl g2 rfl _ rfl _ 32 hres (by rfl) (by kernel_rfl) (by kernel_rfl) ?_; intro w7 hq gr; replace wt := wt.away av_wt_res gr; replace bel := below_grown bel gr ores bel.size; clear hres; have hres := hq; clear hq gr))
            exact bodyPost_ret (results_cell_tt_row rfl _ _ _ _ _ _ _ rfl hres Tryd.underlying32 rfl (by kernel_rfl) _ _ rfl rfl) rfl ⟨none, 0, 0, none, 0, 0, by rw [HP.out]; rfl, by rw [HP.out]; exact Sle.nil (by decide) fxf_len _, by rw [HP.out]; exact Sle.nil (by decide) opf_len _, fun h => absurd h (by omega), fun h => absurd h (by omega), bel⟩
        · have hjk : decide (j < n) = false := decide_eq_false hjn
          have HOK : Hid (runL usualC [] ls 0 = .ok (c, ns)) := Lib.hid (by rw [HRUN.out, List.drop_eq_nil_of_le (by rw [HNN.out]; omega)]; rfl)
          go_wp2_with fail
          have hsz : lo ≤ wr.heap.size := Nat.le_trans (hlt_le hR) (Nat.le_refl _)
          with_reducible refine (fill_c _ hsz hR (by omega)).mono ?_
          rintro e w6 ⟨rfl, hR2, b6⟩
          replace bel := bel.trans (b6.mono lo_le)
          replace hres := blk_under hres b6 y_lob_res.out
          replace wt := wt.under bl_wt_lob b6
          clear hR
          clear b6
          clear hsz
          obtain ⟨d, hd⟩ : ∃ d, c.fill ns = d := ⟨_, rfl⟩
          rw [hd] at hR2
          have HD := Lib.hid hd
          clear hd
          obtain ⟨Fx, nf, cf, Ox, nx, cx, Nx, nn, cn, hrd, ord, sFw, sOw, sNw, of_sF_rd, of_sO_rd, of_sN_rd, apFO, apFN, apON, bF, bO, bN⟩ := hR2
          have sF := (owk_sle (by decide) fxf_len sFw).1
          have sO := (owk_sle (by decide) opf_len sOw).1
          have frF := (owk_sle (by decide) fxf_len sFw).2
          have frO := (owk_sle (by decide) opf_len sOw).2
          have d_rd_res := Lib.hid (Nat.ne_of_gt (Nat.lt_of_lt_of_le y_lob_res.out ord))
          have av_sF_rd := owk_av sFw of_sF_rd
          have av_sO_rd := owk_av sOw of_sO_rd
          have av_sF_res := frF.av y_lob_res.out
          have av_sO_res := frO.av y_lob_res.out
          clear sNw sFw sOw
          have R41 := Lib.hid (range_lit hrd 0 40 (cfl d Fx nf cf Ox nx cx) rfl)
          go_wp2_with (first | ((with_reducible show wpList _ _ _ (⟨some 41, _, _, _, _, _⟩ :: _) _ _); refine wpList_load_rng 32 (.tmp 40) rfl (by kernel_rfl) _ _ rfl _ R41.out _ Tryd.underlying32 rfl (by kernel_rfl) ?_))
          try clear R41
          with_reducible refine (ccheck_any d _ _ _ _ _ _ _ sF sO).mono ?_
          rintro e w7 ⟨rfl, b7⟩
          replace hres := blk_u hres b7
          replace hrd := blk_u hrd b7
          replace wt := wt.below b7
          replace sF := sF.below b7
          replace sO := sO.below b7
          replace bel := bel.trans (b7.mono bel.size)
          clear b7
          obtain ⟨b, hb⟩ : ∃ b, d.check = b := ⟨_, rfl⟩
          rw [hb]
          have HB := Lib.hid hb
          clear hb
          rcases b with _ | _
          · have HP : Hid (parseS t = (zeroC, 0, 1)) := Lib.hid (by unfold parseS; rw [if_neg h16, if_neg (by rw [HLS.out, HNN.out]; exact h4), HLS.out, HOK.out]; simp only [HD.out, HB.out]; rfl)
            rw [show errC false = 1 from rfl]
            go_wp2_with (first | ((with_reducible show wpList _ _ _ (⟨none, Op.store _ (.tmp 2) _, _, _, _, _⟩ :: _) _ _); refine wpList_store_blk rfl 32 (.tmp 2) (.tmp 45) rfl g2 rfl _ rfl _ 32 hres (by rfl) (by kernel_rfl) (by kernel_rfl) ?_; intro w8 hq gr; replace wt := wt.away av_wt_res gr; replace sF := sF.away av_sF_res gr; replace sO := sO.away av_sO_res gr; replace hrd := blk_a hrd gr d_rd_res; replace bel := below_grown bel gr ores bel.size; clear hres; have hres := hq; clear hq gr))
            exact bodyPost_ret (results_cell_tt_row rfl _ _ _ _ _ _ _ rfl hres Tryd.underlying32 rfl (by kernel_rfl) _ _ rfl rfl) rfl ⟨none, 0, 0, none, 0, 0, by rw [HP.out]; rfl, by rw [HP.out]; exact Sle.nil (by decide) fxf_len _, by rw [HP.out]; exact Sle.nil (by decide) opf_len _, fun h => absurd h (by omega), fun h => absurd h (by omega), bel⟩
          · have HP : Hid (parseS t = (d, 0, 0)) := Lib.hid (by unfold parseS; rw [if_neg h16, if_neg (by rw [HLS.out, HNN.out]; exact h4), HLS.out, HOK.out]; simp only [HD.out, HB.out]; rfl)
            rw [show errC true = 0 from rfl]
            have R48 := Lib.hid (range_lit hrd 0 40 (cfl d Fx nf cf Ox nx cx) rfl)
            go_wp2_with (first | ((with_reducible show wpList _ _ _ (⟨some 48, _, _, _, _, _⟩ :: _) _ _); refine wpList_load_rng 32 (.tmp 47) rfl (by kernel_rfl) _ _ rfl _ R48.out _ Tryd.underlying32 rfl (by kernel_rfl) ?_) | ((with_reducible show wpList _ _ _ (⟨none, Op.store _ (.tmp 2) _, _, _, _, _⟩ :: _) _ _); refine wpList_store_blk rfl 32 (.tmp 2) (.tmp 48) rfl g2 rfl _ rfl _ 32 hres (by rfl) (by kernel_rfl) (by kernel_rfl) ?_; intro w8 hq gr; replace wt := wt.away av_wt_res gr; replace sF := sF.away av_sF_res gr; replace sO := sO.away av_sO_res gr; replace hrd := blk_a hrd gr d_rd_res; replace bel := below_grown bel gr ores bel.size; clear hres; have hres := hq; clear hq gr))
            try clear R48
            exact bodyPost_ret (results_cell_tt_row rfl _ _ _ _ _ _ _ rfl hres Tryd.underlying32 rfl (by kernel_rfl) _ _ rfl rfl) rfl ⟨Fx, nf, cf, Ox, nx, cx, by rw [HP.out]; rfl, by rw [HP.out]; exact sF, by rw [HP.out]; exact sO, frF.mono lo_le, frO.mono lo_le, bel⟩
end Go.Proofs.YtdfobilagidmfaaDoor
