/- Texts put together: Cg7. -/
import Derived.Test.YtdfobilagidmfaaDoorQ10
namespace Go.Proofs.YtdfobilagidmfaaDoor
open Go.RowKit

theorem wp_val {P : Program} {o : Oper} {a : Act} {w : World} {K : Act → World → Prop} {Q : Exit → Act → World → Prop} {v : Value} (h : (execOp a.eval o).run P w = .ok (.value v) w) (hK : K (a.put o.dst v) w) : Oper.wp P o a w K Q := by
  unfold Oper.wp
  rw [h]
  exact hK
theorem Tryd.info_fix : (Tryd.prog.info? 78).map (fun i => (i.zero, i.size, i.bytes)) = some (some (.agg #[.int .u8 0, .int .u8 0, .int .u8 0, .int .u8 0, .int .u8 0, .int .u8 0, .int .u8 0, .int .u8 0, .int .u8 0, .int .u8 0]), 10, 10) := by kernel_rfl
theorem Tryd.info_opn : (Tryd.prog.info? 38).map (fun i => (i.zero, i.size, i.bytes)) = some (some (.agg #[.int .i64 0, .int .i64 0, .int .u8 0, .int .u8 0, .int .u8 0, .int .u8 0, .int .i64 0]), 7, 32) := by kernel_rfl
theorem words_len : ∀ (t u : List UInt8), ∀ x ∈ wordsGo t u, x.length ≤ t.length + u.length
  | [], u, x, h => by
    rw [wordsGo] at h
    split at h
    · cases h
    · rw [List.mem_singleton.1 h]; exact Nat.le_add_left _ _
  | c :: t, u, x, h => by
    rw [wordsGo] at h
    split at h
    · split at h
      · have := words_len t [] x h; simp at this ⊢; omega
      · rcases List.mem_cons.1 h with h | h
        · rw [h]; exact Nat.le_add_left _ _
        · have := words_len t [] x h; simp at this ⊢; omega
    · have := words_len t (u ++ [c]) x h; simp at this ⊢; omega
theorem word_len {l x : List UInt8} {j : Nat} {n : Nat} (hl : l.length ≤ n) (h : (wordsL l)[j]? = some x) : x.length ≤ n := by
  have := words_len l [] x (List.mem_of_getElem? h)
  simp at this
  omega
theorem onlyW_len {l x : List UInt8} {n : Nat} (hl : l.length ≤ n) (h : onlyW l = some x) : x.length ≤ n := by
  unfold onlyW at h
  split at h
  · rename_i y hy
    obtain rfl := Option.some.inj h
    exact word_len (j := 0) hl (by rw [hy]; rfl)
  · cases h
theorem list_two {α : Type} {l : List α} (h : l.length = 2) : ∃ x y, l = [x, y] := by
  rcases l with _ | ⟨x, _ | ⟨y, _ | ⟨z, l⟩⟩⟩ <;> simp at h
  exact ⟨x, y, rfl⟩
theorem list_four {α : Type} {l : List α} (h : l.length = 4) : ∃ x y z u, l = [x, y, z, u] := by
  rcases l with _ | ⟨x, _ | ⟨y, _ | ⟨z, _ | ⟨u, _ | ⟨v, l⟩⟩⟩⟩⟩ <;> simp at h
  exact ⟨x, y, z, u, rfl⟩
/-- A line's value: an address that is reserved, a port that is open. -/
def fixedE (v : List UInt8) : Bool := match wordsL v with
  | [x, y] => mcok x && p4ok y
  | _ => false
def Cf.addF (c : Cf) (v : List UInt8) : Cf := match wordsL v with
  | [x, y] => { c with fixed := c.fixed ++ [(mcl x, p4 y)] }
  | _ => c
def openE (v : List UInt8) : Bool := match wordsL v with
  | [x, y, z, u] => (protoK x).isSome && (decOk y && (p4ok z && decOk u))
  | _ => false
def Cf.addO (c : Cf) (v : List UInt8) : Cf := match wordsL v with
  | [x, y, z, u] => { c with opens := c.opens ++ [((protoK x).getD 0, decV y, p4 z, decV u)] }
  | _ => c
theorem fixedE_no {v : List UInt8} (h : (wordsL v).length ≠ 2) : fixedE v = false := by
  unfold fixedE
  split
  · rename_i x y hh; rw [hh] at h; exact absurd rfl h
  · rfl
theorem openE_no {v : List UInt8} (h : (wordsL v).length ≠ 4) : openE v = false := by
  unfold openE
  split
  · rename_i x y z u hh; rw [hh] at h; exact absurd rfl h
  · rfl
def singleE (ns : List (List UInt8)) (s v : List UInt8) : Int := match kindK s with
  | none => 9
  | some k => match onlyW v with
    | none => 9
    | some x => if okV k x = true then (if ns.contains s = true then 8 else 0) else 9
def Cf.putL (c : Cf) (s v : List UInt8) : Cf := match onlyW v with
  | some x => c.put s x
  | none => c
def lineE (ns : List (List UInt8)) (l : List UInt8) : Int :=
  if skipL l = true then 0 else match cut1 61 l with
  | none => 9
  | some (a, v) => match onlyW a with
    | none => 9
    | some s => if (s == [102, 105, 120, 101, 100]) = true then errI (fixedE v) else if (s == [111, 112, 101, 110]) = true then errI (openE v) else singleE ns s v
def lineC (c : Cf) (l : List UInt8) : Cf :=
  if skipL l = true then c else match cut1 61 l with
  | none => c
  | some (a, v) => match onlyW a with
    | none => c
    | some s => if (s == [102, 105, 120, 101, 100]) = true then c.addF v else if (s == [111, 112, 101, 110]) = true then c.addO v else c.putL s v
def lineN (ns : List (List UInt8)) (l : List UInt8) : List (List UInt8) :=
  if skipL l = true then ns else match cut1 61 l with
  | none => ns
  | some (a, _) => match onlyW a with
    | none => ns
    | some s => if (s == [102, 105, 120, 101, 100]) = true then ns else if (s == [111, 112, 101, 110]) = true then ns else ns ++ [s]
set_option linter.unusedVariables false in
set_option linter.unusedSimpArgs false in
set_option maxRecDepth 100000 in
set_option maxHeartbeats 16000000 in
theorem fixed_c {lo gr : Nat} {c : Cf} {ns : List (List UInt8)} {m : Nat} (v : List UInt8) (w : World) (hlo : lo ≤ w.heap.size) (hR : Rdr lo gr w c ns m) (hm : m ≤ 100000) (hlen : v.length ≤ 100000) : Calls Tryd.prog 54 #[.pointer (some ⟨gr, 0, none⟩), .string ⟨v.toArray⟩] w fun e w' => e = .returned (.int .i64 (errI (fixedE v))) ∧ (fixedE v = true → Rdr lo gr w' (c.addF v) ns (m + 1)) ∧ Below lo w w' := by
  obtain ⟨if_, hif_, hif_0, hif_1, hif_2⟩ := info_parts Tryd.info_fix
  obtain ⟨io, hio, hio0, hio1, hio2⟩ := info_parts Tryd.info_opn
  obtain ⟨is, his, his0, his1, his2⟩ := info_parts Tryd.info_str
  obtain ⟨Fx, nf, cf, Ox, nx, cx, Nx, nn, cn, hrd, ord, sFw, sOw, sNw, of_sF_rd, of_sO_rd, of_sN_rd, apFO, apFN, apON, bF, bO, bN⟩ := hR
  have sF := (owk_sle (by decide) fxf_len sFw).1
  have sO := (owk_sle (by decide) opf_len sOw).1
  have sN := (owk_sle (by decide) stf_len sNw).1
  have av_sF_rd := owk_av sFw of_sF_rd
  have av_sO_rd := owk_av sOw of_sO_rd
  have av_sN_rd := owk_av sNw of_sN_rd
  have sFlo := Nat.le_refl lo
  have sOlo := Nat.le_refl lo
  have sNlo := Nat.le_refl lo
  have n0F : (0 : Int) ≤ nf := by omega
  have n0O : (0 : Int) ≤ nx := by omega
  have n0N : (0 : Int) ≤ nn := by omega
  have lz_sF : lo ≤ _ := hlo
  have lz_sO : lo ≤ _ := hlo
  have lz_sN : lo ≤ _ := hlo
  have bel := Below.refl lo w
  go_enter Tryd.func54, Tryd.ntmps54
  go_wp2_with fail
  with_reducible refine (wordsOf_any v _ hlen).mono ?_
  rintro e w1 ⟨v_, rfl, wtw, b1⟩
  have y_wt_rd := Lib.hid (hlt hrd)
  have bl_sF_wt := sF.bl_new
  have bl_sO_wt := sO.bl_new
  have bl_sN_wt := sN.bl_new
  have wtlo := (Nat.le_trans hlo bel.size)
  have lz_wt := b1.size
  replace hrd := blk_u hrd b1
  replace sF := sF.below b1
  replace sFw := owk_under sFw b1
  replace sO := sO.below b1
  replace sOw := owk_under sOw b1
  replace sN := sN.below b1
  replace sNw := owk_under sNw b1
  replace lz_sF := Nat.le_trans lz_sF b1.size
  replace lz_sO := Nat.le_trans lz_sO b1.size
  replace lz_sN := Nat.le_trans lz_sN b1.size
  replace bel := bel.trans (b1.mono (Nat.le_trans hlo bel.size))
  clear b1
  obtain ⟨Awt, cwt, rfl⟩ := owk_val wtw
  have wt := (owk_sle (by decide) stf_len wtw).1
  have fr_wt := (owk_sle (by decide) stf_len wtw).2
  have av_wt_rd := fr_wt.av y_wt_rd.out
  obtain ⟨ws, hws⟩ : ∃ ws, wordsL v = ws := ⟨_, rfl⟩
  obtain ⟨n, hn⟩ : ∃ n, ws.length = n := ⟨_, rfl⟩
  rw [hws, hn] at wt wtw fr_wt
  rw [hws, hn]
  have HWS := Lib.hid hws
  have HNN := Lib.hid hn
  have n0 : (0 : Int) ≤ n := by omega
  clear hws hn
  by_cases h1 : n = 2
  · obtain ⟨x, y, hxy⟩ := list_two (show ws.length = 2 by rw [HNN.out]; exact h1)
    have hwx : wordsL v = [x, y] := by rw [HWS.out, hxy]
    have HWX := Lib.hid hwx
    have HX0 : Hid (ws[0]? = some x) := Lib.hid (by rw [hxy]; rfl)
    have HL0 : Hid (x.length ≤ 100000) := Lib.hid (word_len (j := 0) hlen (by rw [hwx]; rfl))
    have HX1 : Hid (ws[1]? = some y) := Lib.hid (by rw [hxy]; rfl)
    have HL1 : Hid (y.length ≤ 100000) := Lib.hid (word_len (j := 1) hlen (by rw [hwx]; rfl))
    obtain ⟨gW, oW, rfl⟩ := wt.place (by omega)
    have h1k : ((n : Int) == 2) = true := beq_iff_eq.2 (by omega)
    have h1j : ((n : Int) != 2) = false := by rw [bne, h1k]; rfl
    have i0 : (0 : Int) < n := by omega
    have i1 : (1 : Int) < n := by omega
    clear hxy hwx
    obtain ⟨b0, HB0_⟩ : ∃ b, mcok x = b := ⟨_, rfl⟩
    have HB0 := Lib.hid HB0_
    clear HB0_
    obtain ⟨b1, HB1_⟩ : ∃ b, p4ok y = b := ⟨_, rfl⟩
    have HB1 := Lib.hid HB1_
    clear HB1_
    have ta0 := fun W => ta_mc x W
    have ta1 := fun W => ta_ad y W
    rw [HB0.out] at ta0
    rw [HB1.out] at ta1
    have R18 := (by have h_ := Sle.st (i := 0) wt HX0.out; rw [Nat.add_zero] at h_; exact h_)
    go_wp2_with fail
    clear R18
    with_reducible refine (readAny_any x _ HL0.out).mono ?_
    rintro e w2 ⟨rfl, b2⟩
    replace hrd := blk_u hrd b2
    replace sF := sF.below b2
    replace sFw := owk_under sFw b2
    replace sO := sO.below b2
    replace sOw := owk_under sOw b2
    replace sN := sN.below b2
    replace sNw := owk_under sNw b2
    replace wt := wt.below b2
    replace wtw := owk_under wtw b2
    replace lz_sF := Nat.le_trans lz_sF b2.size
    replace lz_sO := Nat.le_trans lz_sO b2.size
    replace lz_sN := Nat.le_trans lz_sN b2.size
    replace lz_wt := Nat.le_trans lz_wt b2.size
    replace bel := bel.trans (b2.mono (Nat.le_trans hlo bel.size))
    clear b2
    have R20 := ta0
    go_wp2_with (first | ((with_reducible show wpList _ _ _ (⟨some 6, _, _, _, _, _⟩ :: _) _ _); refine wpList_new_a rfl 28 rfl #[.int .u8 0, .int .u8 0, .int .u8 0, .int .u8 0, .int .u8 0, .int .u8 0] (by kernel_rfl) ?_; intro g6 w3 ge hh bb; have d_rd_mb := ne_new (hlt hrd) ge; have av_sF_mb := sF.av_new ge; have of_sF_mb := owk_new sFw ge; have av_sO_mb := sO.av_new ge; have of_sO_mb := owk_new sOw ge; have av_sN_mb := sN.av_new ge; have of_sN_mb := owk_new sNw ge; have av_wt_mb := wt.av_new ge; have of_wt_mb := owk_new wtw ge; have omb := Nat.le_trans (Nat.le_trans hlo bel.size) ge; replace hrd := blk_u hrd bb; replace sF := sF.below bb; replace sFw := owk_under sFw bb; replace sO := sO.below bb; replace sOw := owk_under sOw bb; replace sN := sN.below bb; replace sNw := owk_under sNw bb; replace wt := wt.below bb; replace wtw := owk_under wtw bb; replace lz_sF := Nat.le_trans lz_sF bb.size; replace lz_sO := Nat.le_trans lz_sO bb.size; replace lz_sN := Nat.le_trans lz_sN bb.size; replace lz_wt := Nat.le_trans lz_wt bb.size; replace bel := bel.trans (bb.mono (Nat.le_trans hlo bel.size)); have hmb := hh; clear hh ge bb) | ((with_reducible show wpList _ _ _ (⟨none, Op.store _ (.tmp 6) _, _, _, _, _⟩ :: _) _ _); refine wpList_store_blk rfl 28 (.tmp 6) (.tmp 21) rfl g6 rfl _ rfl _ 28 hmb (by rfl) (by kernel_rfl) (by kernel_rfl) ?_; intro w4 hq gr; replace sF := sF.away av_sF_mb gr; replace sFw := owk_off sFw of_sF_mb gr; replace sO := sO.away av_sO_mb gr; replace sOw := owk_off sOw of_sO_mb gr; replace sN := sN.away av_sN_mb gr; replace sNw := owk_off sNw of_sN_mb gr; replace wt := wt.away av_wt_mb gr; replace wtw := owk_off wtw of_wt_mb gr; replace lz_sF := Nat.le_trans lz_sF gr.size; replace lz_sO := Nat.le_trans lz_sO gr.size; replace lz_sN := Nat.le_trans lz_sN gr.size; replace lz_wt := Nat.le_trans lz_wt gr.size; replace hrd := blk_a hrd gr d_rd_mb; replace bel := below_grown bel gr omb (Nat.le_trans hlo bel.size); clear hmb; have hmb := hq; clear hq gr; have R26 := Sle.st (i := 1) wt HX1.out))
    try clear R20
    try clear R26
    with_reducible refine (readAny_any y _ HL1.out).mono ?_
    rintro e w5 ⟨rfl, b5⟩
    replace hrd := blk_u hrd b5
    replace hmb := blk_u hmb b5
    replace sF := sF.below b5
    replace sFw := owk_under sFw b5
    replace sO := sO.below b5
    replace sOw := owk_under sOw b5
    replace sN := sN.below b5
    replace sNw := owk_under sNw b5
    replace wt := wt.below b5
    replace wtw := owk_under wtw b5
    replace lz_sF := Nat.le_trans lz_sF b5.size
    replace lz_sO := Nat.le_trans lz_sO b5.size
    replace lz_sN := Nat.le_trans lz_sN b5.size
    replace lz_wt := Nat.le_trans lz_wt b5.size
    replace bel := bel.trans (b5.mono (Nat.le_trans hlo bel.size))
    clear b5
    rcases b0 with _ | _
    · have HP : Hid (fixedE v = false) := Lib.hid (by unfold fixedE; rw [HWX.out]; simp only [HB0.out]; simp)
      have R28 := ta1
      go_wp2_with (first | ((with_reducible show wpList _ _ _ (⟨some 8, _, _, _, _, _⟩ :: _) _ _); refine wpList_new_a rfl 24 rfl #[.int .u8 0, .int .u8 0, .int .u8 0, .int .u8 0] (by kernel_rfl) ?_; intro g8 w6 ge hh bb; have d_rd_ab := ne_new (hlt hrd) ge; have d_mb_ab := ne_new (hlt hmb) ge; have av_sF_ab := sF.av_new ge; have of_sF_ab := owk_new sFw ge; have av_sO_ab := sO.av_new ge; have of_sO_ab := owk_new sOw ge; have av_sN_ab := sN.av_new ge; have of_sN_ab := owk_new sNw ge; have av_wt_ab := wt.av_new ge; have of_wt_ab := owk_new wtw ge; have oab := Nat.le_trans (Nat.le_trans hlo bel.size) ge; replace hrd := blk_u hrd bb; replace hmb := blk_u hmb bb; replace sF := sF.below bb; replace sFw := owk_under sFw bb; replace sO := sO.below bb; replace sOw := owk_under sOw bb; replace sN := sN.below bb; replace sNw := owk_under sNw bb; replace wt := wt.below bb; replace wtw := owk_under wtw bb; replace lz_sF := Nat.le_trans lz_sF bb.size; replace lz_sO := Nat.le_trans lz_sO bb.size; replace lz_sN := Nat.le_trans lz_sN bb.size; replace lz_wt := Nat.le_trans lz_wt bb.size; replace bel := bel.trans (bb.mono (Nat.le_trans hlo bel.size)); have hab := hh; clear hh ge bb) | ((with_reducible show wpList _ _ _ (⟨none, Op.store _ (.tmp 8) _, _, _, _, _⟩ :: _) _ _); refine wpList_store_blk rfl 24 (.tmp 8) (.tmp 29) rfl g8 rfl _ rfl _ 24 hab (by rfl) (by kernel_rfl) (by kernel_rfl) ?_; intro w7 hq gr; replace sF := sF.away av_sF_ab gr; replace sFw := owk_off sFw of_sF_ab gr; replace sO := sO.away av_sO_ab gr; replace sOw := owk_off sOw of_sO_ab gr; replace sN := sN.away av_sN_ab gr; replace sNw := owk_off sNw of_sN_ab gr; replace wt := wt.away av_wt_ab gr; replace wtw := owk_off wtw of_wt_ab gr; replace lz_sF := Nat.le_trans lz_sF gr.size; replace lz_sO := Nat.le_trans lz_sO gr.size; replace lz_sN := Nat.le_trans lz_sN gr.size; replace lz_wt := Nat.le_trans lz_wt gr.size; replace hrd := blk_a hrd gr d_rd_ab; replace hmb := blk_a hmb gr d_mb_ab; replace bel := below_grown bel gr oab (Nat.le_trans hlo bel.size); clear hab; have hab := hq; clear hq gr))
      try clear R28
      go_ret
      exact ⟨by rw [HP.out]; rfl, fun h => (by rw [HP.out] at h; cases h), bel⟩
    · rcases b1 with _ | _
      · have HP : Hid (fixedE v = false) := Lib.hid (by unfold fixedE; rw [HWX.out]; simp only [HB0.out, HB1.out]; simp)
        have R28 := ta1
        go_wp2_with (first | ((with_reducible show wpList _ _ _ (⟨some 8, _, _, _, _, _⟩ :: _) _ _); refine wpList_new_a rfl 24 rfl #[.int .u8 0, .int .u8 0, .int .u8 0, .int .u8 0] (by kernel_rfl) ?_; intro g8 w6 ge hh bb; have d_rd_ab := ne_new (hlt hrd) ge; have d_mb_ab := ne_new (hlt hmb) ge; have av_sF_ab := sF.av_new ge; have of_sF_ab := owk_new sFw ge; have av_sO_ab := sO.av_new ge; have of_sO_ab := owk_new sOw ge; have av_sN_ab := sN.av_new ge; have of_sN_ab := owk_new sNw ge; have av_wt_ab := wt.av_new ge; have of_wt_ab := owk_new wtw ge; have oab := Nat.le_trans (Nat.le_trans hlo bel.size) ge; replace hrd := blk_u hrd bb; replace hmb := blk_u hmb bb; replace sF := sF.below bb; replace sFw := owk_under sFw bb; replace sO := sO.below bb; replace sOw := owk_under sOw bb; replace sN := sN.below bb; replace sNw := owk_under sNw bb; replace wt := wt.below bb; replace wtw := owk_under wtw bb; replace lz_sF := Nat.le_trans lz_sF bb.size; replace lz_sO := Nat.le_trans lz_sO bb.size; replace lz_sN := Nat.le_trans lz_sN bb.size; replace lz_wt := Nat.le_trans lz_wt bb.size; replace bel := bel.trans (bb.mono (Nat.le_trans hlo bel.size)); have hab := hh; clear hh ge bb) | ((with_reducible show wpList _ _ _ (⟨none, Op.store _ (.tmp 8) _, _, _, _, _⟩ :: _) _ _); refine wpList_store_blk rfl 24 (.tmp 8) (.tmp 29) rfl g8 rfl _ rfl _ 24 hab (by rfl) (by kernel_rfl) (by kernel_rfl) ?_; intro w7 hq gr; replace sF := sF.away av_sF_ab gr; replace sFw := owk_off sFw of_sF_ab gr; replace sO := sO.away av_sO_ab gr; replace sOw := owk_off sOw of_sO_ab gr; replace sN := sN.away av_sN_ab gr; replace sNw := owk_off sNw of_sN_ab gr; replace wt := wt.away av_wt_ab gr; replace wtw := owk_off wtw of_wt_ab gr; replace lz_sF := Nat.le_trans lz_sF gr.size; replace lz_sO := Nat.le_trans lz_sO gr.size; replace lz_sN := Nat.le_trans lz_sN gr.size; replace lz_wt := Nat.le_trans lz_wt gr.size; replace hrd := blk_a hrd gr d_rd_ab; replace hmb := blk_a hmb gr d_mb_ab; replace bel := below_grown bel gr oab (Nat.le_trans hlo bel.size); clear hab; have hab := hq; clear hq gr))
        try clear R28
        go_ret
        exact ⟨by rw [HP.out]; rfl, fun h => (by rw [HP.out] at h; cases h), bel⟩
      · have HP : Hid (fixedE v = true) := Lib.hid (by unfold fixedE; rw [HWX.out]; simp only [HB0.out, HB1.out]; rfl)
        have HC : Hid (c.addF v = { c with fixed := c.fixed ++ [(mcl x, p4 y)] }) := Lib.hid (by unfold Cf.addF; rw [HWX.out])
        have R28 := ta1
        go_wp2_with (first | ((with_reducible show wpList _ _ _ (⟨some 8, _, _, _, _, _⟩ :: _) _ _); refine wpList_new_a rfl 24 rfl #[.int .u8 0, .int .u8 0, .int .u8 0, .int .u8 0] (by kernel_rfl) ?_; intro g8 w6 ge hh bb; have d_rd_ab := ne_new (hlt hrd) ge; have d_mb_ab := ne_new (hlt hmb) ge; have av_sF_ab := sF.av_new ge; have of_sF_ab := owk_new sFw ge; have av_sO_ab := sO.av_new ge; have of_sO_ab := owk_new sOw ge; have av_sN_ab := sN.av_new ge; have of_sN_ab := owk_new sNw ge; have av_wt_ab := wt.av_new ge; have of_wt_ab := owk_new wtw ge; have oab := Nat.le_trans (Nat.le_trans hlo bel.size) ge; replace hrd := blk_u hrd bb; replace hmb := blk_u hmb bb; replace sF := sF.below bb; replace sFw := owk_under sFw bb; replace sO := sO.below bb; replace sOw := owk_under sOw bb; replace sN := sN.below bb; replace sNw := owk_under sNw bb; replace wt := wt.below bb; replace wtw := owk_under wtw bb; replace lz_sF := Nat.le_trans lz_sF bb.size; replace lz_sO := Nat.le_trans lz_sO bb.size; replace lz_sN := Nat.le_trans lz_sN bb.size; replace lz_wt := Nat.le_trans lz_wt bb.size; replace bel := bel.trans (bb.mono (Nat.le_trans hlo bel.size)); have hab := hh; clear hh ge bb) | ((with_reducible show wpList _ _ _ (⟨none, Op.store _ (.tmp 8) _, _, _, _, _⟩ :: _) _ _); refine wpList_store_blk rfl 24 (.tmp 8) (.tmp 29) rfl g8 rfl _ rfl _ 24 hab (by rfl) (by kernel_rfl) (by kernel_rfl) ?_; intro w7 hq gr; replace sF := sF.away av_sF_ab gr; replace sFw := owk_off sFw of_sF_ab gr; replace sO := sO.away av_sO_ab gr; replace sOw := owk_off sOw of_sO_ab gr; replace sN := sN.away av_sN_ab gr; replace sNw := owk_off sNw of_sN_ab gr; replace wt := wt.away av_wt_ab gr; replace wtw := owk_off wtw of_wt_ab gr; replace lz_sF := Nat.le_trans lz_sF gr.size; replace lz_sO := Nat.le_trans lz_sO gr.size; replace lz_sN := Nat.le_trans lz_sN gr.size; replace lz_wt := Nat.le_trans lz_wt gr.size; replace hrd := blk_a hrd gr d_rd_ab; replace hmb := blk_a hmb gr d_mb_ab; replace bel := below_grown bel gr oab (Nat.le_trans hlo bel.size); clear hab; have hab := hq; clear hq gr))
        try clear R28
        replace bel := bel.drew
        replace hrd : w7.drew.heap[gr]? = _ := hrd
        replace hmb : w7.drew.heap[g6]? = _ := hmb
        replace hab : w7.drew.heap[g8]? = _ := hab
        replace sF := sF.drew
        replace sFw : w7.drew.ownsRow _ _ _ _ _ _ := sFw
        replace lz_sF : _ ≤ w7.drew.heap.size := lz_sF
        replace sO := sO.drew
        replace sOw : w7.drew.ownsRow _ _ _ _ _ _ := sOw
        replace lz_sO : _ ≤ w7.drew.heap.size := lz_sO
        replace sN := sN.drew
        replace sNw : w7.drew.ownsRow _ _ _ _ _ _ := sNw
        replace lz_sN : _ ≤ w7.drew.heap.size := lz_sN
        replace wt := wt.drew
        replace wtw : w7.drew.ownsRow _ _ _ _ _ _ := wtw
        replace lz_wt : _ ≤ w7.drew.heap.size := lz_wt
        refine wp_region_held_drew (S := fun W => W.heap[g6]? = some (.cells #[.int .u8 ((mcl x).a.toNat : Int), .int .u8 ((mcl x).b.toNat : Int), .int .u8 ((mcl x).c.toNat : Int), .int .u8 ((mcl x).d.toNat : Int), .int .u8 ((mcl x).e.toNat : Int), .int .u8 ((mcl x).f.toNat : Int)] 28 (0, 0)) ∧ W.heap[g8]? = some (.cells #[.int .u8 ((p4 y).a.toNat : Int), .int .u8 ((p4 y).b.toNat : Int), .int .u8 ((p4 y).c.toNat : Int), .int .u8 ((p4 y).d.toNat : Int)] 24 (0, 0))) (by kernel_rfl) ⟨hmb, hab⟩ (fun hH => ?_)
        generalize w7.drew = w8 at bel hrd hmb hab sF sO sN wt sFw sOw sNw wtw lz_sF lz_sO lz_sN lz_wt hH ⊢
        refine wpAnyH_take (i := 0) (v := ?_) rfl (by kernel_rfl) (by kernel_rfl) (by kernel_rfl) (fun _ _ _ h => h) (Or.inl ⟨by rfl, ?_⟩) hH ?_
        rotate_left
        · ((intro W hW; clear hW; go_simp) <;> with_reducible rfl)
        simp only [Act.put, List.getElem_toArray, List.getElem_cons_zero, List.setIfInBounds_toArray, List.set_cons_zero, List.set_cons_succ]
        refine wpAnyH_take (i := 1) (v := ?_) rfl (by kernel_rfl) (by kernel_rfl) (by kernel_rfl) (fun _ _ _ h => h) (Or.inl ⟨by rfl, ?_⟩) hH ?_
        rotate_left
        · ((intro W hW; clear hW; go_simp) <;> with_reducible rfl)
        simp only [Act.put, List.getElem_toArray, List.getElem_cons_zero, List.getElem_cons_succ, List.setIfInBounds_toArray, List.set_cons_zero, List.set_cons_succ]
        refine wpAnyH_take (i := 2) (v := ?_) rfl (by kernel_rfl) (by kernel_rfl) (by kernel_rfl) (fun _ _ _ h => h) (Or.inl ⟨by rfl, ?_⟩) hH ?_
        rotate_left
        · ((intro W hW; clear hW; go_simp) <;> with_reducible rfl)
        simp only [Act.put, List.getElem_toArray, List.getElem_cons_zero, List.getElem_cons_succ, List.setIfInBounds_toArray, List.set_cons_zero, List.set_cons_succ]
        refine wpAnyH_take (i := 3) (v := ?_) rfl (by kernel_rfl) (by kernel_rfl) (by kernel_rfl) (fun _ _ _ h => h) (Or.inl ⟨by rfl, ?_⟩) hH ?_
        rotate_left
        · ((intro W hW; clear hW; go_simp) <;> with_reducible rfl)
        simp only [Act.put, List.getElem_toArray, List.getElem_cons_zero, List.getElem_cons_succ, List.setIfInBounds_toArray, List.set_cons_zero, List.set_cons_succ]
        refine wpAnyH_take (i := 4) (v := ?_) rfl (by kernel_rfl) (by kernel_rfl) (by kernel_rfl) (fun _ _ _ h => h) (Or.inl ⟨by rfl, ?_⟩) hH ?_
        rotate_left
        · ((intro W hW; clear hW; go_simp) <;> with_reducible rfl)
        simp only [Act.put, List.getElem_toArray, List.getElem_cons_zero, List.getElem_cons_succ, List.setIfInBounds_toArray, List.set_cons_zero, List.set_cons_succ]
        refine wpAnyH_take (i := 6) (v := .agg #[.int .u8 ((mcl x).a.toNat : Int), .int .u8 ((mcl x).b.toNat : Int), .int .u8 ((mcl x).c.toNat : Int), .int .u8 ((mcl x).d.toNat : Int), .int .u8 ((mcl x).e.toNat : Int), .int .u8 ((mcl x).f.toNat : Int)]) rfl (by kernel_rfl) (by kernel_rfl) (by kernel_rfl) (fun _ _ _ h => h) (yieldsIf_load_part (by kernel_rfl) 28 _ rfl g6 0 6 rfl _ 28 (0, 0) (fun W hW => hW.1) _ rfl _ Tryd.underlying28 rfl (by kernel_rfl)) hH ?_
        simp only [Act.put, List.getElem_toArray, List.getElem_cons_zero, List.getElem_cons_succ, List.setIfInBounds_toArray, List.set_cons_zero, List.set_cons_succ]
        refine wpAnyH_take (i := 7) (v := .agg #[.int .u8 ((p4 y).a.toNat : Int), .int .u8 ((p4 y).b.toNat : Int), .int .u8 ((p4 y).c.toNat : Int), .int .u8 ((p4 y).d.toNat : Int)]) rfl (by kernel_rfl) (by kernel_rfl) (by kernel_rfl) (fun _ _ _ h => h) (yieldsIf_load_part (by kernel_rfl) 24 _ rfl g8 0 4 rfl _ 24 (0, 0) (fun W hW => hW.2) _ rfl _ Tryd.underlying24 rfl (by kernel_rfl)) hH ?_
        simp only [Act.put, List.getElem_toArray, List.getElem_cons_zero, List.getElem_cons_succ, List.setIfInBounds_toArray, List.set_cons_zero, List.set_cons_succ]
        refine wpAnyH_take (i := 8) (v := ?_) rfl (by kernel_rfl) (by kernel_rfl) (by kernel_rfl) (fun _ _ _ h => h) (Or.inl ⟨by rfl, ?_⟩) hH ?_
        rotate_left
        · ((intro W hW; clear hW; go_simp) <;> with_reducible rfl)
        simp only [Act.put, List.getElem_toArray, List.getElem_cons_zero, List.getElem_cons_succ, List.setIfInBounds_toArray, List.set_cons_zero, List.set_cons_succ]
        refine wpAnyH_ready (rs := [5, 9]) (by kernel_rfl) (by simp) ?_
        refine AllReadyH.cons (o := _) rfl (fun K hK => ?_) (AllReadyH.cons (o := _) rfl (fun K hK => ?_) AllReadyH.nil)
        · simp only [List.getElem_toArray, List.getElem_cons_zero, List.getElem_cons_succ]
          rw [if_pos (by rfl)]
          have hk_ := cell_lit hrd 38 _ rfl
          refine wp_val (v := .slice Fx nf cf) (by (go_simp) <;> with_reducible rfl) ?_
          clear hk_
          refine hK.out _ _ ⟨hmb, hab⟩ (fun hH9 => ?_)
          clear hK K
          simp only [Act.put, List.setIfInBounds_toArray, List.set_cons_zero, List.set_cons_succ]
          refine wpAnyH_ready (rs := [9]) (by kernel_rfl) (by simp) ?_
          refine AllReadyH.cons (o := _) rfl (fun K hK => ?_) AllReadyH.nil
          simp only [List.getElem_toArray, List.getElem_cons_zero, List.getElem_cons_succ]
          rw [if_pos (by rfl)]
          refine wp_lit_n 29 78 1 _ rfl #[.int .u8 ((mcl x).a.toNat : Int), .int .u8 ((mcl x).b.toNat : Int), .int .u8 ((mcl x).c.toNat : Int), .int .u8 ((mcl x).d.toNat : Int), .int .u8 ((mcl x).e.toNat : Int), .int .u8 ((mcl x).f.toNat : Int), .int .u8 ((p4 y).a.toNat : Int), .int .u8 ((p4 y).b.toNat : Int), .int .u8 ((p4 y).c.toNat : Int), .int .u8 ((p4 y).d.toNat : Int)] (.agg #[.int .u8 0, .int .u8 0, .int .u8 0, .int .u8 0, .int .u8 0, .int .u8 0, .int .u8 0, .int .u8 0, .int .u8 0, .int .u8 0]) Tryd.underlying29 (by kernel_rfl) 10 (by kernel_rfl) (by decide) (by kernel_rfl) ?_
          intro g46 w10 ge lt hh bb
          have d_rd_b46 := ne_new (hlt hrd) ge
          have d_mb_b46 := ne_new (hlt hmb) ge
          have d_ab_b46 := ne_new (hlt hab) ge
          have av_sF_b46 := sF.av_new ge
          have of_sF_b46 := owk_new sFw ge
          have av_sO_b46 := sO.av_new ge
          have of_sO_b46 := owk_new sOw ge
          have av_sN_b46 := sN.av_new ge
          have of_sN_b46 := owk_new sNw ge
          have av_wt_b46 := wt.av_new ge
          have of_wt_b46 := owk_new wtw ge
          have ob46 := Nat.le_trans (Nat.le_trans hlo bel.size) ge
          replace hrd := blk_u hrd bb
          replace hmb := blk_u hmb bb
          replace hab := blk_u hab bb
          replace sF := sF.below bb
          replace sFw := owk_under sFw bb
          replace sO := sO.below bb
          replace sOw := owk_under sOw bb
          replace sN := sN.below bb
          replace sNw := owk_under sNw bb
          replace wt := wt.below bb
          replace wtw := owk_under wtw bb
          replace lz_sF := Nat.le_trans lz_sF bb.size
          replace lz_sO := Nat.le_trans lz_sO bb.size
          replace lz_sN := Nat.le_trans lz_sN bb.size
          replace lz_wt := Nat.le_trans lz_wt bb.size
          replace bel := bel.trans (bb.mono (Nat.le_trans hlo bel.size))
          have hb46 := hh
          clear hh lt ge bb
          have lt : Sle fxf 10 w10 (some ⟨g46, 0, none⟩) (1) (1) ([(mcl x, p4 y)]) := sle_lit ([(mcl x, p4 y)]) (by decide) fxf_len hb46 rfl (by simp [maxLen])
          refine hK.out _ _ ⟨hmb, hab⟩ (fun hH11 => ?_)
          clear hK K
          simp only [Act.put, List.setIfInBounds_toArray, List.set_cons_zero, List.set_cons_succ]
          refine wpAnyH_ready (rs := [10]) (by kernel_rfl) (by simp) ?_
          refine AllReadyH.cons (o := _) rfl (fun K hK => ?_) AllReadyH.nil
          simp only [List.getElem_toArray, List.getElem_cons_zero, List.getElem_cons_succ]
          rw [if_pos (by rfl)]
          refine wp_append_sle (.tmp 42) (.tmp 46) 29 rfl (lo) 78 if_ (.agg #[.int .u8 0, .int .u8 0, .int .u8 0, .int .u8 0, .int .u8 0, .int .u8 0, .int .u8 0, .int .u8 0, .int .u8 0, .int .u8 0]) 10 Tryd.underlying29 hif_ hif_0 hif_1 hif_2 rfl fxf_one _ (nf) (c.fixed) rfl sFw (some ⟨g46, 0, none⟩) (1) (1) ([(mcl x, p4 y)]) rfl lt (by unfold maxLen; omega) (by omega) lz_sF ?_
          intro v47 w12 own_ bb gw ofw
          have of47_rd := ofw _ (hlt hrd) of_sF_rd
          have of47_mb := ofw _ (hlt hmb) of_sF_mb
          have of47_ab := ofw _ (hlt hab) of_sF_ab
          have of47_b46 := ofw _ (hlt hb46) of_sF_b46
          have apFO_ := apr_new sOw apFO ofw
          replace sOw := owk_apart sOw apFO gw
          replace sO := (owk_sle (by decide) opf_len sOw).1
          clear apFO
          have apFO := apFO_
          clear apFO_
          replace lz_sO := Nat.le_trans lz_sO gw.size
          have apFN_ := apr_new sNw apFN ofw
          replace sNw := owk_apart sNw apFN gw
          replace sN := (owk_sle (by decide) stf_len sNw).1
          clear apFN
          have apFN := apFN_
          clear apFN_
          replace lz_sN := Nat.le_trans lz_sN gw.size
          clear ofw
          clear wt wtw lz_wt
          clear lt
          replace hrd := blk_own hrd gw of_sF_rd
          replace hmb := blk_own hmb gw of_sF_mb
          replace hab := blk_own hab gw of_sF_ab
          replace hb46 := blk_own hb46 gw of_sF_b46
          clear gw
          replace bel := bel.trans (bb.mono sFlo)
          have lz_sF2 := Nat.le_trans lz_sF bb.size
          clear bb
          clear sF sFw lz_sF
          replace own_ : w12.ownsRow (lo) 78 10 v47 (nf + 1) ((c.fixed ++ [(mcl x, p4 y)] : List (Mc6 × Ad4)).flatMap fxf) := own_
          obtain ⟨A47, c47, rfl⟩ := owk_val own_
          have sF2w := own_
          have sF2 := (owk_sle (by decide) fxf_len own_).1
          have fr_sF2 := (owk_sle (by decide) fxf_len own_).2
          clear own_
          have av_sF2_rd := owk_av sF2w of47_rd
          have av_sF2_mb := owk_av sF2w of47_mb
          have av_sF2_ab := owk_av sF2w of47_ab
          have av_sF2_b46 := owk_av sF2w of47_b46
          refine hK.out _ _ ⟨hmb, hab⟩ (fun hH13 => ?_)
          clear hK K
          simp only [Act.put, List.setIfInBounds_toArray, List.set_cons_zero, List.set_cons_succ]
          refine wpAnyH_take (i := 11) (v := ?_) rfl (by kernel_rfl) (by kernel_rfl) (by kernel_rfl) (fun _ _ _ h => h) (Or.inl ⟨by rfl, ?_⟩) hH13 ?_
          rotate_left
          · ((intro W hW; clear hW; go_simp) <;> with_reducible rfl)
          simp only [Act.put, List.getElem_toArray, List.getElem_cons_zero, List.getElem_cons_succ, List.setIfInBounds_toArray, List.set_cons_zero, List.set_cons_succ]
          refine wpAnyH_take (i := 12) (v := ?_) rfl (by kernel_rfl) (by kernel_rfl) (by kernel_rfl) (fun _ _ _ h => h) (Or.inl ⟨by rfl, ?_⟩) hH13 ?_
          rotate_left
          · ((intro W hW; clear hW; go_simp) <;> with_reducible rfl)
          simp only [Act.put, List.getElem_toArray, List.getElem_cons_zero, List.getElem_cons_succ, List.setIfInBounds_toArray, List.set_cons_zero, List.set_cons_succ]
          refine wpAnyH_take (i := 13) (v := ?_) rfl (by kernel_rfl) (by kernel_rfl) (by kernel_rfl) (fun _ _ _ h => h) (Or.inl ⟨by rfl, ?_⟩) hH13 ?_
          rotate_left
          · ((intro W hW; clear hW; go_simp) <;> with_reducible rfl)
          simp only [Act.put, List.getElem_toArray, List.getElem_cons_zero, List.getElem_cons_succ, List.setIfInBounds_toArray, List.set_cons_zero, List.set_cons_succ]
          refine wpAnyH_ready (rs := [14]) (by kernel_rfl) (by simp) ?_
          refine AllReadyH.cons (o := _) rfl (fun K hK => ?_) AllReadyH.nil
          simp only [List.getElem_toArray, List.getElem_cons_zero, List.getElem_cons_succ]
          rw [if_pos (by rfl)]
          refine wp_store_part 29 (.tmp 50) (.tmp 47) rfl gr 38 rfl [.slice A47 (nf + 1) c47] rfl [.int .u8 (c.own.a.toNat : Int), .int .u8 (c.own.b.toNat : Int), .int .u8 (c.own.c.toNat : Int), .int .u8 (c.own.d.toNat : Int), .int .u8 (c.lan.a.toNat : Int), .int .u8 (c.lan.b.toNat : Int), .int .u8 (c.lan.c.toNat : Int), .int .u8 (c.lan.d.toNat : Int), .int .i64 c.bits, .int .u8 (c.lanmac.a.toNat : Int), .int .u8 (c.lanmac.b.toNat : Int), .int .u8 (c.lanmac.c.toNat : Int), .int .u8 (c.lanmac.d.toNat : Int), .int .u8 (c.lanmac.e.toNat : Int), .int .u8 (c.lanmac.f.toNat : Int), .int .u8 (c.wanmac.a.toNat : Int), .int .u8 (c.wanmac.b.toNat : Int), .int .u8 (c.wanmac.c.toNat : Int), .int .u8 (c.wanmac.d.toNat : Int), .int .u8 (c.wanmac.e.toNat : Int), .int .u8 (c.wanmac.f.toNat : Int), .int .u8 (c.first.a.toNat : Int), .int .u8 (c.first.b.toNat : Int), .int .u8 (c.first.c.toNat : Int), .int .u8 (c.first.d.toNat : Int), .int .u8 (c.last.a.toNat : Int), .int .u8 (c.last.b.toNat : Int), .int .u8 (c.last.c.toNat : Int), .int .u8 (c.last.d.toNat : Int), .int .i64 c.time, .int .u8 (c.dns.a.toNat : Int), .int .u8 (c.dns.b.toNat : Int), .int .u8 (c.dns.c.toNat : Int), .int .u8 (c.dns.d.toNat : Int), .int .i64 c.udp, .int .i64 c.tcp, .int .i64 c.icmp, .int .i64 c.low, .slice Fx nf cf, .slice Ox nx cx, .slice Nx nn cn] 63 hrd (by simp) [.int .u8 (c.own.a.toNat : Int), .int .u8 (c.own.b.toNat : Int), .int .u8 (c.own.c.toNat : Int), .int .u8 (c.own.d.toNat : Int), .int .u8 (c.lan.a.toNat : Int), .int .u8 (c.lan.b.toNat : Int), .int .u8 (c.lan.c.toNat : Int), .int .u8 (c.lan.d.toNat : Int), .int .i64 c.bits, .int .u8 (c.lanmac.a.toNat : Int), .int .u8 (c.lanmac.b.toNat : Int), .int .u8 (c.lanmac.c.toNat : Int), .int .u8 (c.lanmac.d.toNat : Int), .int .u8 (c.lanmac.e.toNat : Int), .int .u8 (c.lanmac.f.toNat : Int), .int .u8 (c.wanmac.a.toNat : Int), .int .u8 (c.wanmac.b.toNat : Int), .int .u8 (c.wanmac.c.toNat : Int), .int .u8 (c.wanmac.d.toNat : Int), .int .u8 (c.wanmac.e.toNat : Int), .int .u8 (c.wanmac.f.toNat : Int), .int .u8 (c.first.a.toNat : Int), .int .u8 (c.first.b.toNat : Int), .int .u8 (c.first.c.toNat : Int), .int .u8 (c.first.d.toNat : Int), .int .u8 (c.last.a.toNat : Int), .int .u8 (c.last.b.toNat : Int), .int .u8 (c.last.c.toNat : Int), .int .u8 (c.last.d.toNat : Int), .int .i64 c.time, .int .u8 (c.dns.a.toNat : Int), .int .u8 (c.dns.b.toNat : Int), .int .u8 (c.dns.c.toNat : Int), .int .u8 (c.dns.d.toNat : Int), .int .i64 c.udp, .int .i64 c.tcp, .int .i64 c.icmp, .int .i64 c.low, .slice A47 (nf + 1) c47, .slice Ox nx cx, .slice Nx nn cn] rfl (by kernel_rfl) (by rfl) ?_
          intro w14 hq gr
          replace sO := sO.away av_sO_rd gr
          replace sOw := owk_off sOw of_sO_rd gr
          replace sN := sN.away av_sN_rd gr
          replace sNw := owk_off sNw of_sN_rd gr
          replace sF2 := sF2.away av_sF2_rd gr
          replace sF2w := owk_off sF2w of47_rd gr
          replace lz_sO := Nat.le_trans lz_sO gr.size
          replace lz_sN := Nat.le_trans lz_sN gr.size
          replace lz_sF2 := Nat.le_trans lz_sF2 gr.size
          replace hmb := blk_a hmb gr (ne_symm d_rd_mb)
          replace hab := blk_a hab gr (ne_symm d_rd_ab)
          replace hb46 := blk_a hb46 gr (ne_symm d_rd_b46)
          replace bel := below_grown bel gr ord (Nat.le_trans hlo bel.size)
          clear hrd
          have hrd := hq
          clear hq gr
          refine hK.out _ _ ⟨hmb, hab⟩ (fun hH15 => ?_)
          clear hK K
          simp only [Act.put]
          refine wpAnyH_done (by kernel_rfl) ?_ _
          go_wp2_with fail
          go_ret
          exact ⟨by rw [HP.out]; rfl, fun _ => (by rw [HC.out]; exact ⟨A47, nf + 1, c47, Ox, nx, cx, Nx, nn, cn, hrd, ord, sF2w, sOw, sNw, of47_rd, of_sO_rd, of_sN_rd, apFO, apFN, apON, by omega, by omega, by omega⟩), bel⟩
        · simp only [List.getElem_toArray, List.getElem_cons_zero, List.getElem_cons_succ]
          rw [if_pos (by rfl)]
          refine wp_lit_n 29 78 1 _ rfl #[.int .u8 ((mcl x).a.toNat : Int), .int .u8 ((mcl x).b.toNat : Int), .int .u8 ((mcl x).c.toNat : Int), .int .u8 ((mcl x).d.toNat : Int), .int .u8 ((mcl x).e.toNat : Int), .int .u8 ((mcl x).f.toNat : Int), .int .u8 ((p4 y).a.toNat : Int), .int .u8 ((p4 y).b.toNat : Int), .int .u8 ((p4 y).c.toNat : Int), .int .u8 ((p4 y).d.toNat : Int)] (.agg #[.int .u8 0, .int .u8 0, .int .u8 0, .int .u8 0, .int .u8 0, .int .u8 0, .int .u8 0, .int .u8 0, .int .u8 0, .int .u8 0]) Tryd.underlying29 (by kernel_rfl) 10 (by kernel_rfl) (by decide) (by kernel_rfl) ?_
          intro g46 w9 ge lt hh bb
          have d_rd_b46 := ne_new (hlt hrd) ge
          have d_mb_b46 := ne_new (hlt hmb) ge
          have d_ab_b46 := ne_new (hlt hab) ge
          have av_sF_b46 := sF.av_new ge
          have of_sF_b46 := owk_new sFw ge
          have av_sO_b46 := sO.av_new ge
          have of_sO_b46 := owk_new sOw ge
          have av_sN_b46 := sN.av_new ge
          have of_sN_b46 := owk_new sNw ge
          have av_wt_b46 := wt.av_new ge
          have of_wt_b46 := owk_new wtw ge
          have ob46 := Nat.le_trans (Nat.le_trans hlo bel.size) ge
          replace hrd := blk_u hrd bb
          replace hmb := blk_u hmb bb
          replace hab := blk_u hab bb
          replace sF := sF.below bb
          replace sFw := owk_under sFw bb
          replace sO := sO.below bb
          replace sOw := owk_under sOw bb
          replace sN := sN.below bb
          replace sNw := owk_under sNw bb
          replace wt := wt.below bb
          replace wtw := owk_under wtw bb
          replace lz_sF := Nat.le_trans lz_sF bb.size
          replace lz_sO := Nat.le_trans lz_sO bb.size
          replace lz_sN := Nat.le_trans lz_sN bb.size
          replace lz_wt := Nat.le_trans lz_wt bb.size
          replace bel := bel.trans (bb.mono (Nat.le_trans hlo bel.size))
          have hb46 := hh
          clear hh lt ge bb
          have lt : Sle fxf 10 w9 (some ⟨g46, 0, none⟩) (1) (1) ([(mcl x, p4 y)]) := sle_lit ([(mcl x, p4 y)]) (by decide) fxf_len hb46 rfl (by simp [maxLen])
          refine hK.out _ _ ⟨hmb, hab⟩ (fun hH10 => ?_)
          clear hK K
          simp only [Act.put, List.setIfInBounds_toArray, List.set_cons_zero, List.set_cons_succ]
          refine wpAnyH_ready (rs := [5]) (by kernel_rfl) (by simp) ?_
          refine AllReadyH.cons (o := _) rfl (fun K hK => ?_) AllReadyH.nil
          simp only [List.getElem_toArray, List.getElem_cons_zero, List.getElem_cons_succ]
          rw [if_pos (by rfl)]
          have hk_ := cell_lit hrd 38 _ rfl
          refine wp_val (v := .slice Fx nf cf) (by (go_simp) <;> with_reducible rfl) ?_
          clear hk_
          refine hK.out _ _ ⟨hmb, hab⟩ (fun hH11 => ?_)
          clear hK K
          simp only [Act.put, List.setIfInBounds_toArray, List.set_cons_zero, List.set_cons_succ]
          refine wpAnyH_ready (rs := [10]) (by kernel_rfl) (by simp) ?_
          refine AllReadyH.cons (o := _) rfl (fun K hK => ?_) AllReadyH.nil
          simp only [List.getElem_toArray, List.getElem_cons_zero, List.getElem_cons_succ]
          rw [if_pos (by rfl)]
          refine wp_append_sle (.tmp 42) (.tmp 46) 29 rfl (lo) 78 if_ (.agg #[.int .u8 0, .int .u8 0, .int .u8 0, .int .u8 0, .int .u8 0, .int .u8 0, .int .u8 0, .int .u8 0, .int .u8 0, .int .u8 0]) 10 Tryd.underlying29 hif_ hif_0 hif_1 hif_2 rfl fxf_one _ (nf) (c.fixed) rfl sFw (some ⟨g46, 0, none⟩) (1) (1) ([(mcl x, p4 y)]) rfl lt (by unfold maxLen; omega) (by omega) lz_sF ?_
          intro v47 w12 own_ bb gw ofw
          have of47_rd := ofw _ (hlt hrd) of_sF_rd
          have of47_mb := ofw _ (hlt hmb) of_sF_mb
          have of47_ab := ofw _ (hlt hab) of_sF_ab
          have of47_b46 := ofw _ (hlt hb46) of_sF_b46
          have apFO_ := apr_new sOw apFO ofw
          replace sOw := owk_apart sOw apFO gw
          replace sO := (owk_sle (by decide) opf_len sOw).1
          clear apFO
          have apFO := apFO_
          clear apFO_
          replace lz_sO := Nat.le_trans lz_sO gw.size
          have apFN_ := apr_new sNw apFN ofw
          replace sNw := owk_apart sNw apFN gw
          replace sN := (owk_sle (by decide) stf_len sNw).1
          clear apFN
          have apFN := apFN_
          clear apFN_
          replace lz_sN := Nat.le_trans lz_sN gw.size
          clear ofw
          clear wt wtw lz_wt
          clear lt
          replace hrd := blk_own hrd gw of_sF_rd
          replace hmb := blk_own hmb gw of_sF_mb
          replace hab := blk_own hab gw of_sF_ab
          replace hb46 := blk_own hb46 gw of_sF_b46
          clear gw
          replace bel := bel.trans (bb.mono sFlo)
          have lz_sF2 := Nat.le_trans lz_sF bb.size
          clear bb
          clear sF sFw lz_sF
          replace own_ : w12.ownsRow (lo) 78 10 v47 (nf + 1) ((c.fixed ++ [(mcl x, p4 y)] : List (Mc6 × Ad4)).flatMap fxf) := own_
          obtain ⟨A47, c47, rfl⟩ := owk_val own_
          have sF2w := own_
          have sF2 := (owk_sle (by decide) fxf_len own_).1
          have fr_sF2 := (owk_sle (by decide) fxf_len own_).2
          clear own_
          have av_sF2_rd := owk_av sF2w of47_rd
          have av_sF2_mb := owk_av sF2w of47_mb
          have av_sF2_ab := owk_av sF2w of47_ab
          have av_sF2_b46 := owk_av sF2w of47_b46
          refine hK.out _ _ ⟨hmb, hab⟩ (fun hH13 => ?_)
          clear hK K
          simp only [Act.put, List.setIfInBounds_toArray, List.set_cons_zero, List.set_cons_succ]
          refine wpAnyH_take (i := 11) (v := ?_) rfl (by kernel_rfl) (by kernel_rfl) (by kernel_rfl) (fun _ _ _ h => h) (Or.inl ⟨by rfl, ?_⟩) hH13 ?_
          rotate_left
          · ((intro W hW; clear hW; go_simp) <;> with_reducible rfl)
          simp only [Act.put, List.getElem_toArray, List.getElem_cons_zero, List.getElem_cons_succ, List.setIfInBounds_toArray, List.set_cons_zero, List.set_cons_succ]
          refine wpAnyH_take (i := 12) (v := ?_) rfl (by kernel_rfl) (by kernel_rfl) (by kernel_rfl) (fun _ _ _ h => h) (Or.inl ⟨by rfl, ?_⟩) hH13 ?_
          rotate_left
          · ((intro W hW; clear hW; go_simp) <;> with_reducible rfl)
          simp only [Act.put, List.getElem_toArray, List.getElem_cons_zero, List.getElem_cons_succ, List.setIfInBounds_toArray, List.set_cons_zero, List.set_cons_succ]
          refine wpAnyH_take (i := 13) (v := ?_) rfl (by kernel_rfl) (by kernel_rfl) (by kernel_rfl) (fun _ _ _ h => h) (Or.inl ⟨by rfl, ?_⟩) hH13 ?_
          rotate_left
          · ((intro W hW; clear hW; go_simp) <;> with_reducible rfl)
          simp only [Act.put, List.getElem_toArray, List.getElem_cons_zero, List.getElem_cons_succ, List.setIfInBounds_toArray, List.set_cons_zero, List.set_cons_succ]
          refine wpAnyH_ready (rs := [14]) (by kernel_rfl) (by simp) ?_
          refine AllReadyH.cons (o := _) rfl (fun K hK => ?_) AllReadyH.nil
          simp only [List.getElem_toArray, List.getElem_cons_zero, List.getElem_cons_succ]
          rw [if_pos (by rfl)]
          refine wp_store_part 29 (.tmp 50) (.tmp 47) rfl gr 38 rfl [.slice A47 (nf + 1) c47] rfl [.int .u8 (c.own.a.toNat : Int), .int .u8 (c.own.b.toNat : Int), .int .u8 (c.own.c.toNat : Int), .int .u8 (c.own.d.toNat : Int), .int .u8 (c.lan.a.toNat : Int), .int .u8 (c.lan.b.toNat : Int), .int .u8 (c.lan.c.toNat : Int), .int .u8 (c.lan.d.toNat : Int), .int .i64 c.bits, .int .u8 (c.lanmac.a.toNat : Int), .int .u8 (c.lanmac.b.toNat : Int), .int .u8 (c.lanmac.c.toNat : Int), .int .u8 (c.lanmac.d.toNat : Int), .int .u8 (c.lanmac.e.toNat : Int), .int .u8 (c.lanmac.f.toNat : Int), .int .u8 (c.wanmac.a.toNat : Int), .int .u8 (c.wanmac.b.toNat : Int), .int .u8 (c.wanmac.c.toNat : Int), .int .u8 (c.wanmac.d.toNat : Int), .int .u8 (c.wanmac.e.toNat : Int), .int .u8 (c.wanmac.f.toNat : Int), .int .u8 (c.first.a.toNat : Int), .int .u8 (c.first.b.toNat : Int), .int .u8 (c.first.c.toNat : Int), .int .u8 (c.first.d.toNat : Int), .int .u8 (c.last.a.toNat : Int), .int .u8 (c.last.b.toNat : Int), .int .u8 (c.last.c.toNat : Int), .int .u8 (c.last.d.toNat : Int), .int .i64 c.time, .int .u8 (c.dns.a.toNat : Int), .int .u8 (c.dns.b.toNat : Int), .int .u8 (c.dns.c.toNat : Int), .int .u8 (c.dns.d.toNat : Int), .int .i64 c.udp, .int .i64 c.tcp, .int .i64 c.icmp, .int .i64 c.low, .slice Fx nf cf, .slice Ox nx cx, .slice Nx nn cn] 63 hrd (by simp) [.int .u8 (c.own.a.toNat : Int), .int .u8 (c.own.b.toNat : Int), .int .u8 (c.own.c.toNat : Int), .int .u8 (c.own.d.toNat : Int), .int .u8 (c.lan.a.toNat : Int), .int .u8 (c.lan.b.toNat : Int), .int .u8 (c.lan.c.toNat : Int), .int .u8 (c.lan.d.toNat : Int), .int .i64 c.bits, .int .u8 (c.lanmac.a.toNat : Int), .int .u8 (c.lanmac.b.toNat : Int), .int .u8 (c.lanmac.c.toNat : Int), .int .u8 (c.lanmac.d.toNat : Int), .int .u8 (c.lanmac.e.toNat : Int), .int .u8 (c.lanmac.f.toNat : Int), .int .u8 (c.wanmac.a.toNat : Int), .int .u8 (c.wanmac.b.toNat : Int), .int .u8 (c.wanmac.c.toNat : Int), .int .u8 (c.wanmac.d.toNat : Int), .int .u8 (c.wanmac.e.toNat : Int), .int .u8 (c.wanmac.f.toNat : Int), .int .u8 (c.first.a.toNat : Int), .int .u8 (c.first.b.toNat : Int), .int .u8 (c.first.c.toNat : Int), .int .u8 (c.first.d.toNat : Int), .int .u8 (c.last.a.toNat : Int), .int .u8 (c.last.b.toNat : Int), .int .u8 (c.last.c.toNat : Int), .int .u8 (c.last.d.toNat : Int), .int .i64 c.time, .int .u8 (c.dns.a.toNat : Int), .int .u8 (c.dns.b.toNat : Int), .int .u8 (c.dns.c.toNat : Int), .int .u8 (c.dns.d.toNat : Int), .int .i64 c.udp, .int .i64 c.tcp, .int .i64 c.icmp, .int .i64 c.low, .slice A47 (nf + 1) c47, .slice Ox nx cx, .slice Nx nn cn] rfl (by kernel_rfl) (by rfl) ?_
          intro w14 hq gr
          replace sO := sO.away av_sO_rd gr
          replace sOw := owk_off sOw of_sO_rd gr
          replace sN := sN.away av_sN_rd gr
          replace sNw := owk_off sNw of_sN_rd gr
          replace sF2 := sF2.away av_sF2_rd gr
          replace sF2w := owk_off sF2w of47_rd gr
          replace lz_sO := Nat.le_trans lz_sO gr.size
          replace lz_sN := Nat.le_trans lz_sN gr.size
          replace lz_sF2 := Nat.le_trans lz_sF2 gr.size
          replace hmb := blk_a hmb gr (ne_symm d_rd_mb)
          replace hab := blk_a hab gr (ne_symm d_rd_ab)
          replace hb46 := blk_a hb46 gr (ne_symm d_rd_b46)
          replace bel := below_grown bel gr ord (Nat.le_trans hlo bel.size)
          clear hrd
          have hrd := hq
          clear hq gr
          refine hK.out _ _ ⟨hmb, hab⟩ (fun hH15 => ?_)
          clear hK K
          simp only [Act.put]
          refine wpAnyH_done (by kernel_rfl) ?_ _
          go_wp2_with fail
          go_ret
          exact ⟨by rw [HP.out]; rfl, fun _ => (by rw [HC.out]; exact ⟨A47, nf + 1, c47, Ox, nx, cx, Nx, nn, cn, hrd, ord, sF2w, sOw, sNw, of47_rd, of_sO_rd, of_sN_rd, apFO, apFN, apON, by omega, by omega, by omega⟩), bel⟩
  · have HP : Hid (fixedE v = false) := Lib.hid (fixedE_no (by rw [HWS.out, HNN.out]; exact h1))
    have h1k : ((n : Int) == 2) = false := beq_eq_false_iff_ne.2 (by omega)
    have h1j : ((n : Int) != 2) = true := by rw [bne, h1k]; rfl
    go_wp2_with fail
    go_ret
    exact ⟨by rw [HP.out]; rfl, fun h => (by rw [HP.out] at h; cases h), bel⟩
set_option linter.unusedVariables false in
set_option linter.unusedSimpArgs false in
set_option maxRecDepth 100000 in
set_option maxHeartbeats 16000000 in
theorem open_c {lo gr : Nat} {c : Cf} {ns : List (List UInt8)} {m : Nat} (v : List UInt8) (w : World) (hlo : lo ≤ w.heap.size) (hR : Rdr lo gr w c ns m) (hm : m ≤ 100000) (hlen : v.length ≤ 100000) : Calls Tryd.prog 55 #[.pointer (some ⟨gr, 0, none⟩), .string ⟨v.toArray⟩] w fun e w' => e = .returned (.int .i64 (errI (openE v))) ∧ (openE v = true → Rdr lo gr w' (c.addO v) ns (m + 1)) ∧ Below lo w w' := by
  obtain ⟨if_, hif_, hif_0, hif_1, hif_2⟩ := info_parts Tryd.info_fix
  obtain ⟨io, hio, hio0, hio1, hio2⟩ := info_parts Tryd.info_opn
  obtain ⟨is, his, his0, his1, his2⟩ := info_parts Tryd.info_str
  obtain ⟨Fx, nf, cf, Ox, nx, cx, Nx, nn, cn, hrd, ord, sFw, sOw, sNw, of_sF_rd, of_sO_rd, of_sN_rd, apFO, apFN, apON, bF, bO, bN⟩ := hR
  have sF := (owk_sle (by decide) fxf_len sFw).1
  have sO := (owk_sle (by decide) opf_len sOw).1
  have sN := (owk_sle (by decide) stf_len sNw).1
  have av_sF_rd := owk_av sFw of_sF_rd
  have av_sO_rd := owk_av sOw of_sO_rd
  have av_sN_rd := owk_av sNw of_sN_rd
  have sFlo := Nat.le_refl lo
  have sOlo := Nat.le_refl lo
  have sNlo := Nat.le_refl lo
  have n0F : (0 : Int) ≤ nf := by omega
  have n0O : (0 : Int) ≤ nx := by omega
  have n0N : (0 : Int) ≤ nn := by omega
  have apOF := apFO.symm
  clear apFO
  have lz_sF : lo ≤ _ := hlo
  have lz_sO : lo ≤ _ := hlo
  have lz_sN : lo ≤ _ := hlo
  have bel := Below.refl lo w
  go_enter Tryd.func55, Tryd.ntmps55
  go_wp2_with fail
  with_reducible refine (wordsOf_any v _ hlen).mono ?_
  rintro e w1 ⟨v_, rfl, wtw, b1⟩
  have y_wt_rd := Lib.hid (hlt hrd)
  have bl_sF_wt := sF.bl_new
  have bl_sO_wt := sO.bl_new
  have bl_sN_wt := sN.bl_new
  have wtlo := (Nat.le_trans hlo bel.size)
  have lz_wt := b1.size
  replace hrd := blk_u hrd b1
  replace sF := sF.below b1
  replace sFw := owk_under sFw b1
  replace sO := sO.below b1
  replace sOw := owk_under sOw b1
  replace sN := sN.below b1
  replace sNw := owk_under sNw b1
  replace lz_sF := Nat.le_trans lz_sF b1.size
  replace lz_sO := Nat.le_trans lz_sO b1.size
  replace lz_sN := Nat.le_trans lz_sN b1.size
  replace bel := bel.trans (b1.mono (Nat.le_trans hlo bel.size))
  clear b1
  obtain ⟨Awt, cwt, rfl⟩ := owk_val wtw
  have wt := (owk_sle (by decide) stf_len wtw).1
  have fr_wt := (owk_sle (by decide) stf_len wtw).2
  have av_wt_rd := fr_wt.av y_wt_rd.out
  obtain ⟨ws, hws⟩ : ∃ ws, wordsL v = ws := ⟨_, rfl⟩
  obtain ⟨n, hn⟩ : ∃ n, ws.length = n := ⟨_, rfl⟩
  rw [hws, hn] at wt wtw fr_wt
  rw [hws, hn]
  have HWS := Lib.hid hws
  have HNN := Lib.hid hn
  have n0 : (0 : Int) ≤ n := by omega
  clear hws hn
  by_cases h1 : n = 4
  · obtain ⟨x, y, z, u, hxy⟩ := list_four (show ws.length = 4 by rw [HNN.out]; exact h1)
    have hwx : wordsL v = [x, y, z, u] := by rw [HWS.out, hxy]
    have HWX := Lib.hid hwx
    have HX0 : Hid (ws[0]? = some x) := Lib.hid (by rw [hxy]; rfl)
    have HL0 : Hid (x.length ≤ 100000) := Lib.hid (word_len (j := 0) hlen (by rw [hwx]; rfl))
    have HX1 : Hid (ws[1]? = some y) := Lib.hid (by rw [hxy]; rfl)
    have HL1 : Hid (y.length ≤ 100000) := Lib.hid (word_len (j := 1) hlen (by rw [hwx]; rfl))
    have HX2 : Hid (ws[2]? = some z) := Lib.hid (by rw [hxy]; rfl)
    have HL2 : Hid (z.length ≤ 100000) := Lib.hid (word_len (j := 2) hlen (by rw [hwx]; rfl))
    have HX3 : Hid (ws[3]? = some u) := Lib.hid (by rw [hxy]; rfl)
    have HL3 : Hid (u.length ≤ 100000) := Lib.hid (word_len (j := 3) hlen (by rw [hwx]; rfl))
    obtain ⟨gW, oW, rfl⟩ := wt.place (by omega)
    have h1k : ((n : Int) == 4) = true := beq_iff_eq.2 (by omega)
    have h1j : ((n : Int) != 4) = false := by rw [bne, h1k]; rfl
    have i0 : (0 : Int) < n := by omega
    have i1 : (1 : Int) < n := by omega
    have i2 : (2 : Int) < n := by omega
    have i3 : (3 : Int) < n := by omega
    clear hxy hwx
    obtain ⟨b0, HB0_⟩ : ∃ b, (protoK x).isSome = b := ⟨_, rfl⟩
    have HB0 := Lib.hid HB0_
    clear HB0_
    obtain ⟨b1, HB1_⟩ : ∃ b, decOk y = b := ⟨_, rfl⟩
    have HB1 := Lib.hid HB1_
    clear HB1_
    obtain ⟨b2, HB2_⟩ : ∃ b, p4ok z = b := ⟨_, rfl⟩
    have HB2 := Lib.hid HB2_
    clear HB2_
    obtain ⟨b3, HB3_⟩ : ∃ b, decOk u = b := ⟨_, rfl⟩
    have HB3 := Lib.hid HB3_
    clear HB3_
    have ta1 := fun W => ta_int y W
    have ta2 := fun W => ta_ad z W
    have ta3 := fun W => ta_int u W
    rw [HB1.out] at ta1
    rw [HB2.out] at ta2
    rw [HB3.out] at ta3
    obtain ⟨hy0, hy1⟩ := decV_range y
    obtain ⟨hu0, hu1⟩ := decV_range u
    have R22 := (by have h_ := Sle.st (i := 0) wt HX0.out; rw [Nat.add_zero] at h_; exact h_)
    go_wp2_with fail
    clear R22
    with_reducible refine (protoOf_any x _).mono ?_
    rintro e _ ⟨rfl, rfl⟩
    rw [HB0.out]
    obtain ⟨pr, hpr⟩ : ∃ k, (protoK x).getD 0 = k := ⟨_, rfl⟩
    rw [hpr]
    have HPR := Lib.hid hpr
    clear hpr
    have R29 := Sle.st (i := 1) wt HX1.out
    go_wp2_with fail
    clear R29
    with_reducible refine (readAny_any y _ HL1.out).mono ?_
    rintro e w2 ⟨rfl, b2⟩
    replace hrd := blk_u hrd b2
    replace sF := sF.below b2
    replace sFw := owk_under sFw b2
    replace sO := sO.below b2
    replace sOw := owk_under sOw b2
    replace sN := sN.below b2
    replace sNw := owk_under sNw b2
    replace wt := wt.below b2
    replace wtw := owk_under wtw b2
    replace lz_sF := Nat.le_trans lz_sF b2.size
    replace lz_sO := Nat.le_trans lz_sO b2.size
    replace lz_sN := Nat.le_trans lz_sN b2.size
    replace lz_wt := Nat.le_trans lz_wt b2.size
    replace bel := bel.trans (b2.mono (Nat.le_trans hlo bel.size))
    clear b2
    have R31 := ta1
    have R37 := Sle.st (i := 2) wt HX2.out
    go_wp2_with fail
    clear R31 R37
    with_reducible refine (readAny_any z _ HL2.out).mono ?_
    rintro e w3 ⟨rfl, b3⟩
    replace hrd := blk_u hrd b3
    replace sF := sF.below b3
    replace sFw := owk_under sFw b3
    replace sO := sO.below b3
    replace sOw := owk_under sOw b3
    replace sN := sN.below b3
    replace sNw := owk_under sNw b3
    replace wt := wt.below b3
    replace wtw := owk_under wtw b3
    replace lz_sF := Nat.le_trans lz_sF b3.size
    replace lz_sO := Nat.le_trans lz_sO b3.size
    replace lz_sN := Nat.le_trans lz_sN b3.size
    replace lz_wt := Nat.le_trans lz_wt b3.size
    replace bel := bel.trans (b3.mono (Nat.le_trans hlo bel.size))
    clear b3
    have R39 := ta2
    go_wp2_with (first | ((with_reducible show wpList _ _ _ (⟨some 10, _, _, _, _, _⟩ :: _) _ _); refine wpList_new_a rfl 24 rfl #[.int .u8 0, .int .u8 0, .int .u8 0, .int .u8 0] (by kernel_rfl) ?_; intro g10 w4 ge hh bb; have d_rd_ab := ne_new (hlt hrd) ge; have av_sF_ab := sF.av_new ge; have of_sF_ab := owk_new sFw ge; have av_sO_ab := sO.av_new ge; have of_sO_ab := owk_new sOw ge; have av_sN_ab := sN.av_new ge; have of_sN_ab := owk_new sNw ge; have av_wt_ab := wt.av_new ge; have of_wt_ab := owk_new wtw ge; have oab := Nat.le_trans (Nat.le_trans hlo bel.size) ge; replace hrd := blk_u hrd bb; replace sF := sF.below bb; replace sFw := owk_under sFw bb; replace sO := sO.below bb; replace sOw := owk_under sOw bb; replace sN := sN.below bb; replace sNw := owk_under sNw bb; replace wt := wt.below bb; replace wtw := owk_under wtw bb; replace lz_sF := Nat.le_trans lz_sF bb.size; replace lz_sO := Nat.le_trans lz_sO bb.size; replace lz_sN := Nat.le_trans lz_sN bb.size; replace lz_wt := Nat.le_trans lz_wt bb.size; replace bel := bel.trans (bb.mono (Nat.le_trans hlo bel.size)); have hab := hh; clear hh ge bb) | ((with_reducible show wpList _ _ _ (⟨none, Op.store _ (.tmp 10) _, _, _, _, _⟩ :: _) _ _); refine wpList_store_blk rfl 24 (.tmp 10) (.tmp 40) rfl g10 rfl _ rfl _ 24 hab (by rfl) (by kernel_rfl) (by kernel_rfl) ?_; intro w5 hq gr; replace sF := sF.away av_sF_ab gr; replace sFw := owk_off sFw of_sF_ab gr; replace sO := sO.away av_sO_ab gr; replace sOw := owk_off sOw of_sO_ab gr; replace sN := sN.away av_sN_ab gr; replace sNw := owk_off sNw of_sN_ab gr; replace wt := wt.away av_wt_ab gr; replace wtw := owk_off wtw of_wt_ab gr; replace lz_sF := Nat.le_trans lz_sF gr.size; replace lz_sO := Nat.le_trans lz_sO gr.size; replace lz_sN := Nat.le_trans lz_sN gr.size; replace lz_wt := Nat.le_trans lz_wt gr.size; replace hrd := blk_a hrd gr d_rd_ab; replace bel := below_grown bel gr oab (Nat.le_trans hlo bel.size); clear hab; have hab := hq; clear hq gr; have R45 := Sle.st (i := 3) wt HX3.out))
    try clear R39
    try clear R45
    with_reducible refine (readAny_any u _ HL3.out).mono ?_
    rintro e w6 ⟨rfl, b6⟩
    replace hrd := blk_u hrd b6
    replace hab := blk_u hab b6
    replace sF := sF.below b6
    replace sFw := owk_under sFw b6
    replace sO := sO.below b6
    replace sOw := owk_under sOw b6
    replace sN := sN.below b6
    replace sNw := owk_under sNw b6
    replace wt := wt.below b6
    replace wtw := owk_under wtw b6
    replace lz_sF := Nat.le_trans lz_sF b6.size
    replace lz_sO := Nat.le_trans lz_sO b6.size
    replace lz_sN := Nat.le_trans lz_sN b6.size
    replace lz_wt := Nat.le_trans lz_wt b6.size
    replace bel := bel.trans (b6.mono (Nat.le_trans hlo bel.size))
    clear b6
    rcases b0 with _ | _
    · have HP : Hid (openE v = false) := Lib.hid (by unfold openE; rw [HWX.out]; simp only [HB0.out]; simp)
      have R47 := ta3
      go_wp2_with fail
      clear R47
      go_ret
      exact ⟨by rw [HP.out]; rfl, fun h => (by rw [HP.out] at h; cases h), bel⟩
    · rcases b1 with _ | _
      · have HP : Hid (openE v = false) := Lib.hid (by unfold openE; rw [HWX.out]; simp only [HB0.out, HB1.out]; simp)
        have R47 := ta3
        go_wp2_with fail
        clear R47
        go_ret
        exact ⟨by rw [HP.out]; rfl, fun h => (by rw [HP.out] at h; cases h), bel⟩
      · rcases b2 with _ | _
        · have HP : Hid (openE v = false) := Lib.hid (by unfold openE; rw [HWX.out]; simp only [HB0.out, HB1.out, HB2.out]; simp)
          have R47 := ta3
          go_wp2_with fail
          clear R47
          go_ret
          exact ⟨by rw [HP.out]; rfl, fun h => (by rw [HP.out] at h; cases h), bel⟩
        · rcases b3 with _ | _
          · have HP : Hid (openE v = false) := Lib.hid (by unfold openE; rw [HWX.out]; simp only [HB0.out, HB1.out, HB2.out, HB3.out]; simp)
            have R47 := ta3
            go_wp2_with fail
            clear R47
            go_ret
            exact ⟨by rw [HP.out]; rfl, fun h => (by rw [HP.out] at h; cases h), bel⟩
          · have HP : Hid (openE v = true) := Lib.hid (by unfold openE; rw [HWX.out]; simp only [HB0.out, HB1.out, HB2.out, HB3.out]; rfl)
            have HC : Hid (c.addO v = { c with opens := c.opens ++ [(pr, decV y, p4 z, decV u)] }) := Lib.hid (by unfold Cf.addO; rw [HWX.out]; simp only [HPR.out])
            have R47 := ta3
            go_wp2_with fail
            clear R47
            replace bel := bel.drew
            replace hrd : w6.drew.heap[gr]? = _ := hrd
            replace hab : w6.drew.heap[g10]? = _ := hab
            replace sF := sF.drew
            replace sFw : w6.drew.ownsRow _ _ _ _ _ _ := sFw
            replace lz_sF : _ ≤ w6.drew.heap.size := lz_sF
            replace sO := sO.drew
            replace sOw : w6.drew.ownsRow _ _ _ _ _ _ := sOw
            replace lz_sO : _ ≤ w6.drew.heap.size := lz_sO
            replace sN := sN.drew
            replace sNw : w6.drew.ownsRow _ _ _ _ _ _ := sNw
            replace lz_sN : _ ≤ w6.drew.heap.size := lz_sN
            replace wt := wt.drew
            replace wtw : w6.drew.ownsRow _ _ _ _ _ _ := wtw
            replace lz_wt : _ ≤ w6.drew.heap.size := lz_wt
            refine wp_region_held_drew (S := fun W => W.heap[g10]? = some (.cells #[.int .u8 ((p4 z).a.toNat : Int), .int .u8 ((p4 z).b.toNat : Int), .int .u8 ((p4 z).c.toNat : Int), .int .u8 ((p4 z).d.toNat : Int)] 24 (0, 0))) (by kernel_rfl) hab (fun hH => ?_)
            generalize w6.drew = w7 at bel hrd hab sF sO sN wt sFw sOw sNw wtw lz_sF lz_sO lz_sN lz_wt hH ⊢
            refine wpAnyH_take (i := 0) (v := ?_) rfl (by kernel_rfl) (by kernel_rfl) (by kernel_rfl) (fun _ _ _ h => h) (Or.inl ⟨by rfl, ?_⟩) hH ?_
            rotate_left
            · ((intro W hW; clear hW; go_simp) <;> with_reducible rfl)
            simp only [Act.put, List.getElem_toArray, List.getElem_cons_zero, List.setIfInBounds_toArray, List.set_cons_zero, List.set_cons_succ]
            refine wpAnyH_take (i := 1) (v := ?_) rfl (by kernel_rfl) (by kernel_rfl) (by kernel_rfl) (fun _ _ _ h => h) (Or.inl ⟨by rfl, ?_⟩) hH ?_
            rotate_left
            · ((intro W hW; clear hW; go_simp) <;> with_reducible rfl)
            simp only [Act.put, List.getElem_toArray, List.getElem_cons_zero, List.getElem_cons_succ, List.setIfInBounds_toArray, List.set_cons_zero, List.set_cons_succ]
            refine wpAnyH_take (i := 2) (v := ?_) rfl (by kernel_rfl) (by kernel_rfl) (by kernel_rfl) (fun _ _ _ h => h) (Or.inl ⟨by rfl, ?_⟩) hH ?_
            rotate_left
            · ((intro W hW; clear hW; go_simp) <;> with_reducible rfl)
            simp only [Act.put, List.getElem_toArray, List.getElem_cons_zero, List.getElem_cons_succ, List.setIfInBounds_toArray, List.set_cons_zero, List.set_cons_succ]
            refine wpAnyH_take (i := 3) (v := ?_) rfl (by kernel_rfl) (by kernel_rfl) (by kernel_rfl) (fun _ _ _ h => h) (Or.inl ⟨by rfl, ?_⟩) hH ?_
            rotate_left
            · ((intro W hW; clear hW; go_simp) <;> with_reducible rfl)
            simp only [Act.put, List.getElem_toArray, List.getElem_cons_zero, List.getElem_cons_succ, List.setIfInBounds_toArray, List.set_cons_zero, List.set_cons_succ]
            refine wpAnyH_take (i := 4) (v := ?_) rfl (by kernel_rfl) (by kernel_rfl) (by kernel_rfl) (fun _ _ _ h => h) (Or.inl ⟨by rfl, ?_⟩) hH ?_
            rotate_left
            · ((intro W hW; clear hW; go_simp) <;> with_reducible rfl)
            simp only [Act.put, List.getElem_toArray, List.getElem_cons_zero, List.getElem_cons_succ, List.setIfInBounds_toArray, List.set_cons_zero, List.set_cons_succ]
            refine wpAnyH_take (i := 6) (v := ?_) rfl (by kernel_rfl) (by kernel_rfl) (by kernel_rfl) (fun _ _ _ h => h) (Or.inl ⟨by rfl, ?_⟩) hH ?_
            rotate_left
            · ((intro W hW; clear hW; go_simp) <;> with_reducible rfl)
            simp only [Act.put, List.getElem_toArray, List.getElem_cons_zero, List.getElem_cons_succ, List.setIfInBounds_toArray, List.set_cons_zero, List.set_cons_succ]
            refine wpAnyH_take (i := 7) (v := ?_) rfl (by kernel_rfl) (by kernel_rfl) (by kernel_rfl) (fun _ _ _ h => h) (Or.inl ⟨by rfl, ?_⟩) hH ?_
            rotate_left
            · ((intro W hW; clear hW; go_simp) <;> with_reducible rfl)
            simp only [Act.put, List.getElem_toArray, List.getElem_cons_zero, List.getElem_cons_succ, List.setIfInBounds_toArray, List.set_cons_zero, List.set_cons_succ]
            refine wpAnyH_take (i := 8) (v := .agg #[.int .u8 ((p4 z).a.toNat : Int), .int .u8 ((p4 z).b.toNat : Int), .int .u8 ((p4 z).c.toNat : Int), .int .u8 ((p4 z).d.toNat : Int)]) rfl (by kernel_rfl) (by kernel_rfl) (by kernel_rfl) (fun _ _ _ h => h) (yieldsIf_load_part (by kernel_rfl) 24 _ rfl g10 0 4 rfl _ 24 (0, 0) (fun W hW => hW) _ rfl _ Tryd.underlying24 rfl (by kernel_rfl)) hH ?_
            simp only [Act.put, List.getElem_toArray, List.getElem_cons_zero, List.getElem_cons_succ, List.setIfInBounds_toArray, List.set_cons_zero, List.set_cons_succ]
            refine wpAnyH_take (i := 9) (v := ?_) rfl (by kernel_rfl) (by kernel_rfl) (by kernel_rfl) (fun _ _ _ h => h) (Or.inl ⟨by rfl, ?_⟩) hH ?_
            rotate_left
            · ((intro W hW; clear hW; go_simp) <;> with_reducible rfl)
            simp only [Act.put, List.getElem_toArray, List.getElem_cons_zero, List.getElem_cons_succ, List.setIfInBounds_toArray, List.set_cons_zero, List.set_cons_succ]
            refine wpAnyH_take (i := 10) (v := ?_) rfl (by kernel_rfl) (by kernel_rfl) (by kernel_rfl) (fun _ _ _ h => h) (Or.inl ⟨by rfl, ?_⟩) hH ?_
            rotate_left
            · ((intro W hW; clear hW; go_simp) <;> with_reducible rfl)
            simp only [Act.put, List.getElem_toArray, List.getElem_cons_zero, List.getElem_cons_succ, List.setIfInBounds_toArray, List.set_cons_zero, List.set_cons_succ]
            refine wpAnyH_ready (rs := [5, 11]) (by kernel_rfl) (by simp) ?_
            refine AllReadyH.cons (o := _) rfl (fun K hK => ?_) (AllReadyH.cons (o := _) rfl (fun K hK => ?_) AllReadyH.nil)
            · simp only [List.getElem_toArray, List.getElem_cons_zero, List.getElem_cons_succ]
              rw [if_pos (by rfl)]
              have hk_ := cell_lit hrd 39 _ rfl
              refine wp_val (v := .slice Ox nx cx) (by (go_simp) <;> with_reducible rfl) ?_
              clear hk_
              refine hK.out _ _ hab (fun hH8 => ?_)
              clear hK K
              simp only [Act.put, List.setIfInBounds_toArray, List.set_cons_zero, List.set_cons_succ]
              refine wpAnyH_ready (rs := [11]) (by kernel_rfl) (by simp) ?_
              refine AllReadyH.cons (o := _) rfl (fun K hK => ?_) AllReadyH.nil
              simp only [List.getElem_toArray, List.getElem_cons_zero, List.getElem_cons_succ]
              rw [if_pos (by rfl)]
              refine wp_lit_n 30 38 1 _ rfl #[.int .i64 pr, .int .i64 (decV y), .int .u8 ((p4 z).a.toNat : Int), .int .u8 ((p4 z).b.toNat : Int), .int .u8 ((p4 z).c.toNat : Int), .int .u8 ((p4 z).d.toNat : Int), .int .i64 (decV u)] (.agg #[.int .i64 0, .int .i64 0, .int .u8 0, .int .u8 0, .int .u8 0, .int .u8 0, .int .i64 0]) Tryd.underlying30 (by kernel_rfl) 7 (by kernel_rfl) (by decide) (by kernel_rfl) ?_
              intro g75 w9 ge lt hh bb
              have d_rd_b75 := ne_new (hlt hrd) ge
              have d_ab_b75 := ne_new (hlt hab) ge
              have av_sF_b75 := sF.av_new ge
              have of_sF_b75 := owk_new sFw ge
              have av_sO_b75 := sO.av_new ge
              have of_sO_b75 := owk_new sOw ge
              have av_sN_b75 := sN.av_new ge
              have of_sN_b75 := owk_new sNw ge
              have av_wt_b75 := wt.av_new ge
              have of_wt_b75 := owk_new wtw ge
              have ob75 := Nat.le_trans (Nat.le_trans hlo bel.size) ge
              replace hrd := blk_u hrd bb
              replace hab := blk_u hab bb
              replace sF := sF.below bb
              replace sFw := owk_under sFw bb
              replace sO := sO.below bb
              replace sOw := owk_under sOw bb
              replace sN := sN.below bb
              replace sNw := owk_under sNw bb
              replace wt := wt.below bb
              replace wtw := owk_under wtw bb
              replace lz_sF := Nat.le_trans lz_sF bb.size
              replace lz_sO := Nat.le_trans lz_sO bb.size
              replace lz_sN := Nat.le_trans lz_sN bb.size
              replace lz_wt := Nat.le_trans lz_wt bb.size
              replace bel := bel.trans (bb.mono (Nat.le_trans hlo bel.size))
              have hb75 := hh
              clear hh lt ge bb
              have lt : Sle opf 7 w9 (some ⟨g75, 0, none⟩) (1) (1) ([(pr, decV y, p4 z, decV u)]) := sle_lit ([(pr, decV y, p4 z, decV u)]) (by decide) opf_len hb75 rfl (by simp [maxLen])
              refine hK.out _ _ hab (fun hH10 => ?_)
              clear hK K
              simp only [Act.put, List.setIfInBounds_toArray, List.set_cons_zero, List.set_cons_succ]
              refine wpAnyH_ready (rs := [12]) (by kernel_rfl) (by simp) ?_
              refine AllReadyH.cons (o := _) rfl (fun K hK => ?_) AllReadyH.nil
              simp only [List.getElem_toArray, List.getElem_cons_zero, List.getElem_cons_succ]
              rw [if_pos (by rfl)]
              refine wp_append_sle (.tmp 69) (.tmp 75) 30 rfl (lo) 38 io (.agg #[.int .i64 0, .int .i64 0, .int .u8 0, .int .u8 0, .int .u8 0, .int .u8 0, .int .i64 0]) 32 Tryd.underlying30 hio hio0 hio1 hio2 rfl opf_one _ (nx) (c.opens) rfl sOw (some ⟨g75, 0, none⟩) (1) (1) ([(pr, decV y, p4 z, decV u)]) rfl lt (by unfold maxLen; omega) (by omega) lz_sO ?_
              intro v76 w11 own_ bb gw ofw
              have of76_rd := ofw _ (hlt hrd) of_sO_rd
              have of76_ab := ofw _ (hlt hab) of_sO_ab
              have of76_b75 := ofw _ (hlt hb75) of_sO_b75
              have apOF_ := apr_new sFw apOF ofw
              replace sFw := owk_apart sFw apOF gw
              replace sF := (owk_sle (by decide) fxf_len sFw).1
              clear apOF
              have apOF := apOF_
              clear apOF_
              replace lz_sF := Nat.le_trans lz_sF gw.size
              have apON_ := apr_new sNw apON ofw
              replace sNw := owk_apart sNw apON gw
              replace sN := (owk_sle (by decide) stf_len sNw).1
              clear apON
              have apON := apON_
              clear apON_
              replace lz_sN := Nat.le_trans lz_sN gw.size
              clear ofw
              clear wt wtw lz_wt
              clear lt
              replace hrd := blk_own hrd gw of_sO_rd
              replace hab := blk_own hab gw of_sO_ab
              replace hb75 := blk_own hb75 gw of_sO_b75
              clear gw
              replace bel := bel.trans (bb.mono sOlo)
              have lz_sO2 := Nat.le_trans lz_sO bb.size
              clear bb
              clear sO sOw lz_sO
              replace own_ : w11.ownsRow (lo) 38 7 v76 (nx + 1) ((c.opens ++ [(pr, decV y, p4 z, decV u)] : List (Int × Int × Ad4 × Int)).flatMap opf) := own_
              obtain ⟨A76, c76, rfl⟩ := owk_val own_
              have sO2w := own_
              have sO2 := (owk_sle (by decide) opf_len own_).1
              have fr_sO2 := (owk_sle (by decide) opf_len own_).2
              clear own_
              have av_sO2_rd := owk_av sO2w of76_rd
              have av_sO2_ab := owk_av sO2w of76_ab
              have av_sO2_b75 := owk_av sO2w of76_b75
              refine hK.out _ _ hab (fun hH12 => ?_)
              clear hK K
              simp only [Act.put, List.setIfInBounds_toArray, List.set_cons_zero, List.set_cons_succ]
              refine wpAnyH_take (i := 13) (v := ?_) rfl (by kernel_rfl) (by kernel_rfl) (by kernel_rfl) (fun _ _ _ h => h) (Or.inl ⟨by rfl, ?_⟩) hH12 ?_
              rotate_left
              · ((intro W hW; clear hW; go_simp) <;> with_reducible rfl)
              simp only [Act.put, List.getElem_toArray, List.getElem_cons_zero, List.getElem_cons_succ, List.setIfInBounds_toArray, List.set_cons_zero, List.set_cons_succ]
              refine wpAnyH_take (i := 14) (v := ?_) rfl (by kernel_rfl) (by kernel_rfl) (by kernel_rfl) (fun _ _ _ h => h) (Or.inl ⟨by rfl, ?_⟩) hH12 ?_
              rotate_left
              · ((intro W hW; clear hW; go_simp) <;> with_reducible rfl)
              simp only [Act.put, List.getElem_toArray, List.getElem_cons_zero, List.getElem_cons_succ, List.setIfInBounds_toArray, List.set_cons_zero, List.set_cons_succ]
              refine wpAnyH_take (i := 15) (v := ?_) rfl (by kernel_rfl) (by kernel_rfl) (by kernel_rfl) (fun _ _ _ h => h) (Or.inl ⟨by rfl, ?_⟩) hH12 ?_
              rotate_left
              · ((intro W hW; clear hW; go_simp) <;> with_reducible rfl)
              simp only [Act.put, List.getElem_toArray, List.getElem_cons_zero, List.getElem_cons_succ, List.setIfInBounds_toArray, List.set_cons_zero, List.set_cons_succ]
              refine wpAnyH_ready (rs := [16]) (by kernel_rfl) (by simp) ?_
              refine AllReadyH.cons (o := _) rfl (fun K hK => ?_) AllReadyH.nil
              simp only [List.getElem_toArray, List.getElem_cons_zero, List.getElem_cons_succ]
              rw [if_pos (by rfl)]
              refine wp_store_part 30 (.tmp 79) (.tmp 76) rfl gr 39 rfl [.slice A76 (nx + 1) c76] rfl [.int .u8 (c.own.a.toNat : Int), .int .u8 (c.own.b.toNat : Int), .int .u8 (c.own.c.toNat : Int), .int .u8 (c.own.d.toNat : Int), .int .u8 (c.lan.a.toNat : Int), .int .u8 (c.lan.b.toNat : Int), .int .u8 (c.lan.c.toNat : Int), .int .u8 (c.lan.d.toNat : Int), .int .i64 c.bits, .int .u8 (c.lanmac.a.toNat : Int), .int .u8 (c.lanmac.b.toNat : Int), .int .u8 (c.lanmac.c.toNat : Int), .int .u8 (c.lanmac.d.toNat : Int), .int .u8 (c.lanmac.e.toNat : Int), .int .u8 (c.lanmac.f.toNat : Int), .int .u8 (c.wanmac.a.toNat : Int), .int .u8 (c.wanmac.b.toNat : Int), .int .u8 (c.wanmac.c.toNat : Int), .int .u8 (c.wanmac.d.toNat : Int), .int .u8 (c.wanmac.e.toNat : Int), .int .u8 (c.wanmac.f.toNat : Int), .int .u8 (c.first.a.toNat : Int), .int .u8 (c.first.b.toNat : Int), .int .u8 (c.first.c.toNat : Int), .int .u8 (c.first.d.toNat : Int), .int .u8 (c.last.a.toNat : Int), .int .u8 (c.last.b.toNat : Int), .int .u8 (c.last.c.toNat : Int), .int .u8 (c.last.d.toNat : Int), .int .i64 c.time, .int .u8 (c.dns.a.toNat : Int), .int .u8 (c.dns.b.toNat : Int), .int .u8 (c.dns.c.toNat : Int), .int .u8 (c.dns.d.toNat : Int), .int .i64 c.udp, .int .i64 c.tcp, .int .i64 c.icmp, .int .i64 c.low, .slice Fx nf cf, .slice Ox nx cx, .slice Nx nn cn] 63 hrd (by simp) [.int .u8 (c.own.a.toNat : Int), .int .u8 (c.own.b.toNat : Int), .int .u8 (c.own.c.toNat : Int), .int .u8 (c.own.d.toNat : Int), .int .u8 (c.lan.a.toNat : Int), .int .u8 (c.lan.b.toNat : Int), .int .u8 (c.lan.c.toNat : Int), .int .u8 (c.lan.d.toNat : Int), .int .i64 c.bits, .int .u8 (c.lanmac.a.toNat : Int), .int .u8 (c.lanmac.b.toNat : Int), .int .u8 (c.lanmac.c.toNat : Int), .int .u8 (c.lanmac.d.toNat : Int), .int .u8 (c.lanmac.e.toNat : Int), .int .u8 (c.lanmac.f.toNat : Int), .int .u8 (c.wanmac.a.toNat : Int), .int .u8 (c.wanmac.b.toNat : Int), .int .u8 (c.wanmac.c.toNat : Int), .int .u8 (c.wanmac.d.toNat : Int), .int .u8 (c.wanmac.e.toNat : Int), .int .u8 (c.wanmac.f.toNat : Int), .int .u8 (c.first.a.toNat : Int), .int .u8 (c.first.b.toNat : Int), .int .u8 (c.first.c.toNat : Int), .int .u8 (c.first.d.toNat : Int), .int .u8 (c.last.a.toNat : Int), .int .u8 (c.last.b.toNat : Int), .int .u8 (c.last.c.toNat : Int), .int .u8 (c.last.d.toNat : Int), .int .i64 c.time, .int .u8 (c.dns.a.toNat : Int), .int .u8 (c.dns.b.toNat : Int), .int .u8 (c.dns.c.toNat : Int), .int .u8 (c.dns.d.toNat : Int), .int .i64 c.udp, .int .i64 c.tcp, .int .i64 c.icmp, .int .i64 c.low, .slice Fx nf cf, .slice A76 (nx + 1) c76, .slice Nx nn cn] rfl (by kernel_rfl) (by rfl) ?_
              intro w13 hq gr
              replace sF := sF.away av_sF_rd gr
              replace sFw := owk_off sFw of_sF_rd gr
              replace sN := sN.away av_sN_rd gr
              replace sNw := owk_off sNw of_sN_rd gr
              replace sO2 := sO2.away av_sO2_rd gr
              replace sO2w := owk_off sO2w of76_rd gr
              replace lz_sF := Nat.le_trans lz_sF gr.size
              replace lz_sN := Nat.le_trans lz_sN gr.size
              replace lz_sO2 := Nat.le_trans lz_sO2 gr.size
              replace hab := blk_a hab gr (ne_symm d_rd_ab)
              replace hb75 := blk_a hb75 gr (ne_symm d_rd_b75)
              replace bel := below_grown bel gr ord (Nat.le_trans hlo bel.size)
              clear hrd
              have hrd := hq
              clear hq gr
              refine hK.out _ _ hab (fun hH14 => ?_)
              clear hK K
              simp only [Act.put]
              refine wpAnyH_done (by kernel_rfl) ?_ _
              go_wp2_with fail
              go_ret
              exact ⟨by rw [HP.out]; rfl, fun _ => (by rw [HC.out]; exact ⟨Fx, nf, cf, A76, nx + 1, c76, Nx, nn, cn, hrd, ord, sFw, sO2w, sNw, of_sF_rd, of76_rd, of_sN_rd, apOF.symm, apFN, apON, by omega, by omega, by omega⟩), bel⟩
            · simp only [List.getElem_toArray, List.getElem_cons_zero, List.getElem_cons_succ]
              rw [if_pos (by rfl)]
              refine wp_lit_n 30 38 1 _ rfl #[.int .i64 pr, .int .i64 (decV y), .int .u8 ((p4 z).a.toNat : Int), .int .u8 ((p4 z).b.toNat : Int), .int .u8 ((p4 z).c.toNat : Int), .int .u8 ((p4 z).d.toNat : Int), .int .i64 (decV u)] (.agg #[.int .i64 0, .int .i64 0, .int .u8 0, .int .u8 0, .int .u8 0, .int .u8 0, .int .i64 0]) Tryd.underlying30 (by kernel_rfl) 7 (by kernel_rfl) (by decide) (by kernel_rfl) ?_
              intro g75 w8 ge lt hh bb
              have d_rd_b75 := ne_new (hlt hrd) ge
              have d_ab_b75 := ne_new (hlt hab) ge
              have av_sF_b75 := sF.av_new ge
              have of_sF_b75 := owk_new sFw ge
              have av_sO_b75 := sO.av_new ge
              have of_sO_b75 := owk_new sOw ge
              have av_sN_b75 := sN.av_new ge
              have of_sN_b75 := owk_new sNw ge
              have av_wt_b75 := wt.av_new ge
              have of_wt_b75 := owk_new wtw ge
              have ob75 := Nat.le_trans (Nat.le_trans hlo bel.size) ge
              replace hrd := blk_u hrd bb
              replace hab := blk_u hab bb
              replace sF := sF.below bb
              replace sFw := owk_under sFw bb
              replace sO := sO.below bb
              replace sOw := owk_under sOw bb
              replace sN := sN.below bb
              replace sNw := owk_under sNw bb
              replace wt := wt.below bb
              replace wtw := owk_under wtw bb
              replace lz_sF := Nat.le_trans lz_sF bb.size
              replace lz_sO := Nat.le_trans lz_sO bb.size
              replace lz_sN := Nat.le_trans lz_sN bb.size
              replace lz_wt := Nat.le_trans lz_wt bb.size
              replace bel := bel.trans (bb.mono (Nat.le_trans hlo bel.size))
              have hb75 := hh
              clear hh lt ge bb
              have lt : Sle opf 7 w8 (some ⟨g75, 0, none⟩) (1) (1) ([(pr, decV y, p4 z, decV u)]) := sle_lit ([(pr, decV y, p4 z, decV u)]) (by decide) opf_len hb75 rfl (by simp [maxLen])
              refine hK.out _ _ hab (fun hH9 => ?_)
              clear hK K
              simp only [Act.put, List.setIfInBounds_toArray, List.set_cons_zero, List.set_cons_succ]
              refine wpAnyH_ready (rs := [5]) (by kernel_rfl) (by simp) ?_
              refine AllReadyH.cons (o := _) rfl (fun K hK => ?_) AllReadyH.nil
              simp only [List.getElem_toArray, List.getElem_cons_zero, List.getElem_cons_succ]
              rw [if_pos (by rfl)]
              have hk_ := cell_lit hrd 39 _ rfl
              refine wp_val (v := .slice Ox nx cx) (by (go_simp) <;> with_reducible rfl) ?_
              clear hk_
              refine hK.out _ _ hab (fun hH10 => ?_)
              clear hK K
              simp only [Act.put, List.setIfInBounds_toArray, List.set_cons_zero, List.set_cons_succ]
              refine wpAnyH_ready (rs := [12]) (by kernel_rfl) (by simp) ?_
              refine AllReadyH.cons (o := _) rfl (fun K hK => ?_) AllReadyH.nil
              simp only [List.getElem_toArray, List.getElem_cons_zero, List.getElem_cons_succ]
              rw [if_pos (by rfl)]
              refine wp_append_sle (.tmp 69) (.tmp 75) 30 rfl (lo) 38 io (.agg #[.int .i64 0, .int .i64 0, .int .u8 0, .int .u8 0, .int .u8 0, .int .u8 0, .int .i64 0]) 32 Tryd.underlying30 hio hio0 hio1 hio2 rfl opf_one _ (nx) (c.opens) rfl sOw (some ⟨g75, 0, none⟩) (1) (1) ([(pr, decV y, p4 z, decV u)]) rfl lt (by unfold maxLen; omega) (by omega) lz_sO ?_
              intro v76 w11 own_ bb gw ofw
              have of76_rd := ofw _ (hlt hrd) of_sO_rd
              have of76_ab := ofw _ (hlt hab) of_sO_ab
              have of76_b75 := ofw _ (hlt hb75) of_sO_b75
              have apOF_ := apr_new sFw apOF ofw
              replace sFw := owk_apart sFw apOF gw
              replace sF := (owk_sle (by decide) fxf_len sFw).1
              clear apOF
              have apOF := apOF_
              clear apOF_
              replace lz_sF := Nat.le_trans lz_sF gw.size
              have apON_ := apr_new sNw apON ofw
              replace sNw := owk_apart sNw apON gw
              replace sN := (owk_sle (by decide) stf_len sNw).1
              clear apON
              have apON := apON_
              clear apON_
              replace lz_sN := Nat.le_trans lz_sN gw.size
              clear ofw
              clear wt wtw lz_wt
              clear lt
              replace hrd := blk_own hrd gw of_sO_rd
              replace hab := blk_own hab gw of_sO_ab
              replace hb75 := blk_own hb75 gw of_sO_b75
              clear gw
              replace bel := bel.trans (bb.mono sOlo)
              have lz_sO2 := Nat.le_trans lz_sO bb.size
              clear bb
              clear sO sOw lz_sO
              replace own_ : w11.ownsRow (lo) 38 7 v76 (nx + 1) ((c.opens ++ [(pr, decV y, p4 z, decV u)] : List (Int × Int × Ad4 × Int)).flatMap opf) := own_
              obtain ⟨A76, c76, rfl⟩ := owk_val own_
              have sO2w := own_
              have sO2 := (owk_sle (by decide) opf_len own_).1
              have fr_sO2 := (owk_sle (by decide) opf_len own_).2
              clear own_
              have av_sO2_rd := owk_av sO2w of76_rd
              have av_sO2_ab := owk_av sO2w of76_ab
              have av_sO2_b75 := owk_av sO2w of76_b75
              refine hK.out _ _ hab (fun hH12 => ?_)
              clear hK K
              simp only [Act.put, List.setIfInBounds_toArray, List.set_cons_zero, List.set_cons_succ]
              refine wpAnyH_take (i := 13) (v := ?_) rfl (by kernel_rfl) (by kernel_rfl) (by kernel_rfl) (fun _ _ _ h => h) (Or.inl ⟨by rfl, ?_⟩) hH12 ?_
              rotate_left
              · ((intro W hW; clear hW; go_simp) <;> with_reducible rfl)
              simp only [Act.put, List.getElem_toArray, List.getElem_cons_zero, List.getElem_cons_succ, List.setIfInBounds_toArray, List.set_cons_zero, List.set_cons_succ]
              refine wpAnyH_take (i := 14) (v := ?_) rfl (by kernel_rfl) (by kernel_rfl) (by kernel_rfl) (fun _ _ _ h => h) (Or.inl ⟨by rfl, ?_⟩) hH12 ?_
              rotate_left
              · ((intro W hW; clear hW; go_simp) <;> with_reducible rfl)
              simp only [Act.put, List.getElem_toArray, List.getElem_cons_zero, List.getElem_cons_succ, List.setIfInBounds_toArray, List.set_cons_zero, List.set_cons_succ]
              refine wpAnyH_take (i := 15) (v := ?_) rfl (by kernel_rfl) (by kernel_rfl) (by kernel_rfl) (fun _ _ _ h => h) (Or.inl ⟨by rfl, ?_⟩) hH12 ?_
              rotate_left
              · ((intro W hW; clear hW; go_simp) <;> with_reducible rfl)
              simp only [Act.put, List.getElem_toArray, List.getElem_cons_zero, List.getElem_cons_succ, List.setIfInBounds_toArray, List.set_cons_zero, List.set_cons_succ]
              refine wpAnyH_ready (rs := [16]) (by kernel_rfl) (by simp) ?_
              refine AllReadyH.cons (o := _) rfl (fun K hK => ?_) AllReadyH.nil
              simp only [List.getElem_toArray, List.getElem_cons_zero, List.getElem_cons_succ]
              rw [if_pos (by rfl)]
              refine wp_store_part 30 (.tmp 79) (.tmp 76) rfl gr 39 rfl [.slice A76 (nx + 1) c76] rfl [.int .u8 (c.own.a.toNat : Int), .int .u8 (c.own.b.toNat : Int), .int .u8 (c.own.c.toNat : Int), .int .u8 (c.own.d.toNat : Int), .int .u8 (c.lan.a.toNat : Int), .int .u8 (c.lan.b.toNat : Int), .int .u8 (c.lan.c.toNat : Int), .int .u8 (c.lan.d.toNat : Int), .int .i64 c.bits, .int .u8 (c.lanmac.a.toNat : Int), .int .u8 (c.lanmac.b.toNat : Int), .int .u8 (c.lanmac.c.toNat : Int), .int .u8 (c.lanmac.d.toNat : Int), .int .u8 (c.lanmac.e.toNat : Int), .int .u8 (c.lanmac.f.toNat : Int), .int .u8 (c.wanmac.a.toNat : Int), .int .u8 (c.wanmac.b.toNat : Int), .int .u8 (c.wanmac.c.toNat : Int), .int .u8 (c.wanmac.d.toNat : Int), .int .u8 (c.wanmac.e.toNat : Int), .int .u8 (c.wanmac.f.toNat : Int), .int .u8 (c.first.a.toNat : Int), .int .u8 (c.first.b.toNat : Int), .int .u8 (c.first.c.toNat : Int), .int .u8 (c.first.d.toNat : Int), .int .u8 (c.last.a.toNat : Int), .int .u8 (c.last.b.toNat : Int), .int .u8 (c.last.c.toNat : Int), .int .u8 (c.last.d.toNat : Int), .int .i64 c.time, .int .u8 (c.dns.a.toNat : Int), .int .u8 (c.dns.b.toNat : Int), .int .u8 (c.dns.c.toNat : Int), .int .u8 (c.dns.d.toNat : Int), .int .i64 c.udp, .int .i64 c.tcp, .int .i64 c.icmp, .int .i64 c.low, .slice Fx nf cf, .slice Ox nx cx, .slice Nx nn cn] 63 hrd (by simp) [.int .u8 (c.own.a.toNat : Int), .int .u8 (c.own.b.toNat : Int), .int .u8 (c.own.c.toNat : Int), .int .u8 (c.own.d.toNat : Int), .int .u8 (c.lan.a.toNat : Int), .int .u8 (c.lan.b.toNat : Int), .int .u8 (c.lan.c.toNat : Int), .int .u8 (c.lan.d.toNat : Int), .int .i64 c.bits, .int .u8 (c.lanmac.a.toNat : Int), .int .u8 (c.lanmac.b.toNat : Int), .int .u8 (c.lanmac.c.toNat : Int), .int .u8 (c.lanmac.d.toNat : Int), .int .u8 (c.lanmac.e.toNat : Int), .int .u8 (c.lanmac.f.toNat : Int), .int .u8 (c.wanmac.a.toNat : Int), .int .u8 (c.wanmac.b.toNat : Int), .int .u8 (c.wanmac.c.toNat : Int), .int .u8 (c.wanmac.d.toNat : Int), .int .u8 (c.wanmac.e.toNat : Int), .int .u8 (c.wanmac.f.toNat : Int), .int .u8 (c.first.a.toNat : Int), .int .u8 (c.first.b.toNat : Int), .int .u8 (c.first.c.toNat : Int), .int .u8 (c.first.d.toNat : Int), .int .u8 (c.last.a.toNat : Int), .int .u8 (c.last.b.toNat : Int), .int .u8 (c.last.c.toNat : Int), .int .u8 (c.last.d.toNat : Int), .int .i64 c.time, .int .u8 (c.dns.a.toNat : Int), .int .u8 (c.dns.b.toNat : Int), .int .u8 (c.dns.c.toNat : Int), .int .u8 (c.dns.d.toNat : Int), .int .i64 c.udp, .int .i64 c.tcp, .int .i64 c.icmp, .int .i64 c.low, .slice Fx nf cf, .slice A76 (nx + 1) c76, .slice Nx nn cn] rfl (by kernel_rfl) (by rfl) ?_
              intro w13 hq gr
              replace sF := sF.away av_sF_rd gr
              replace sFw := owk_off sFw of_sF_rd gr
              replace sN := sN.away av_sN_rd gr
              replace sNw := owk_off sNw of_sN_rd gr
              replace sO2 := sO2.away av_sO2_rd gr
              replace sO2w := owk_off sO2w of76_rd gr
              replace lz_sF := Nat.le_trans lz_sF gr.size
              replace lz_sN := Nat.le_trans lz_sN gr.size
              replace lz_sO2 := Nat.le_trans lz_sO2 gr.size
              replace hab := blk_a hab gr (ne_symm d_rd_ab)
              replace hb75 := blk_a hb75 gr (ne_symm d_rd_b75)
              replace bel := below_grown bel gr ord (Nat.le_trans hlo bel.size)
              clear hrd
              have hrd := hq
              clear hq gr
              refine hK.out _ _ hab (fun hH14 => ?_)
              clear hK K
              simp only [Act.put]
              refine wpAnyH_done (by kernel_rfl) ?_ _
              go_wp2_with fail
              go_ret
              exact ⟨by rw [HP.out]; rfl, fun _ => (by rw [HC.out]; exact ⟨Fx, nf, cf, A76, nx + 1, c76, Nx, nn, cn, hrd, ord, sFw, sO2w, sNw, of_sF_rd, of76_rd, of_sN_rd, apOF.symm, apFN, apON, by omega, by omega, by omega⟩), bel⟩
  · have HP : Hid (openE v = false) := Lib.hid (openE_no (by rw [HWS.out, HNN.out]; exact h1))
    have h1k : ((n : Int) == 4) = false := beq_eq_false_iff_ne.2 (by omega)
    have h1j : ((n : Int) != 4) = true := by rw [bne, h1k]; rfl
    go_wp2_with fail
    go_ret
    exact ⟨by rw [HP.out]; rfl, fun h => (by rw [HP.out] at h; cases h), bel⟩
set_option linter.unusedVariables false in
set_option linter.unusedSimpArgs false in
set_option maxRecDepth 100000 in
set_option maxHeartbeats 16000000 in
theorem single_c {lo gr : Nat} {c : Cf} {ns : List (List UInt8)} {m : Nat} (s v : List UInt8) (w : World) (hlo : lo ≤ w.heap.size) (hR : Rdr lo gr w c ns m) (hm : m ≤ 100000) (hlen : v.length ≤ 100000) : Calls Tryd.prog 56 #[.pointer (some ⟨gr, 0, none⟩), .string ⟨s.toArray⟩, .string ⟨v.toArray⟩] w fun e w' => e = .returned (.int .i64 (singleE ns s v)) ∧ (singleE ns s v = 0 → Rdr lo gr w' (c.putL s v) (ns ++ [s]) (m + 1)) ∧ Below lo w w' := by
  obtain ⟨if_, hif_, hif_0, hif_1, hif_2⟩ := info_parts Tryd.info_fix
  obtain ⟨io, hio, hio0, hio1, hio2⟩ := info_parts Tryd.info_opn
  obtain ⟨is, his, his0, his1, his2⟩ := info_parts Tryd.info_str
  obtain ⟨Fx, nf, cf, Ox, nx, cx, Nx, nn, cn, hrd, ord, sFw, sOw, sNw, of_sF_rd, of_sO_rd, of_sN_rd, apFO, apFN, apON, bF, bO, bN⟩ := hR
  have sF := (owk_sle (by decide) fxf_len sFw).1
  have sO := (owk_sle (by decide) opf_len sOw).1
  have sN := (owk_sle (by decide) stf_len sNw).1
  have av_sF_rd := owk_av sFw of_sF_rd
  have av_sO_rd := owk_av sOw of_sO_rd
  have av_sN_rd := owk_av sNw of_sN_rd
  have sFlo := Nat.le_refl lo
  have sOlo := Nat.le_refl lo
  have sNlo := Nat.le_refl lo
  have n0F : (0 : Int) ≤ nf := by omega
  have n0O : (0 : Int) ≤ nx := by omega
  have n0N : (0 : Int) ≤ nn := by omega
  have apNF := apFN.symm
  have apNO := apON.symm
  clear apFN apON
  have lz_sF : lo ≤ _ := hlo
  have lz_sO : lo ≤ _ := hlo
  have lz_sN : lo ≤ _ := hlo
  have bel := Below.refl lo w
  go_enter Tryd.func56, Tryd.ntmps56
  rcases hk : kindK s with _ | k
  · have HP : Hid (singleE ns s v = 9) := Lib.hid (by unfold singleE; rw [hk])
    go_wp2_with fail
    with_reducible refine (kindOf_any s _).mono ?_
    rintro e _ ⟨rfl, rfl⟩
    rw [hk]
    simp only [Option.getD_none, Option.isSome_none]
    go_wp2_with fail
    go_ret
    exact ⟨by rw [HP.out]; rfl, fun h => (by rw [HP.out] at h; cases h), bel⟩
  · go_wp2_with fail
    with_reducible refine (kindOf_any s _).mono ?_
    rintro e _ ⟨rfl, rfl⟩
    rw [hk]
    simp only [Option.getD_some, Option.isSome_some]
    rcases ho : onlyW v with _ | x
    · have HP : Hid (singleE ns s v = 9) := Lib.hid (by unfold singleE; rw [hk]; simp only [ho])
      go_wp2_with fail
      with_reducible refine (onlyWord_any v _ hlen).mono ?_
      rintro e w1 ⟨rfl, b1⟩
      replace hrd := blk_u hrd b1
      replace sF := sF.below b1
      replace sFw := owk_under sFw b1
      replace sO := sO.below b1
      replace sOw := owk_under sOw b1
      replace sN := sN.below b1
      replace sNw := owk_under sNw b1
      replace lz_sF := Nat.le_trans lz_sF b1.size
      replace lz_sO := Nat.le_trans lz_sO b1.size
      replace lz_sN := Nat.le_trans lz_sN b1.size
      replace bel := bel.trans (b1.mono (Nat.le_trans hlo bel.size))
      clear b1
      rw [ho]
      simp only [Option.getD_none, Option.isSome_none]
      go_wp2_with fail
      go_ret
      exact ⟨by rw [HP.out]; rfl, fun h => (by rw [HP.out] at h; cases h), bel⟩
    · go_wp2_with fail
      with_reducible refine (onlyWord_any v _ hlen).mono ?_
      rintro e w1 ⟨rfl, b1⟩
      replace hrd := blk_u hrd b1
      replace sF := sF.below b1
      replace sFw := owk_under sFw b1
      replace sO := sO.below b1
      replace sOw := owk_under sOw b1
      replace sN := sN.below b1
      replace sNw := owk_under sNw b1
      replace lz_sF := Nat.le_trans lz_sF b1.size
      replace lz_sO := Nat.le_trans lz_sO b1.size
      replace lz_sN := Nat.le_trans lz_sN b1.size
      replace bel := bel.trans (b1.mono (Nat.le_trans hlo bel.size))
      clear b1
      rw [ho]
      simp only [Option.getD_some, Option.isSome_some]
      rcases h3 : okV k x with _ | _
      · have HP : Hid (singleE ns s v = 9) := Lib.hid (by unfold singleE; rw [hk]; simp only [ho, h3]; rfl)
        go_wp2_with fail
        with_reducible refine (read_any k (kind_le hk) x _ (onlyW_len hlen ho)).mono ?_
        rintro e w2 ⟨rfl, b2⟩
        replace hrd := blk_u hrd b2
        replace sF := sF.below b2
        replace sFw := owk_under sFw b2
        replace sO := sO.below b2
        replace sOw := owk_under sOw b2
        replace sN := sN.below b2
        replace sNw := owk_under sNw b2
        replace lz_sF := Nat.le_trans lz_sF b2.size
        replace lz_sO := Nat.le_trans lz_sO b2.size
        replace lz_sN := Nat.le_trans lz_sN b2.size
        replace bel := bel.trans (b2.mono (Nat.le_trans hlo bel.size))
        clear b2
        rw [h3]
        go_wp2_with fail
        go_ret
        exact ⟨by rw [HP.out]; rfl, fun h => (by rw [HP.out] at h; cases h), bel⟩
      · go_wp2_with fail
        with_reducible refine (read_any k (kind_le hk) x _ (onlyW_len hlen ho)).mono ?_
        rintro e w2 ⟨rfl, b2⟩
        replace hrd := blk_u hrd b2
        replace sF := sF.below b2
        replace sFw := owk_under sFw b2
        replace sO := sO.below b2
        replace sOw := owk_under sOw b2
        replace sN := sN.below b2
        replace sNw := owk_under sNw b2
        replace lz_sF := Nat.le_trans lz_sF b2.size
        replace lz_sO := Nat.le_trans lz_sO b2.size
        replace lz_sN := Nat.le_trans lz_sN b2.size
        replace bel := bel.trans (b2.mono (Nat.le_trans hlo bel.size))
        clear b2
        rw [h3]
        rcases h4 : ns.contains s with _ | _
        · have HP : Hid (singleE ns s v = 0) := Lib.hid (by unfold singleE; rw [hk]; simp only [ho, h3, h4]; rfl)
          have HC : Hid (c.putL s v = c.put s x) := Lib.hid (by unfold Cf.putL; rw [ho])
          go_wp2_with fail
          with_reducible refine (has_c s _ (Rdr.of ⟨Fx, nf, cf, Ox, nx, cx, Nx, nn, cn, hrd, ord, sFw, sOw, sNw, of_sF_rd, of_sO_rd, of_sN_rd, apFO, apNF.symm, apNO.symm, bF, bO, bN⟩) hm).mono ?_
          rintro e _ ⟨rfl, rfl⟩
          rw [h4]
          have R40 := cell_lit hrd 40 _ rfl
          go_wp2_with (first | ((with_reducible show wpList _ _ _ (⟨some 42, _, _, _, _, _⟩ :: _) _ _); refine wpList_lit_n rfl 60 9 1 _ rfl #[.string ⟨(s).toArray⟩] (.string ⟨#[]⟩) Tryd.underlying60 (by kernel_rfl) 1 (by kernel_rfl) (by decide) (by kernel_rfl) ?_; intro g42 w3 ge lt hh bb; have d_rd_b42 := ne_new (hlt hrd) ge; have av_sF_b42 := sF.av_new ge; have of_sF_b42 := owk_new sFw ge; have av_sO_b42 := sO.av_new ge; have of_sO_b42 := owk_new sOw ge; have av_sN_b42 := sN.av_new ge; have of_sN_b42 := owk_new sNw ge; have ob42 := Nat.le_trans (Nat.le_trans hlo bel.size) ge; replace hrd := blk_u hrd bb; replace sF := sF.below bb; replace sFw := owk_under sFw bb; replace sO := sO.below bb; replace sOw := owk_under sOw bb; replace sN := sN.below bb; replace sNw := owk_under sNw bb; replace lz_sF := Nat.le_trans lz_sF bb.size; replace lz_sO := Nat.le_trans lz_sO bb.size; replace lz_sN := Nat.le_trans lz_sN bb.size; replace bel := bel.trans (bb.mono (Nat.le_trans hlo bel.size)); have hb42 := hh; clear hh lt ge bb; have lt : Sle stf 1 w3 (some ⟨g42, 0, none⟩) (1) (1) ([s]) := sle_lit ([s]) (by decide) stf_len hb42 rfl (by simp [maxLen])) | ((with_reducible show wpList _ _ _ (⟨some 43, _, _, _, _, _⟩ :: _) _ _); refine wpList_append_sle rfl (.tmp 40) (.tmp 42) 60 rfl (lo) 9 is (.string ⟨#[]⟩) 16 Tryd.underlying60 his his0 his1 his2 rfl stf_one _ (nn) (ns) rfl sNw (some ⟨g42, 0, none⟩) (1) (1) ([s]) rfl lt (by unfold maxLen; omega) (by omega) lz_sN ?_; intro v43 w4 own_ bb gw ofw; have of43_rd := ofw _ (hlt hrd) of_sN_rd; have of43_b42 := ofw _ (hlt hb42) of_sN_b42; have apNF_ := apr_new sFw apNF ofw; replace sFw := owk_apart sFw apNF gw; replace sF := (owk_sle (by decide) fxf_len sFw).1; clear apNF; have apNF := apNF_; clear apNF_; replace lz_sF := Nat.le_trans lz_sF gw.size; have apNO_ := apr_new sOw apNO ofw; replace sOw := owk_apart sOw apNO gw; replace sO := (owk_sle (by decide) opf_len sOw).1; clear apNO; have apNO := apNO_; clear apNO_; replace lz_sO := Nat.le_trans lz_sO gw.size; clear ofw; clear lt; replace hrd := blk_own hrd gw of_sN_rd; replace hb42 := blk_own hb42 gw of_sN_b42; clear gw; replace bel := bel.trans (bb.mono sNlo); have lz_sN2 := Nat.le_trans lz_sN bb.size; clear bb; clear sN sNw lz_sN; replace own_ : w4.ownsRow (lo) 9 1 v43 (nn + 1) ((ns ++ [s] : List (List UInt8)).flatMap stf) := own_; obtain ⟨A43, c43, rfl⟩ := owk_val own_; have sN2w := own_; have sN2 := (owk_sle (by decide) stf_len own_).1; have fr_sN2 := (owk_sle (by decide) stf_len own_).2; clear own_; have av_sN2_rd := owk_av sN2w of43_rd; have av_sN2_b42 := owk_av sN2w of43_b42) | ((with_reducible show wpList _ _ _ (⟨none, Op.store _ (.tmp 45) _, _, _, _, _⟩ :: _) _ _); refine wpList_store_part rfl 60 (.tmp 45) (.tmp 43) rfl gr 40 rfl [.slice A43 (nn + 1) c43] rfl [.int .u8 (c.own.a.toNat : Int), .int .u8 (c.own.b.toNat : Int), .int .u8 (c.own.c.toNat : Int), .int .u8 (c.own.d.toNat : Int), .int .u8 (c.lan.a.toNat : Int), .int .u8 (c.lan.b.toNat : Int), .int .u8 (c.lan.c.toNat : Int), .int .u8 (c.lan.d.toNat : Int), .int .i64 c.bits, .int .u8 (c.lanmac.a.toNat : Int), .int .u8 (c.lanmac.b.toNat : Int), .int .u8 (c.lanmac.c.toNat : Int), .int .u8 (c.lanmac.d.toNat : Int), .int .u8 (c.lanmac.e.toNat : Int), .int .u8 (c.lanmac.f.toNat : Int), .int .u8 (c.wanmac.a.toNat : Int), .int .u8 (c.wanmac.b.toNat : Int), .int .u8 (c.wanmac.c.toNat : Int), .int .u8 (c.wanmac.d.toNat : Int), .int .u8 (c.wanmac.e.toNat : Int), .int .u8 (c.wanmac.f.toNat : Int), .int .u8 (c.first.a.toNat : Int), .int .u8 (c.first.b.toNat : Int), .int .u8 (c.first.c.toNat : Int), .int .u8 (c.first.d.toNat : Int), .int .u8 (c.last.a.toNat : Int), .int .u8 (c.last.b.toNat : Int), .int .u8 (c.last.c.toNat : Int), .int .u8 (c.last.d.toNat : Int), .int .i64 c.time, .int .u8 (c.dns.a.toNat : Int), .int .u8 (c.dns.b.toNat : Int), .int .u8 (c.dns.c.toNat : Int), .int .u8 (c.dns.d.toNat : Int), .int .i64 c.udp, .int .i64 c.tcp, .int .i64 c.icmp, .int .i64 c.low, .slice Fx nf cf, .slice Ox nx cx, .slice Nx nn cn] 63 hrd (by simp) [.int .u8 (c.own.a.toNat : Int), .int .u8 (c.own.b.toNat : Int), .int .u8 (c.own.c.toNat : Int), .int .u8 (c.own.d.toNat : Int), .int .u8 (c.lan.a.toNat : Int), .int .u8 (c.lan.b.toNat : Int), .int .u8 (c.lan.c.toNat : Int), .int .u8 (c.lan.d.toNat : Int), .int .i64 c.bits, .int .u8 (c.lanmac.a.toNat : Int), .int .u8 (c.lanmac.b.toNat : Int), .int .u8 (c.lanmac.c.toNat : Int), .int .u8 (c.lanmac.d.toNat : Int), .int .u8 (c.lanmac.e.toNat : Int), .int .u8 (c.lanmac.f.toNat : Int), .int .u8 (c.wanmac.a.toNat : Int), .int .u8 (c.wanmac.b.toNat : Int), .int .u8 (c.wanmac.c.toNat : Int), .int .u8 (c.wanmac.d.toNat : Int), .int .u8 (c.wanmac.e.toNat : Int), .int .u8 (c.wanmac.f.toNat : Int), .int .u8 (c.first.a.toNat : Int), .int .u8 (c.first.b.toNat : Int), .int .u8 (c.first.c.toNat : Int), .int .u8 (c.first.d.toNat : Int), .int .u8 (c.last.a.toNat : Int), .int .u8 (c.last.b.toNat : Int), .int .u8 (c.last.c.toNat : Int), .int .u8 (c.last.d.toNat : Int), .int .i64 c.time, .int .u8 (c.dns.a.toNat : Int), .int .u8 (c.dns.b.toNat : Int), .int .u8 (c.dns.c.toNat : Int), .int .u8 (c.dns.d.toNat : Int), .int .i64 c.udp, .int .i64 c.tcp, .int .i64 c.icmp, .int .i64 c.low, .slice Fx nf cf, .slice Ox nx cx, .slice A43 (nn + 1) c43] rfl (by kernel_rfl) (by rfl) ?_; intro w5 hq gr; replace sF := sF.away av_sF_rd gr; replace sFw := owk_off sFw of_sF_rd gr; replace sO := sO.away av_sO_rd gr; replace sOw := owk_off sOw of_sO_rd gr; replace sN2 := sN2.away av_sN2_rd gr; replace sN2w := owk_off sN2w of43_rd gr; replace lz_sF := Nat.le_trans lz_sF gr.size; replace lz_sO := Nat.le_trans lz_sO gr.size; replace lz_sN2 := Nat.le_trans lz_sN2 gr.size; replace hb42 := blk_a hb42 gr (ne_symm d_rd_b42); replace bel := below_grown bel gr ord (Nat.le_trans hlo bel.size); clear hrd; have hrd := hq; clear hq gr))
          try clear R40
          with_reducible refine (set_c s x _ (Nat.le_trans hlo bel.size) (Rdr.of ⟨Fx, nf, cf, Ox, nx, cx, A43, nn + 1, c43, hrd, ord, sFw, sOw, sN2w, of_sF_rd, of_sO_rd, of43_rd, apFO, apNF.symm, apNO.symm, (by omega : nf ≤ m + 1), (by omega : nx ≤ m + 1), (by omega : nn + 1 ≤ m + 1)⟩) hk).mono ?_
          rintro e w6 ⟨rfl, hR2, b6⟩
          replace bel := bel.trans b6
          clear b6 sF sFw lz_sF sO sOw lz_sO sN2 sN2w lz_sN2 hrd hb42
          go_wp2_with fail
          go_ret
          exact ⟨by rw [HP.out]; rfl, fun _ => (by rw [HC.out]; exact hR2), bel⟩
        · have HP : Hid (singleE ns s v = 8) := Lib.hid (by unfold singleE; rw [hk]; simp only [ho, h3, h4]; rfl)
          go_wp2_with fail
          with_reducible refine (has_c s _ (Rdr.of ⟨Fx, nf, cf, Ox, nx, cx, Nx, nn, cn, hrd, ord, sFw, sOw, sNw, of_sF_rd, of_sO_rd, of_sN_rd, apFO, apNF.symm, apNO.symm, bF, bO, bN⟩) hm).mono ?_
          rintro e _ ⟨rfl, rfl⟩
          rw [h4]
          go_wp2_with fail
          go_ret
          exact ⟨by rw [HP.out]; rfl, fun h => (by rw [HP.out] at h; cases h), bel⟩
theorem errI_zero {b : Bool} (h : errI b = 0) : b = true := by cases b with
  | true => rfl
  | false => cases h
set_option linter.unusedVariables false in
set_option linter.unusedSimpArgs false in
set_option maxRecDepth 100000 in
set_option maxHeartbeats 16000000 in
theorem line_c {lo gr : Nat} {c : Cf} {ns : List (List UInt8)} {m : Nat} (l : List UInt8) (w : World) (hlo : lo ≤ w.heap.size) (hR : Rdr lo gr w c ns m) (hm : m ≤ 100000) (hlen : l.length ≤ 100000) : Calls Tryd.prog 24 #[.pointer (some ⟨gr, 0, none⟩), .string ⟨l.toArray⟩] w fun e w' => e = .returned (.int .i64 (lineE ns l)) ∧ (lineE ns l = 0 → Rdr lo gr w' (lineC c l) (lineN ns l) (m + 1)) ∧ Below lo w w' := by
  have bel := Below.refl lo w
  go_enter Tryd.func24, Tryd.ntmps24
  rcases h0 : skipL l with _ | _
  · go_wp2_with fail
    with_reducible refine (isSkipped_any l _).mono ?_
    rintro e w1 ⟨rfl, b1⟩
    replace hR := hR.below b1
    replace bel := bel.trans (b1.mono (Nat.le_trans hlo bel.size))
    clear b1
    rw [h0]
    rcases hc : cut1 61 l with _ | ⟨a, v⟩
    · have hcv : cutV 61 l = .tuple #[.string ⟨#[]⟩, .string ⟨#[]⟩, .bool false] := by unfold cutV; rw [hc]
      have HP : Hid (lineE ns l = 9) := Lib.hid (by unfold lineE; rw [if_neg (by rw [h0]; decide)]; rw [hc])
      go_wp2_with fail
      with_reducible refine (ccut_any 61 61 rfl (by decide) l _ hlen).mono ?_
      rintro e w2 ⟨rfl, b2⟩
      replace hR := hR.below b2
      replace bel := bel.trans (b2.mono (Nat.le_trans hlo bel.size))
      clear b2
      rw [hcv]
      go_wp2_with fail
      go_ret
      exact ⟨by rw [HP.out]; rfl, fun h => (by rw [HP.out] at h; cases h), bel⟩
    · have hcv : cutV 61 l = .tuple #[.string ⟨a.toArray⟩, .string ⟨v.toArray⟩, .bool true] := by unfold cutV; rw [hc]
      have hcl := cut1_len hc
      have hla : a.length ≤ 100000 := by omega
      have hlv : v.length ≤ 100000 := by omega
      clear hcl
      go_wp2_with fail
      with_reducible refine (ccut_any 61 61 rfl (by decide) l _ hlen).mono ?_
      rintro e w2 ⟨rfl, b2⟩
      replace hR := hR.below b2
      replace bel := bel.trans (b2.mono (Nat.le_trans hlo bel.size))
      clear b2
      rw [hcv]
      rcases ho : onlyW a with _ | s
      · have HP : Hid (lineE ns l = 9) := Lib.hid (by unfold lineE; rw [if_neg (by rw [h0]; decide)]; rw [hc]; simp only [ho])
        go_wp2_with fail
        with_reducible refine (onlyWord_any a _ hla).mono ?_
        rintro e w3 ⟨rfl, b3⟩
        replace hR := hR.below b3
        replace bel := bel.trans (b3.mono (Nat.le_trans hlo bel.size))
        clear b3
        rw [ho]
        simp only [Option.getD_none, Option.isSome_none]
        go_wp2_with fail
        go_ret
        exact ⟨by rw [HP.out]; rfl, fun h => (by rw [HP.out] at h; cases h), bel⟩
      · go_wp2_with fail
        with_reducible refine (onlyWord_any a _ hla).mono ?_
        rintro e w3 ⟨rfl, b3⟩
        replace hR := hR.below b3
        replace bel := bel.trans (b3.mono (Nat.le_trans hlo bel.size))
        clear b3
        rw [ho]
        simp only [Option.getD_some, Option.isSome_some]
        rcases (by decide : ∀ b : Bool, b = true ∨ b = false) (s == [102, 105, 120, 101, 100]) with b0 | b0
        · have HP : Hid (lineE ns l = errI (fixedE v)) := Lib.hid (by unfold lineE; rw [if_neg (by rw [h0]; decide)]; rw [hc]; simp only [ho]; rw [if_pos b0])
          have HC : Hid (lineC c l = c.addF v) := Lib.hid (by unfold lineC; rw [if_neg (by rw [h0]; decide)]; rw [hc]; simp only [ho]; rw [if_pos b0])
          have HN : Hid (lineN ns l = ns) := Lib.hid (by unfold lineN; rw [if_neg (by rw [h0]; decide)]; rw [hc]; simp only [ho]; rw [if_pos b0])
          go_wp2_with fail
          with_reducible refine (fixed_c v _ (Nat.le_trans hlo bel.size) hR hm hlv).mono ?_
          rintro e w4 ⟨rfl, hR2, b4⟩
          replace bel := bel.trans b4
          clear b4 hR
          go_wp2_with fail
          go_ret
          exact ⟨by rw [HP.out]; rfl, fun h => (by rw [HC.out, HN.out]; rw [HP.out] at h; exact hR2 (errI_zero h)), bel⟩
        · rcases (by decide : ∀ b : Bool, b = true ∨ b = false) (s == [111, 112, 101, 110]) with b1 | b1
          · have HP : Hid (lineE ns l = errI (openE v)) := Lib.hid (by unfold lineE; rw [if_neg (by rw [h0]; decide)]; rw [hc]; simp only [ho]; rw [if_neg (by rw [b0]; decide), if_pos b1])
            have HC : Hid (lineC c l = c.addO v) := Lib.hid (by unfold lineC; rw [if_neg (by rw [h0]; decide)]; rw [hc]; simp only [ho]; rw [if_neg (by rw [b0]; decide), if_pos b1])
            have HN : Hid (lineN ns l = ns) := Lib.hid (by unfold lineN; rw [if_neg (by rw [h0]; decide)]; rw [hc]; simp only [ho]; rw [if_neg (by rw [b0]; decide), if_pos b1])
            go_wp2_with fail
            with_reducible refine (open_c v _ (Nat.le_trans hlo bel.size) hR hm hlv).mono ?_
            rintro e w4 ⟨rfl, hR2, b4⟩
            replace bel := bel.trans b4
            clear b4 hR
            go_wp2_with fail
            go_ret
            exact ⟨by rw [HP.out]; rfl, fun h => (by rw [HC.out, HN.out]; rw [HP.out] at h; exact hR2 (errI_zero h)), bel⟩
          · have HP : Hid (lineE ns l = singleE ns s v) := Lib.hid (by unfold lineE; rw [if_neg (by rw [h0]; decide)]; rw [hc]; simp only [ho]; rw [if_neg (by rw [b0]; decide), if_neg (by rw [b1]; decide)])
            have HC : Hid (lineC c l = c.putL s v) := Lib.hid (by unfold lineC; rw [if_neg (by rw [h0]; decide)]; rw [hc]; simp only [ho]; rw [if_neg (by rw [b0]; decide), if_neg (by rw [b1]; decide)])
            have HN : Hid (lineN ns l = ns ++ [s]) := Lib.hid (by unfold lineN; rw [if_neg (by rw [h0]; decide)]; rw [hc]; simp only [ho]; rw [if_neg (by rw [b0]; decide), if_neg (by rw [b1]; decide)])
            go_wp2_with fail
            with_reducible refine (single_c s v _ (Nat.le_trans hlo bel.size) hR hm hlv).mono ?_
            rintro e w4 ⟨rfl, hR2, b4⟩
            replace bel := bel.trans b4
            clear b4 hR
            go_wp2_with fail
            go_ret
            exact ⟨by rw [HP.out]; rfl, fun h => (by rw [HC.out, HN.out]; rw [HP.out] at h; exact hR2 h), bel⟩
  · have HP : Hid (lineE ns l = 0) := Lib.hid (by unfold lineE; rw [if_pos h0])
    have HC : Hid (lineC c l = c) := Lib.hid (by unfold lineC; rw [if_pos h0])
    have HN : Hid (lineN ns l = ns) := Lib.hid (by unfold lineN; rw [if_pos h0])
    go_wp2_with fail
    with_reducible refine (isSkipped_any l _).mono ?_
    rintro e w1 ⟨rfl, b1⟩
    replace hR := hR.below b1
    replace bel := bel.trans (b1.mono (Nat.le_trans hlo bel.size))
    clear b1
    rw [h0]
    go_wp2_with fail
    go_ret
    exact ⟨by rw [HP.out]; rfl, fun _ => (by rw [HC.out, HN.out]; exact hR.more (Nat.le_succ _)), bel⟩
end Go.Proofs.YtdfobilagidmfaaDoor
