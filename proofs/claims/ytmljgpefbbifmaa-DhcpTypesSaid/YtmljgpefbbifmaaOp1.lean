/- opt's Find, Addr, Secs. -/
import Derived.Test.YtmljgpefbbifmaaOp0
import Derived.Test.YtmljgpefbbifmaaRd2
import Derived.Test.YtmljgpefbbifmaaOpf
import Derived.WalkSpells
import Derived.Laws.Cover3
import Derived.Deep.LoopGhost
import Derived.Deep.RegionHeld
import Derived.Deep.CutRange
namespace Go.Proofs.Ytmljgpefbbifmaa
open Go.RowKit

theorem Try.info_u8 : (Try.prog.info? 5).map (fun i => (i.zero, i.size, i.bytes)) = some (some (.int .u8 0), 1, 1) := by kernel_rfl
set_option linter.unusedVariables false in
set_option linter.unusedSimpArgs false in
set_option maxRecDepth 100000 in
set_option maxHeartbeats 16000000 in
theorem ofind_any {A : Option Addr} {n c : Nat} {hs : List Oh} {L : OptL} {code : Int} (w : World) (en : Sle opE 2 w A n c hs) (hbd : Bd w hs L) (hn : n ≤ 100000) (hb : ∀ x ∈ hs, x.n ≤ 100000) : Calls Try.prog 23 #[.slice A n c, .int .i64 code] w fun e w' => ∃ A' n' c', e = .returned (.tuple #[.slice A' n' c', .bool (findL L code).isSome]) ∧ Sl w' A' n' c' ((findL L code).getD []) ∧ Below w.heap.size w w' := by
  have HL := Lib.hid en.1
  have hn0 : (n : Int) ≤ 100000 := by omega
  have HBD := Lib.hid hbd
  have HB := Lib.hid hb
  clear hbd hb
  obtain ⟨ii, hii, hz0, hz1, hz2⟩ := info_parts Try.info_u8
  have bel := Below.refl w.heap.size w
  go_enter Try.func23, Try.ntmps23
  go_wp2_with fail
  go_loopg [10] (n) (fun gk s10 wr => ∃ k : Nat, gk = n - k ∧ k ≤ n ∧ Hid (findL L code = findL (L.drop k) code) ∧ s10 = .int .i64 (k : Int) ∧ Sle opE 2 wr (A) (n) (c) (hs) ∧ Below w.heap.size w wr)
  case atStart => exact ⟨0, Nat.sub_zero _, Nat.zero_le _, Lib.hid rfl, rfl, en, bel⟩
  case round =>
    clear en bel
    obtain ⟨k, HGK, hkn, HF, rfl, en, bel⟩ := hrel
    have HGK_ := Lib.hid HGK
    clear HGK
    by_cases h : k < n
    rotate_left
    · have HP : Hid (findL L code = none) := Lib.hid (HF.out.trans (find_end (by have h1 := HL.out; have h2 := HBD.out.1; omega)))
      obtain rfl : k = n := by omega
      replace h : decide (k < k) = false := decide_eq_false (by omega)
      go_wp2_with fail
      exact bodyPost_ret (v := .tuple #[.slice none 0 0, .bool false]) (by simp [results, Try.results23, go_sem]) rfl ⟨none, 0, 0, by rw [HP.out]; rfl, by rw [HP.out]; exact Sl.nil _, bel⟩
    obtain ⟨x, hx_⟩ : ∃ x, hs[k]? = some x := ⟨_, List.getElem?_eq_getElem (by have := HL.out; omega)⟩
    obtain ⟨l, hl_, sb_⟩ := HBD.out.at hx_
    have k0 : (0 : Int) ≤ k := by omega
    have k1 : (k : Int) < n := by omega
    have HX := Lib.hid hx_
    have HLI := Lib.hid hl_
    have HSB := Lib.hid sb_
    have HXN := Lib.hid (HB.out _ (List.mem_of_getElem? hx_))
    clear hx_ hl_ sb_
    obtain ⟨gE, oE, hEp⟩ := en.place (by omega)
    subst hEp
    have sb := HSB.out.below bel
    by_cases hc : x.c = code
    rotate_left
    · have e0 : (x.c == code) = false := beq_eq_false_iff_ne.2 hc
      have HF2 : Hid (findL L code = findL (L.drop (k + 1)) code) := Lib.hid (HF.out.trans (find_next (p := (x.c, l)) HLI.out hc))
      clear hc
      have R13 := Lib.hid (Sle.range0 en HX.out 2 [.int .i64 x.c, .slice x.A x.n x.cp] rfl)
      go_wp2_with (first | ((with_reducible show wpList _ _ _ (⟨some 13, _, _, _, _, _⟩ :: _) _ _); refine wpList_load_rng 38 (.tmp 12) rfl (by kernel_rfl) _ _ rfl _ R13.out _ Try.underlying38 rfl (by kernel_rfl) ?_) | ((with_reducible show wpList _ _ _ (⟨some 7, _, _, _, _, _⟩ :: _) _ _); refine wpList_new_a rfl 38 rfl #[.int .i64 0, .slice none 0 0] (by kernel_rfl) ?_; intro g7 w1 ge hh bb; have av_en_ob := en.av_new ge; have av_sb_ob := sb.av_new ge; have oob := Nat.le_trans bel.size ge; replace en := en.below bb; replace sb := sb.below bb; replace bel := bel.trans (bb.mono bel.size); have hob := hh; clear hh ge bb) | ((with_reducible show wpList _ _ _ (⟨none, Op.store _ (.tmp 7) _, _, _, _, _⟩ :: _) _ _); refine wpList_store_blk rfl 38 (.tmp 7) (.tmp 13) rfl g7 rfl _ rfl _ 38 hob (by rfl) (by kernel_rfl) (by kernel_rfl) ?_; intro w2 hq gr; replace en := en.away av_en_ob gr; replace sb := sb.away av_sb_ob gr; replace bel := below_grown bel gr oob bel.size; clear hob; have hob := hq; clear hq gr; have R15 := cell_lit hob 0 _ rfl))
      try clear R13
      try clear R15
      go_roundg (n - (k + 1))
      case measure => have := HGK_.out; omega
      case rel => exact ⟨k + 1, rfl, by omega, HF2, by go_num, en, bel⟩
    have e0 : (x.c == code) = true := beq_iff_eq.2 hc
    have HP : Hid (findL L code = some l) := Lib.hid (HF.out.trans (find_here (p := (x.c, l)) HLI.out hc))
    clear hc
    have R13 := Lib.hid (Sle.range0 en HX.out 2 [.int .i64 x.c, .slice x.A x.n x.cp] rfl)
    go_wp2_with (first | ((with_reducible show wpList _ _ _ (⟨some 13, _, _, _, _, _⟩ :: _) _ _); refine wpList_load_rng 38 (.tmp 12) rfl (by kernel_rfl) _ _ rfl _ R13.out _ Try.underlying38 rfl (by kernel_rfl) ?_) | ((with_reducible show wpList _ _ _ (⟨some 7, _, _, _, _, _⟩ :: _) _ _); refine wpList_new_a rfl 38 rfl #[.int .i64 0, .slice none 0 0] (by kernel_rfl) ?_; intro g7 w1 ge hh bb; have av_en_ob := en.av_new ge; have av_sb_ob := sb.av_new ge; have oob := Nat.le_trans bel.size ge; replace en := en.below bb; replace sb := sb.below bb; replace bel := bel.trans (bb.mono bel.size); have hob := hh; clear hh ge bb) | ((with_reducible show wpList _ _ _ (⟨none, Op.store _ (.tmp 7) _, _, _, _, _⟩ :: _) _ _); refine wpList_store_blk rfl 38 (.tmp 7) (.tmp 13) rfl g7 rfl _ rfl _ 38 hob (by rfl) (by kernel_rfl) (by kernel_rfl) ?_; intro w2 hq gr; replace en := en.away av_en_ob gr; replace sb := sb.away av_sb_ob gr; replace bel := below_grown bel gr oob bel.size; clear hob; have hob := hq; clear hq gr; have R15 := cell_lit hob 0 _ rfl) | ((with_reducible show wpList _ _ _ (⟨some 18, _, _, _, _, _⟩ :: _) _ _); refine wpList_lit_n rfl 34 5 0 _ rfl #[] (.int .u8 0) Try.underlying34 (by kernel_rfl) 1 (by kernel_rfl) (by decide) (by kernel_rfl) ?_; intro g18 w3 ge lt hh bb; have hl : w3.heap[g18]? = some (.cells (([] : List UInt8).map u8v).toArray 5 (0, 0)) := (by simpa [u8v, byteOf_val] using hh); have ebw := own_lit (B := w2.heap.size) ([]) hl ge 0 rfl (by simp [maxLen]); have eb := (own_sl ebw).1; have eblo := bel.size; clear hl; have ebge := ge; have lz_eb := bb.size; have y_eb_ob := Lib.hid (hlt hob); have bl_en_eb := en.bl_new; have bl_sb_eb := sb.bl_new; replace hob := blk_u hob bb; replace en := en.below bb; replace sb := sb.below bb; replace bel := bel.trans (bb.mono bel.size); clear hh lt ge bb; have av_eb_ob := (own_sl ebw).2.av y_eb_ob.out; have R20 := cell_lit hob 1 _ rfl) | ((with_reducible show wpList _ _ _ (⟨some 21, _, _, _, _, _⟩ :: _) _ _); refine wpList_append_bb _ rfl (.tmp 18) (.tmp 20) 34 rfl (w2.heap.size) 5 ii (.int .u8 0) Try.underlying34 hii hz0 hz1 hz2 rfl _ (0) ([]) rfl ebw (x.A) (x.n) (x.cp) (l) rfl sb (by have := HXN.out; omega) lz_eb ?_; intro v21 w4 own_ bb; replace en := en.under bl_en_eb bb; replace sb := sb.under bl_sb_eb bb; replace hob := blk_under hob bb y_eb_ob.out; replace bel := bel.trans (bb.mono eblo); have lz_rb := Nat.le_trans lz_eb bb.size; clear bb; clear eb ebw lz_eb; replace own_ : w4.ownsRow (w2.heap.size) 5 1 v21 (x.n) ((l : List UInt8).map u8v) := (by simpa using own_); obtain ⟨A21, c21, rfl⟩ := own_val own_; have rbw := own_; have rb := (own_sl own_).1; have fr_rb := (own_sl own_).2; clear own_; have av_rb_ob := fr_rb.av y_eb_ob.out))
    try clear R13
    try clear R15
    try clear R20
    exact bodyPost_ret (v := .tuple #[.slice A21 x.n c21, .bool true]) (by simp [results, Try.results23, go_sem]) rfl ⟨A21, x.n, c21, by rw [HP.out]; rfl, by rw [HP.out]; exact rb, bel⟩
theorem Sl.rng4 {w : World} {g o n c : Nat} {x y z u : UInt8} (h : Sl w (some ⟨g, o, none⟩) n c [x, y, z, u]) : w.rangeAt g o [.int .u8 (x.toNat : Int), .int .u8 (y.toNat : Int), .int .u8 (z.toNat : Int), .int .u8 (u.toNat : Int)] := by
  obtain ⟨g', o', e, hc⟩ := h.2.2.2 (by rw [← h.1]; exact Nat.zero_lt_succ _)
  injection e with e1
  injection e1 with e2 e3
  subst e2; subst e3
  intro j v hv
  match j, hv with
  | 0, hv | 1, hv | 2, hv | 3, hv => simp at hv; subst hv; exact hc _ _ rfl
  | j + 4, hv => simp at hv
theorem Sl.spot {w : World} {A : Option Addr} {n c : Nat} {l : List UInt8} (h : Sl w A n c l) (hn : 0 < n) : ∃ g o, A = some ⟨g, o, none⟩ := by
  obtain ⟨g, o, e, _⟩ := h.2.2.2 hn
  exact ⟨g, o, e⟩
theorem list_four {l : List UInt8} (h : l.length = 4) : ∃ a b c d, l = [a, b, c, d] := by
  match l, h with
  | [a, b, c, d], _ => exact ⟨a, b, c, d, rfl⟩
end Go.Proofs.Ytmljgpefbbifmaa
