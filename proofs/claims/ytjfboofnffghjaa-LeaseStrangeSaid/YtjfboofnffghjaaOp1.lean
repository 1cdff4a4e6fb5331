/- opt's Find, Addr, Secs. -/
import Derived.Test.YtjfboofnffghjaaOp0
import Derived.Test.YtjfboofnffghjaaRd2
import Derived.Test.YtjfboofnffghjaaOpf
import Derived.WalkSpells
import Derived.Laws.Cover3
import Derived.Deep.LoopGhost
import Derived.Deep.RegionHeld
import Derived.Deep.CutRange
namespace Go.Proofs.Ytjfboofnffghjaa
open Go.RowKit

theorem Try.info_u8 : (Try.prog.info? 5).map (fun i => (i.zero, i.size, i.bytes)) = some (some (.int .u8 0), 1, 1) := by kernel_rfl
set_option linter.unusedVariables false in
set_option linter.unusedSimpArgs false in
set_option maxRecDepth 100000 in
set_option maxHeartbeats 16000000 in
theorem ofind_any {A : Option Addr} {n c : Nat} {hs : List Oh} {L : OptL} {code : Int} (w : World) (en : Sle opE 2 w A n c hs) (hbd : Bd w hs L) (hn : n ≤ 100000) (hb : ∀ x ∈ hs, x.n ≤ 100000) : Calls Try.prog 32 #[.slice A n c, .int .i64 code] w fun e w' => ∃ A' n' c', e = .returned (.tuple #[.slice A' n' c', .bool (findL L code).isSome]) ∧ Sl w' A' n' c' ((findL L code).getD []) ∧ Below w.heap.size w w' := by
  have HL := Lib.hid en.1
  have hn0 : (n : Int) ≤ 100000 := by omega
  have HBD := Lib.hid hbd
  have HB := Lib.hid hb
  clear hbd hb
  obtain ⟨ii, hii, hz0, hz1, hz2⟩ := info_parts Try.info_u8
  have bel := Below.refl w.heap.size w
  go_enter Try.func32, Try.ntmps32
  go_wp2_with fail
  go_loopg [10] (n) (fun gk s10 wr => ∃ k : Nat, gk = n - k ∧ k ≤ n ∧ Hid (findL L code = findL (L.drop k) code) ∧ s10 = .int .i64 (k : Int) ∧ Sle opE 2 wr (A) (n) (c) (hs) ∧ Below w.heap.size w wr)
  case atStart => exact ⟨0, Nat.sub_zero _, Nat.zero_le _, Lib.hid rfl, rfl, en, bel⟩
  case round =>
    clear en bel
    obtain ⟨k, HGK, hkn, HF, rfl, en, bel⟩ := hrel
    have HGK_ := Lib.hid HGK
    clear HGK
    by_cases h : k < n
    rotate_left
    · have HP : Hid (findL L code = none) := Lib.hid (HF.out.trans (find_end (by have h1 := HL.out; have h2 := HBD.out.1; omega)))
      obtain rfl : k = n := by omega
      replace h : decide (k < k) = false := decide_eq_false (by omega)
      go_wp2_with fail
      exact bodyPost_ret (v := .tuple #[.slice none 0 0, .bool false]) (by simp [results, Try.results32, go_sem]) rfl ⟨none, 0, 0, by rw [HP.out]; rfl, by rw [HP.out]; exact Sl.nil _, bel⟩
    obtain ⟨x, hx_⟩ : ∃ x, hs[k]? = some x := ⟨_, List.getElem?_eq_getElem (by have := HL.out; omega)⟩
    obtain ⟨l, hl_, sb_⟩ := HBD.out.at hx_
    have k0 : (0 : Int) ≤ k := by omega
    have k1 : (k : Int) < n := by omega
    have HX := Lib.hid hx_
    have HLI := Lib.hid hl_
    have HSB := Lib.hid sb_
    have HXN := Lib.hid (HB.out _ (List.mem_of_getElem? hx_))
    clear hx_ hl_ sb_
    obtain ⟨gE, oE, hEp⟩ := en.place (by omega)
    subst hEp
    have sb := HSB.out.below bel
    by_cases hc : x.c = code
    rotate_left
    · have e0 : (x.c == code) = false := beq_eq_false_iff_ne.2 hc
      have HF2 : Hid (findL L code = findL (L.drop (k + 1)) code) := Lib.hid (HF.out.trans (find_next (p := (x.c, l)) HLI.out hc))
      clear hc
      have R13 := Lib.hid (Sle.range0 en HX.out 2 [.int .i64 x.c, .slice x.A x.n x.cp] rfl)
      go_wp2_with (first | ((with_reducible show wpList _ _ _ (⟨some 13, _, _, _, _, _⟩ :: _) _ _); refine wpList_load_rng 59 (.tmp 12) rfl (by kernel_rfl) _ _ rfl _ R13.out _ Try.underlying59 rfl (by kernel_rfl) ?_) | ((with_reducible show wpList _ _ _ (⟨some 7, _, _, _, _, _⟩ :: _) _ _); refine wpList_new_a rfl 59 rfl #[.int .i64 0, .slice none 0 0] (by kernel_rfl) ?_; intro g7 w1 ge hh bb; have av_en_ob := en.av_new ge; have av_sb_ob := sb.av_new ge; have oob := Nat.le_trans bel.size ge; replace en := en.below bb; replace sb := sb.below bb; replace bel := bel.trans (bb.mono bel.size); have hob := hh; clear hh ge bb) | ((with_reducible show wpList _ _ _ (⟨none, Op.store _ (.tmp 7) _, _, _, _, _⟩ :: _) _ _); refine wpList_store_blk rfl 59 (.tmp 7) (.tmp 13) rfl g7 rfl _ rfl _ 59 hob (by rfl) (by kernel_rfl) (by kernel_rfl) ?_; intro w2 hq gr; replace en := en.away av_en_ob gr; replace sb := sb.away av_sb_ob gr; replace bel := below_grown bel gr oob bel.size; clear hob; have hob := hq; clear hq gr; have R15 := cell_lit hob 0 _ rfl))
      try clear R13
      try clear R15
      go_roundg (n - (k + 1))
      case measure => have := HGK_.out; omega
      case rel => exact ⟨k + 1, rfl, by omega, HF2, by go_num, en, bel⟩
    have e0 : (x.c == code) = true := beq_iff_eq.2 hc
    have HP : Hid (findL L code = some l) := Lib.hid (HF.out.trans (find_here (p := (x.c, l)) HLI.out hc))
    clear hc
    have R13 := Lib.hid (Sle.range0 en HX.out 2 [.int .i64 x.c, .slice x.A x.n x.cp] rfl)
    go_wp2_with (first | ((with_reducible show wpList _ _ _ (⟨some 13, _, _, _, _, _⟩ :: _) _ _); refine wpList_load_rng 59 (.tmp 12) rfl (by kernel_rfl) _ _ rfl _ R13.out _ Try.underlying59 rfl (by kernel_rfl) ?_) | ((with_reducible show wpList _ _ _ (⟨some 7, _, _, _, _, _⟩ :: _) _ _); refine wpList_new_a rfl 59 rfl #[.int .i64 0, .slice none 0 0] (by kernel_rfl) ?_; intro g7 w1 ge hh bb; have av_en_ob := en.av_new ge; have av_sb_ob := sb.av_new ge; have oob := Nat.le_trans bel.size ge; replace en := en.below bb; replace sb := sb.below bb; replace bel := bel.trans (bb.mono bel.size); have hob := hh; clear hh ge bb) | ((with_reducible show wpList _ _ _ (⟨none, Op.store _ (.tmp 7) _, _, _, _, _⟩ :: _) _ _); refine wpList_store_blk rfl 59 (.tmp 7) (.tmp 13) rfl g7 rfl _ rfl _ 59 hob (by rfl) (by kernel_rfl) (by kernel_rfl) ?_; intro w2 hq gr; replace en := en.away av_en_ob gr; replace sb := sb.away av_sb_ob gr; replace bel := below_grown bel gr oob bel.size; clear hob; have hob := hq; clear hq gr; have R15 := cell_lit hob 0 _ rfl) | ((with_reducible show wpList _ _ _ (⟨some 18, _, _, _, _, _⟩ :: _) _ _); refine wpList_lit_n rfl 57 5 0 _ rfl #[] (.int .u8 0) Try.underlying57 (by kernel_rfl) 1 (by kernel_rfl) (by decide) (by kernel_rfl) ?_; intro g18 w3 ge lt hh bb; have hl : w3.heap[g18]? = some (.cells (([] : List UInt8).map u8v).toArray 5 (0, 0)) := (by simpa [u8v, byteOf_val] using hh); have ebw := own_lit (B := w2.heap.size) ([]) hl ge 0 rfl (by simp [maxLen]); have eb := (own_sl ebw).1; have eblo := bel.size; clear hl; have ebge := ge; have lz_eb := bb.size; have y_eb_ob := Lib.hid (hlt hob); have bl_en_eb := en.bl_new; have bl_sb_eb := sb.bl_new; replace hob := blk_u hob bb; replace en := en.below bb; replace sb := sb.below bb; replace bel := bel.trans (bb.mono bel.size); clear hh lt ge bb; have av_eb_ob := (own_sl ebw).2.av y_eb_ob.out; have R20 := cell_lit hob 1 _ rfl) | ((with_reducible show wpList _ _ _ (⟨some 21, _, _, _, _, _⟩ :: _) _ _); refine wpList_append_bb _ rfl (.tmp 18) (.tmp 20) 57 rfl (w2.heap.size) 5 ii (.int .u8 0) Try.underlying57 hii hz0 hz1 hz2 rfl _ (0) ([]) rfl ebw (x.A) (x.n) (x.cp) (l) rfl sb (by have := HXN.out; omega) lz_eb ?_; intro v21 w4 own_ bb; replace en := en.under bl_en_eb bb; replace sb := sb.under bl_sb_eb bb; replace hob := blk_under hob bb y_eb_ob.out; replace bel := bel.trans (bb.mono eblo); have lz_rb := Nat.le_trans lz_eb bb.size; clear bb; clear eb ebw lz_eb; replace own_ : w4.ownsRow (w2.heap.size) 5 1 v21 (x.n) ((l : List UInt8).map u8v) := (by simpa using own_); obtain ⟨A21, c21, rfl⟩ := own_val own_; have rbw := own_; have rb := (own_sl own_).1; have fr_rb := (own_sl own_).2; clear own_; have av_rb_ob := fr_rb.av y_eb_ob.out))
    try clear R13
    try clear R15
    try clear R20
    exact bodyPost_ret (v := .tuple #[.slice A21 x.n c21, .bool true]) (by simp [results, Try.results32, go_sem]) rfl ⟨A21, x.n, c21, by rw [HP.out]; rfl, by rw [HP.out]; exact rb, bel⟩
theorem Sl.rng4 {w : World} {g o n c : Nat} {x y z u : UInt8} (h : Sl w (some ⟨g, o, none⟩) n c [x, y, z, u]) : w.rangeAt g o [.int .u8 (x.toNat : Int), .int .u8 (y.toNat : Int), .int .u8 (z.toNat : Int), .int .u8 (u.toNat : Int)] := by
  obtain ⟨g', o', e, hc⟩ := h.2.2.2 (by rw [← h.1]; exact Nat.zero_lt_succ _)
  injection e with e1
  injection e1 with e2 e3
  subst e2; subst e3
  intro j v hv
  match j, hv with
  | 0, hv | 1, hv | 2, hv | 3, hv => simp at hv; subst hv; exact hc _ _ rfl
  | j + 4, hv => simp at hv
theorem Sl.spot {w : World} {A : Option Addr} {n c : Nat} {l : List UInt8} (h : Sl w A n c l) (hn : 0 < n) : ∃ g o, A = some ⟨g, o, none⟩ := by
  obtain ⟨g, o, e, _⟩ := h.2.2.2 hn
  exact ⟨g, o, e⟩
theorem list_four {l : List UInt8} (h : l.length = 4) : ∃ a b c d, l = [a, b, c, d] := by
  match l, h with
  | [a, b, c, d], _ => exact ⟨a, b, c, d, rfl⟩
set_option linter.unusedVariables false in
set_option linter.unusedSimpArgs false in
set_option maxRecDepth 100000 in
set_option maxHeartbeats 16000000 in
theorem oaddr_any {A : Option Addr} {n c : Nat} {hs : List Oh} {L : OptL} {code : Int} (w : World) (en : Sle opE 2 w A n c hs) (hbd : Bd w hs L) (hn : n ≤ 100000) (hb : ∀ x ∈ hs, x.n ≤ 100000) : Calls Try.prog 34 #[.slice A n c, .int .i64 code] w fun e w' => ∃ x y z u, (fourL (findL L code)).1 = [x, y, z, u] ∧ e = .returned (.tuple #[.agg #[.int .u8 (x.toNat : Int), .int .u8 (y.toNat : Int), .int .u8 (z.toNat : Int), .int .u8 (u.toNat : Int)], .bool (fourL (findL L code)).2]) ∧ Below w.heap.size w w' := by
  have bel := Below.refl w.heap.size w
  go_enter Try.func34, Try.ntmps34
  go_wp2_with (first | ((with_reducible show wpList _ _ _ (⟨some 4, _, _, _, _, _⟩ :: _) _ _); refine wpList_new_a rfl 34 rfl #[.int .u8 0, .int .u8 0, .int .u8 0, .int .u8 0] (by kernel_rfl) ?_; intro g4 w1 ge hh bb; have av_en_rb := en.av_new ge; have orb := Nat.le_trans bel.size ge; replace en := en.below bb; replace bel := bel.trans (bb.mono bel.size); have hrb := hh; clear hh ge bb))
  with_reducible refine (ofind_any _ en (hbd.below bel) hn hb).mono ?_
  rintro e w2 ⟨A2, n2, c2, rfl, sb, b2⟩
  replace hrb := blk_u hrb b2
  replace en := en.below b2
  replace bel := bel.trans (b2.mono bel.size)
  clear b2
  replace sb : Sl w2 (A2) (n2) (c2) ((findL L code).getD []) := sb
  by_cases h4 : n2 = 4
  rotate_left
  · have e4 : ((n2 : Int) != 4) = true := by rw [bne, beq_eq_false_iff_ne.2 (by omega : ¬ (n2 : Int) = 4)]; rfl
    have HP : Hid (fourL (findL L code) = ([0, 0, 0, 0], false)) := Lib.hid (by unfold fourL; rw [if_neg (by rw [sb.1]; exact h4)])
    clear h4
    go_wp2_with (first | ((with_reducible show wpList _ _ _ (⟨none, Op.store _ (.tmp 4) _, _, _, _, _⟩ :: _) _ _); refine wpList_store_blk rfl 34 (.tmp 4) (.tmp 17) rfl g4 rfl _ rfl _ 34 hrb (by rfl) (by kernel_rfl) (by kernel_rfl) ?_; intro w3 hq gr; replace en := en.away av_en_rb gr; clear sb; replace bel := below_grown bel gr orb bel.size; clear hrb; have hrb := hq; clear hq gr))
    exact bodyPost_ret (results_cell_tmp_row rfl _ _ _ _ _ _ _ rfl hrb Try.underlying34 rfl (by kernel_rfl) (.bool false) rfl) rfl ⟨0, 0, 0, 0, by rw [HP.out], by rw [HP.out]; rfl, bel⟩
  have e4 : ((n2 : Int) != 4) = false := by rw [bne, beq_iff_eq.2 (by omega : (n2 : Int) = 4)]; rfl
  obtain ⟨x, y, z, u, hq⟩ := list_four (sb.1.trans h4)
  have HQ := Lib.hid hq
  rw [hq] at sb
  obtain ⟨g2, o2, rfl⟩ := sb.spot (by omega)
  have r19 : ∀ W, (Instr.arrayAt 34 (.slice (some ⟨g2, o2, none⟩) n2 c2)).run Try.prog W = .ok (.pointer (some ⟨g2, o2, none⟩)) W := fun W => run_arrayAt _ _ _ _ _ _ _ Try.underlying34 (by omega)
  have HP : Hid (fourL (findL L code) = ([x, y, z, u], true)) := Lib.hid (by unfold fourL; rw [hq]; rfl)
  clear hq h4
  have R19 := r19
  have R20 := Lib.hid (Sl.rng4 sb)
  go_wp2_with (first | ((with_reducible show wpList _ _ _ (⟨some 20, _, _, _, _, _⟩ :: _) _ _); refine wpList_load_rng 34 (.tmp 19) rfl (by kernel_rfl) _ _ rfl _ R20.out _ Try.underlying34 rfl (by kernel_rfl) ?_) | ((with_reducible show wpList _ _ _ (⟨none, Op.store _ (.tmp 4) _, _, _, _, _⟩ :: _) _ _); refine wpList_store_blk rfl 34 (.tmp 4) (.tmp 20) rfl g4 rfl _ rfl _ 34 hrb (by rfl) (by kernel_rfl) (by kernel_rfl) ?_; intro w3 hq gr; replace en := en.away av_en_rb gr; clear sb; replace bel := below_grown bel gr orb bel.size; clear hrb; have hrb := hq; clear hq gr))
  try clear R19
  try clear R20
  exact bodyPost_ret (results_cell_tmp_row rfl _ _ _ _ _ _ _ rfl hrb Try.underlying34 rfl (by kernel_rfl) (.bool true) rfl) rfl ⟨x, y, z, u, by rw [HP.out], by rw [HP.out], bel⟩
set_option linter.unusedVariables false in
set_option linter.unusedSimpArgs false in
set_option maxRecDepth 100000 in
set_option maxHeartbeats 16000000 in
theorem osecs_any {A : Option Addr} {n c : Nat} {hs : List Oh} {L : OptL} {code : Int} (w : World) (en : Sle opE 2 w A n c hs) (hbd : Bd w hs L) (hn : n ≤ 100000) (hb : ∀ x ∈ hs, x.n ≤ 100000) : Calls Try.prog 36 #[.slice A n c, .int .i64 code] w fun e w' => e = .returned (.tuple #[.int .u32 ((be (fourL (findL L code)).1 : Nat) : Int), .bool (fourL (findL L code)).2]) ∧ Below w.heap.size w w' := by
  have bel := Below.refl w.heap.size w
  go_enter Try.func36, Try.ntmps36
  go_wp2_with fail
  with_reducible refine (oaddr_any _ en (hbd.below bel) hn hb).mono ?_
  rintro e w1 ⟨x, y, z, u, hq, rfl, b1⟩
  replace en := en.below b1
  replace bel := bel.trans (b1.mono bel.size)
  clear b1
  have HQ := Lib.hid hq
  clear hq
  go_wp2_with (first | ((with_reducible show wpList _ _ _ (⟨some 6, _, _, _, _, _⟩ :: _) _ _); refine wpList_new_a rfl 34 rfl #[.int .u8 0, .int .u8 0, .int .u8 0, .int .u8 0] (by kernel_rfl) ?_; intro g6 w2 ge hh bb; have av_en_ab := en.av_new ge; have oab := Nat.le_trans bel.size ge; replace en := en.below bb; replace bel := bel.trans (bb.mono bel.size); have hab := hh; clear hh ge bb) | ((with_reducible show wpList _ _ _ (⟨none, Op.store _ (.tmp 6) _, _, _, _, _⟩ :: _) _ _); refine wpList_store_blk rfl 34 (.tmp 6) (.tmp 12) rfl g6 rfl _ rfl _ 34 hab (by rfl) (by kernel_rfl) (by kernel_rfl) ?_; intro w3 hq gr; replace en := en.away av_en_ab gr; replace bel := below_grown bel gr oab bel.size; clear hab; have hab := hq; clear hq gr))
  have sa := sl_four (o := 0) x y z u hab rfl rfl rfl rfl
  go_wp2_with fail
  with_reducible refine (rd_read _ _ _ _ _ sa (by omega)).mono ?_
  rintro e w4 ⟨grd, Ard3, crd3, rfl, ge, hh, rest, frrd, avrd, b4⟩
  have av_rest_ab := frrd.av (hlt hab)
  have d_ab_rd := ne_new (hlt hab) ge
  have av_en_rd := en.av_new ge
  have av_sa_rd := sa.av_new ge
  have ord := Nat.le_trans bel.size ge
  replace hab := blk_u hab b4
  replace en := en.below b4
  replace sa := sa.below b4
  replace bel := bel.trans (b4.mono bel.size)
  have hrd := hh
  clear hh ge b4
  replace rest : Sl w4 (Ard3) (4) (crd3) ([x, y, z, u]) := rest
  go_wp2_with fail
  with_reducible refine (rd_u32c x y z u [] _ _ _ _ _ _ hrd rest).mono ?_
  rintro e w5 ⟨A4, n4, c4, rfl, hq, sq, uq, b5⟩
  replace en := en.away av_en_rd b5
  replace sa := sa.away av_sa_rd b5
  replace hab := blk_a hab b5 d_ab_rd
  replace bel := below_grown bel b5 ord bel.size
  clear b5
  clear hrd rest
  have hrd := hq
  have rest := sq
  clear hq sq
  have av4_rest_ab := av_rest_ab.sub uq
  have av4_rest_rd := avrd.sub uq
  clear uq
  go_wp2_with fail
  exact bodyPost_ret (v := .tuple #[.int .u32 ((be [x, y, z, u] : Nat) : Int), .bool (fourL (findL L code)).2]) (by simp [results, Try.results36, go_sem]) rfl ⟨by rw [HQ.out], bel⟩
end Go.Proofs.Ytjfboofnffghjaa
