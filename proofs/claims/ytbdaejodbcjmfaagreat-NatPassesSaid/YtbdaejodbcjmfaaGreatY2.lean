/- Texts put together: Law19p. -/
import Derived.Test.YtbdaejodbcjmfaaGreatQ1
import Derived.Test.YtbdaejodbcjmfaaGreatQ2
import Derived.Test.YtbdaejodbcjmfaaGreatQ3
import Derived.Test.YtbdaejodbcjmfaaGreatQ4
import Derived.Test.YtbdaejodbcjmfaaGreatQ5
import Derived.Test.YtbdaejodbcjmfaaGreatQ6
import Derived.Test.YtbdaejodbcjmfaaGreatQ7
import Derived.Test.YtbdaejodbcjmfaaGreatQ8
import Derived.Test.YtbdaejodbcjmfaaGreatQ9
import Derived.Test.YtbdaejodbcjmfaaGreatQ10
import Derived.Test.YtbdaejodbcjmfaaGreatQ11
import Derived.Test.YtbdaejodbcjmfaaGreatQ12
import Derived.Test.YtbdaejodbcjmfaaGreatQ13
import Derived.Test.YtbdaejodbcjmfaaGreatY1
namespace Go.Proofs.YtbdaejodbcjmfaaGreat
open Go.RowKit
open Go.RowKit

theorem i64_and7 (n : Int) : bits .and .i64 n 7 = n % 8 := by
  have hm : (BitVec.ofInt 64 7).toNat = 2 ^ 3 - 1 := by decide
  have key : (BitVec.ofInt 64 n &&& BitVec.ofInt 64 7).toNat = (n % ((2 ^ 64 : Nat) : Int)).toNat % 2 ^ 3 := by
    rw [BitVec.toNat_and, BitVec.toNat_ofInt, hm, Nat.and_two_pow_sub_one_eq_mod]
  show IntKind.i64.wrap ((BitVec.ofInt 64 n &&& BitVec.ofInt 64 7).toNat : Nat) = n % 8
  rw [key, IntKind.wrap_i64]
  omega

theorem xor_u8 (x y : Nat) (hx : x < 256) (hy : y < 256) : bits .xor .u8 (x : Int) (y : Int) = ((x ^^^ y : Nat) : Int) := by
  show IntKind.u8.wrap ((BitVec.ofInt 8 (x : Int) ^^^ BitVec.ofInt 8 (y : Int)).toNat : Int) = _
  rw [BitVec.toNat_xor, BitVec.ofInt_natCast, BitVec.ofInt_natCast, BitVec.toNat_ofNat, BitVec.toNat_ofNat, Nat.mod_eq_of_lt (by omega), Nat.mod_eq_of_lt (by omega)]
  have h : x ^^^ y < 2 ^ 8 := Nat.xor_lt_two_pow (by omega) (by omega)
  generalize x ^^^ y = z at *
  simp [IntKind.wrap, IntKind.signed, IntKind.bits]
  omega
theorem xor_bit (x : UInt8) (r : Nat) (hr : r < 8) : ∃ y : UInt8, y.toNat = x.toNat ^^^ 2 ^ r ∧ bits .xor .u8 (x.toNat : Int) ((2 : Int) ^ r % 256) = (y.toNat : Int) := by
  have hq : (2 : Nat) ^ r < 256 := by
    have : (2 : Nat) ^ r ≤ 2 ^ 7 := Nat.pow_le_pow_right (by omega) (by omega)
    omega
  have h : x.toNat ^^^ 2 ^ r < 2 ^ 8 := Nat.xor_lt_two_pow x.toNat_lt (by omega)
  have e : ((2 : Int) ^ r % 256) = ((2 ^ r : Nat) : Int) := by
    rw [show (2 : Int) ^ r = ((2 ^ r : Nat) : Int) by simp]
    generalize (2 : Nat) ^ r = q at *
    omega
  refine ⟨UInt8.ofNat (x.toNat ^^^ 2 ^ r), by rw [UInt8.toNat_ofNat']; omega, ?_⟩
  rw [e, xor_u8 _ _ x.toNat_lt hq, UInt8.toNat_ofNat', Nat.mod_eq_of_lt h]
def pR (pt fl : Int) : Int := if (decide (pt = 0) && decide (fl % 2 = 0)) = true then 11 else 10
theorem pR_or (pt fl : Int) : pR pt fl = 11 ∨ pR pt fl = 10 := by
  unfold pR
  split
  · exact .inl rfl
  · exact .inr rfl
theorem p_spoilt (j r : Nat) (x y : UInt8) (hj : (udBytes 10 0 0 (byteOf 5) 8 8 8 8 777 53 [120])[j]? = some x) (hr : r < 8) (hy : y.toNat = x.toNat ^^^ 2 ^ r) (h4 : j ≠ 4) (h5 : j ≠ 5) : udErr 0 0 17 10 0 0 (byteOf 5) 8 8 8 8 ((udBytes 10 0 0 (byteOf 5) 8 8 8 8 777 53 [120]).set j y) = 5 := by
  rcases udp_spoilt (fl := 0) (pt := 0) (by decide) 10 0 0 (byteOf 5) 8 8 8 8 777 53 [120] (by decide) j r x y hj hr hy h4 h5 with h | ⟨_, h6, h7⟩
  · exact h
  · exfalso
    have l6 : (udBytes 10 0 0 (byteOf 5) 8 8 8 8 777 53 [120])[6]? ≠ some 0 := by decide +kernel
    have l7 : (udBytes 10 0 0 (byteOf 5) 8 8 8 8 777 53 [120])[7]? ≠ some 0 := by decide +kernel
    by_cases e : j = 6
    · subst e
      rw [List.getElem?_set_ne (by decide)] at h7
      exact l7 h7
    · rw [List.getElem?_set_ne e] at h6
      exact l6 h6
set_option linter.unusedVariables false in
set_option maxRecDepth 100000 in
theorem p_bad {lo gn gt gk : Nat} {tos id fl pt ttl pr : Int} {a0 a1 a2 a3 b0 b1 b2 b3 : UInt8} {So Sb : Option Addr} {no co nb cb : Nat} {r : Int} (w : World) (hT : Np lo gn gt gk w nS0 nK0) (n17 : pr ≠ 17) (n6 : pr ≠ 6) (n1 : pr ≠ 1) (hr : pR pt fl = r)  : Calls Tryz.prog 19 #[.pointer (some ⟨gn, 0, none⟩), .agg #[.int .i64 tos, .int .i64 id, .int .i64 fl, .int .i64 pt, .int .i64 ttl, .int .i64 pr, .int .u8 (a0.toNat : Int), .int .u8 (a1.toNat : Int), .int .u8 (a2.toNat : Int), .int .u8 (a3.toNat : Int), .int .u8 (b0.toNat : Int), .int .u8 (b1.toNat : Int), .int .u8 (b2.toNat : Int), .int .u8 (b3.toNat : Int), .slice So no co, .slice Sb nb cb], .agg #[.int .u8 203, .int .u8 0, .int .u8 113, .int .u8 7], .int .i64 0] w fun e w' => e = .returned (.tuple #[.agg #[.int .i64 0, .int .i64 0, .int .i64 0, .int .i64 0, .int .i64 0, .int .i64 0, .int .u8 0, .int .u8 0, .int .u8 0, .int .u8 0, .int .u8 0, .int .u8 0, .int .u8 0, .int .u8 0, .slice none 0 0, .slice none 0 0], .int .i64 r]) ∧ Np lo gn gt gk w' nS0 nK0 ∧ Fn gn gt gk w w' ∧ Below lo w w' := by
  unfold pR at hr
  split at hr
  · rename_i h
    subst hr
    have h_ := nout_other (t := 0) (tos := tos) (id := id) (ttl := ttl) (lp := []) (lb := []) (a0 := a0) (a1 := a1) (a2 := a2) (a3 := a3) (b0 := b0) (b1 := b1) (b2 := b2) (b3 := b3) (So := So) (no := no) (co := co) (Sb := Sb) (nb := nb) (cb := cb) (c0 := 203) (c1 := 0) (c2 := 113) (c3 := 7) w hT h n17 n6 n1
    exact h_
  · rename_i h
    subst hr
    have h_ := nout_frag (t := 0) (tos := tos) (id := id) (ttl := ttl) (pr := pr) (lp := []) (lb := []) (a0 := a0) (a1 := a1) (a2 := a2) (a3 := a3) (b0 := b0) (b1 := b1) (b2 := b2) (b3 := b3) (So := So) (no := no) (co := co) (Sb := Sb) (nb := nb) (cb := cb) (c0 := 203) (c1 := 0) (c2 := 113) (c3 := 7) w hT (by simpa using h)
    exact h_
set_option linter.unusedVariables false in
set_option maxRecDepth 100000 in
theorem p_sum {lo gn gt gk : Nat} {Ao Ab : Option Addr} {co cb : Nat} {L : List UInt8} (w : World) (hT : Np lo gn gt gk w nS0 nK0) (po : Sl w Ao 0 co []) (pb : Sl w Ab 9 cb L) (hp : udErr 0 0 17 10 0 0 (byteOf 5) 8 8 8 8 L = 5)  : Calls Tryz.prog 19 #[.pointer (some ⟨gn, 0, none⟩), .agg #[.int .i64 0, .int .i64 0, .int .i64 0, .int .i64 0, .int .i64 64, .int .i64 17, .int .u8 10, .int .u8 0, .int .u8 0, .int .u8 ((byteOf 5).toNat : Int), .int .u8 8, .int .u8 8, .int .u8 8, .int .u8 8, .slice Ao 0 co, .slice Ab 9 cb], .agg #[.int .u8 203, .int .u8 0, .int .u8 113, .int .u8 7], .int .i64 0] w fun e w' => e = .returned (.tuple #[.agg #[.int .i64 0, .int .i64 0, .int .i64 0, .int .i64 0, .int .i64 0, .int .i64 0, .int .u8 0, .int .u8 0, .int .u8 0, .int .u8 0, .int .u8 0, .int .u8 0, .int .u8 0, .int .u8 0, .slice none 0 0, .slice none 0 0], .int .i64 5]) ∧ Np lo gn gt gk w' nS0 nK0 ∧ Fn gn gt gk w w' ∧ Below lo w w' := by
  have h_ := nout_uer (tos := 0) (id := 0) (fl := 0) (pt := 0) (ttl := 64) (t := 0) (lp := []) (a0 := 10) (a1 := 0) (a2 := 0) (a3 := (byteOf 5)) (b0 := 8) (b1 := 8) (b2 := 8) (b3 := 8) (c0 := 203) (c1 := 0) (c2 := 113) (c3 := 7) w hT po pb an_zero (by decide) (by decide) (by decide) hp (by decide)
  exact h_
theorem p_len {lo gn gt gk : Nat} (w : World) (hT : Np lo gn gt gk w nS0 nK0) : Calls Tryz.prog 26 #[.pointer (some ⟨gt, 0, none⟩), .int .i64 0] w fun e w' => e = .returned (.int .i64 0) ∧ Np lo gn gt gk w' nS0 nK0 ∧ Fn gn gt gk w w' ∧ Below lo w w' := np_t hT (len_is (s1 := nS0) w hT.tp rfl rfl)
set_option linter.unusedVariables false in
set_option linter.unusedVariables false in
set_option linter.unusedSimpArgs false in
set_option maxRecDepth 100000 in
set_option maxHeartbeats 16000000 in
theorem natPasses_walk (tos id fl pt ttl pr : Int) (a0 a1 a2 a3 b0 b1 b2 b3 : UInt8) (So : Option Addr) (no co : Nat) (lp : List UInt8) (Sb : Option Addr) (nb cb : Nat) (lb : List UInt8) (bit : Int) (w : World) (po : Sl w So no co lp) (pb : Sl w Sb nb cb lb) : Calls Tryz.prog 9 #[.agg #[.int .i64 tos, .int .i64 id, .int .i64 fl, .int .i64 pt, .int .i64 ttl, .int .i64 pr, .int .u8 (a0.toNat : Int), .int .u8 (a1.toNat : Int), .int .u8 (a2.toNat : Int), .int .u8 (a3.toNat : Int), .int .u8 (b0.toNat : Int), .int .u8 (b1.toNat : Int), .int .u8 (b2.toNat : Int), .int .u8 (b3.toNat : Int), .slice So no co, .slice Sb nb cb], .int .i64 bit] w fun e w' => e = .returned (.bool true) ∧ Below w.heap.size w w' := by
  obtain ⟨ii, hii, hz0, hz1, hz2⟩ := info_parts Tryz.info5
  have bel := Below.refl w.heap.size w
  go_enter Tryz.func9, Tryz.ntmps9
  go_wp2_with (first | ((with_reducible show wpList _ _ _ (⟨some 2, _, _, _, _, _⟩ :: _) _ _); refine wpList_box_n rfl 38 (.tmp 0) rfl #[.int .i64 tos, .int .i64 id, .int .i64 fl, .int .i64 pt, .int .i64 ttl, .int .i64 pr, .int .u8 (a0.toNat : Int), .int .u8 (a1.toNat : Int), .int .u8 (a2.toNat : Int), .int .u8 (a3.toNat : Int), .int .u8 (b0.toNat : Int), .int .u8 (b1.toNat : Int), .int .u8 (b2.toNat : Int), .int .u8 (b3.toNat : Int), .slice So no co, .slice Sb nb cb] rfl ?_; intro g2 w1 ge lt hh bb; have av_po_pB := po.av_new ge; have av_pb_pB := pb.av_new ge; have opB := Nat.le_trans bel.size ge; replace po := po.below bb; replace pb := pb.below bb; replace bel := bel.trans (bb.mono bel.size); have hpB := hh; clear hh lt ge bb))
  with_reducible refine (awake19 _).mono ?_
  rintro e w2 ⟨rfl, b2⟩
  replace hpB := blk_u hpB b2
  replace po := po.below b2
  replace pb := pb.below b2
  replace bel := bel.trans (b2.mono bel.size)
  clear b2
  by_cases c1 : (1400 : Int) < nb
  · have R16 := cell_lit hpB 15 _ rfl
    go_wp2_with fail
    clear R16
    go_ret
    exact ⟨rfl, bel⟩
  have Hc1 : Hid ((nb : Int) ≤ 1400) := Lib.hid (by omega)
  replace c1 : decide ((1400 : Int) < nb) = false := decide_eq_false c1
  by_cases c2 : (40 : Int) < no
  · have R16 := cell_lit hpB 15 _ rfl
    have R21 := cell_lit hpB 14 _ rfl
    go_wp2_with fail
    clear R16 R21
    go_ret
    exact ⟨rfl, bel⟩
  have Hc2 : Hid ((no : Int) ≤ 40) := Lib.hid (by omega)
  replace c2 : decide ((40 : Int) < no) = false := decide_eq_false c2
  rcases c3 : (pr == 17) with _ | _
  rotate_left
  · have R16 := cell_lit hpB 15 _ rfl
    have R21 := cell_lit hpB 14 _ rfl
    have R27 := cell_lit hpB 5 _ rfl
    go_wp2_with fail
    clear R16 R21 R27
    go_ret
    exact ⟨rfl, bel⟩
  have N17 : Hid (pr ≠ 17) := Lib.hid (beq_eq_false_iff_ne.1 c3)
  rcases c4 : (pr == 6) with _ | _
  rotate_left
  · have R16 := cell_lit hpB 15 _ rfl
    have R21 := cell_lit hpB 14 _ rfl
    have R27 := cell_lit hpB 5 _ rfl
    have R32 := cell_lit hpB 5 _ rfl
    go_wp2_with fail
    clear R16 R21 R27 R32
    go_ret
    exact ⟨rfl, bel⟩
  have N6 : Hid (pr ≠ 6) := Lib.hid (beq_eq_false_iff_ne.1 c4)
  rcases c5 : (pr == 1) with _ | _
  rotate_left
  · have R16 := cell_lit hpB 15 _ rfl
    have R21 := cell_lit hpB 14 _ rfl
    have R27 := cell_lit hpB 5 _ rfl
    have R32 := cell_lit hpB 5 _ rfl
    have R37 := cell_lit hpB 5 _ rfl
    go_wp2_with fail
    clear R16 R21 R27 R32 R37
    go_ret
    exact ⟨rfl, bel⟩
  have N1 : Hid (pr ≠ 1) := Lib.hid (beq_eq_false_iff_ne.1 c5)
  obtain ⟨r, hr⟩ : ∃ z, pR pt fl = z := ⟨_, rfl⟩
  have HR := Lib.hid hr
  have HRO : Hid (r = 11 ∨ r = 10) := Lib.hid (by rw [← hr]; exact pR_or pt fl)
  clear hr
  have R16 := cell_lit hpB 15 _ rfl
  have R21 := cell_lit hpB 14 _ rfl
  have R27 := cell_lit hpB 5 _ rfl
  have R32 := cell_lit hpB 5 _ rfl
  have R37 := cell_lit hpB 5 _ rfl
  go_wp2_with fail
  clear R16 R21 R27 R32 R37
  have HLO_ := bel.size
  have lt_pB := hlt hpB
  with_reducible refine (begun19 _).mono ?_
  rintro e w3 ⟨gn, gt, gk, rfl, hT, b3⟩
  replace hpB := blk_u hpB b3
  replace po := po.below b3
  replace pb := pb.below b3
  replace bel := bel.trans (b3.mono bel.size)
  clear b3
  have ap_pB := hT.old lt_pB
  clear lt_pB
  replace hT : Np w.heap.size gn gt gk w3 nS0 nK0 := hT.lo_mono HLO_
  clear HLO_
  go_wp2_with fail
  go_cut [8] from 9999 (fun s8 W => ∃ g7 : Nat, s8 = .int .i64 r ∧ W.heap[g2]? = some (.cells #[.int .i64 tos, .int .i64 id, .int .i64 fl, .int .i64 pt, .int .i64 ttl, .int .i64 pr, .int .u8 (a0.toNat : Int), .int .u8 (a1.toNat : Int), .int .u8 (a2.toNat : Int), .int .u8 (a3.toNat : Int), .int .u8 (b0.toNat : Int), .int .u8 (b1.toNat : Int), .int .u8 (b2.toNat : Int), .int .u8 (b3.toNat : Int), .slice So no co, .slice Sb nb cb] 38 (0, 0)) ∧ W.heap[g7]? = some (.cells #[.int .i64 0, .int .i64 0, .int .i64 0, .int .i64 0, .int .i64 0, .int .i64 0, .int .u8 0, .int .u8 0, .int .u8 0, .int .u8 0, .int .u8 0, .int .u8 0, .int .u8 0, .int .u8 0, .slice none 0 0, .slice none 0 0] 38 (0, 0)) ∧ w.heap.size ≤ g7 ∧ Hid (g2 ≠ g7) ∧ Np w.heap.size gn gt gk W nS0 nK0 ∧ Anp gn gt gk W g2 ∧ Anp gn gt gk W g7 ∧ Below w.heap.size w W)
  case first =>
    replace bel := bel.drew
    replace hpB : w3.drew.heap[g2]? = _ := hpB
    replace po := po.drew
    replace pb := pb.drew
    replace hT := np_drew hT
    replace ap_pB := anp_drew ap_pB
    refine wp_region_held_drew (S := fun W => W.heap[g2]? = some (.cells #[.int .i64 tos, .int .i64 id, .int .i64 fl, .int .i64 pt, .int .i64 ttl, .int .i64 pr, .int .u8 (a0.toNat : Int), .int .u8 (a1.toNat : Int), .int .u8 (a2.toNat : Int), .int .u8 (a3.toNat : Int), .int .u8 (b0.toNat : Int), .int .u8 (b1.toNat : Int), .int .u8 (b2.toNat : Int), .int .u8 (b3.toNat : Int), .slice So no co, .slice Sb nb cb] 38 (0, 0))) (by kernel_rfl) hpB (fun hH => ?_)
    generalize w3.drew = w4 at bel hpB po pb hT ap_pB hH ⊢
    refine wpAnyH_take (i := 0) (v := ?_) rfl (by kernel_rfl) (by kernel_rfl) (by kernel_rfl) (fun _ _ _ h => h) (Or.inl ⟨by rfl, ?_⟩) hH ?_
    rotate_left
    · ((intro W hW; clear hW; go_simp) <;> with_reducible rfl)
    simp only [Act.put, List.getElem_toArray, List.getElem_cons_zero, List.setIfInBounds_toArray, List.set_cons_zero, List.set_cons_succ]
    refine wpAnyH_take (i := 1) (v := .agg #[.int .i64 tos, .int .i64 id, .int .i64 fl, .int .i64 pt, .int .i64 ttl, .int .i64 pr, .int .u8 (a0.toNat : Int), .int .u8 (a1.toNat : Int), .int .u8 (a2.toNat : Int), .int .u8 (a3.toNat : Int), .int .u8 (b0.toNat : Int), .int .u8 (b1.toNat : Int), .int .u8 (b2.toNat : Int), .int .u8 (b3.toNat : Int), .slice So no co, .slice Sb nb cb]) rfl (by kernel_rfl) (by kernel_rfl) (by kernel_rfl) (fun _ _ _ h => h) (yieldsIf_load_part (by kernel_rfl) 38 _ rfl g2 0 16 rfl _ 38 (0, 0) (fun W hW => hW) _ rfl _ Tryz.underlying38 rfl (by kernel_rfl)) hH ?_
    simp only [sq3, sq4]
    refine wpAnyH_ready (rs := [2, 7]) (by kernel_rfl) (by simp) ?_
    refine AllReadyH.cons (o := _) rfl (fun K hK => ?_) (AllReadyH.cons (o := _) rfl (fun K hK => ?_) AllReadyH.nil)
    rotate_left
    · simp only [sq3]
      rw [if_pos (by rfl)]
      refine wp_new_a 38 rfl #[.int .i64 0, .int .i64 0, .int .i64 0, .int .i64 0, .int .i64 0, .int .i64 0, .int .u8 0, .int .u8 0, .int .u8 0, .int .u8 0, .int .u8 0, .int .u8 0, .int .u8 0, .int .u8 0, .slice none 0 0, .slice none 0 0] (by kernel_rfl) ?_
      intro g7 w5 ge hh bb
      have ap_rB := hT.ap ge
      have d_pB_rB := ne_new (hlt hpB) ge
      have av_po_rB := po.av_new ge
      have av_pb_rB := pb.av_new ge
      have orB := Nat.le_trans bel.size ge
      replace hpB := blk_u hpB bb
      replace po := po.below bb
      replace pb := pb.below bb
      replace hT := hT.below bb
      replace ap_pB := ap_pB.below bb
      replace ap_rB := ap_rB.below bb
      replace bel := bel.trans (bb.mono bel.size)
      have hrB := hh
      clear hh ge bb
      refine hK.out _ _ hpB (fun hH6 => ?_)
      clear hK K
      simp only [sq4]
      refine wpAnyH_ready (rs := [2]) (by kernel_rfl) (by simp) ?_
      refine AllReadyH.cons (o := _) rfl (fun K hK => ?_) AllReadyH.nil
      simp only [sq3]
      go_simp
      with_reducible refine (wan19 _).mono ?_
      rintro e w7 ⟨rfl, b7⟩
      dsimp only
      replace hpB := blk_u hpB b7
      replace hrB := blk_u hrB b7
      replace po := po.below b7
      replace pb := pb.below b7
      replace hT := hT.below b7
      replace ap_pB := ap_pB.below b7
      replace ap_rB := ap_rB.below b7
      replace bel := bel.trans (b7.mono bel.size)
      clear b7
      refine hK.out _ _ hpB (fun hH8 => ?_)
      clear hK K
      refine wpAnyH_ready (rs := [3]) (by kernel_rfl) (by simp) ?_
      refine AllReadyH.cons (o := _) rfl (fun K hK => ?_) AllReadyH.nil
      simp only [sq3]
      go_simp
      with_reducible refine (p_bad _ hT N17.out N6.out N1.out HR.out).mono ?_
      rintro e w9 ⟨rfl, hT_, f_, bb⟩
      dsimp only
      have x_ := f_ _ _ _ _ hpB ap_pB
      replace hpB := x_.1
      replace ap_pB := x_.2
      clear x_
      have x_ := f_ _ _ _ _ hrB ap_rB
      replace hrB := x_.1
      replace ap_rB := x_.2
      clear x_
      clear po
      clear pb
      clear hT
      have hT := hT_
      replace bel := bel.trans bb
      clear bb f_ hT_
      refine hK.out _ _ hpB (fun hH10 => ?_)
      clear hK K
      refine wpAnyH_take (i := 4) (v := ?_) rfl (by kernel_rfl) (by kernel_rfl) (by kernel_rfl) (fun _ _ _ h => h) (Or.inl ⟨by rfl, ?_⟩) hH10 ?_
      rotate_left
      · ((intro W hW; clear hW; go_simp) <;> with_reducible rfl)
      simp only [sq3, sq4]
      refine wpAnyH_take (i := 5) (v := ?_) rfl (by kernel_rfl) (by kernel_rfl) (by kernel_rfl) (fun _ _ _ h => h) (Or.inl ⟨by rfl, ?_⟩) hH10 ?_
      rotate_left
      · ((intro W hW; clear hW; go_simp) <;> with_reducible rfl)
      simp only [sq3, sq4]
      refine wpAnyH_take (i := 6) (v := ?_) rfl (by kernel_rfl) (by kernel_rfl) (by kernel_rfl) (fun _ _ _ h => h) (Or.inl ⟨by rfl, ?_⟩) hH10 ?_
      rotate_left
      · ((intro W hW; clear hW; go_simp) <;> with_reducible rfl)
      simp only [sq3, sq4]
      refine wpAnyH_ready (rs := [8]) (by kernel_rfl) (by simp) ?_
      refine AllReadyH.cons (o := _) rfl (fun K hK => ?_) AllReadyH.nil
      simp only [sq3]
      rw [if_pos (by rfl)]
      refine wp_store_blk 38 (.tmp 7) (.tmp 49) rfl g7 rfl _ rfl _ 38 hrB (by rfl) (by kernel_rfl) (by kernel_rfl) ?_
      intro w11 hq gr
      replace hpB := blk_a hpB gr d_pB_rB
      replace hT := hT.away ap_rB gr hrB
      replace ap_pB := ap_pB.grown ap_rB gr
      replace ap_rB := ap_rB.grown ap_rB gr
      replace bel := below_grown bel gr orB bel.size
      clear hrB
      have hrB := hq
      clear hq gr
      refine hK.out _ _ hpB (fun hH12 => ?_)
      clear hK K
      simp only [Act.put]
      refine wpAnyH_take (i := 9) (v := ?_) rfl (by kernel_rfl) (by kernel_rfl) (by kernel_rfl) (fun _ _ _ h => h) (Or.inl ⟨by rfl, ?_⟩) hH12 ?_
      rotate_left
      · ((intro W hW; clear hW; go_simp) <;> with_reducible rfl)
      simp only [sq3, sq4]
      refine wpAnyH_done (by kernel_rfl) ?_ _
      go_wp2_with fail
      go_meet
      case rel => exact ⟨g7, rfl, hpB, hrB, orB, d_pB_rB, hT, ap_pB, ap_rB, bel⟩
    simp only [sq3]
    go_simp
    with_reducible refine (wan19 _).mono ?_
    rintro e w5 ⟨rfl, b5⟩
    dsimp only
    replace hpB := blk_u hpB b5
    replace po := po.below b5
    replace pb := pb.below b5
    replace hT := hT.below b5
    replace ap_pB := ap_pB.below b5
    replace bel := bel.trans (b5.mono bel.size)
    clear b5
    refine hK.out _ _ hpB (fun hH6 => ?_)
    clear hK K
    refine wpAnyH_ready (rs := [3, 7]) (by kernel_rfl) (by simp) ?_
    refine AllReadyH.cons (o := _) rfl (fun K hK => ?_) (AllReadyH.cons (o := _) rfl (fun K hK => ?_) AllReadyH.nil)
    · simp only [sq3]
      go_simp
      with_reducible refine (p_bad _ hT N17.out N6.out N1.out HR.out).mono ?_
      rintro e w7 ⟨rfl, hT_, f_, bb⟩
      dsimp only
      have x_ := f_ _ _ _ _ hpB ap_pB
      replace hpB := x_.1
      replace ap_pB := x_.2
      clear x_
      clear po
      clear pb
      clear hT
      have hT := hT_
      replace bel := bel.trans bb
      clear bb f_ hT_
      refine hK.out _ _ hpB (fun hH8 => ?_)
      clear hK K
      refine wpAnyH_take (i := 4) (v := ?_) rfl (by kernel_rfl) (by kernel_rfl) (by kernel_rfl) (fun _ _ _ h => h) (Or.inl ⟨by rfl, ?_⟩) hH8 ?_
      rotate_left
      · ((intro W hW; clear hW; go_simp) <;> with_reducible rfl)
      simp only [sq3, sq4]
      refine wpAnyH_take (i := 5) (v := ?_) rfl (by kernel_rfl) (by kernel_rfl) (by kernel_rfl) (fun _ _ _ h => h) (Or.inl ⟨by rfl, ?_⟩) hH8 ?_
      rotate_left
      · ((intro W hW; clear hW; go_simp) <;> with_reducible rfl)
      simp only [sq3, sq4]
      refine wpAnyH_take (i := 6) (v := ?_) rfl (by kernel_rfl) (by kernel_rfl) (by kernel_rfl) (fun _ _ _ h => h) (Or.inl ⟨by rfl, ?_⟩) hH8 ?_
      rotate_left
      · ((intro W hW; clear hW; go_simp) <;> with_reducible rfl)
      simp only [sq3, sq4]
      refine wpAnyH_ready (rs := [7]) (by kernel_rfl) (by simp) ?_
      refine AllReadyH.cons (o := _) rfl (fun K hK => ?_) AllReadyH.nil
      simp only [sq3]
      rw [if_pos (by rfl)]
      refine wp_new_a 38 rfl #[.int .i64 0, .int .i64 0, .int .i64 0, .int .i64 0, .int .i64 0, .int .i64 0, .int .u8 0, .int .u8 0, .int .u8 0, .int .u8 0, .int .u8 0, .int .u8 0, .int .u8 0, .int .u8 0, .slice none 0 0, .slice none 0 0] (by kernel_rfl) ?_
      intro g7 w9 ge hh bb
      have ap_rB := hT.ap ge
      have d_pB_rB := ne_new (hlt hpB) ge
      have orB := Nat.le_trans bel.size ge
      replace hpB := blk_u hpB bb
      replace hT := hT.below bb
      replace ap_pB := ap_pB.below bb
      replace ap_rB := ap_rB.below bb
      replace bel := bel.trans (bb.mono bel.size)
      have hrB := hh
      clear hh ge bb
      refine hK.out _ _ hpB (fun hH10 => ?_)
      clear hK K
      simp only [sq4]
      refine wpAnyH_ready (rs := [8]) (by kernel_rfl) (by simp) ?_
      refine AllReadyH.cons (o := _) rfl (fun K hK => ?_) AllReadyH.nil
      simp only [sq3]
      rw [if_pos (by rfl)]
      refine wp_store_blk 38 (.tmp 7) (.tmp 49) rfl g7 rfl _ rfl _ 38 hrB (by rfl) (by kernel_rfl) (by kernel_rfl) ?_
      intro w11 hq gr
      replace hpB := blk_a hpB gr d_pB_rB
      replace hT := hT.away ap_rB gr hrB
      replace ap_pB := ap_pB.grown ap_rB gr
      replace ap_rB := ap_rB.grown ap_rB gr
      replace bel := below_grown bel gr orB bel.size
      clear hrB
      have hrB := hq
      clear hq gr
      refine hK.out _ _ hpB (fun hH12 => ?_)
      clear hK K
      simp only [Act.put]
      refine wpAnyH_take (i := 9) (v := ?_) rfl (by kernel_rfl) (by kernel_rfl) (by kernel_rfl) (fun _ _ _ h => h) (Or.inl ⟨by rfl, ?_⟩) hH12 ?_
      rotate_left
      · ((intro W hW; clear hW; go_simp) <;> with_reducible rfl)
      simp only [sq3, sq4]
      refine wpAnyH_done (by kernel_rfl) ?_ _
      go_wp2_with fail
      go_meet
      case rel => exact ⟨g7, rfl, hpB, hrB, orB, d_pB_rB, hT, ap_pB, ap_rB, bel⟩
    simp only [sq3]
    rw [if_pos (by rfl)]
    refine wp_new_a 38 rfl #[.int .i64 0, .int .i64 0, .int .i64 0, .int .i64 0, .int .i64 0, .int .i64 0, .int .u8 0, .int .u8 0, .int .u8 0, .int .u8 0, .int .u8 0, .int .u8 0, .int .u8 0, .int .u8 0, .slice none 0 0, .slice none 0 0] (by kernel_rfl) ?_
    intro g7 w7 ge hh bb
    have ap_rB := hT.ap ge
    have d_pB_rB := ne_new (hlt hpB) ge
    have av_po_rB := po.av_new ge
    have av_pb_rB := pb.av_new ge
    have orB := Nat.le_trans bel.size ge
    replace hpB := blk_u hpB bb
    replace po := po.below bb
    replace pb := pb.below bb
    replace hT := hT.below bb
    replace ap_pB := ap_pB.below bb
    replace ap_rB := ap_rB.below bb
    replace bel := bel.trans (bb.mono bel.size)
    have hrB := hh
    clear hh ge bb
    refine hK.out _ _ hpB (fun hH8 => ?_)
    clear hK K
    simp only [sq4]
    refine wpAnyH_ready (rs := [3]) (by kernel_rfl) (by simp) ?_
    refine AllReadyH.cons (o := _) rfl (fun K hK => ?_) AllReadyH.nil
    simp only [sq3]
    go_simp
    with_reducible refine (p_bad _ hT N17.out N6.out N1.out HR.out).mono ?_
    rintro e w9 ⟨rfl, hT_, f_, bb⟩
    dsimp only
    have x_ := f_ _ _ _ _ hpB ap_pB
    replace hpB := x_.1
    replace ap_pB := x_.2
    clear x_
    have x_ := f_ _ _ _ _ hrB ap_rB
    replace hrB := x_.1
    replace ap_rB := x_.2
    clear x_
    clear po
    clear pb
    clear hT
    have hT := hT_
    replace bel := bel.trans bb
    clear bb f_ hT_
    refine hK.out _ _ hpB (fun hH10 => ?_)
    clear hK K
    refine wpAnyH_take (i := 4) (v := ?_) rfl (by kernel_rfl) (by kernel_rfl) (by kernel_rfl) (fun _ _ _ h => h) (Or.inl ⟨by rfl, ?_⟩) hH10 ?_
    rotate_left
    · ((intro W hW; clear hW; go_simp) <;> with_reducible rfl)
    simp only [sq3, sq4]
    refine wpAnyH_take (i := 5) (v := ?_) rfl (by kernel_rfl) (by kernel_rfl) (by kernel_rfl) (fun _ _ _ h => h) (Or.inl ⟨by rfl, ?_⟩) hH10 ?_
    rotate_left
    · ((intro W hW; clear hW; go_simp) <;> with_reducible rfl)
    simp only [sq3, sq4]
    refine wpAnyH_take (i := 6) (v := ?_) rfl (by kernel_rfl) (by kernel_rfl) (by kernel_rfl) (fun _ _ _ h => h) (Or.inl ⟨by rfl, ?_⟩) hH10 ?_
    rotate_left
    · ((intro W hW; clear hW; go_simp) <;> with_reducible rfl)
    simp only [sq3, sq4]
    refine wpAnyH_ready (rs := [8]) (by kernel_rfl) (by simp) ?_
    refine AllReadyH.cons (o := _) rfl (fun K hK => ?_) AllReadyH.nil
    simp only [sq3]
    rw [if_pos (by rfl)]
    refine wp_store_blk 38 (.tmp 7) (.tmp 49) rfl g7 rfl _ rfl _ 38 hrB (by rfl) (by kernel_rfl) (by kernel_rfl) ?_
    intro w11 hq gr
    replace hpB := blk_a hpB gr d_pB_rB
    replace hT := hT.away ap_rB gr hrB
    replace ap_pB := ap_pB.grown ap_rB gr
    replace ap_rB := ap_rB.grown ap_rB gr
    replace bel := below_grown bel gr orB bel.size
    clear hrB
    have hrB := hq
    clear hq gr
    refine hK.out _ _ hpB (fun hH12 => ?_)
    clear hK K
    simp only [Act.put]
    refine wpAnyH_take (i := 9) (v := ?_) rfl (by kernel_rfl) (by kernel_rfl) (by kernel_rfl) (fun _ _ _ h => h) (Or.inl ⟨by rfl, ?_⟩) hH12 ?_
    rotate_left
    · ((intro W hW; clear hW; go_simp) <;> with_reducible rfl)
    simp only [sq3, sq4]
    refine wpAnyH_done (by kernel_rfl) ?_ _
    go_wp2_with fail
    go_meet
    case rel => exact ⟨g7, rfl, hpB, hrB, orB, d_pB_rB, hT, ap_pB, ap_rB, bel⟩
  obtain ⟨w13, hw_⟩ : ∃ x, x = wc := ⟨_, rfl⟩
  subst hw_
  obtain ⟨g7, rfl, hpB, hrB, orB, d_pB_rB, hT, ap_pB, ap_rB, bel⟩ := hcut
  go_wp2_with fail
  with_reducible refine (at19 5 _).mono ?_
  rintro e w14 ⟨rfl, b14⟩
  replace hpB := blk_u hpB b14
  replace hrB := blk_u hrB b14
  replace hT := hT.below b14
  replace ap_pB := ap_pB.below b14
  replace ap_rB := ap_rB.below b14
  replace bel := bel.trans (b14.mono bel.size)
  clear b14
  go_wp2_with fail
  with_reducible refine (far19 _).mono ?_
  rintro e w15 ⟨rfl, b15⟩
  replace hpB := blk_u hpB b15
  replace hrB := blk_u hrB b15
  replace hT := hT.below b15
  replace ap_pB := ap_pB.below b15
  replace ap_rB := ap_rB.below b15
  replace bel := bel.trans (b15.mono bel.size)
  clear b15
  go_wp2_with fail
  with_reducible refine (dg_out 5 777 _ (by decide)).mono ?_
  rintro e w16 ⟨Auo, cuo, Aub, cub, rfl, uo, ub, fuo, fub, b16⟩
  have av_uo_pB := fuo.av (hlt hpB)
  have av_uo_rB := fuo.av (hlt hrB)
  have av_ub_pB := fub.av (hlt hpB)
  have av_ub_rB := fub.av (hlt hrB)
  have an_uo := hT.an fuo
  have an_ub := hT.an fub
  replace hpB := blk_u hpB b16
  replace hrB := blk_u hrB b16
  replace hT := hT.below b16
  replace ap_pB := ap_pB.below b16
  replace ap_rB := ap_rB.below b16
  replace an_uo := an_uo.below b16
  replace an_ub := an_ub.below b16
  replace bel := bel.trans (b16.mono bel.size)
  clear b16
  replace uo : Sl w16 (Auo) (0) (cuo) ([]) := uo
  replace ub : Sl w16 (Aub) (9) (cub) (udBytes 10 0 0 (byteOf 5) 8 8 8 8 777 53 [120]) := ub
  by_cases d1 : bit < 0
  · go_wp2_with (first | ((with_reducible show wpList _ _ _ (⟨some 9, _, _, _, _, _⟩ :: _) _ _); refine wpList_new_a rfl 38 rfl #[.int .i64 0, .int .i64 0, .int .i64 0, .int .i64 0, .int .i64 0, .int .i64 0, .int .u8 0, .int .u8 0, .int .u8 0, .int .u8 0, .int .u8 0, .int .u8 0, .int .u8 0, .int .u8 0, .slice none 0 0, .slice none 0 0] (by kernel_rfl) ?_; intro g9 w17 ge hh bb; have ap_qB := hT.ap ge; have d_pB_qB := ne_new (hlt hpB) ge; have d_rB_qB := ne_new (hlt hrB) ge; have av_uo_qB := uo.av_new ge; have av_ub_qB := ub.av_new ge; have oqB := Nat.le_trans bel.size ge; replace hpB := blk_u hpB bb; replace hrB := blk_u hrB bb; replace uo := uo.below bb; replace ub := ub.below bb; replace hT := hT.below bb; replace ap_pB := ap_pB.below bb; replace ap_rB := ap_rB.below bb; replace an_uo := an_uo.below bb; replace an_ub := an_ub.below bb; replace ap_qB := ap_qB.below bb; replace bel := bel.trans (bb.mono bel.size); have hqB := hh; clear hh ge bb) | ((with_reducible show wpList _ _ _ (⟨none, Op.store _ (.tmp 9) _, _, _, _, _⟩ :: _) _ _); refine wpList_store_blk rfl 38 (.tmp 9) (.tmp 53) rfl g9 rfl _ rfl _ 38 hqB (by rfl) (by kernel_rfl) (by kernel_rfl) ?_; intro w18 hq gr; replace uo := uo.away av_uo_qB gr; replace ub := ub.away av_ub_qB gr; replace hpB := blk_a hpB gr d_pB_qB; replace hrB := blk_a hrB gr d_rB_qB; replace hT := hT.away ap_qB gr hqB; replace ap_pB := ap_pB.grown ap_qB gr; replace ap_rB := ap_rB.grown ap_qB gr; replace an_uo := an_uo.grown ap_qB gr; replace an_ub := an_ub.grown ap_qB gr; replace ap_qB := ap_qB.grown ap_qB gr; replace bel := below_grown bel gr oqB bel.size; clear hqB; have hqB := hq; clear hq gr))
    go_ret
    exact ⟨rfl, bel⟩
  have hb0 : 0 ≤ bit := by omega
  replace d1 : decide (bit < 0) = false := decide_eq_false d1
  by_cases d2 : 72 ≤ bit
  · go_wp2_with (first | ((with_reducible show wpList _ _ _ (⟨some 9, _, _, _, _, _⟩ :: _) _ _); refine wpList_new_a rfl 38 rfl #[.int .i64 0, .int .i64 0, .int .i64 0, .int .i64 0, .int .i64 0, .int .i64 0, .int .u8 0, .int .u8 0, .int .u8 0, .int .u8 0, .int .u8 0, .int .u8 0, .int .u8 0, .int .u8 0, .slice none 0 0, .slice none 0 0] (by kernel_rfl) ?_; intro g9 w17 ge hh bb; have ap_qB := hT.ap ge; have d_pB_qB := ne_new (hlt hpB) ge; have d_rB_qB := ne_new (hlt hrB) ge; have av_uo_qB := uo.av_new ge; have av_ub_qB := ub.av_new ge; have oqB := Nat.le_trans bel.size ge; replace hpB := blk_u hpB bb; replace hrB := blk_u hrB bb; replace uo := uo.below bb; replace ub := ub.below bb; replace hT := hT.below bb; replace ap_pB := ap_pB.below bb; replace ap_rB := ap_rB.below bb; replace an_uo := an_uo.below bb; replace an_ub := an_ub.below bb; replace ap_qB := ap_qB.below bb; replace bel := bel.trans (bb.mono bel.size); have hqB := hh; clear hh ge bb) | ((with_reducible show wpList _ _ _ (⟨none, Op.store _ (.tmp 9) _, _, _, _, _⟩ :: _) _ _); refine wpList_store_blk rfl 38 (.tmp 9) (.tmp 53) rfl g9 rfl _ rfl _ 38 hqB (by rfl) (by kernel_rfl) (by kernel_rfl) ?_; intro w18 hq gr; replace uo := uo.away av_uo_qB gr; replace ub := ub.away av_ub_qB gr; replace hpB := blk_a hpB gr d_pB_qB; replace hrB := blk_a hrB gr d_rB_qB; replace hT := hT.away ap_qB gr hqB; replace ap_pB := ap_pB.grown ap_qB gr; replace ap_rB := ap_rB.grown ap_qB gr; replace an_uo := an_uo.grown ap_qB gr; replace an_ub := an_ub.grown ap_qB gr; replace ap_qB := ap_qB.grown ap_qB gr; replace bel := below_grown bel gr oqB bel.size; clear hqB; have hqB := hq; clear hq gr; have R59 := cell_lit hqB 15 _ rfl))
    try clear R59
    go_ret
    exact ⟨rfl, bel⟩
  obtain ⟨j, hj⟩ : ∃ j : Nat, bit / 8 = j := ⟨(bit / 8).toNat, by omega⟩
  have HJ9 : Hid (j < 9) := Lib.hid (by omega)
  have hb9 : bit ≤ 72 := by omega
  replace d2 : decide (72 ≤ bit) = false := decide_eq_false d2
  rcases t4 : ((j : Int) == 4) with _ | _
  rotate_left
  · go_wp2_with (first | ((with_reducible show wpList _ _ _ (⟨some 9, _, _, _, _, _⟩ :: _) _ _); refine wpList_new_a rfl 38 rfl #[.int .i64 0, .int .i64 0, .int .i64 0, .int .i64 0, .int .i64 0, .int .i64 0, .int .u8 0, .int .u8 0, .int .u8 0, .int .u8 0, .int .u8 0, .int .u8 0, .int .u8 0, .int .u8 0, .slice none 0 0, .slice none 0 0] (by kernel_rfl) ?_; intro g9 w17 ge hh bb; have ap_qB := hT.ap ge; have d_pB_qB := ne_new (hlt hpB) ge; have d_rB_qB := ne_new (hlt hrB) ge; have av_uo_qB := uo.av_new ge; have av_ub_qB := ub.av_new ge; have oqB := Nat.le_trans bel.size ge; replace hpB := blk_u hpB bb; replace hrB := blk_u hrB bb; replace uo := uo.below bb; replace ub := ub.below bb; replace hT := hT.below bb; replace ap_pB := ap_pB.below bb; replace ap_rB := ap_rB.below bb; replace an_uo := an_uo.below bb; replace an_ub := an_ub.below bb; replace ap_qB := ap_qB.below bb; replace bel := bel.trans (bb.mono bel.size); have hqB := hh; clear hh ge bb) | ((with_reducible show wpList _ _ _ (⟨none, Op.store _ (.tmp 9) _, _, _, _, _⟩ :: _) _ _); refine wpList_store_blk rfl 38 (.tmp 9) (.tmp 53) rfl g9 rfl _ rfl _ 38 hqB (by rfl) (by kernel_rfl) (by kernel_rfl) ?_; intro w18 hq gr; replace uo := uo.away av_uo_qB gr; replace ub := ub.away av_ub_qB gr; replace hpB := blk_a hpB gr d_pB_qB; replace hrB := blk_a hrB gr d_rB_qB; replace hT := hT.away ap_qB gr hqB; replace ap_pB := ap_pB.grown ap_qB gr; replace ap_rB := ap_rB.grown ap_qB gr; replace an_uo := an_uo.grown ap_qB gr; replace an_ub := an_ub.grown ap_qB gr; replace ap_qB := ap_qB.grown ap_qB gr; replace bel := below_grown bel gr oqB bel.size; clear hqB; have hqB := hq; clear hq gr; have R59 := cell_lit hqB 15 _ rfl))
    try clear R59
    go_ret
    exact ⟨rfl, bel⟩
  rcases t5 : ((j : Int) == 5) with _ | _
  rotate_left
  · go_wp2_with (first | ((with_reducible show wpList _ _ _ (⟨some 9, _, _, _, _, _⟩ :: _) _ _); refine wpList_new_a rfl 38 rfl #[.int .i64 0, .int .i64 0, .int .i64 0, .int .i64 0, .int .i64 0, .int .i64 0, .int .u8 0, .int .u8 0, .int .u8 0, .int .u8 0, .int .u8 0, .int .u8 0, .int .u8 0, .int .u8 0, .slice none 0 0, .slice none 0 0] (by kernel_rfl) ?_; intro g9 w17 ge hh bb; have ap_qB := hT.ap ge; have d_pB_qB := ne_new (hlt hpB) ge; have d_rB_qB := ne_new (hlt hrB) ge; have av_uo_qB := uo.av_new ge; have av_ub_qB := ub.av_new ge; have oqB := Nat.le_trans bel.size ge; replace hpB := blk_u hpB bb; replace hrB := blk_u hrB bb; replace uo := uo.below bb; replace ub := ub.below bb; replace hT := hT.below bb; replace ap_pB := ap_pB.below bb; replace ap_rB := ap_rB.below bb; replace an_uo := an_uo.below bb; replace an_ub := an_ub.below bb; replace ap_qB := ap_qB.below bb; replace bel := bel.trans (bb.mono bel.size); have hqB := hh; clear hh ge bb) | ((with_reducible show wpList _ _ _ (⟨none, Op.store _ (.tmp 9) _, _, _, _, _⟩ :: _) _ _); refine wpList_store_blk rfl 38 (.tmp 9) (.tmp 53) rfl g9 rfl _ rfl _ 38 hqB (by rfl) (by kernel_rfl) (by kernel_rfl) ?_; intro w18 hq gr; replace uo := uo.away av_uo_qB gr; replace ub := ub.away av_ub_qB gr; replace hpB := blk_a hpB gr d_pB_qB; replace hrB := blk_a hrB gr d_rB_qB; replace hT := hT.away ap_qB gr hqB; replace ap_pB := ap_pB.grown ap_qB gr; replace ap_rB := ap_rB.grown ap_qB gr; replace an_uo := an_uo.grown ap_qB gr; replace an_ub := an_ub.grown ap_qB gr; replace ap_qB := ap_qB.grown ap_qB gr; replace bel := below_grown bel gr oqB bel.size; clear hqB; have hqB := hq; clear hq gr; have R59 := cell_lit hqB 15 _ rfl))
    try clear R59
    go_ret
    exact ⟨rfl, bel⟩
  obtain ⟨r8, hr8⟩ : ∃ r8 : Nat, bit % 8 = r8 := ⟨(bit % 8).toNat, by omega⟩
  have h7 : bits .and .i64 bit 7 = (r8 : Int) := by
    obtain ⟨k, rfl⟩ : ∃ k : Nat, bit = k := ⟨bit.toNat, by omega⟩
    rw [i64_and7]
    omega
  have q0 : (0 : Int) ≤ r8 := by omega
  have q1 : (r8 : Int) < 8 := by omega
  have hlen : (udBytes 10 0 0 (byteOf 5) 8 8 8 8 777 53 [120]).length = 9 := by rw [udBytes_len]; rfl
  obtain ⟨x, hx⟩ : ∃ x, (udBytes 10 0 0 (byteOf 5) 8 8 8 8 777 53 [120])[j]? = some x := ⟨_, List.getElem?_eq_getElem (by have := HJ9.out; omega)⟩
  obtain ⟨y, hy, hxor⟩ := xor_bit x r8 (by omega)
  have HP : Hid (udErr 0 0 17 10 0 0 (byteOf 5) 8 8 8 8 ((udBytes 10 0 0 (byteOf 5) 8 8 8 8 777 53 [120]).set j y) = 5) := Lib.hid (p_spoilt j r8 x y hx (by omega) hy (fun e => by rw [e] at t4; exact absurd t4 (by decide)) (fun e => by rw [e] at t5; exact absurd t5 (by decide)))
  have HX := Lib.hid hx
  have hx0 : (0 : Int) ≤ x.toNat := by omega
  have hx1 : (x.toNat : Int) < 256 := by have := x.toNat_lt; omega
  have j0 : (0 : Int) ≤ j := by omega
  have j9 : (j : Int) < 9 := by have := HJ9.out; omega
  clear hlen hx hy hr8
  go_wp2_with (first | ((with_reducible show wpList _ _ _ (⟨some 9, _, _, _, _, _⟩ :: _) _ _); refine wpList_new_a rfl 38 rfl #[.int .i64 0, .int .i64 0, .int .i64 0, .int .i64 0, .int .i64 0, .int .i64 0, .int .u8 0, .int .u8 0, .int .u8 0, .int .u8 0, .int .u8 0, .int .u8 0, .int .u8 0, .int .u8 0, .slice none 0 0, .slice none 0 0] (by kernel_rfl) ?_; intro g9 w17 ge hh bb; have ap_qB := hT.ap ge; have d_pB_qB := ne_new (hlt hpB) ge; have d_rB_qB := ne_new (hlt hrB) ge; have av_uo_qB := uo.av_new ge; have av_ub_qB := ub.av_new ge; have oqB := Nat.le_trans bel.size ge; replace hpB := blk_u hpB bb; replace hrB := blk_u hrB bb; replace uo := uo.below bb; replace ub := ub.below bb; replace hT := hT.below bb; replace ap_pB := ap_pB.below bb; replace ap_rB := ap_rB.below bb; replace an_uo := an_uo.below bb; replace an_ub := an_ub.below bb; replace ap_qB := ap_qB.below bb; replace bel := bel.trans (bb.mono bel.size); have hqB := hh; clear hh ge bb) | ((with_reducible show wpList _ _ _ (⟨none, Op.store _ (.tmp 9) _, _, _, _, _⟩ :: _) _ _); refine wpList_store_blk rfl 38 (.tmp 9) (.tmp 53) rfl g9 rfl _ rfl _ 38 hqB (by rfl) (by kernel_rfl) (by kernel_rfl) ?_; intro w18 hq gr; replace uo := uo.away av_uo_qB gr; replace ub := ub.away av_ub_qB gr; replace hpB := blk_a hpB gr d_pB_qB; replace hrB := blk_a hrB gr d_rB_qB; replace hT := hT.away ap_qB gr hqB; replace ap_pB := ap_pB.grown ap_qB gr; replace ap_rB := ap_rB.grown ap_qB gr; replace an_uo := an_uo.grown ap_qB gr; replace an_ub := an_ub.grown ap_qB gr; replace ap_qB := ap_qB.grown ap_qB gr; replace bel := below_grown bel gr oqB bel.size; clear hqB; have hqB := hq; clear hq gr; have R59 := cell_lit hqB 15 _ rfl) | ((with_reducible show wpList _ _ _ (⟨some 74, _, _, _, _, _⟩ :: _) _ _); refine wpList_lit_n rfl 36 5 0 _ rfl #[] (.int .u8 0) Tryz.underlying36 (by kernel_rfl) 1 (by kernel_rfl) (by decide) (by kernel_rfl) ?_; have HF_hT := Lib.hid hT; clear hT; have HF_ap_pB := Lib.hid ap_pB; clear ap_pB; have HF_ap_rB := Lib.hid ap_rB; clear ap_rB; have HF_an_uo := Lib.hid an_uo; clear an_uo; have HF_an_ub := Lib.hid an_ub; clear an_ub; have HF_ap_qB := Lib.hid ap_qB; clear ap_qB; have bk := Below.refl w18.heap.size w18; intro g74 w19 ge lt hh bb; have hl : w19.heap[g74]? = some (.cells (([] : List UInt8).map u8v).toArray 5 (0, 0)) := (by simpa [u8v, byteOf_val] using hh); have e0w := own_lit (B := w18.heap.size) ([]) hl ge 0 rfl (by simp [maxLen]); have e0 := (own_sl e0w).1; have e0lo := bel.size; clear hl; have e0ge := ge; have lz_e0 := bb.size; have y_e0_pB := Lib.hid (hlt hpB); have y_e0_rB := Lib.hid (hlt hrB); have y_e0_qB := Lib.hid (hlt hqB); have bl_uo_e0 := uo.bl_new; have bl_ub_e0 := ub.bl_new; replace hpB := blk_u hpB bb; replace hrB := blk_u hrB bb; replace hqB := blk_u hqB bb; replace uo := uo.below bb; replace ub := ub.below bb; replace bk := bk.trans (bb.mono bk.size); replace bel := bel.trans (bb.mono bel.size); clear hh lt ge bb; have av_e0_pB := (own_sl e0w).2.av y_e0_pB.out; have av_e0_rB := (own_sl e0w).2.av y_e0_rB.out; have av_e0_qB := (own_sl e0w).2.av y_e0_qB.out; have R76 := cell_lit hqB 15 _ rfl) | ((with_reducible show wpList _ _ _ (⟨some 77, _, _, _, _, _⟩ :: _) _ _); refine wpList_append_bb _ rfl (.tmp 74) (.tmp 76) 36 rfl (w18.heap.size) 5 ii (.int .u8 0) Tryz.underlying36 hii hz0 hz1 hz2 rfl _ (0) ([]) rfl e0w (Aub) (9) (cub) (udBytes 10 0 0 (byteOf 5) 8 8 8 8 777 53 [120]) rfl ub (by omega) lz_e0 ?_; intro v77 w20 own_ bb; replace uo := uo.under bl_uo_e0 bb; replace ub := ub.under bl_ub_e0 bb; replace hpB := blk_under hpB bb y_e0_pB.out; replace hrB := blk_under hrB bb y_e0_rB.out; replace hqB := blk_under hqB bb y_e0_qB.out; replace bk := bk.trans bb; replace bel := bel.trans (bb.mono e0lo); have lz_al := Nat.le_trans lz_e0 bb.size; clear bb; clear e0 e0w lz_e0; replace own_ : w20.ownsRow (w18.heap.size) 5 1 v77 (9) ((udBytes 10 0 0 (byteOf 5) 8 8 8 8 777 53 [120] : List UInt8).map u8v) := (by simpa using own_); obtain ⟨A77, c77, rfl⟩ := own_val own_; have alw := own_; have al := (own_sl own_).1; have fr_al := (own_sl own_).2; clear own_; have av_al_pB := fr_al.av y_e0_pB.out; have av_al_rB := fr_al.av y_e0_rB.out; have av_al_qB := fr_al.av y_e0_qB.out; obtain ⟨gb, cg, eg, alge, allt, alnc, alcm⟩ := own_at alw (by omega); injection eg with eg1 _ eg3; subst eg1; subst eg3; have R85 := own_byte alw HX.out) | ((with_reducible show wpList _ _ _ (⟨none, Op.store _ (.tmp 91) _, _, _, _, _⟩ :: _) _ _); refine wpList_store_byte rfl 5 (.tmp 91) (.tmp 90) rfl (w18.heap.size) 5 gb j (9) (c77) (udBytes 10 0 0 (byteOf 5) 8 8 8 8 777 53 [120]) (y) rfl rfl alw (by have := HJ9.out; omega) (by kernel_rfl) ?_; intro w21 own_ gr; replace uo := uo.away (bl_uo_e0.av alge) gr; replace ub := ub.away (bl_ub_e0.av alge) gr; replace hpB := blk_a hpB gr (ne_new y_e0_pB.out alge); replace hrB := blk_a hrB gr (ne_new y_e0_rB.out alge); replace hqB := blk_a hqB gr (ne_new y_e0_qB.out alge); replace bk := below_grown bk gr alge bk.size; replace bel := below_grown bel gr (Nat.le_trans e0lo alge) bel.size; replace lz_al := Nat.le_trans lz_al gr.size; clear gr al alw; have alw := own_; have al := (own_sl own_).1; clear own_; have hT := HF_hT.out.below bk; clear HF_hT; have ap_pB := HF_ap_pB.out.below bk; clear HF_ap_pB; have ap_rB := HF_ap_rB.out.below bk; clear HF_ap_rB; have an_uo := HF_an_uo.out.below bk; clear HF_an_uo; have an_ub := HF_an_ub.out.below bk; clear HF_an_ub; have ap_qB := HF_ap_qB.out.below bk; clear HF_ap_qB; clear bk) | ((with_reducible show wpList _ _ _ (⟨none, Op.store _ (.tmp 93) _, _, _, _, _⟩ :: _) _ _); refine wpList_store_part rfl 36 (.tmp 93) (.tmp 92) rfl g9 15 rfl [.slice (some ⟨gb, 0, none⟩) 9 c77] rfl [.int .i64 0, .int .i64 0, .int .i64 0, .int .i64 0, .int .i64 64, .int .i64 17, .int .u8 10, .int .u8 0, .int .u8 0, .int .u8 ((byteOf 5).toNat : Int), .int .u8 8, .int .u8 8, .int .u8 8, .int .u8 8, .slice Auo 0 cuo, .slice Aub 9 cub] 38 hqB (by simp) [.int .i64 0, .int .i64 0, .int .i64 0, .int .i64 0, .int .i64 64, .int .i64 17, .int .u8 10, .int .u8 0, .int .u8 0, .int .u8 ((byteOf 5).toNat : Int), .int .u8 8, .int .u8 8, .int .u8 8, .int .u8 8, .slice Auo 0 cuo, .slice (some ⟨gb, 0, none⟩) 9 c77] rfl (by kernel_rfl) (by rfl) ?_; intro w22 hq gr; replace uo := uo.away av_uo_qB gr; replace ub := ub.away av_ub_qB gr; replace al := al.away av_al_qB gr; replace alw := own_away alw y_e0_qB.out gr; replace lz_al := Nat.le_trans lz_al gr.size; replace hpB := blk_a hpB gr d_pB_qB; replace hrB := blk_a hrB gr d_rB_qB; replace hT := hT.away ap_qB gr hqB; replace ap_pB := ap_pB.grown ap_qB gr; replace ap_rB := ap_rB.grown ap_qB gr; replace an_uo := an_uo.grown ap_qB gr; replace an_ub := an_ub.grown ap_qB gr; replace ap_qB := ap_qB.grown ap_qB gr; replace bel := below_grown bel gr oqB bel.size; clear hqB; have hqB := hq; clear hq gr))
  try clear R59
  try clear R76
  try clear R85
  go_cut [12] from 9999 (fun s12 W => ∃ g11 : Nat, s12 = .int .i64 5 ∧ W.heap[g2]? = some (.cells #[.int .i64 tos, .int .i64 id, .int .i64 fl, .int .i64 pt, .int .i64 ttl, .int .i64 pr, .int .u8 (a0.toNat : Int), .int .u8 (a1.toNat : Int), .int .u8 (a2.toNat : Int), .int .u8 (a3.toNat : Int), .int .u8 (b0.toNat : Int), .int .u8 (b1.toNat : Int), .int .u8 (b2.toNat : Int), .int .u8 (b3.toNat : Int), .slice So no co, .slice Sb nb cb] 38 (0, 0)) ∧ W.heap[g7]? = some (.cells #[.int .i64 0, .int .i64 0, .int .i64 0, .int .i64 0, .int .i64 0, .int .i64 0, .int .u8 0, .int .u8 0, .int .u8 0, .int .u8 0, .int .u8 0, .int .u8 0, .int .u8 0, .int .u8 0, .slice none 0 0, .slice none 0 0] 38 (0, 0)) ∧ W.heap[g9]? = some (.cells #[.int .i64 0, .int .i64 0, .int .i64 0, .int .i64 0, .int .i64 64, .int .i64 17, .int .u8 10, .int .u8 0, .int .u8 0, .int .u8 ((byteOf 5).toNat : Int), .int .u8 8, .int .u8 8, .int .u8 8, .int .u8 8, .slice Auo 0 cuo, .slice (some ⟨gb, 0, none⟩) 9 c77] 38 (0, 0)) ∧ W.heap[g11]? = some (.cells #[.int .i64 0, .int .i64 0, .int .i64 0, .int .i64 0, .int .i64 0, .int .i64 0, .int .u8 0, .int .u8 0, .int .u8 0, .int .u8 0, .int .u8 0, .int .u8 0, .int .u8 0, .int .u8 0, .slice none 0 0, .slice none 0 0] 38 (0, 0)) ∧ w.heap.size ≤ g11 ∧ Hid (g2 ≠ g9) ∧ Hid (g2 ≠ g7) ∧ Hid (g2 ≠ g11) ∧ Hid (g9 ≠ g7) ∧ Hid (g9 ≠ g11) ∧ Hid (g7 ≠ g11) ∧ Sl W (Auo) (0) (cuo) ([]) ∧ Av (Auo) (0) g2 ∧ Av (Auo) (0) g9 ∧ Av (Auo) (0) g7 ∧ Av (Auo) (0) g11 ∧ Sl W (Aub) (9) (cub) (udBytes 10 0 0 (byteOf 5) 8 8 8 8 777 53 [120]) ∧ Av (Aub) (9) g2 ∧ Av (Aub) (9) g9 ∧ Av (Aub) (9) g7 ∧ Av (Aub) (9) g11 ∧ Np w.heap.size gn gt gk W nS0 nK0 ∧ Anp gn gt gk W g2 ∧ Anp gn gt gk W g7 ∧ An gn gt gk W (Auo) (0) ∧ An gn gt gk W (Aub) (9) ∧ Anp gn gt gk W g9 ∧ Anp gn gt gk W g11 ∧ Below w.heap.size w W)
  case first =>
    replace bel := bel.drew
    replace hpB : w22.drew.heap[g2]? = _ := hpB
    replace hrB : w22.drew.heap[g7]? = _ := hrB
    replace hqB : w22.drew.heap[g9]? = _ := hqB
    replace uo := uo.drew
    replace ub := ub.drew
    replace al := al.drew
    replace alw : w22.drew.ownsRow _ _ _ _ _ _ := alw
    replace lz_al : _ ≤ w22.drew.heap.size := lz_al
    replace hT := np_drew hT
    replace ap_pB := anp_drew ap_pB
    replace ap_rB := anp_drew ap_rB
    replace an_uo := an_drew an_uo
    replace an_ub := an_drew an_ub
    replace ap_qB := anp_drew ap_qB
    refine wp_region_held_drew (S := fun W => W.heap[g9]? = some (.cells #[.int .i64 0, .int .i64 0, .int .i64 0, .int .i64 0, .int .i64 64, .int .i64 17, .int .u8 10, .int .u8 0, .int .u8 0, .int .u8 ((byteOf 5).toNat : Int), .int .u8 8, .int .u8 8, .int .u8 8, .int .u8 8, .slice Auo 0 cuo, .slice (some ⟨gb, 0, none⟩) 9 c77] 38 (0, 0))) (by kernel_rfl) hqB (fun hH => ?_)
    generalize w22.drew = w23 at bel hpB hrB hqB uo ub al alw hT ap_pB ap_rB an_uo an_ub ap_qB lz_al hH ⊢
    refine wpAnyH_take (i := 0) (v := ?_) rfl (by kernel_rfl) (by kernel_rfl) (by kernel_rfl) (fun _ _ _ h => h) (Or.inl ⟨by rfl, ?_⟩) hH ?_
    rotate_left
    · ((intro W hW; clear hW; go_simp) <;> with_reducible rfl)
    simp only [Act.put, List.getElem_toArray, List.getElem_cons_zero, List.setIfInBounds_toArray, List.set_cons_zero, List.set_cons_succ]
    refine wpAnyH_take (i := 1) (v := .agg #[.int .i64 0, .int .i64 0, .int .i64 0, .int .i64 0, .int .i64 64, .int .i64 17, .int .u8 10, .int .u8 0, .int .u8 0, .int .u8 ((byteOf 5).toNat : Int), .int .u8 8, .int .u8 8, .int .u8 8, .int .u8 8, .slice Auo 0 cuo, .slice (some ⟨gb, 0, none⟩) 9 c77]) rfl (by kernel_rfl) (by kernel_rfl) (by kernel_rfl) (fun _ _ _ h => h) (yieldsIf_load_part (by kernel_rfl) 38 _ rfl g9 0 16 rfl _ 38 (0, 0) (fun W hW => hW) _ rfl _ Tryz.underlying38 rfl (by kernel_rfl)) hH ?_
    simp only [sq3, sq4]
    refine wpAnyH_ready (rs := [2, 7]) (by kernel_rfl) (by simp) ?_
    refine AllReadyH.cons (o := _) rfl (fun K hK => ?_) (AllReadyH.cons (o := _) rfl (fun K hK => ?_) AllReadyH.nil)
    rotate_left
    · simp only [sq3]
      rw [if_pos (by rfl)]
      refine wp_new_a 38 rfl #[.int .i64 0, .int .i64 0, .int .i64 0, .int .i64 0, .int .i64 0, .int .i64 0, .int .u8 0, .int .u8 0, .int .u8 0, .int .u8 0, .int .u8 0, .int .u8 0, .int .u8 0, .int .u8 0, .slice none 0 0, .slice none 0 0] (by kernel_rfl) ?_
      intro g11 w24 ge hh bb
      have ap_sB := hT.ap ge
      have d_pB_sB := ne_new (hlt hpB) ge
      have d_rB_sB := ne_new (hlt hrB) ge
      have d_qB_sB := ne_new (hlt hqB) ge
      have av_uo_sB := uo.av_new ge
      have av_ub_sB := ub.av_new ge
      have av_al_sB := al.av_new ge
      have of_al_sB := own_new alw ge
      have osB := Nat.le_trans bel.size ge
      replace hpB := blk_u hpB bb
      replace hrB := blk_u hrB bb
      replace hqB := blk_u hqB bb
      replace uo := uo.below bb
      replace ub := ub.below bb
      replace al := al.below bb
      replace alw := own_under alw bb
      replace lz_al := Nat.le_trans lz_al bb.size
      replace hT := hT.below bb
      replace ap_pB := ap_pB.below bb
      replace ap_rB := ap_rB.below bb
      replace an_uo := an_uo.below bb
      replace an_ub := an_ub.below bb
      replace ap_qB := ap_qB.below bb
      replace ap_sB := ap_sB.below bb
      replace bel := bel.trans (bb.mono bel.size)
      have hsB := hh
      clear hh ge bb
      refine hK.out _ _ hqB (fun hH25 => ?_)
      clear hK K
      simp only [sq4]
      refine wpAnyH_ready (rs := [2]) (by kernel_rfl) (by simp) ?_
      refine AllReadyH.cons (o := _) rfl (fun K hK => ?_) AllReadyH.nil
      simp only [sq3]
      go_simp
      with_reducible refine (wan19 _).mono ?_
      rintro e w26 ⟨rfl, b26⟩
      dsimp only
      replace hpB := blk_u hpB b26
      replace hrB := blk_u hrB b26
      replace hqB := blk_u hqB b26
      replace hsB := blk_u hsB b26
      replace uo := uo.below b26
      replace ub := ub.below b26
      replace al := al.below b26
      replace alw := own_under alw b26
      replace lz_al := Nat.le_trans lz_al b26.size
      replace hT := hT.below b26
      replace ap_pB := ap_pB.below b26
      replace ap_rB := ap_rB.below b26
      replace an_uo := an_uo.below b26
      replace an_ub := an_ub.below b26
      replace ap_qB := ap_qB.below b26
      replace ap_sB := ap_sB.below b26
      replace bel := bel.trans (b26.mono bel.size)
      clear b26
      refine hK.out _ _ hqB (fun hH27 => ?_)
      clear hK K
      refine wpAnyH_ready (rs := [3]) (by kernel_rfl) (by simp) ?_
      refine AllReadyH.cons (o := _) rfl (fun K hK => ?_) AllReadyH.nil
      simp only [sq3]
      go_simp
      with_reducible refine (p_sum _ hT uo al HP.out).mono ?_
      rintro e w28 ⟨rfl, hT_, f_, bb⟩
      dsimp only
      have x_ := f_ _ _ _ _ hpB ap_pB
      replace hpB := x_.1
      replace ap_pB := x_.2
      clear x_
      have x_ := f_ _ _ _ _ hrB ap_rB
      replace hrB := x_.1
      replace ap_rB := x_.2
      clear x_
      have x_ := f_ _ _ _ _ hqB ap_qB
      replace hqB := x_.1
      replace ap_qB := x_.2
      clear x_
      have x_ := f_ _ _ _ _ hsB ap_sB
      replace hsB := x_.1
      replace ap_sB := x_.2
      clear x_
      have x_ := f_.sl uo an_uo
      replace uo := x_.1
      replace an_uo := x_.2
      clear x_
      have x_ := f_.sl ub an_ub
      replace ub := x_.1
      replace an_ub := x_.2
      clear x_
      clear alw lz_al
      clear al
      clear hT
      have hT := hT_
      replace bel := bel.trans bb
      clear bb f_ hT_
      refine hK.out _ _ hqB (fun hH29 => ?_)
      clear hK K
      refine wpAnyH_take (i := 4) (v := ?_) rfl (by kernel_rfl) (by kernel_rfl) (by kernel_rfl) (fun _ _ _ h => h) (Or.inl ⟨by rfl, ?_⟩) hH29 ?_
      rotate_left
      · ((intro W hW; clear hW; go_simp) <;> with_reducible rfl)
      simp only [sq3, sq4]
      refine wpAnyH_take (i := 5) (v := ?_) rfl (by kernel_rfl) (by kernel_rfl) (by kernel_rfl) (fun _ _ _ h => h) (Or.inl ⟨by rfl, ?_⟩) hH29 ?_
      rotate_left
      · ((intro W hW; clear hW; go_simp) <;> with_reducible rfl)
      simp only [sq3, sq4]
      refine wpAnyH_take (i := 6) (v := ?_) rfl (by kernel_rfl) (by kernel_rfl) (by kernel_rfl) (fun _ _ _ h => h) (Or.inl ⟨by rfl, ?_⟩) hH29 ?_
      rotate_left
      · ((intro W hW; clear hW; go_simp) <;> with_reducible rfl)
      simp only [sq3, sq4]
      refine wpAnyH_ready (rs := [8]) (by kernel_rfl) (by simp) ?_
      refine AllReadyH.cons (o := _) rfl (fun K hK => ?_) AllReadyH.nil
      simp only [sq3]
      rw [if_pos (by rfl)]
      refine wp_store_blk 38 (.tmp 11) (.tmp 99) rfl g11 rfl _ rfl _ 38 hsB (by rfl) (by kernel_rfl) (by kernel_rfl) ?_
      intro w30 hq gr
      replace uo := uo.away av_uo_sB gr
      replace ub := ub.away av_ub_sB gr
      replace hpB := blk_a hpB gr d_pB_sB
      replace hrB := blk_a hrB gr d_rB_sB
      replace hqB := blk_a hqB gr d_qB_sB
      replace hT := hT.away ap_sB gr hsB
      replace ap_pB := ap_pB.grown ap_sB gr
      replace ap_rB := ap_rB.grown ap_sB gr
      replace an_uo := an_uo.grown ap_sB gr
      replace an_ub := an_ub.grown ap_sB gr
      replace ap_qB := ap_qB.grown ap_sB gr
      replace ap_sB := ap_sB.grown ap_sB gr
      replace bel := below_grown bel gr osB bel.size
      clear hsB
      have hsB := hq
      clear hq gr
      refine hK.out _ _ hqB (fun hH31 => ?_)
      clear hK K
      simp only [Act.put]
      refine wpAnyH_take (i := 9) (v := ?_) rfl (by kernel_rfl) (by kernel_rfl) (by kernel_rfl) (fun _ _ _ h => h) (Or.inl ⟨by rfl, ?_⟩) hH31 ?_
      rotate_left
      · ((intro W hW; clear hW; go_simp) <;> with_reducible rfl)
      simp only [sq3, sq4]
      refine wpAnyH_done (by kernel_rfl) ?_ _
      go_wp2_with fail
      go_meet
      case rel => exact ⟨g11, rfl, hpB, hrB, hqB, hsB, osB, d_pB_qB, d_pB_rB, d_pB_sB, (ne_symm d_rB_qB), d_qB_sB, d_rB_sB, uo, av_uo_pB, av_uo_qB, av_uo_rB, av_uo_sB, ub, av_ub_pB, av_ub_qB, av_ub_rB, av_ub_sB, hT, ap_pB, ap_rB, an_uo, an_ub, ap_qB, ap_sB, bel⟩
    simp only [sq3]
    go_simp
    with_reducible refine (wan19 _).mono ?_
    rintro e w24 ⟨rfl, b24⟩
    dsimp only
    replace hpB := blk_u hpB b24
    replace hrB := blk_u hrB b24
    replace hqB := blk_u hqB b24
    replace uo := uo.below b24
    replace ub := ub.below b24
    replace al := al.below b24
    replace alw := own_under alw b24
    replace lz_al := Nat.le_trans lz_al b24.size
    replace hT := hT.below b24
    replace ap_pB := ap_pB.below b24
    replace ap_rB := ap_rB.below b24
    replace an_uo := an_uo.below b24
    replace an_ub := an_ub.below b24
    replace ap_qB := ap_qB.below b24
    replace bel := bel.trans (b24.mono bel.size)
    clear b24
    refine hK.out _ _ hqB (fun hH25 => ?_)
    clear hK K
    refine wpAnyH_ready (rs := [3, 7]) (by kernel_rfl) (by simp) ?_
    refine AllReadyH.cons (o := _) rfl (fun K hK => ?_) (AllReadyH.cons (o := _) rfl (fun K hK => ?_) AllReadyH.nil)
    · simp only [sq3]
      go_simp
      with_reducible refine (p_sum _ hT uo al HP.out).mono ?_
      rintro e w26 ⟨rfl, hT_, f_, bb⟩
      dsimp only
      have x_ := f_ _ _ _ _ hpB ap_pB
      replace hpB := x_.1
      replace ap_pB := x_.2
      clear x_
      have x_ := f_ _ _ _ _ hrB ap_rB
      replace hrB := x_.1
      replace ap_rB := x_.2
      clear x_
      have x_ := f_ _ _ _ _ hqB ap_qB
      replace hqB := x_.1
      replace ap_qB := x_.2
      clear x_
      have x_ := f_.sl uo an_uo
      replace uo := x_.1
      replace an_uo := x_.2
      clear x_
      have x_ := f_.sl ub an_ub
      replace ub := x_.1
      replace an_ub := x_.2
      clear x_
      clear alw lz_al
      clear al
      clear hT
      have hT := hT_
      replace bel := bel.trans bb
      clear bb f_ hT_
      refine hK.out _ _ hqB (fun hH27 => ?_)
      clear hK K
      refine wpAnyH_take (i := 4) (v := ?_) rfl (by kernel_rfl) (by kernel_rfl) (by kernel_rfl) (fun _ _ _ h => h) (Or.inl ⟨by rfl, ?_⟩) hH27 ?_
      rotate_left
      · ((intro W hW; clear hW; go_simp) <;> with_reducible rfl)
      simp only [sq3, sq4]
      refine wpAnyH_take (i := 5) (v := ?_) rfl (by kernel_rfl) (by kernel_rfl) (by kernel_rfl) (fun _ _ _ h => h) (Or.inl ⟨by rfl, ?_⟩) hH27 ?_
      rotate_left
      · ((intro W hW; clear hW; go_simp) <;> with_reducible rfl)
      simp only [sq3, sq4]
      refine wpAnyH_take (i := 6) (v := ?_) rfl (by kernel_rfl) (by kernel_rfl) (by kernel_rfl) (fun _ _ _ h => h) (Or.inl ⟨by rfl, ?_⟩) hH27 ?_
      rotate_left
      · ((intro W hW; clear hW; go_simp) <;> with_reducible rfl)
      simp only [sq3, sq4]
      refine wpAnyH_ready (rs := [7]) (by kernel_rfl) (by simp) ?_
      refine AllReadyH.cons (o := _) rfl (fun K hK => ?_) AllReadyH.nil
      simp only [sq3]
      rw [if_pos (by rfl)]
      refine wp_new_a 38 rfl #[.int .i64 0, .int .i64 0, .int .i64 0, .int .i64 0, .int .i64 0, .int .i64 0, .int .u8 0, .int .u8 0, .int .u8 0, .int .u8 0, .int .u8 0, .int .u8 0, .int .u8 0, .int .u8 0, .slice none 0 0, .slice none 0 0] (by kernel_rfl) ?_
      intro g11 w28 ge hh bb
      have ap_sB := hT.ap ge
      have d_pB_sB := ne_new (hlt hpB) ge
      have d_rB_sB := ne_new (hlt hrB) ge
      have d_qB_sB := ne_new (hlt hqB) ge
      have av_uo_sB := uo.av_new ge
      have av_ub_sB := ub.av_new ge
      have osB := Nat.le_trans bel.size ge
      replace hpB := blk_u hpB bb
      replace hrB := blk_u hrB bb
      replace hqB := blk_u hqB bb
      replace uo := uo.below bb
      replace ub := ub.below bb
      replace hT := hT.below bb
      replace ap_pB := ap_pB.below bb
      replace ap_rB := ap_rB.below bb
      replace an_uo := an_uo.below bb
      replace an_ub := an_ub.below bb
      replace ap_qB := ap_qB.below bb
      replace ap_sB := ap_sB.below bb
      replace bel := bel.trans (bb.mono bel.size)
      have hsB := hh
      clear hh ge bb
      refine hK.out _ _ hqB (fun hH29 => ?_)
      clear hK K
      simp only [sq4]
      refine wpAnyH_ready (rs := [8]) (by kernel_rfl) (by simp) ?_
      refine AllReadyH.cons (o := _) rfl (fun K hK => ?_) AllReadyH.nil
      simp only [sq3]
      rw [if_pos (by rfl)]
      refine wp_store_blk 38 (.tmp 11) (.tmp 99) rfl g11 rfl _ rfl _ 38 hsB (by rfl) (by kernel_rfl) (by kernel_rfl) ?_
      intro w30 hq gr
      replace uo := uo.away av_uo_sB gr
      replace ub := ub.away av_ub_sB gr
      replace hpB := blk_a hpB gr d_pB_sB
      replace hrB := blk_a hrB gr d_rB_sB
      replace hqB := blk_a hqB gr d_qB_sB
      replace hT := hT.away ap_sB gr hsB
      replace ap_pB := ap_pB.grown ap_sB gr
      replace ap_rB := ap_rB.grown ap_sB gr
      replace an_uo := an_uo.grown ap_sB gr
      replace an_ub := an_ub.grown ap_sB gr
      replace ap_qB := ap_qB.grown ap_sB gr
      replace ap_sB := ap_sB.grown ap_sB gr
      replace bel := below_grown bel gr osB bel.size
      clear hsB
      have hsB := hq
      clear hq gr
      refine hK.out _ _ hqB (fun hH31 => ?_)
      clear hK K
      simp only [Act.put]
      refine wpAnyH_take (i := 9) (v := ?_) rfl (by kernel_rfl) (by kernel_rfl) (by kernel_rfl) (fun _ _ _ h => h) (Or.inl ⟨by rfl, ?_⟩) hH31 ?_
      rotate_left
      · ((intro W hW; clear hW; go_simp) <;> with_reducible rfl)
      simp only [sq3, sq4]
      refine wpAnyH_done (by kernel_rfl) ?_ _
      go_wp2_with fail
      go_meet
      case rel => exact ⟨g11, rfl, hpB, hrB, hqB, hsB, osB, d_pB_qB, d_pB_rB, d_pB_sB, (ne_symm d_rB_qB), d_qB_sB, d_rB_sB, uo, av_uo_pB, av_uo_qB, av_uo_rB, av_uo_sB, ub, av_ub_pB, av_ub_qB, av_ub_rB, av_ub_sB, hT, ap_pB, ap_rB, an_uo, an_ub, ap_qB, ap_sB, bel⟩
    simp only [sq3]
    rw [if_pos (by rfl)]
    refine wp_new_a 38 rfl #[.int .i64 0, .int .i64 0, .int .i64 0, .int .i64 0, .int .i64 0, .int .i64 0, .int .u8 0, .int .u8 0, .int .u8 0, .int .u8 0, .int .u8 0, .int .u8 0, .int .u8 0, .int .u8 0, .slice none 0 0, .slice none 0 0] (by kernel_rfl) ?_
    intro g11 w26 ge hh bb
    have ap_sB := hT.ap ge
    have d_pB_sB := ne_new (hlt hpB) ge
    have d_rB_sB := ne_new (hlt hrB) ge
    have d_qB_sB := ne_new (hlt hqB) ge
    have av_uo_sB := uo.av_new ge
    have av_ub_sB := ub.av_new ge
    have av_al_sB := al.av_new ge
    have of_al_sB := own_new alw ge
    have osB := Nat.le_trans bel.size ge
    replace hpB := blk_u hpB bb
    replace hrB := blk_u hrB bb
    replace hqB := blk_u hqB bb
    replace uo := uo.below bb
    replace ub := ub.below bb
    replace al := al.below bb
    replace alw := own_under alw bb
    replace lz_al := Nat.le_trans lz_al bb.size
    replace hT := hT.below bb
    replace ap_pB := ap_pB.below bb
    replace ap_rB := ap_rB.below bb
    replace an_uo := an_uo.below bb
    replace an_ub := an_ub.below bb
    replace ap_qB := ap_qB.below bb
    replace ap_sB := ap_sB.below bb
    replace bel := bel.trans (bb.mono bel.size)
    have hsB := hh
    clear hh ge bb
    refine hK.out _ _ hqB (fun hH27 => ?_)
    clear hK K
    simp only [sq4]
    refine wpAnyH_ready (rs := [3]) (by kernel_rfl) (by simp) ?_
    refine AllReadyH.cons (o := _) rfl (fun K hK => ?_) AllReadyH.nil
    simp only [sq3]
    go_simp
    with_reducible refine (p_sum _ hT uo al HP.out).mono ?_
    rintro e w28 ⟨rfl, hT_, f_, bb⟩
    dsimp only
    have x_ := f_ _ _ _ _ hpB ap_pB
    replace hpB := x_.1
    replace ap_pB := x_.2
    clear x_
    have x_ := f_ _ _ _ _ hrB ap_rB
    replace hrB := x_.1
    replace ap_rB := x_.2
    clear x_
    have x_ := f_ _ _ _ _ hqB ap_qB
    replace hqB := x_.1
    replace ap_qB := x_.2
    clear x_
    have x_ := f_ _ _ _ _ hsB ap_sB
    replace hsB := x_.1
    replace ap_sB := x_.2
    clear x_
    have x_ := f_.sl uo an_uo
    replace uo := x_.1
    replace an_uo := x_.2
    clear x_
    have x_ := f_.sl ub an_ub
    replace ub := x_.1
    replace an_ub := x_.2
    clear x_
    clear alw lz_al
    clear al
    clear hT
    have hT := hT_
    replace bel := bel.trans bb
    clear bb f_ hT_
    refine hK.out _ _ hqB (fun hH29 => ?_)
    clear hK K
    refine wpAnyH_take (i := 4) (v := ?_) rfl (by kernel_rfl) (by kernel_rfl) (by kernel_rfl) (fun _ _ _ h => h) (Or.inl ⟨by rfl, ?_⟩) hH29 ?_
    rotate_left
    · ((intro W hW; clear hW; go_simp) <;> with_reducible rfl)
    simp only [sq3, sq4]
    refine wpAnyH_take (i := 5) (v := ?_) rfl (by kernel_rfl) (by kernel_rfl) (by kernel_rfl) (fun _ _ _ h => h) (Or.inl ⟨by rfl, ?_⟩) hH29 ?_
    rotate_left
    · ((intro W hW; clear hW; go_simp) <;> with_reducible rfl)
    simp only [sq3, sq4]
    refine wpAnyH_take (i := 6) (v := ?_) rfl (by kernel_rfl) (by kernel_rfl) (by kernel_rfl) (fun _ _ _ h => h) (Or.inl ⟨by rfl, ?_⟩) hH29 ?_
    rotate_left
    · ((intro W hW; clear hW; go_simp) <;> with_reducible rfl)
    simp only [sq3, sq4]
    refine wpAnyH_ready (rs := [8]) (by kernel_rfl) (by simp) ?_
    refine AllReadyH.cons (o := _) rfl (fun K hK => ?_) AllReadyH.nil
    simp only [sq3]
    rw [if_pos (by rfl)]
    refine wp_store_blk 38 (.tmp 11) (.tmp 99) rfl g11 rfl _ rfl _ 38 hsB (by rfl) (by kernel_rfl) (by kernel_rfl) ?_
    intro w30 hq gr
    replace uo := uo.away av_uo_sB gr
    replace ub := ub.away av_ub_sB gr
    replace hpB := blk_a hpB gr d_pB_sB
    replace hrB := blk_a hrB gr d_rB_sB
    replace hqB := blk_a hqB gr d_qB_sB
    replace hT := hT.away ap_sB gr hsB
    replace ap_pB := ap_pB.grown ap_sB gr
    replace ap_rB := ap_rB.grown ap_sB gr
    replace an_uo := an_uo.grown ap_sB gr
    replace an_ub := an_ub.grown ap_sB gr
    replace ap_qB := ap_qB.grown ap_sB gr
    replace ap_sB := ap_sB.grown ap_sB gr
    replace bel := below_grown bel gr osB bel.size
    clear hsB
    have hsB := hq
    clear hq gr
    refine hK.out _ _ hqB (fun hH31 => ?_)
    clear hK K
    simp only [Act.put]
    refine wpAnyH_take (i := 9) (v := ?_) rfl (by kernel_rfl) (by kernel_rfl) (by kernel_rfl) (fun _ _ _ h => h) (Or.inl ⟨by rfl, ?_⟩) hH31 ?_
    rotate_left
    · ((intro W hW; clear hW; go_simp) <;> with_reducible rfl)
    simp only [sq3, sq4]
    refine wpAnyH_done (by kernel_rfl) ?_ _
    go_wp2_with fail
    go_meet
    case rel => exact ⟨g11, rfl, hpB, hrB, hqB, hsB, osB, d_pB_qB, d_pB_rB, d_pB_sB, (ne_symm d_rB_qB), d_qB_sB, d_rB_sB, uo, av_uo_pB, av_uo_qB, av_uo_rB, av_uo_sB, ub, av_ub_pB, av_ub_qB, av_ub_rB, av_ub_sB, hT, ap_pB, ap_rB, an_uo, an_ub, ap_qB, ap_sB, bel⟩
  obtain ⟨w32, hw_⟩ : ∃ x, x = wc := ⟨_, rfl⟩
  subst hw_
  obtain ⟨g11, rfl, hpB, hrB, hqB, hsB, osB, d_pB_qB, d_pB_rB, d_pB_sB, d_qB_rB, d_qB_sB, d_rB_sB, uo, av_uo_pB, av_uo_qB, av_uo_rB, av_uo_sB, ub, av_ub_pB, av_ub_qB, av_ub_rB, av_ub_sB, hT, ap_pB, ap_rB, an_uo, an_ub, ap_qB, ap_sB, bel⟩ := hcut
  rcases HRO.out with hr11 | hr10
  · have e1_ : (r == 11) = true := beq_iff_eq.2 hr11
    clear hr11
    go_wp2_with fail
    with_reducible refine (p_len _ hT).mono ?_
    rintro e w33 ⟨rfl, hT_, f_, bb⟩
    have x_ := f_ _ _ _ _ hpB ap_pB
    replace hpB := x_.1
    replace ap_pB := x_.2
    clear x_
    have x_ := f_ _ _ _ _ hrB ap_rB
    replace hrB := x_.1
    replace ap_rB := x_.2
    clear x_
    have x_ := f_ _ _ _ _ hqB ap_qB
    replace hqB := x_.1
    replace ap_qB := x_.2
    clear x_
    have x_ := f_ _ _ _ _ hsB ap_sB
    replace hsB := x_.1
    replace ap_sB := x_.2
    clear x_
    have x_ := f_.sl uo an_uo
    replace uo := x_.1
    replace an_uo := x_.2
    clear x_
    have x_ := f_.sl ub an_ub
    replace ub := x_.1
    replace an_ub := x_.2
    clear x_
    clear hT
    have hT := hT_
    replace bel := bel.trans bb
    clear bb f_ hT_
    go_wp2_with fail
    go_ret
    exact ⟨rfl, bel⟩
  have e1_ : (r == 11) = false := beq_eq_false_iff_ne.2 (by omega)
  have e2_ : (r == 10) = true := beq_iff_eq.2 hr10
  clear hr10
  go_wp2_with fail
  with_reducible refine (p_len _ hT).mono ?_
  rintro e w33 ⟨rfl, hT_, f_, bb⟩
  have x_ := f_ _ _ _ _ hpB ap_pB
  replace hpB := x_.1
  replace ap_pB := x_.2
  clear x_
  have x_ := f_ _ _ _ _ hrB ap_rB
  replace hrB := x_.1
  replace ap_rB := x_.2
  clear x_
  have x_ := f_ _ _ _ _ hqB ap_qB
  replace hqB := x_.1
  replace ap_qB := x_.2
  clear x_
  have x_ := f_ _ _ _ _ hsB ap_sB
  replace hsB := x_.1
  replace ap_sB := x_.2
  clear x_
  have x_ := f_.sl uo an_uo
  replace uo := x_.1
  replace an_uo := x_.2
  clear x_
  have x_ := f_.sl ub an_ub
  replace ub := x_.1
  replace an_ub := x_.2
  clear x_
  clear hT
  have hT := hT_
  replace bel := bel.trans bb
  clear bb f_ hT_
  go_wp2_with fail
  go_ret
  exact ⟨rfl, bel⟩
end Go.Proofs.YtbdaejodbcjmfaaGreat
