/- The reference's Get, Text, Parse. -/
import Derived.Test.YtholgadifhjmgaaDoorDn5
import Derived.Test.YtholgadifhjmgaaDoorSla
namespace Go.Proofs.YtholgadifhjmgaaDoor
open Go.RowKit

set_option linter.unusedVariables false in
set_option linter.unusedSimpArgs false in
set_option maxRecDepth 100000 in
set_option maxHeartbeats 16000000 in
theorem rget_any (A : Option Addr) (n c : Nat) (b : List UInt8) (a0 : Int) (w : World) (sb : Sl w A n c b) (hnb : n ≤ 100000) : Calls Tryd.prog 16 #[.slice A n c, .int .i64 a0] w fun e w' => ∃ v, e = .returned (.tuple #[v, .int .i64 ((getN b a0).2.1 : Int), .int .i64 ((getN b a0).2.2 : Int)]) ∧ w'.ownsRow w.heap.size 9 1 v (getN b a0).1.length ((getN b a0).1.flatMap stf) ∧ Below w.heap.size w w' := by
  have HBL := Lib.hid sb.1
  have hnb1 : (n : Int) ≤ 100000 := by omega
  have BLB := sb.bl_new
  obtain ⟨is, his, his0, his1, his2⟩ := info_parts Tryd.info_str
  have bel := Below.refl w.heap.size w
  go_enter Tryd.func16, Tryd.ntmps16
  by_cases ha : a0 < 0
  · have HR : Hid (getN b a0 = ([], 0, 3)) := Lib.hid (if_pos ha)
    go_wp2_with fail
    exact bodyPost_ret (v := .tuple #[.slice none 0 0, .int .i64 0, .int .i64 3]) (by simp [results, Tryd.results16, go_sem]) rfl ⟨_, by rw [HR.out]; rfl, by rw [HR.out]; exact owk_nil _ _ _, bel⟩
  obtain ⟨i0, rfl⟩ : ∃ i0 : Nat, a0 = (i0 : Int) := ⟨a0.toNat, by omega⟩
  have ha0 : (0 : Int) ≤ i0 := by omega
  clear ha
  by_cases hin0 : i0 < n
  rotate_left
  · have hn1 : (n : Int) ≤ i0 := by omega
    have HR : Hid (getN b (i0 : Int) = ([], 0, 3)) := Lib.hid (by unfold getN; rw [if_neg (by omega), Int.toNat_natCast]; exact getF_out (by rw [HBL.out]; omega))
    go_wp2_with fail
    exact bodyPost_ret (v := .tuple #[.slice none 0 0, .int .i64 0, .int .i64 3]) (by simp [results, Tryd.results16, go_sem]) rfl ⟨_, by rw [HR.out]; rfl, by rw [HR.out]; exact owk_nil _ _ _, bel⟩
  have hn1 : decide ((n : Int) ≤ i0) = false := decide_eq_false (by omega)
  have hn2 : decide (n ≤ i0) = false := decide_eq_false (by omega)
  go_wp2_with fail
  go_loopg [1, 7, 8, 9, 10] (400) (fun gk s1 s7 s8 s9 s10 wr => ∃ k : Nat, ∃ i : Nat, ∃ nxt : Int, ∃ nx : Nat, ∃ p : Nat, ∃ m : Nat, ∃ ls : List (List UInt8), ∃ sz : Nat, ∃ (Aou : Option Addr) (cou : Nat), gk = k ∧ Hid (getF k b i nx p ls sz = getN b (i0 : Int)) ∧ 400 ≤ k + sz + p ∧ sz ≤ 255 ∧ p ≤ 64 ∧ m ≤ sz ∧ Hid (nxt = if p = 0 then -1 else (nx : Int)) ∧ s1 = .int .i64 (i : Int) ∧ s7 = .slice Aou m cou ∧ s8 = .int .i64 nxt ∧ s9 = .int .i64 (sz : Int) ∧ s10 = .int .i64 (p : Int) ∧ wr.ownsRow (w.heap.size) 9 1 (.slice Aou (m) cou) (m) ((ls : List (List UInt8)).flatMap stf) ∧ Sl wr (A) (n) (c) (b) ∧ Below w.heap.size w wr)
  case atStart => exact ⟨400, i0, -1, 0, 0, 0, [], 1, none, 0, rfl, Lib.hid (by unfold getN; rw [if_neg (by omega), Int.toNat_natCast]), by omega, by omega, by omega, by omega, Lib.hid rfl, rfl, rfl, rfl, rfl, rfl, owk_nil _ _ _, sb, bel⟩
  case round =>
    clear sb bel
    obtain ⟨k, i, nxt, nx, p, m, ls, sz, Aou, cou, HGK, HS, hk, hsz, hp, hms, HNX, rfl, rfl, rfl, rfl, rfl, ouw, sb, bel⟩ := hrel
    have HGK_ := Lib.hid HGK
    clear HGK
    have ou := (owk_sle (by decide) stf_len ouw).1
    have fr_ou := (owk_sle (by decide) stf_len ouw).2
    have lz_ou := bel.size
    have oulo := Nat.le_refl (w.heap.size)
    obtain ⟨k, rfl⟩ : ∃ k2, k = k2 + 1 := ⟨k - 1, by omega⟩
    have i0_ : (0 : Int) ≤ i := by omega
    have s0_ : (0 : Int) ≤ sz := by omega
    have s1_ : (sz : Int) ≤ 255 := by omega
    have p0_ : (0 : Int) ≤ p := by omega
    have p1_ : (p : Int) ≤ 64 := by omega
    clear hn1 hn2
    by_cases hin : i < n
    rotate_left
    · have hn3 : (n : Int) ≤ i := by omega
      have HR : Hid (getN b (i0 : Int) = ([], 0, 3)) := Lib.hid (HS.out.symm.trans (getF_out (by rw [HBL.out]; omega)))
      go_wp2_with fail
      exact bodyPost_ret (v := .tuple #[.slice none 0 0, .int .i64 0, .int .i64 3]) (by simp [results, Tryd.results16, go_sem]) rfl ⟨_, by rw [HR.out]; rfl, by rw [HR.out]; exact owk_nil _ _ _, bel⟩
    have hn3 : decide ((n : Int) ≤ i) = false := decide_eq_false (by omega)
    have hn4 : decide (n ≤ i) = false := decide_eq_false (by omega)
    obtain ⟨gB, oB, rfl⟩ := sl_some sb (by omega)
    obtain ⟨cc, HCC_⟩ : ∃ u_, b[i]? = some u_ := ⟨_, List.getElem?_eq_getElem (by rw [HBL.out]; exact hin)⟩
    have HCC := Lib.hid HCC_
    clear HCC_
    obtain ⟨kc, HKC_⟩ : ∃ u_, cc.toNat = u_ := ⟨_, rfl⟩
    have HKC := Lib.hid HKC_
    clear HKC_
    have HX : Hid ((cc.toNat : Int) = (kc : Int)) := Lib.hid (by rw [HKC.out])
    have kc0 : (0 : Int) ≤ kc := by omega
    have kcb : (kc : Int) < 256 := by have h_ := HKC.out; have h1_ := cc.toNat_lt; omega
    by_cases hz : kc = 0
    · have HZ := Lib.hid hz
      have z1 : ((kc : Int) == 0) = true := by rw [hz]; rfl
      have z2 : (kc == 0) = true := by rw [hz]; rfl
      clear hz
      by_cases hp : p = 0
      · have hnl : nxt < 0 := by have h_ := HNX.out; rw [if_pos hp] at h_; omega
        have HPP := Lib.hid hp
        clear hp
        have HR : Hid (getN b (i0 : Int) = (ls, (if p = 0 then i + 1 else nx), 0)) := Lib.hid (HS.out.symm.trans (getF_end HCC.out (by rw [HKC.out]; exact HZ.out)))
        have HRV : Hid (((if p = 0 then i + 1 else nx : Nat) : Int) = (i : Int) + 1) := Lib.hid (by rw [if_pos HPP.out]; rfl)
        have R28 := (by have h_ := sl_at sb (j := i) HCC.out; rw [HX.out] at h_; exact h_)
        go_wp2_with fail
        clear R28
        exact bodyPost_ret (v := .tuple #[.slice Aou m cou, .int .i64 ((i : Int) + 1), .int .i64 0]) (by simp [results, Tryd.results16, go_sem]) rfl ⟨_, by rw [HR.out, HRV.out]; rfl, by rw [HR.out]; exact owk_to ouw ou.1.symm rfl, bel⟩
      have hnl : decide (nxt < 0) = false := decide_eq_false (by have h_ := HNX.out; rw [if_neg hp] at h_; omega)
      have HPP := Lib.hid hp
      clear hp
      have HR : Hid (getN b (i0 : Int) = (ls, (if p = 0 then i + 1 else nx), 0)) := Lib.hid (HS.out.symm.trans (getF_end HCC.out (by rw [HKC.out]; exact HZ.out)))
      have HRV : Hid (((if p = 0 then i + 1 else nx : Nat) : Int) = nxt) := Lib.hid (by rw [if_neg HPP.out]; have h_ := HNX.out; rw [if_neg HPP.out] at h_; exact h_.symm)
      have R28 := (by have h_ := sl_at sb (j := i) HCC.out; rw [HX.out] at h_; exact h_)
      go_wp2_with fail
      clear R28
      exact bodyPost_ret (v := .tuple #[.slice Aou m cou, .int .i64 nxt, .int .i64 0]) (by simp [results, Tryd.results16, go_sem]) rfl ⟨_, by rw [HR.out, HRV.out]; rfl, by rw [HR.out]; exact owk_to ouw ou.1.symm rfl, bel⟩
    have z1 : ((kc : Int) == 0) = false := by rw [beq_eq_false_iff_ne]; omega
    have z2 : (kc == 0) = false := by rw [beq_eq_false_iff_ne]; omega
    by_cases h192 : 192 ≤ kc
    rotate_left
    · have h193 : decide ((192 : Int) ≤ kc) = false := decide_eq_false (by omega)
      by_cases h64 : kc ≤ 63
      rotate_left
      · have h65 : (64 : Int) ≤ kc := by omega
        have HR : Hid (getN b (i0 : Int) = ([], 0, 4)) := Lib.hid (HS.out.symm.trans (getF_form HCC.out (by rw [HKC.out]; omega) (by rw [HKC.out]; omega)))
        have R28 := (by have h_ := sl_at sb (j := i) HCC.out; rw [HX.out] at h_; exact h_)
        go_wp2_with fail
        clear R28
        exact bodyPost_ret (v := .tuple #[.slice none 0 0, .int .i64 0, .int .i64 4]) (by simp [results, Tryd.results16, go_sem]) rfl ⟨_, by rw [HR.out]; rfl, by rw [HR.out]; exact owk_nil _ _ _, bel⟩
      have h65 : decide ((64 : Int) ≤ kc) = false := decide_eq_false (by omega)
      by_cases h2 : i + (1 + kc) ≤ n
      rotate_left
      · have h3 : (n : Int) < (i : Int) + 1 + kc := by omega
        have HR : Hid (getN b (i0 : Int) = ([], 0, 3)) := Lib.hid (HS.out.symm.trans (getF_cut HCC.out (by rw [HKC.out]; omega) (by rw [HKC.out]; omega) (by rw [HKC.out, HBL.out]; omega)))
        have R28 := (by have h_ := sl_at sb (j := i) HCC.out; rw [HX.out] at h_; exact h_)
        go_wp2_with fail
        clear R28
        exact bodyPost_ret (v := .tuple #[.slice none 0 0, .int .i64 0, .int .i64 3]) (by simp [results, Tryd.results16, go_sem]) rfl ⟨_, by rw [HR.out]; rfl, by rw [HR.out]; exact owk_nil _ _ _, bel⟩
      have h3 : decide ((n : Int) < (i : Int) + 1 + kc) = false := decide_eq_false (by omega)
      by_cases h4 : sz + (1 + kc) ≤ 255
      rotate_left
      · have h5 : (255 : Int) < (sz : Int) + 1 + kc := by omega
        have HR : Hid (getN b (i0 : Int) = ([], 0, 4)) := Lib.hid (HS.out.symm.trans (getF_long HCC.out (by rw [HKC.out]; omega) (by rw [HKC.out]; omega) (by rw [HKC.out, HBL.out]; omega) (by rw [HKC.out]; omega)))
        have R28 := (by have h_ := sl_at sb (j := i) HCC.out; rw [HX.out] at h_; exact h_)
        go_wp2_with fail
        clear R28
        exact bodyPost_ret (v := .tuple #[.slice none 0 0, .int .i64 0, .int .i64 4]) (by simp [results, Tryd.results16, go_sem]) rfl ⟨_, by rw [HR.out]; rfl, by rw [HR.out]; exact owk_nil _ _ _, bel⟩
      have h5 : decide ((255 : Int) < (sz : Int) + 1 + kc) = false := decide_eq_false (by omega)
      obtain ⟨A51, c51, r51_, f51, u51⟩ := piece_mid sb (p := i + 1) (k := kc) (by omega)
      have r51 : ∀ W, (Instr.slice 27 (.slice (some ⟨gB, oB, none⟩) n c) (some (.int .i64 ((i : Int) + 1))) (some (.int .i64 ((i : Int) + 1 + (kc : Int)))) none).run Tryd.prog W = .ok (.slice A51 kc c51) W := r51_
      clear r51_
      have R28 := (by have h_ := sl_at sb (j := i) HCC.out; rw [HX.out] at h_; exact h_)
      have sm := f51 _ sb
      have st52 := sm.str (P := Tryd.prog) 27 5 9 Tryd.underlying27 Tryd.underlying5 Tryd.underlying9
      go_wp2_with (first | ((with_reducible show wpList _ _ _ (⟨some 53, _, _, _, _, _⟩ :: _) _ _); refine wpList_lit_n rfl 23 9 1 _ rfl #[.string ⟨((b.drop (i + 1)).take kc).toArray⟩] (.string ⟨#[]⟩) Tryd.underlying23 (by kernel_rfl) 1 (by kernel_rfl) (by decide) (by kernel_rfl) ?_; intro g53 w1 ge lt hh bb; have av_sb_b53 := sb.av_new ge; have av_ou_b53 := ou.av_new ge; have of_ou_b53 := owk_new ouw ge; have av_sm_b53 := sm.av_new ge; have ob53 := Nat.le_trans bel.size ge; replace sb := sb.below bb; replace ou := ou.below bb; replace ouw := owk_under ouw bb; replace sm := sm.below bb; replace lz_ou := Nat.le_trans lz_ou bb.size; replace bel := bel.trans (bb.mono bel.size); have hb53 := hh; clear hh lt ge bb; have l1 : Sle stf 1 w1 (some ⟨g53, 0, none⟩) (1) (1) ([(b.drop (i + 1)).take kc]) := sle_lit ([(b.drop (i + 1)).take kc]) (by decide) stf_len hb53 rfl (by simp [maxLen])) | ((with_reducible show wpList _ _ _ (⟨some 54, _, _, _, _, _⟩ :: _) _ _); refine wpList_append_sle rfl (.tmp 43) (.tmp 53) 23 rfl (w.heap.size) 9 is (.string ⟨#[]⟩) 16 Tryd.underlying23 his his0 his1 his2 rfl stf_one _ (m) (ls) rfl ouw (some ⟨g53, 0, none⟩) (1) (1) ([(b.drop (i + 1)).take kc]) rfl l1 (by unfold maxLen; omega) (by omega) lz_ou ?_; intro v54 w2 own_ bb gw ofw; have of54_b53 := ofw _ (hlt hb53) of_ou_b53; clear ofw; replace sb := sb.under BLB bb; clear sm; replace l1 := Sle.off l1 of_ou_b53 gw; replace hb53 := blk_own hb53 gw of_ou_b53; clear gw; replace bel := bel.trans (bb.mono oulo); have lz_la := Nat.le_trans lz_ou bb.size; clear bb; clear ou ouw lz_ou; replace own_ : w2.ownsRow (w.heap.size) 9 1 v54 (m + 1) ((ls ++ [(b.drop (i + 1)).take kc] : List (List UInt8)).flatMap stf) := own_; obtain ⟨A54, c54, rfl⟩ := owk_val own_; have law := own_; have la := (owk_sle (by decide) stf_len own_).1; have fr_la := (owk_sle (by decide) stf_len own_).2; clear own_; have av_la_b53 := owk_av law of54_b53))
      try clear R28
      try clear st52
      go_roundg (k)
      case measure => have := HGK_.out; omega
      case rel => exact ⟨k, i + (1 + kc), nxt, nx, p, m + 1, ls ++ [(b.drop (i + 1)).take kc], sz + (1 + kc), A54, c54, rfl, Lib.hid (by rw [← HS.out, getF_label HCC.out (by rw [HKC.out]; omega) (by rw [HKC.out]; omega) (by rw [HKC.out, HBL.out]; omega) (by rw [HKC.out]; omega), HKC.out]), by omega, by omega, hp, by omega, HNX, by go_num, rfl, by go_num, by go_num, by go_num, law, sb, bel⟩
    have h193 : (192 : Int) ≤ kc := by omega
    by_cases hd : i + 1 < n
    rotate_left
    · have hd1 : (n : Int) ≤ (i : Int) + 1 := by omega
      have HR : Hid (getN b (i0 : Int) = ([], 0, 3)) := Lib.hid (HS.out.symm.trans (getF_half HCC.out (by rw [HKC.out]; omega) (by rw [HBL.out]; omega)))
      have R28 := (by have h_ := sl_at sb (j := i) HCC.out; rw [HX.out] at h_; exact h_)
      go_wp2_with fail
      clear R28
      exact bodyPost_ret (v := .tuple #[.slice none 0 0, .int .i64 0, .int .i64 3]) (by simp [results, Tryd.results16, go_sem]) rfl ⟨_, by rw [HR.out]; rfl, by rw [HR.out]; exact owk_nil _ _ _, bel⟩
    have hd1 : decide ((n : Int) ≤ (i : Int) + 1) = false := decide_eq_false (by omega)
    have hd2 : decide (n ≤ i + 1) = false := decide_eq_false (by omega)
    obtain ⟨d, HD_⟩ : ∃ u_, b[i + 1]? = some u_ := ⟨_, List.getElem?_eq_getElem (by rw [HBL.out]; exact hd)⟩
    have HD := Lib.hid HD_
    clear HD_
    obtain ⟨y, HY_⟩ : ∃ u_, (d.toNat : Int) = u_ := ⟨_, rfl⟩
    have HY := Lib.hid HY_
    clear HY_
    have y0 : 0 ≤ y := by have h_ := HY.out; omega
    have y1 : y < 256 := by have h_ := HY.out; have h1_ := d.toNat_lt; omega
    obtain ⟨tq, HTQ_⟩ : ∃ u_, leadTo cc d = u_ := ⟨_, rfl⟩
    have HTQ := Lib.hid HTQ_
    clear HTQ_
    have hor : bits .or .i64 (((kc : Int) - 192) * 256) y = (tq : Int) := by rw [lead_or cc d (kc : Int) y HX.out HY.out (by rw [HKC.out]; exact h192), HTQ.out]
    have tq0 : (0 : Int) ≤ tq := by omega
    by_cases hlt : tq < i
    rotate_left
    · have hl1 : (i : Int) ≤ tq := by omega
      have HR : Hid (getN b (i0 : Int) = ([], 0, 4)) := Lib.hid (HS.out.symm.trans (getF_bad HCC.out (by rw [HKC.out]; omega) HD.out (.inl (by rw [HTQ.out]; omega))))
      by_cases hp : p = 0
      · have hnl : nxt < 0 := by have h_ := HNX.out; rw [if_pos hp] at h_; omega
        have HPP := Lib.hid hp
        clear hp
        have R28 := (by have h_ := sl_at sb (j := i) HCC.out; rw [HX.out] at h_; exact h_)
        have R83 := (by have h_ := sl_at sb (j := i + 1) HD.out; rw [HY.out] at h_; exact h_)
        go_wp2_with fail
        clear R28 R83
        exact bodyPost_ret (v := .tuple #[.slice none 0 0, .int .i64 0, .int .i64 4]) (by simp [results, Tryd.results16, go_sem]) rfl ⟨_, by rw [HR.out]; rfl, by rw [HR.out]; exact owk_nil _ _ _, bel⟩
      have hnl : decide (nxt < 0) = false := decide_eq_false (by have h_ := HNX.out; rw [if_neg hp] at h_; omega)
      have HPP := Lib.hid hp
      clear hp
      have R28 := (by have h_ := sl_at sb (j := i) HCC.out; rw [HX.out] at h_; exact h_)
      have R83 := (by have h_ := sl_at sb (j := i + 1) HD.out; rw [HY.out] at h_; exact h_)
      go_wp2_with fail
      clear R28 R83
      exact bodyPost_ret (v := .tuple #[.slice none 0 0, .int .i64 0, .int .i64 4]) (by simp [results, Tryd.results16, go_sem]) rfl ⟨_, by rw [HR.out]; rfl, by rw [HR.out]; exact owk_nil _ _ _, bel⟩
    have hl1 : decide ((i : Int) ≤ tq) = false := decide_eq_false (by omega)
    have hl2 : decide (i ≤ tq) = false := decide_eq_false (by omega)
    by_cases hp64 : p < 64
    rotate_left
    · have hp1 : (64 : Int) < (p : Int) + 1 := by omega
      have HR : Hid (getN b (i0 : Int) = ([], 0, 4)) := Lib.hid (HS.out.symm.trans (getF_bad HCC.out (by rw [HKC.out]; omega) HD.out (.inr (by omega))))
      by_cases hp : p = 0
      · have hnl : nxt < 0 := by have h_ := HNX.out; rw [if_pos hp] at h_; omega
        have HPP := Lib.hid hp
        clear hp
        have R28 := (by have h_ := sl_at sb (j := i) HCC.out; rw [HX.out] at h_; exact h_)
        have R83 := (by have h_ := sl_at sb (j := i + 1) HD.out; rw [HY.out] at h_; exact h_)
        go_wp2_with fail
        clear R28 R83
        exact bodyPost_ret (v := .tuple #[.slice none 0 0, .int .i64 0, .int .i64 4]) (by simp [results, Tryd.results16, go_sem]) rfl ⟨_, by rw [HR.out]; rfl, by rw [HR.out]; exact owk_nil _ _ _, bel⟩
      have hnl : decide (nxt < 0) = false := decide_eq_false (by have h_ := HNX.out; rw [if_neg hp] at h_; omega)
      have HPP := Lib.hid hp
      clear hp
      have R28 := (by have h_ := sl_at sb (j := i) HCC.out; rw [HX.out] at h_; exact h_)
      have R83 := (by have h_ := sl_at sb (j := i + 1) HD.out; rw [HY.out] at h_; exact h_)
      go_wp2_with fail
      clear R28 R83
      exact bodyPost_ret (v := .tuple #[.slice none 0 0, .int .i64 0, .int .i64 4]) (by simp [results, Tryd.results16, go_sem]) rfl ⟨_, by rw [HR.out]; rfl, by rw [HR.out]; exact owk_nil _ _ _, bel⟩
    have hp1 : decide ((64 : Int) < (p : Int) + 1) = false := decide_eq_false (by omega)
    by_cases hp : p = 0
    · have hnl : nxt < 0 := by have h_ := HNX.out; rw [if_pos hp] at h_; omega
      have HPP := Lib.hid hp
      clear hp
      have R28 := (by have h_ := sl_at sb (j := i) HCC.out; rw [HX.out] at h_; exact h_)
      have R83 := (by have h_ := sl_at sb (j := i + 1) HD.out; rw [HY.out] at h_; exact h_)
      go_wp2_with fail
      clear R28 R83
      go_roundg (k)
      case measure => have := HGK_.out; omega
      case rel => exact ⟨k, tq, (i : Int) + 2, i + 2, p + 1, m, ls, sz, Aou, cou, rfl, Lib.hid (by rw [← HS.out, getF_lead HCC.out (by rw [HKC.out]; omega) HD.out (by rw [HTQ.out]; omega), HTQ.out, if_pos HPP.out]), by omega, hsz, by omega, by omega, Lib.hid (by rw [if_neg (by omega)]; rfl), by go_num, rfl, by go_num, by go_num, by go_num, ouw, sb, bel⟩
    have hnl : decide (nxt < 0) = false := decide_eq_false (by have h_ := HNX.out; rw [if_neg hp] at h_; omega)
    have HPP := Lib.hid hp
    clear hp
    have R28 := (by have h_ := sl_at sb (j := i) HCC.out; rw [HX.out] at h_; exact h_)
    have R83 := (by have h_ := sl_at sb (j := i + 1) HD.out; rw [HY.out] at h_; exact h_)
    go_wp2_with fail
    clear R28 R83
    go_roundg (k)
    case measure => have := HGK_.out; omega
    case rel => exact ⟨k, tq, nxt, nx, p + 1, m, ls, sz, Aou, cou, rfl, Lib.hid (by rw [← HS.out, getF_lead HCC.out (by rw [HKC.out]; omega) HD.out (by rw [HTQ.out]; omega), HTQ.out, if_neg HPP.out]), by omega, hsz, by omega, by omega, Lib.hid (by rw [if_neg (by omega)]; have h_ := HNX.out; rw [if_neg HPP.out] at h_; exact h_), by go_num, rfl, by go_num, by go_num, by go_num, ouw, sb, bel⟩
end Go.Proofs.YtholgadifhjmgaaDoor
