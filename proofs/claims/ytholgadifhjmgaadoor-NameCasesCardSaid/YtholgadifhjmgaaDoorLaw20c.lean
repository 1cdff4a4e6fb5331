/- NameCases. -/
import Derived.Test.YtholgadifhjmgaaDoorDn8
namespace Go.Proofs.YtholgadifhjmgaaDoor
open Go.RowKit

theorem Mb.cellv {w : World} {g n : Nat} {l : List UInt8} (h : Mb w g n l) {j : Nat} {b : UInt8} {y : Int} (hj : l[j]? = some b) (hy : (b.toNat : Int) = y) : w.cell? ⟨g, j, none⟩ = some (.int .u8 y) := by
  have := h.cell hj
  unfold u8v at this
  rwa [hy] at this
set_option linter.unusedVariables false in
set_option linter.unusedSimpArgs false in
set_option maxRecDepth 100000 in
set_option maxHeartbeats 16000000 in
theorem nameCases_walk (A : Option Addr) (n c : Nat) (l : List (List UInt8)) (Tb : Option Addr) (nt ct : Nat) (tl : List Bool) (w : World) (la : Sle stf 1 w A n c l) (tb : Sle btf 1 w Tb nt ct tl) : Calls Tryd.prog 9 #[.slice A n c, .slice Tb nt ct] w fun e w' => e = .returned (.bool true) ∧ Below w.heap.size w w' := by
  have HLN := Lib.hid la.1
  have HTN := Lib.hid tb.1
  have BLA := la.bl_new
  have BLT := tb.bl_new
  obtain ⟨is, his, his0, his1, his2⟩ := info_parts Tryd.info_str
  have bel := Below.refl w.heap.size w
  go_enter Tryd.func9, Tryd.ntmps9
  go_wp2_with fail
  with_reducible refine (awake_any _).mono ?_
  rintro e w1 ⟨rfl, b1⟩
  replace la := la.below b1
  replace tb := tb.below b1
  replace bel := bel.trans (b1.mono bel.size)
  clear b1
  rcases hlg : longN l with _ | _
  rotate_left
  · have HLG := Lib.hid hlg
    clear hlg
    go_wp2_with fail
    with_reducible refine (llong_any _ _ _ _ _ la).mono ?_
    rintro e _ ⟨rfl, rfl⟩
    rw [HLG.out]
    go_wp2_with fail
    go_ret
    exact ⟨rfl, bel⟩
  have HLG := Lib.hid hlg
  have hln := (long_no hlg).1
  have HLB := Lib.hid (long_no hlg).2
  have hn2 : n ≤ 200 := by have h_ := la.1; omega
  have hn3 : (n : Int) ≤ 200 := by omega
  clear hlg
  go_wp2_with fail
  with_reducible refine (llong_any _ _ _ _ _ la).mono ?_
  rintro e _ ⟨rfl, rfl⟩
  rw [HLG.out]
  go_wp2_with fail
  go_loopg [7, 6, 5] (n) (fun gk s7 s6 s5 wr => ∃ i : Nat, ∃ k : Nat, ∃ ms : List (List UInt8), ∃ (Amr : Option Addr) (cmr : Nat), gk = n - i ∧ i ≤ n ∧ Hid (lowN ms = lowN (l.take i)) ∧ k ≤ 300 * i ∧ s7 = .int .i64 (i : Int) ∧ s6 = .int .i64 (k : Int) ∧ s5 = .slice Amr i cmr ∧ wr.ownsRow (w.heap.size) 9 1 (.slice Amr (i) cmr) (i) ((ms : List (List UInt8)).flatMap stf) ∧ Sle stf 1 wr (A) (n) (c) (l) ∧ Sle btf 1 wr (Tb) (nt) (ct) (tl) ∧ Below w.heap.size w wr)
  case atStart => exact ⟨0, 0, [], none, 0, Nat.sub_zero _, Nat.zero_le _, Lib.hid rfl, Nat.zero_le _, rfl, rfl, rfl, owk_nil _ _ _, la, tb, bel⟩
  case round =>
    clear la tb bel
    obtain ⟨i, k, ms, Amr, cmr, HGK, hi, HLW, hk, rfl, rfl, rfl, mrw, la, tb, bel⟩ := hrel
    have HGK_ := Lib.hid HGK
    clear HGK
    have mr := (owk_sle (by decide) stf_len mrw).1
    have fr_mr := (owk_sle (by decide) stf_len mrw).2
    have lz_mr := bel.size
    have mrlo := Nat.le_refl (w.heap.size)
    have i0 : (0 : Int) ≤ i := by omega
    have HGKo := HGK_
    by_cases h : i < n
    rotate_left
    · obtain rfl : i = n := by omega
      have HL2 : Hid (lowN ms = lowN l) := Lib.hid (by rw [HLW.out, take_full (by rw [HLN.out]; exact h)])
      have HS1 : Hid (sameN l ms = true) := Lib.hid (decide_eq_true HL2.out.symm)
      have HS2 : Hid (sameN ms l = true) := Lib.hid (decide_eq_true HL2.out)
      have HS3 : Hid (sameN l (ms ++ [[120]]) = false) := Lib.hid (same_more l ms [120] HL2.out)
      replace h : decide (i < i) = false := decide_eq_false (by omega)
      go_wp2_with fail
      with_reducible refine (nsames_any _ _ _ _ _ _ l ms _ la mr (by omega) (fun x hx => by have h_ := HLB.out x hx; omega)).mono ?_
      rintro e w2 ⟨rfl, b2⟩
      replace la := la.below b2
      replace tb := tb.below b2
      replace mr := mr.below b2
      replace mrw := owk_under mrw b2
      replace lz_mr := Nat.le_trans lz_mr b2.size
      replace bel := bel.trans (b2.mono bel.size)
      clear b2
      rw [HS1.out]
      go_wp2_with fail
      with_reducible refine (nsames_any _ _ _ _ _ _ ms l _ mr la (by omega) (fun x hx => by have h_ := low_len HL2.out HLB.out x hx; omega)).mono ?_
      rintro e w3 ⟨rfl, b3⟩
      replace la := la.below b3
      replace tb := tb.below b3
      replace mr := mr.below b3
      replace mrw := owk_under mrw b3
      replace lz_mr := Nat.le_trans lz_mr b3.size
      replace bel := bel.trans (b3.mono bel.size)
      clear b3
      rw [HS2.out]
      go_wp2_with (first | ((with_reducible show wpList _ _ _ (⟨some 95, _, _, _, _, _⟩ :: _) _ _); refine wpList_wanted (by rfl) (fun K hK => ?_); refine wp_lit_n 23 9 1 _ rfl #[.string ⟨#[120]⟩] (.string ⟨#[]⟩) Tryd.underlying23 (by kernel_rfl) 1 (by kernel_rfl) (by decide) (by kernel_rfl) ?_; intro g95 w4 ge lt hh bb; have av_la_b95 := la.av_new ge; have av_tb_b95 := tb.av_new ge; have av_mr_b95 := mr.av_new ge; have of_mr_b95 := owk_new mrw ge; have ob95 := Nat.le_trans bel.size ge; replace la := la.below bb; replace tb := tb.below bb; replace mr := mr.below bb; replace mrw := owk_under mrw bb; replace lz_mr := Nat.le_trans lz_mr bb.size; replace bel := bel.trans (bb.mono bel.size); have hb95 := hh; clear hh lt ge bb; have l2 : Sle stf 1 w4 (some ⟨g95, 0, none⟩) (1) (1) ([[120]]) := sle_lit ([[120]]) (by decide) stf_len hb95 rfl (by simp [maxLen]); refine hK _ _ ?_; clear hK K) | ((with_reducible show wpList _ _ _ (⟨some 96, _, _, _, _, _⟩ :: _) _ _); refine wpList_wanted (by rfl) (fun K hK => ?_); refine wp_append_sle (.tmp 94) (.tmp 95) 23 rfl (w.heap.size) 9 is (.string ⟨#[]⟩) 16 Tryd.underlying23 his his0 his1 his2 rfl stf_one _ (i) (ms) rfl mrw (some ⟨g95, 0, none⟩) (1) (1) ([[120]]) rfl l2 (by unfold maxLen; omega) (by omega) lz_mr ?_; intro v96 w5 own_ bb gw ofw; have of96_b95 := ofw _ (hlt hb95) of_mr_b95; clear ofw; replace la := la.under BLA bb; replace tb := tb.under BLT bb; replace l2 := Sle.off l2 of_mr_b95 gw; replace hb95 := blk_own hb95 gw of_mr_b95; clear gw; replace bel := bel.trans (bb.mono mrlo); have lz_mx := Nat.le_trans lz_mr bb.size; clear bb; clear mr mrw lz_mr; replace own_ : w5.ownsRow (w.heap.size) 9 1 v96 (i + 1) ((ms ++ ([[120]]) : List (List UInt8)).flatMap stf) := own_; obtain ⟨A96, c96, rfl⟩ := owk_val own_; have mxw := own_; have mx := (owk_sle (by decide) stf_len own_).1; have fr_mx := (owk_sle (by decide) stf_len own_).2; clear own_; have av_mx_b95 := owk_av mxw of96_b95; refine hK _ _ ?_; clear hK K))
      with_reducible refine (nsames_any _ _ _ _ _ _ l (ms ++ [[120]]) _ la mx (by omega) (fun x hx => by have h_ := HLB.out x hx; omega)).mono ?_
      rintro e w6 ⟨rfl, b6⟩
      replace hb95 := blk_u hb95 b6
      replace la := la.below b6
      replace tb := tb.below b6
      replace l2 := l2.below b6
      replace mx := mx.below b6
      replace mxw := owk_under mxw b6
      replace lz_mx := Nat.le_trans lz_mx b6.size
      replace bel := bel.trans (b6.mono bel.size)
      clear b6
      rw [HS3.out]
      go_wp2_with fail
      go_ret
      exact ⟨rfl, bel⟩
    obtain ⟨gA, oA, rfl⟩ := la.place (by omega)
    obtain ⟨x, HX_⟩ : ∃ u_, l[i]? = some u_ := ⟨_, List.getElem?_eq_getElem (by rw [HLN.out]; exact h)⟩
    have HX := Lib.hid HX_
    clear HX_
    obtain ⟨kx, HKX_⟩ : ∃ u_, x.length = u_ := ⟨_, rfl⟩
    have HKX := Lib.hid HKX_
    clear HKX_
    have hkx : kx ≤ 300 := by have h_ := HLB.out x (List.mem_of_getElem? HX.out); rw [HKX.out] at h_; exact h_
    have hkx1 : (kx : Int) ≤ 300 := by omega
    have R23 := Sle.st (i := i) la HX.out
    go_wp2_with (first | ((with_reducible show wpList _ _ _ (⟨some 24, _, _, _, _, _⟩ :: _) _ _); refine wpList_to_bytes rfl (.tmp 23) rfl x kx HKX.out rfl (by omega) ?_; intro gB cB w2 ge_ mb hcb bb; have og := Nat.le_trans bel.size ge_; have av_la_gB := BLA.av og; have av_tb_gB := BLT.av og; replace la := la.below bb; replace tb := tb.below bb; replace mr := mr.below bb; replace mrw := owk_under mrw bb; replace lz_mr := Nat.le_trans lz_mr bb.size; replace bel := bel.trans (bb.mono bel.size); clear bb ge_; clear mr lz_mr))
    try clear R23
    go_loopg [9, 6] (kx) (fun gk s9 s6 wr => ∃ q : Nat, ∃ k2 : Nat, ∃ bs : List UInt8, gk = kx - q ∧ q ≤ kx ∧ Hid (bs.map lowB = x.map lowB) ∧ k2 ≤ 300 * i + q ∧ Mb wr gB kx bs ∧ wr.ownsRow w.heap.size 9 1 (.slice Amr i cmr) i (ms.flatMap stf) ∧ s9 = .int .i64 (q : Int) ∧ s6 = .int .i64 (k2 : Int) ∧ Sle stf 1 wr (some ⟨gA, oA, none⟩) (n) (c) (l) ∧ Sle btf 1 wr (Tb) (nt) (ct) (tl) ∧ Below w.heap.size w wr)
    case atStart => exact ⟨0, k, x, Nat.sub_zero _, Nat.zero_le _, Lib.hid rfl, hk, mb, mrw, rfl, rfl, la, tb, bel⟩
    case round =>
      clear mb mrw la tb bel
      obtain ⟨q, k2, bs, HGK, hq, HB, hk2, mb, mrw, rfl, rfl, la, tb, bel⟩ := hrel
      have HGK_ := Lib.hid HGK
      clear HGK
      have q0 : (0 : Int) ≤ q := by omega
      have k20 : (0 : Int) ≤ k2 := by omega
      have k21 : (k2 : Int) ≤ 100000 := by omega
      have HBS := Lib.hid mb.1
      by_cases h5 : q < kx
      rotate_left
      · obtain rfl : q = kx := by omega
        replace h5 : decide (q < q) = false := decide_eq_false (by omega)
        have R81 := (Mb.sl mb hcb).str (P := Tryd.prog) 27 5 9 Tryd.underlying27 Tryd.underlying5 Tryd.underlying9
        clear mb
        have mr := (owk_sle (by decide) stf_len mrw).1
        have lz_mr := bel.size
        go_wp2_with (first | ((with_reducible show wpList _ _ _ (⟨some 82, _, _, _, _, _⟩ :: _) _ _); refine wpList_lit_n rfl 23 9 1 _ rfl #[.string ⟨(bs).toArray⟩] (.string ⟨#[]⟩) Tryd.underlying23 (by kernel_rfl) 1 (by kernel_rfl) (by decide) (by kernel_rfl) ?_; intro g82 w3 ge lt hh bb; have av_la_b82 := la.av_new ge; have av_tb_b82 := tb.av_new ge; have av_mr_b82 := mr.av_new ge; have of_mr_b82 := owk_new mrw ge; have ob82 := Nat.le_trans bel.size ge; replace la := la.below bb; replace tb := tb.below bb; replace mr := mr.below bb; replace mrw := owk_under mrw bb; replace lz_mr := Nat.le_trans lz_mr bb.size; replace bel := bel.trans (bb.mono bel.size); have hb82 := hh; clear hh lt ge bb; have l1 : Sle stf 1 w3 (some ⟨g82, 0, none⟩) (1) (1) ([bs]) := sle_lit ([bs]) (by decide) stf_len hb82 rfl (by simp [maxLen])) | ((with_reducible show wpList _ _ _ (⟨some 83, _, _, _, _, _⟩ :: _) _ _); refine wpList_append_sle rfl (.tmp 79) (.tmp 82) 23 rfl (w.heap.size) 9 is (.string ⟨#[]⟩) 16 Tryd.underlying23 his his0 his1 his2 rfl stf_one _ (i) (ms) rfl mrw (some ⟨g82, 0, none⟩) (1) (1) ([bs]) rfl l1 (by unfold maxLen; omega) (by omega) lz_mr ?_; intro v83 w4 own_ bb gw ofw; have of83_b82 := ofw _ (hlt hb82) of_mr_b82; clear ofw; replace la := la.under BLA bb; replace tb := tb.under BLT bb; replace l1 := Sle.off l1 of_mr_b82 gw; replace hb82 := blk_own hb82 gw of_mr_b82; clear gw; replace bel := bel.trans (bb.mono mrlo); have lz_ma := Nat.le_trans lz_mr bb.size; clear bb; clear mr mrw lz_mr; replace own_ : w4.ownsRow (w.heap.size) 9 1 v83 (i + 1) ((ms ++ [bs] : List (List UInt8)).flatMap stf) := own_; obtain ⟨A83, c83, rfl⟩ := owk_val own_; have maw := own_; have ma := (owk_sle (by decide) stf_len own_).1; have fr_ma := (owk_sle (by decide) stf_len own_).2; clear own_; have av_ma_b82 := owk_av maw of83_b82))
        try clear R81
        go_roundg (n - (i + 1))
        case measure => have := HGKo.out; omega
        case rel => exact ⟨i + 1, k2, ms ++ [bs], A83, c83, rfl, h, Lib.hid (low_next HLW.out HX.out HB.out), by omega, by go_num, by go_num, rfl, maw, la, tb, bel⟩
      obtain ⟨cq, HCQ_⟩ : ∃ u_, bs[q]? = some u_ := ⟨_, List.getElem?_eq_getElem (by rw [HBS.out]; exact h5)⟩
      have HCQ := Lib.hid HCQ_
      clear HCQ_
      obtain ⟨y, HY_⟩ : ∃ u_, (cq.toNat : Int) = u_ := ⟨_, rfl⟩
      have HY := Lib.hid HY_
      clear HY_
      have y0 : 0 ≤ y := by have h_ := HY.out; omega
      have y1 : y < 256 := by have h_ := HY.out; have h1_ := cq.toNat_lt; omega
      by_cases hkt : k2 < nt
      rotate_left
      · have hkt1 : decide ((k2 : Int) < nt) = false := decide_eq_false (by omega)
        have hkt2 : decide (k2 < nt) = false := decide_eq_false hkt
        go_wp2_with fail
        go_roundg (kx - (q + 1))
        case measure => have := HGK_.out; omega
        case rel => exact ⟨q + 1, k2 + 1, bs, rfl, h5, HB, by omega, mb, mrw, by go_num, by go_num, la, tb, bel⟩
      obtain ⟨gT, oT, rfl⟩ := tb.place (by omega)
      obtain ⟨tk, HTK_⟩ : ∃ u_, tl[k2]? = some u_ := ⟨_, List.getElem?_eq_getElem (by rw [HTN.out]; exact hkt)⟩
      have HTK := Lib.hid HTK_
      clear HTK_
      rcases tk with _ | _
      · have R39 := Sle.bt (i := k2) tb HTK.out
        go_wp2_with fail
        clear R39
        go_roundg (kx - (q + 1))
        case measure => have := HGK_.out; omega
        case rel => exact ⟨q + 1, k2 + 1, bs, rfl, h5, HB, by omega, mb, mrw, by go_num, by go_num, la, tb, bel⟩
      by_cases y97 : 97 ≤ y
      · by_cases y122 : y ≤ 122
        rotate_left
        · have z1 : decide (y ≤ 122) = false := decide_eq_false (by omega)
          have z2 : 65 ≤ y := by omega
          have z3 : decide (y ≤ 90) = false := decide_eq_false (by omega)
          clear y122
          have R39 := Sle.bt (i := k2) tb HTK.out
          have R45 := Mb.cellv mb HCQ.out HY.out
          have R51 := Mb.cellv mb HCQ.out HY.out
          have R58 := Mb.cellv mb HCQ.out HY.out
          have R64 := Mb.cellv mb HCQ.out HY.out
          go_wp2_with fail
          clear R39 R45 R51 R58 R64
          go_roundg (kx - (q + 1))
          case measure => have := HGK_.out; omega
          case rel => exact ⟨q + 1, k2 + 1, bs, rfl, h5, HB, by omega, mb, mrw, by go_num, by go_num, la, tb, bel⟩
        have hxor : bits .xor .u8 y 32 = ((tog cq).toNat : Int) := by rw [← HY.out]; exact tog_val cq
        have R39 := Sle.bt (i := k2) tb HTK.out
        have R45 := Mb.cellv mb HCQ.out HY.out
        have R51 := Mb.cellv mb HCQ.out HY.out
        have R74 := Mb.cellv mb HCQ.out HY.out
        go_wp2_with (first | ((with_reducible show wpList _ _ _ (⟨none, Op.store _ (.tmp 76) _, _, _, _, _⟩ :: _) _ _); refine wpList_store_mb rfl 5 (.tmp 76) (.tmp 75) rfl q (tog cq) rfl rfl mb h5 (by kernel_rfl) ?_; intro w3 mb_ gr; have of_ := mb.ofs mrw (by decide); replace mrw := owk_off mrw of_ gr; replace la := la.away av_la_gB gr; replace tb := tb.away av_tb_gB gr; replace bel := below_grown bel gr og bel.size; clear mb gr of_; have mb := mb_; clear mb_))
        try clear R39
        try clear R45
        try clear R51
        try clear R74
        go_roundg (kx - (q + 1))
        case measure => have := HGK_.out; omega
        case rel => exact ⟨q + 1, k2 + 1, bs.set q (tog cq), rfl, h5, Lib.hid (by rw [set_low HCQ.out (tog_low cq (.inl (by have h_ := HY.out; omega))), HB.out]), by omega, mb, mrw, by go_num, by go_num, la, tb, bel⟩
      have z0 : decide (97 ≤ y) = false := decide_eq_false (by omega)
      by_cases y65 : 65 ≤ y
      rotate_left
      · have z2 : decide (65 ≤ y) = false := decide_eq_false (by omega)
        clear y65
        have R39 := Sle.bt (i := k2) tb HTK.out
        have R45 := Mb.cellv mb HCQ.out HY.out
        have R58 := Mb.cellv mb HCQ.out HY.out
        go_wp2_with fail
        clear R39 R45 R58
        go_roundg (kx - (q + 1))
        case measure => have := HGK_.out; omega
        case rel => exact ⟨q + 1, k2 + 1, bs, rfl, h5, HB, by omega, mb, mrw, by go_num, by go_num, la, tb, bel⟩
      by_cases y90 : y ≤ 90
      rotate_left
      · have z3 : decide (y ≤ 90) = false := decide_eq_false (by omega)
        clear y90
        have R39 := Sle.bt (i := k2) tb HTK.out
        have R45 := Mb.cellv mb HCQ.out HY.out
        have R58 := Mb.cellv mb HCQ.out HY.out
        have R64 := Mb.cellv mb HCQ.out HY.out
        go_wp2_with fail
        clear R39 R45 R58 R64
        go_roundg (kx - (q + 1))
        case measure => have := HGK_.out; omega
        case rel => exact ⟨q + 1, k2 + 1, bs, rfl, h5, HB, by omega, mb, mrw, by go_num, by go_num, la, tb, bel⟩
      have hxor : bits .xor .u8 y 32 = ((tog cq).toNat : Int) := by rw [← HY.out]; exact tog_val cq
      have R39 := Sle.bt (i := k2) tb HTK.out
      have R45 := Mb.cellv mb HCQ.out HY.out
      have R58 := Mb.cellv mb HCQ.out HY.out
      have R64 := Mb.cellv mb HCQ.out HY.out
      have R74 := Mb.cellv mb HCQ.out HY.out
      go_wp2_with (first | ((with_reducible show wpList _ _ _ (⟨none, Op.store _ (.tmp 76) _, _, _, _, _⟩ :: _) _ _); refine wpList_store_mb rfl 5 (.tmp 76) (.tmp 75) rfl q (tog cq) rfl rfl mb h5 (by kernel_rfl) ?_; intro w3 mb_ gr; have of_ := mb.ofs mrw (by decide); replace mrw := owk_off mrw of_ gr; replace la := la.away av_la_gB gr; replace tb := tb.away av_tb_gB gr; replace bel := below_grown bel gr og bel.size; clear mb gr of_; have mb := mb_; clear mb_))
      try clear R39
      try clear R45
      try clear R58
      try clear R64
      try clear R74
      go_roundg (kx - (q + 1))
      case measure => have := HGK_.out; omega
      case rel => exact ⟨q + 1, k2 + 1, bs.set q (tog cq), rfl, h5, Lib.hid (by rw [set_low HCQ.out (tog_low cq (.inr (by have h_ := HY.out; omega))), HB.out]), by omega, mb, mrw, by go_num, by go_num, la, tb, bel⟩
end Go.Proofs.YtholgadifhjmgaaDoor
