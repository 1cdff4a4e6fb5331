/- The reference's GetOpts, told with the rows that it owns. -/
import Derived.Test.YtmljgpefbbifmaaOp5
namespace Go.Proofs.Ytmljgpefbbifmaa
open Go.RowKit

set_option linter.unusedVariables false in
set_option linter.unusedSimpArgs false in
set_option maxRecDepth 100000 in
set_option maxHeartbeats 16000000 in
theorem rget_bo {A : Option Addr} {n c : Nat} {l : List UInt8} (w : World) (bs : Sl w A n c l) (hn : n ≤ 100000) : Calls Try.prog 24 #[.slice A n c] w fun e w' => ∃ A' n' c' hs B, e = .returned (.tuple #[.slice A' n' c', .bool (getL l []).isSome]) ∧ w.heap.size ≤ B ∧ w'.ownsRow B 66 2 (.slice A' n' c') n' (hs.flatMap opE) ∧ Bo w' B hs (getS l).1 ∧ n' ≤ 100000 ∧ (∀ x ∈ hs, x.n ≤ 100000) ∧ Below w.heap.size w w' := by
  have HLN := Lib.hid bs.1
  have HBS := Lib.hid bs
  have n2 : (n : Int) ≤ 100000 := by omega
  obtain ⟨io, hio, hio0, hio1, hio2⟩ := info_parts Try.info_ropt
  obtain ⟨ii, hii, hz0, hz1, hz2⟩ := info_parts Try.info_u8
  have bel := Below.refl w.heap.size w
  go_enter Try.func24, Try.ntmps24
  go_wp2_with fail
  have own : w.ownsRow w.heap.size 66 2 (.slice none 0 0) 0 (([] : List Oh).flatMap opE) := World.ownsRow_nil _ _ _ _
  have bo : Bo w w.heap.size [] [] := Bo.nil _ _
  go_wp2_with fail
  go_loopg [5, 4] (n) (fun gk s5 s4 wr => ∃ a : Nat, ∃ A1 : Option Addr, ∃ n1 : Nat, ∃ c1 : Nat, ∃ hs : List Oh, ∃ L : OptL, gk = n - a ∧ a ≤ n ∧ Hid (getL l [] = getL (l.drop a) L) ∧ Hid (n1 ≤ a) ∧ Hid (∀ x ∈ hs, x.n ≤ a) ∧ wr.ownsRow w.heap.size 66 2 (.slice A1 n1 c1) n1 (hs.flatMap opE) ∧ Bo wr w.heap.size hs L ∧ s5 = .int .i64 (a : Int) ∧ s4 = .slice A1 n1 c1 ∧ Sl wr (A) (n) (c) (l) ∧ Below w.heap.size w wr)
  case atStart => exact ⟨0, none, 0, 0, [], [], Nat.sub_zero _, Nat.zero_le _, Lib.hid rfl, Lib.hid (Nat.le_refl _), Lib.hid (fun x h => by cases h), own, bo, rfl, rfl, bs, bel⟩
  case round =>
    clear own bo bs bel
    obtain ⟨a, A1, n1, c1, hs, L, HGK, han, HG, HNA, HBN, own, bo, rfl, rfl, bs, bel⟩ := hrel
    have HGK_ := Lib.hid HGK
    clear HGK
    by_cases h : a < n
    rotate_left
    · have HP : Hid (getL l [] = none) := Lib.hid (by rw [HG.out, List.drop_eq_nil_of_le (by have h1 := HLN.out; omega)]; exact get_none _)
      obtain rfl : a = n := by omega
      replace h : decide (a < a) = false := decide_eq_false (by omega)
      go_wp2_with fail
      exact bodyPost_ret (v := .tuple #[.slice none 0 0, .bool false]) (by simp [results, Try.results24, go_sem]) rfl ⟨none, 0, 0, [], w.heap.size, by rw [HP.out]; rfl, Nat.le_refl _, World.ownsRow_nil _ _ _ _, by rw [gets_no HP.out]; exact Bo.nil _ _, Nat.zero_le _, (fun x h => by cases h), bel⟩
    obtain ⟨gb, ob, hbp⟩ := sl_some bs (by omega)
    subst hbp
    have HAN : Hid (a < n) := Lib.hid h
    obtain ⟨x, hx⟩ : ∃ x, l[a]? = some x := ⟨_, List.getElem?_eq_getElem (by have := HLN.out; omega)⟩
    have HX := Lib.hid hx
    have HDA : Hid (l.drop a = x :: l.drop (a + 1)) := Lib.hid (by obtain ⟨h1, h2⟩ := List.getElem?_eq_some_iff.1 hx; rw [List.drop_eq_getElem_cons h1, h2])
    have a0 : (0 : Int) ≤ a := by omega
    have a2 : (a : Int) < n := by omega
    obtain ⟨a1, ha1⟩ : ∃ a1 : Nat, a + 1 = a1 := ⟨_, rfl⟩
    have HA1 := Lib.hid ha1
    have ha3 : (a : Int) + 1 = (a1 : Int) := by omega
    have a4 : (0 : Int) ≤ a1 := by omega
    have x0 : (0 : Int) ≤ x.toNat := by omega
    have x1 : (x.toNat : Int) < 256 := by have := x.toNat_lt; omega
    clear hx ha1
    by_cases h2 : x = 0
    · have HG2 : Hid (getL l [] = getL (l.drop a1) L) := Lib.hid (by rw [HG.out, HDA.out, h2, get_pad, HA1.out])
      have e0 : ((x.toNat : Int) == 0) = true := by rw [h2]; rfl
      clear h2
      have R18 := sl_at bs (j := a) HX.out
      go_wp2_with fail
      clear R18
      go_roundg (n - a1)
      case measure => have h1_ := HGK_.out; have h2_ := HA1.out; have h3_ := HAN.out; omega
      case rel => exact ⟨a1, A1, n1, c1, hs, L, rfl, by have h1 := HA1.out; have h2 := HAN.out; omega, HG2, Lib.hid (by have h1 := HA1.out; have h2 := HNA.out; omega), Lib.hid (bn_mono HBN.out (by have h1 := HA1.out; omega)), own, bo, by go_num, by go_num, bs, bel⟩
    have HX0 : Hid (¬ x = 0) := Lib.hid h2
    have e0 : ((x.toNat : Int) == 0) = false := beq_eq_false_iff_ne.2 (fun h_ => h2 (UInt8.toNat_inj.1 (by show x.toNat = 0; omega)))
    clear h2
    by_cases h1 : x = 255
    · have HP : Hid (getL l [] = some L) := Lib.hid (by rw [HG.out, HDA.out, h1]; exact get_end _ _)
      have e5 : ((x.toNat : Int) == 255) = true := by rw [h1]; rfl
      have HB := Lib.hid (bn_mono HBN.out (show a ≤ 100000 by have := HAN.out; omega))
      have HN1 : Hid (n1 ≤ 100000) := Lib.hid (by have h1 := HNA.out; have h2 := HAN.out; omega)
      clear h1
      have R18 := sl_at bs (j := a) HX.out
      go_wp2_with fail
      clear R18
      exact bodyPost_ret (v := .tuple #[.slice A1 n1 c1, .bool true]) (by simp [results, Try.results24, go_sem]) rfl ⟨A1, n1, c1, hs, w.heap.size, by rw [HP.out]; rfl, (Nat.le_refl _), own, by rw [gets_ok HP.out]; exact bo, HN1.out, HB.out, bel⟩
    have HX5 : Hid (¬ x = 255) := Lib.hid h1
    have e5 : ((x.toNat : Int) == 255) = false := beq_eq_false_iff_ne.2 (fun h_ => h1 (UInt8.toNat_inj.1 (by show x.toNat = 255; omega)))
    clear h1
    by_cases h3 : a1 = n
    · have e3 : ((a1 : Int) == (n : Int)) = true := beq_iff_eq.2 (by omega)
      have HP : Hid (getL l [] = none) := Lib.hid (by rw [HG.out, HDA.out, List.drop_eq_nil_of_le (by have h1 := HLN.out; have h2 := HA1.out; omega)]; exact get_cut HX5.out HX0.out)
      clear h3
      have R18 := sl_at bs (j := a) HX.out
      go_wp2_with fail
      clear R18
      exact bodyPost_ret (v := .tuple #[.slice none 0 0, .bool false]) (by simp [results, Try.results24, go_sem]) rfl ⟨none, 0, 0, [], w.heap.size, by rw [HP.out]; rfl, Nat.le_refl _, World.ownsRow_nil _ _ _ _, by rw [gets_no HP.out]; exact Bo.nil _ _, Nat.zero_le _, (fun x h => by cases h), bel⟩
    have e3 : ((a1 : Int) == (n : Int)) = false := beq_eq_false_iff_ne.2 (by omega)
    have H3 := Lib.hid h3
    clear h3
    obtain ⟨y, hy⟩ : ∃ y, l[a1]? = some y := ⟨_, List.getElem?_eq_getElem (by have h1 := HLN.out; have h2 := HA1.out; have h3 := HAN.out; have h4_ := H3.out; omega)⟩
    have HY := Lib.hid hy
    have HDB : Hid (l.drop (a + 1) = y :: l.drop (a1 + 1)) := Lib.hid (by rw [HA1.out]; obtain ⟨h1, h2⟩ := List.getElem?_eq_some_iff.1 hy; rw [List.drop_eq_getElem_cons h1, h2])
    have a5 : (a1 : Int) < n := by have h1 := HA1.out; have h2 := HAN.out; have h4_ := H3.out; omega
    have y0 : (0 : Int) ≤ y.toNat := by omega
    have y1 : (y.toNat : Int) < 256 := by have := y.toNat_lt; omega
    clear hy
    by_cases h4 : a1 + 1 + y.toNat ≤ n
    rotate_left
    · have e4 : (n : Int) - (a1 : Int) - 1 < (y.toNat : Int) := by omega
      have HP : Hid (getL l [] = none) := Lib.hid (by rw [HG.out, HDA.out, HDB.out]; exact get_short HX5.out HX0.out (by rw [List.length_drop]; have h2 := HLN.out; omega))
      clear h4
      have R18 := sl_at bs (j := a) HX.out
      have R35 := sl_at bs (j := a1) HY.out
      go_wp2_with fail
      clear R18 R35
      exact bodyPost_ret (v := .tuple #[.slice none 0 0, .bool false]) (by simp [results, Try.results24, go_sem]) rfl ⟨none, 0, 0, [], w.heap.size, by rw [HP.out]; rfl, Nat.le_refl _, World.ownsRow_nil _ _ _ _, by rw [gets_no HP.out]; exact Bo.nil _ _, Nat.zero_le _, (fun x h => by cases h), bel⟩
    have HK := Lib.hid h4
    have e4 : decide ((n : Int) - (a1 : Int) - 1 < (y.toNat : Int)) = false := decide_eq_false (by omega)
    have HGA := HGK_
    have HLL : Hid (L.length = n1) := Lib.hid (by rw [← bo.1]; exact row_len (by decide) opE_len own)
    clear h4
    obtain ⟨p, hp⟩ : ∃ p : Nat, a1 + 1 = p := ⟨_, rfl⟩
    have HP1 : Hid (a ≤ p ∧ a < p) := Lib.hid (by have := HA1.out; omega)
    have HPA : Hid (a1 + 1 = p) := Lib.hid hp
    have hp3 : (a1 : Int) + 1 = (p : Int) := by omega
    have HPY : Hid (p + y.toNat ≤ n) := Lib.hid (by rw [← hp]; exact HK.out)
    have p0 : (0 : Int) ≤ p := by omega
    have p1 : (p : Int) ≤ n := by have := HPY.out; omega
    obtain ⟨A56, c56, r56, f56, u56⟩ := piece_mid HBS.out HPY.out
    obtain ⟨xb, hxb⟩ : ∃ xb, (l.drop p).take y.toNat = xb := ⟨_, rfl⟩
    have HXB := Lib.hid hxb
    have HXS : Hid (Sl w A56 y.toNat c56 xb) := Lib.hid (by rw [← hxb]; exact f56 _ HBS.out)
    have xs := HXS.out.below bel
    have HG3 : Hid (getL l [] = getL (l.drop (p + y.toNat)) (joinL L (x.toNat : Int) xb)) := Lib.hid (by rw [HG.out, HDA.out, HDB.out, get_one HX5.out HX0.out (by rw [List.length_drop]; have h1 := HPY.out; have h2 := HLN.out; omega), ← hxb, hp, List.drop_drop])
    have HJL : Hid (jn L 0 (x.toNat : Int) xb = L) := Lib.hid rfl
    clear hp hxb f56 u56
    have R18 := sl_at bs (j := a) HX.out
    have R35 := sl_at bs (j := a1) HY.out
    have R47 := sl_at bs (j := a1) HY.out
    have R56 := r56
    go_wp2_with fail
    clear R18 R35 R47 R56
    go_loopg [10, 9] (n1) (fun gk s10 s9 wr => ∃ k : Nat, ∃ hs2 : List Oh, ∃ fd : Bool, gk = n1 - k ∧ k ≤ n1 ∧ Hid (fd = fdL L k (x.toNat : Int)) ∧ Hid (∀ z ∈ hs2, z.n ≤ p + y.toNat) ∧ Hid (∀ (j : Nat) (z : Oh), k ≤ j → hs2[j]? = some z → z.n ≤ p) ∧ wr.ownsRow w.heap.size 66 2 (.slice A1 n1 c1) n1 (hs2.flatMap opE) ∧ Bo wr w.heap.size hs2 (jn L k (x.toNat : Int) xb) ∧ s10 = .int .i64 (k : Int) ∧ s9 = .bool fd ∧ Sl wr (some ⟨gb, ob, none⟩) (n) (c) (l) ∧ Sl wr (A56) (y.toNat) (c56) (xb) ∧ Below w.heap.size w wr)
    case atStart => exact ⟨0, hs, false, Nat.sub_zero _, Nat.zero_le _, Lib.hid rfl, Lib.hid (bn_mono HBN.out (by have := HP1.out; omega)), Lib.hid (fun j z _ hz => Nat.le_trans (HBN.out z (List.mem_of_getElem? hz)) (by have := HP1.out; omega)), own, bo, rfl, rfl, bs, xs, bel⟩
    case round =>
      clear own bo bs xs bel
      obtain ⟨k, hs2, fd, HGK, hkn, HFD, HBN2, HBNP, own, bo, rfl, rfl, bs, xs, bel⟩ := hrel
      have HGK_ := Lib.hid HGK
      clear HGK
      by_cases hk2 : k < n1
      rotate_left
      · obtain rfl : k = n1 := by omega
        replace hk2 : decide (k < k) = false := decide_eq_false (by omega)
        have HFD2 : Hid (fd = fdL L L.length (x.toNat : Int)) := Lib.hid (by rw [HLL.out]; exact HFD.out)
        rcases fd with _ | _
        rotate_left
        · have HF : Hid (joinL L (x.toNat : Int) xb = jn L k (x.toNat : Int) xb) := Lib.hid (by have h1 := jn_found (x := xb) (HFD2.out.symm.trans rfl); rw [HLL.out] at h1; exact h1)
          go_wp2_with fail
          go_roundg (n - (p + y.toNat))
          case measure => have h1_ := HGK_.out; have h2_ := HGA.out; have h3_ := HP1.out; have h4_ := HPY.out; have h5_ := HAN.out; omega
          case rel => exact ⟨p + y.toNat, A1, k, c1, hs2, jn L k (x.toNat : Int) xb, rfl, HPY.out, Lib.hid (by rw [← HF.out]; exact HG3.out), Lib.hid (by have h1 := HNA.out; have h2 := HP1.out; omega), HBN2, own, bo, by go_num, by go_num, bs, bel⟩
        have HF : Hid (joinL L (x.toNat : Int) xb = jn L k (x.toNat : Int) xb ++ [((x.toNat : Int), xb)]) := Lib.hid (by have h1 := jn_none (x := xb) (HFD2.out.symm.trans rfl); rw [HLL.out] at h1; exact h1)
        have HB1 : Hid (k + 1 ≤ maxLen) := Lib.hid (by have := HNA.out; have := HAN.out; unfold maxLen; omega)
        have HB2 : Hid ((k + 1) * 32 ≤ 140737488355328) := Lib.hid (by have := HNA.out; have := HAN.out; omega)
        go_wp2_with fail
        have bo_ := bo
        with_reducible refine (r12copied_o _ _ _ _ _ xs (by omega)).mono ?_
        rintro e w1 ⟨v_, rfl, cxw, b1⟩
        have bl_bs_cx := bs.bl_new
        have bl_xs_cx := xs.bl_new
        have cxlo := bel.size
        have lz_cx := b1.size
        replace bs := bs.below b1
        replace xs := xs.below b1
        replace own := owk_under own b1
        replace bo := bo.below b1
        replace bel := bel.trans (b1.mono bel.size)
        clear b1
        obtain ⟨Acx, ccx, rfl⟩ := own_val cxw
        have cx := (own_sl cxw).1
        have fr_cx := (own_sl cxw).2
        have HNEW := Lib.hid (bo_.fresh (Nat.le_refl _) cxw)
        clear bo_
        go_wp2_with (first | ((with_reducible show wpList _ _ _ (⟨some 93, _, _, _, _, _⟩ :: _) _ _); refine wpList_lit_n rfl 40 66 1 _ rfl #[.int .i64 (x.toNat : Int), .slice Acx y.toNat ccx] (.agg #[.int .i64 0, .slice none 0 0]) Try.underlying40 (by kernel_rfl) 2 (by kernel_rfl) (by decide) (by kernel_rfl) ?_; intro g93 w2 ge lt hh bb; have av_bs_b93 := bs.av_new ge; have av_xs_b93 := xs.av_new ge; have av_cx_b93 := cx.av_new ge; have of_cx_b93 := own_new cxw ge; have ob93 := Nat.le_trans bel.size ge; replace bs := bs.below bb; replace xs := xs.below bb; replace cx := cx.below bb; replace cxw := own_under cxw bb; replace lz_cx := Nat.le_trans lz_cx bb.size; replace own := owk_under own bb; replace bo := bo.below bb; replace bel := bel.trans (bb.mono bel.size); have hb93 := hh; clear hh lt ge bb; have lt : Sle opE 2 w2 (some ⟨g93, 0, none⟩) (1) (1) ([⟨(x.toNat : Int), Acx, y.toNat, ccx⟩]) := sle_lit ([⟨(x.toNat : Int), Acx, y.toNat, ccx⟩]) (by decide) opE_len hb93 rfl (by simp [maxLen])) | ((with_reducible show wpList _ _ _ (⟨some 94, _, _, _, _, _⟩ :: _) _ _); refine wpList_append_sle rfl (.tmp 88) (.tmp 93) 40 rfl w.heap.size 66 io (.agg #[.int .i64 0, .slice none 0 0]) 32 Try.underlying40 hio hio0 hio1 hio2 rfl opE_one _ k hs2 rfl own (some ⟨g93, 0, none⟩) 1 1 [⟨(x.toNat : Int), Acx, y.toNat, ccx⟩] rfl lt HB1.out HB2.out bel.size ?_; intro v94 w3 own_ bb gw ofw; have k9 := kt_row (S := [66]) gw own (by simp); replace bo := bo.kt k9 (by decide); have nbw := k9.own (ownsRow_mono cxw cxlo) (by decide); replace bel := bel.trans bb; replace bs := HBS.out.below bel; clear own k9 bb gw ofw lt hb93 cx cxw lz_cx xs; obtain ⟨A94, c94, rfl⟩ := owk_val own_; have own := own_; clear own_))
        go_roundg (n - (p + y.toNat))
        case measure => have h1_ := HGK_.out; have h2_ := HGA.out; have h3_ := HP1.out; have h4_ := HPY.out; have h5_ := HAN.out; omega
        case rel => exact ⟨p + y.toNat, A94, k + 1, c94, hs2 ++ [⟨(x.toNat : Int), Acx, y.toNat, ccx⟩], jn L k (x.toNat : Int) xb ++ [((x.toNat : Int), xb)], rfl, HPY.out, Lib.hid (by rw [← HF.out]; exact HG3.out), Lib.hid (by have h1 := HNA.out; have h2 := HP1.out; omega), Lib.hid (bn_push2 HBN2.out (Nat.le_add_left _ _)), own, bo.push nbw HNEW.out, by go_num, by go_num, bs, bel⟩
      obtain ⟨gE, hgE, _⟩ := row_at own (by omega)
      subst hgE
      have en := (owk_sle (by decide) opE_len own).1
      obtain ⟨q, hq⟩ : ∃ q, L[k]? = some q := ⟨_, List.getElem?_eq_getElem (by have := HLL.out; omega)⟩
      have HQ := Lib.hid hq
      have hq2 := (jn_at (c := (x.toNat : Int)) (x := xb) (List.getElem?_eq_some_iff.1 hq).1).trans hq
      obtain ⟨z, hz, hzc, hzo⟩ := bo.at hq2
      have HQ2 := Lib.hid hq2
      have HZ := Lib.hid hz
      have HZC := Lib.hid hzc
      have sz := (own_sl hzo).1
      have HZN : Hid (z.n ≤ 100000) := Lib.hid (by have h1 := HBN2.out z (List.mem_of_getElem? hz); have h2 := HPY.out; omega)
      have HZM : Hid (z.n + y.toNat ≤ p + y.toNat) := Lib.hid (Nat.add_le_add_right (HBNP.out k z (Nat.le_refl _) hz) _)
      have k0 : (0 : Int) ≤ k := by omega
      have k1 : (k : Int) < n1 := by omega
      have k2 : (n1 : Int) ≤ 100000 := by have h1 := HNA.out; have h2 := HAN.out; omega
      clear hq hq2 hz hzc hzo
      by_cases hc : z.c = (x.toNat : Int)
      rotate_left
      · have ec : (z.c == (x.toNat : Int)) = false := beq_eq_false_iff_ne.2 hc
        have HC : Hid (¬ q.1 = (x.toNat : Int)) := Lib.hid (fun h_ => hc (HZC.out.trans h_))
        clear hc
        have R71 := Sle.zcell0 en HZ.out _ rfl
        go_wp2_with fail
        clear R71
        go_roundg (n1 - (k + 1))
        case measure => have := HGK_.out; omega
        case rel => exact ⟨k + 1, hs2, fd, rfl, by omega, Lib.hid (by rw [fd_miss HQ.out HC.out]; exact HFD.out), HBN2, Lib.hid (fun j z hj hz => HBNP.out j z (by omega) hz), own, (by rw [← jn_miss HQ.out HC.out]; exact bo), by go_num, by go_num, bs, xs, bel⟩
      have HC : Hid (z.c = (x.toNat : Int)) := Lib.hid hc
      have ec : (z.c == (x.toNat : Int)) = true := beq_iff_eq.2 hc
      have HQ3 : Hid (L[k]? = some ((x.toNat : Int), q.2)) := Lib.hid (by have h1 := HZC.out; have h2 := HC.out; have h3 := HQ.out; have h4 : q.1 = (x.toNat : Int) := h1.symm.trans h2; rw [← h4]; exact h3)
      clear hc
      have HC4 : Hid ((jn L k (x.toNat : Int) xb).set k (q.1, q.2 ++ xb) = jn L (k + 1) (x.toNat : Int) xb) := Lib.hid (by have h1 : q.1 = (x.toNat : Int) := HZC.out.symm.trans HC.out; rw [h1]; exact jn_hit HQ3.out)
      have R71 := Sle.zcell0 en HZ.out _ rfl
      have R80 := Sle.zcell en HZ.out 1 _ rfl
      go_wp2_with fail
      clear R71 R80
      have bo_ := bo
      with_reducible refine (r12copied_o _ _ _ _ _ sz (by have := HZN.out; omega)).mono ?_
      rintro e w1 ⟨v_, rfl, cpw, b1⟩
      have bl_bs_cp := bs.bl_new
      have bl_xs_cp := xs.bl_new
      have bl_en_cp := en.bl_new
      have bl_sz_cp := sz.bl_new
      have cplo := bel.size
      have lz_cp := b1.size
      replace bs := bs.below b1
      replace xs := xs.below b1
      replace en := en.below b1
      replace sz := sz.below b1
      replace own := owk_under own b1
      replace bo := bo.below b1
      replace bel := bel.trans (b1.mono bel.size)
      clear b1
      obtain ⟨Acp, ccp, rfl⟩ := own_val cpw
      have cp := (own_sl cpw).1
      have fr_cp := (own_sl cpw).2
      have HNEW := Lib.hid (bo_.fresh (Nat.le_refl _) cpw)
      clear bo_
      go_wp2_with (first | ((with_reducible show wpList _ _ _ (⟨some 83, _, _, _, _, _⟩ :: _) _ _); refine wpList_append_bytes _ rfl (.tmp 81) (.tmp 82) 34 rfl (wr.heap.size) 5 ii (.int .u8 0) Try.underlying34 hii hz0 hz1 hz2 rfl _ z.n q.2 rfl cpw A56 y.toNat c56 xb rfl xs (by have := HZN.out; omega) lz_cp ?_; intro v83 w2 own_ gw hat; obtain ⟨A83, c83, rfl⟩ := own_val own_; have k9 := kt_row (S := [5]) gw cpw (by simp); have HNW2 := Lib.hid (bo.offs HNEW.out (ofs_of hat)); replace bo := bo.off gw HNEW.out; replace own := k9.own own (by decide); replace en := (owk_sle (by decide) opE_len own).1; replace bel := bel.trans ((row_bel gw cpw lz_cp).mono cplo); replace bs := HBS.out.below bel; replace xs := HXS.out.below bel; have nbw := ownsRow_mono own_ cplo; clear own_ gw hat k9 cp cpw lz_cp sz) | ((with_reducible show wpList _ _ _ (⟨none, Op.store _ (.tmp 85) _, _, _, _, _⟩ :: _) _ _); refine wpList_store_el rfl 34 (.tmp 85) (.tmp 83) rfl gE k 1 z (⟨z.c, A83, z.n + y.toNat, c83⟩) rfl [.slice A83 (z.n + y.toNat) c83] rfl (by decide) opE_len own HZ.out (Nat.le_of_ble_eq_true rfl) rfl (by kernel_rfl) (by rfl) ?_; intro w3 own_ gw; replace bel := bel.trans (row_bel gw own bel.size); replace bs := HBS.out.below bel; replace xs := HXS.out.below bel; replace bo := bo.kt (kt_row gw own (by simp) : Kt [66] _ _) (by decide); replace nbw := (kt_row gw own (by simp) : Kt [66] _ _).own nbw (by decide); clear own; have own := own_; clear own_ gw; replace en := (owk_sle (by decide) opE_len own).1))
      go_roundg (n1 - (k + 1))
      case measure => have := HGK_.out; omega
      case rel => exact ⟨k + 1, hs2.set k ⟨z.c, A83, z.n + y.toNat, c83⟩, true, rfl, by omega, Lib.hid (fd_hit HQ3.out).symm, Lib.hid (bn_set2 HBN2.out HZM.out), Lib.hid (bp_set HBNP.out), own, (by have h1 := bo.renew HZ.out HQ2.out nbw HNW2.out; rw [HC4.out] at h1; exact h1), by go_num, by go_num, bs, xs, bel⟩
end Go.Proofs.Ytmljgpefbbifmaa
