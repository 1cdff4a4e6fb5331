/- NameTexts, NameKnown. -/
import Derived.Test.YtholgadifhjmgaaDoorLaw20
namespace Go.Proofs.YtholgadifhjmgaaDoor
open Go.RowKit

theorem rtext_lit {A : Option Addr} {n c : Nat} {l : List (List UInt8)} {s : List UInt8} (w : World) (la : Sle stf 1 w A n c l) (hs : sizeN l ≤ 99999) (h : textN l = s) : Calls Tryd.prog 22 #[.slice A n c] w fun e w' => e = .returned (.string ⟨s.toArray⟩) ∧ Below w.heap.size w w' := by
  subst h
  exact rtext_any A n c l w la hs
set_option linter.unusedVariables false in
set_option linter.unusedSimpArgs false in
set_option maxRecDepth 100000 in
set_option maxHeartbeats 16000000 in
theorem nameTextsL_walk (A : Option Addr) (na ca : Nat) (a : List (List UInt8)) (B : Option Addr) (nb cb : Nat) (b : List (List UInt8)) (s : List UInt8) (w : World) (la : Sle stf 1 w A na ca a) (lb : Sle stf 1 w B nb cb b) : Calls Tryd.prog 6 #[.slice A na ca, .slice B nb cb, .string ⟨s.toArray⟩] w fun e w' => e = .returned (.bool true) ∧ Below w.heap.size w w' := by
  have HAN := Lib.hid la.1
  have HBN := Lib.hid lb.1
  obtain ⟨m, HM_⟩ : ∃ u_, s.length = u_ := ⟨_, rfl⟩
  have HM := Lib.hid HM_
  clear HM_
  have bel := Below.refl w.heap.size w
  go_enter Tryd.func6, Tryd.ntmps6
  go_wp2_with fail
  with_reducible refine (awake_any _).mono ?_
  rintro e w1 ⟨rfl, b1⟩
  replace la := la.below b1
  replace lb := lb.below b1
  replace bel := bel.trans (b1.mono bel.size)
  clear b1
  rcases hla : longN a with _ | _
  rotate_left
  · have HLA := Lib.hid hla
    clear hla
    go_wp2_with fail
    with_reducible refine (llong_any _ _ _ _ _ la).mono ?_
    rintro e _ ⟨rfl, rfl⟩
    rw [HLA.out]
    go_wp2_with fail
    go_ret
    exact ⟨rfl, bel⟩
  have HLA := Lib.hid hla
  have hlnA := (long_no hla).1
  have HBA := Lib.hid (long_no hla).2
  have hnA : na ≤ 200 := by have h_ := la.1; omega
  clear hla
  go_wp2_with fail
  with_reducible refine (llong_any _ _ _ _ _ la).mono ?_
  rintro e _ ⟨rfl, rfl⟩
  rw [HLA.out]
  rcases hlb : longN b with _ | _
  rotate_left
  · have HLB := Lib.hid hlb
    clear hlb
    go_wp2_with fail
    with_reducible refine (llong_any _ _ _ _ _ lb).mono ?_
    rintro e _ ⟨rfl, rfl⟩
    rw [HLB.out]
    go_wp2_with fail
    go_ret
    exact ⟨rfl, bel⟩
  have HLB := Lib.hid hlb
  have hlnB := (long_no hlb).1
  have HBB := Lib.hid (long_no hlb).2
  have hnB : nb ≤ 200 := by have h_ := lb.1; omega
  clear hlb
  go_wp2_with fail
  with_reducible refine (llong_any _ _ _ _ _ lb).mono ?_
  rintro e _ ⟨rfl, rfl⟩
  rw [HLB.out]
  by_cases hm : m ≤ 1500
  rotate_left
  · have h1 : (1500 : Int) < m := by omega
    clear hm
    have R21 := fun W => st_lenN HM.out 3 W
    go_wp2_with fail
    clear R21
    go_ret
    exact ⟨rfl, bel⟩
  have h1 : decide ((1500 : Int) < m) = false := decide_eq_false (by omega)
  obtain ⟨T, HT_⟩ : ∃ u_, textN a = u_ := ⟨_, rfl⟩
  have HT := Lib.hid HT_
  clear HT_
  have hsz : sizeN a ≤ 60200 := by have h_ := size_le HBA.out; have h1_ : a.length * 301 ≤ 200 * 301 := Nat.mul_le_mul_right _ hlnA; omega
  obtain ⟨sm, hsm⟩ : ∃ sm, sameN a b = sm := ⟨_, rfl⟩
  have HSM := Lib.hid hsm
  clear hsm
  have hs9 : s.length ≤ 99999 := by have h_ := HM.out; omega
  rcases hp : parseS s with _ | l
  · have HR : Hid (parseR s = ([], 9)) := Lib.hid (parseR_no hp)
    have HO : Hid ((parseS s).isSome = false) := Lib.hid (by rw [hp]; rfl)
    clear hp
    obtain ⟨k, HK_⟩ : ∃ k, ([] : List (List UInt8)).length = k := ⟨_, rfl⟩
    have HK := Lib.hid HK_
    have hk : k ≤ 0 := by rw [← HK_]; exact Nat.le_refl _
    clear HK_
    have R21 := fun W => st_lenN HM.out 3 W
    go_wp2_with fail
    clear R21
    with_reducible refine (nparse_lit (k := k) _ HR.out HK.out).mono ?_
    rintro e w2 ⟨v_pa, rfl, paw, b2⟩
    have bl_la_pa := la.bl_new
    have bl_lb_pa := lb.bl_new
    have palo := bel.size
    have lz_pa := b2.size
    replace la := la.below b2
    replace lb := lb.below b2
    replace bel := bel.trans (b2.mono bel.size)
    clear b2
    obtain ⟨Apa, cpa, rfl⟩ := owk_val paw
    have pa := (owk_sle (by decide) stf_len paw).1
    have fr_pa := (owk_sle (by decide) stf_len paw).2
    go_wp2_with fail
    with_reducible refine (rparse_lit (k := k) _ hs9 HR.out HO.out HK.out).mono ?_
    rintro e w3 ⟨v_pb, rfl, pbw, b3⟩
    have bl_la_pb := la.bl_new
    have bl_lb_pb := lb.bl_new
    have bl_pa_pb := pa.bl_new
    have pblo := bel.size
    have lz_pb := b3.size
    replace la := la.below b3
    replace lb := lb.below b3
    replace pa := pa.below b3
    replace paw := owk_under paw b3
    replace lz_pa := Nat.le_trans lz_pa b3.size
    replace bel := bel.trans (b3.mono bel.size)
    clear b3
    obtain ⟨Apb, cpb, rfl⟩ := owk_val pbw
    have pb := (owk_sle (by decide) stf_len pbw).1
    have fr_pb := (owk_sle (by decide) stf_len pbw).2
    go_wp2_with fail
    with_reducible refine (ntext_lit _ la (by omega) HT.out).mono ?_
    rintro e w4 ⟨rfl, b4⟩
    replace la := la.below b4
    replace lb := lb.below b4
    replace pa := pa.below b4
    replace paw := owk_under paw b4
    replace pb := pb.below b4
    replace pbw := owk_under pbw b4
    replace lz_pa := Nat.le_trans lz_pa b4.size
    replace lz_pb := Nat.le_trans lz_pb b4.size
    replace bel := bel.trans (b4.mono bel.size)
    clear b4
    go_wp2_with fail
    with_reducible refine (rtext_lit _ la (by omega) HT.out).mono ?_
    rintro e w5 ⟨rfl, b5⟩
    replace la := la.below b5
    replace lb := lb.below b5
    replace pa := pa.below b5
    replace paw := owk_under paw b5
    replace pb := pb.below b5
    replace pbw := owk_under pbw b5
    replace lz_pa := Nat.le_trans lz_pa b5.size
    replace lz_pb := Nat.le_trans lz_pb b5.size
    replace bel := bel.trans (b5.mono bel.size)
    clear b5
    go_wp2_with fail
    with_reducible refine (nsames_any _ _ _ _ _ _ a b _ la lb (by omega) (fun x hx => by have h_ := HBA.out x hx; omega)).mono ?_
    rintro e w6 ⟨rfl, b6⟩
    replace la := la.below b6
    replace lb := lb.below b6
    replace pa := pa.below b6
    replace paw := owk_under paw b6
    replace pb := pb.below b6
    replace pbw := owk_under pbw b6
    replace lz_pa := Nat.le_trans lz_pa b6.size
    replace lz_pb := Nat.le_trans lz_pb b6.size
    replace bel := bel.trans (b6.mono bel.size)
    clear b6
    rw [HSM.out]
    go_wp2_with fail
    with_reducible refine (rsame_any _ _ _ _ _ _ a b _ la lb (by omega) (fun x hx => by have h_ := HBA.out x hx; omega)).mono ?_
    rintro e w7 ⟨rfl, b7⟩
    replace la := la.below b7
    replace lb := lb.below b7
    replace pa := pa.below b7
    replace paw := owk_under paw b7
    replace pb := pb.below b7
    replace pbw := owk_under pbw b7
    replace lz_pa := Nat.le_trans lz_pa b7.size
    replace lz_pb := Nat.le_trans lz_pb b7.size
    replace bel := bel.trans (b7.mono bel.size)
    clear b7
    rw [HSM.out]
    go_wp2_with fail
    with_reducible refine (lexact_any _ _ _ _ _ _ _ _ pa pb (by omega)).mono ?_
    rintro e w8 ⟨rfl, b8⟩
    replace la := la.below b8
    replace lb := lb.below b8
    replace pa := pa.below b8
    replace paw := owk_under paw b8
    replace pb := pb.below b8
    replace pbw := owk_under pbw b8
    replace lz_pa := Nat.le_trans lz_pa b8.size
    replace lz_pb := Nat.le_trans lz_pb b8.size
    replace bel := bel.trans (b8.mono bel.size)
    clear b8
    go_wp2_with fail
    go_ret
    exact ⟨rfl, bel⟩
  have HR : Hid (parseR s = (l, 0)) := Lib.hid (parseR_yes hp)
  have HO : Hid ((parseS s).isSome = true) := Lib.hid (by rw [hp]; rfl)
  obtain ⟨k, HK_⟩ : ∃ u_, l.length = u_ := ⟨_, rfl⟩
  have HK := Lib.hid HK_
  clear HK_
  have hk : k ≤ 254 := by have h_ := good_size (parseS_sound hp).1; have h1_ := size_ge l; have h2_ := HK.out; omega
  clear hp
  have R21 := fun W => st_lenN HM.out 3 W
  go_wp2_with fail
  clear R21
  with_reducible refine (nparse_lit (k := k) _ HR.out HK.out).mono ?_
  rintro e w2 ⟨v_pa, rfl, paw, b2⟩
  have bl_la_pa := la.bl_new
  have bl_lb_pa := lb.bl_new
  have palo := bel.size
  have lz_pa := b2.size
  replace la := la.below b2
  replace lb := lb.below b2
  replace bel := bel.trans (b2.mono bel.size)
  clear b2
  obtain ⟨Apa, cpa, rfl⟩ := owk_val paw
  have pa := (owk_sle (by decide) stf_len paw).1
  have fr_pa := (owk_sle (by decide) stf_len paw).2
  go_wp2_with fail
  with_reducible refine (rparse_lit (k := k) _ hs9 HR.out HO.out HK.out).mono ?_
  rintro e w3 ⟨v_pb, rfl, pbw, b3⟩
  have bl_la_pb := la.bl_new
  have bl_lb_pb := lb.bl_new
  have bl_pa_pb := pa.bl_new
  have pblo := bel.size
  have lz_pb := b3.size
  replace la := la.below b3
  replace lb := lb.below b3
  replace pa := pa.below b3
  replace paw := owk_under paw b3
  replace lz_pa := Nat.le_trans lz_pa b3.size
  replace bel := bel.trans (b3.mono bel.size)
  clear b3
  obtain ⟨Apb, cpb, rfl⟩ := owk_val pbw
  have pb := (owk_sle (by decide) stf_len pbw).1
  have fr_pb := (owk_sle (by decide) stf_len pbw).2
  go_wp2_with fail
  with_reducible refine (ntext_lit _ la (by omega) HT.out).mono ?_
  rintro e w4 ⟨rfl, b4⟩
  replace la := la.below b4
  replace lb := lb.below b4
  replace pa := pa.below b4
  replace paw := owk_under paw b4
  replace pb := pb.below b4
  replace pbw := owk_under pbw b4
  replace lz_pa := Nat.le_trans lz_pa b4.size
  replace lz_pb := Nat.le_trans lz_pb b4.size
  replace bel := bel.trans (b4.mono bel.size)
  clear b4
  go_wp2_with fail
  with_reducible refine (rtext_lit _ la (by omega) HT.out).mono ?_
  rintro e w5 ⟨rfl, b5⟩
  replace la := la.below b5
  replace lb := lb.below b5
  replace pa := pa.below b5
  replace paw := owk_under paw b5
  replace pb := pb.below b5
  replace pbw := owk_under pbw b5
  replace lz_pa := Nat.le_trans lz_pa b5.size
  replace lz_pb := Nat.le_trans lz_pb b5.size
  replace bel := bel.trans (b5.mono bel.size)
  clear b5
  go_wp2_with fail
  with_reducible refine (nsames_any _ _ _ _ _ _ a b _ la lb (by omega) (fun x hx => by have h_ := HBA.out x hx; omega)).mono ?_
  rintro e w6 ⟨rfl, b6⟩
  replace la := la.below b6
  replace lb := lb.below b6
  replace pa := pa.below b6
  replace paw := owk_under paw b6
  replace pb := pb.below b6
  replace pbw := owk_under pbw b6
  replace lz_pa := Nat.le_trans lz_pa b6.size
  replace lz_pb := Nat.le_trans lz_pb b6.size
  replace bel := bel.trans (b6.mono bel.size)
  clear b6
  rw [HSM.out]
  go_wp2_with fail
  with_reducible refine (rsame_any _ _ _ _ _ _ a b _ la lb (by omega) (fun x hx => by have h_ := HBA.out x hx; omega)).mono ?_
  rintro e w7 ⟨rfl, b7⟩
  replace la := la.below b7
  replace lb := lb.below b7
  replace pa := pa.below b7
  replace paw := owk_under paw b7
  replace pb := pb.below b7
  replace pbw := owk_under pbw b7
  replace lz_pa := Nat.le_trans lz_pa b7.size
  replace lz_pb := Nat.le_trans lz_pb b7.size
  replace bel := bel.trans (b7.mono bel.size)
  clear b7
  rw [HSM.out]
  go_wp2_with fail
  with_reducible refine (lexact_any _ _ _ _ _ _ _ _ pa pb (by omega)).mono ?_
  rintro e w8 ⟨rfl, b8⟩
  replace la := la.below b8
  replace lb := lb.below b8
  replace pa := pa.below b8
  replace paw := owk_under paw b8
  replace pb := pb.below b8
  replace pbw := owk_under pbw b8
  replace lz_pa := Nat.le_trans lz_pa b8.size
  replace lz_pb := Nat.le_trans lz_pb b8.size
  replace bel := bel.trans (b8.mono bel.size)
  clear b8
  go_wp2_with fail
  go_ret
  exact ⟨rfl, bel⟩
theorem nameTexts_walk (A : Option Addr) (na ca : Nat) (a : List (List UInt8)) (B : Option Addr) (nb cb : Nat) (b : List (List UInt8)) (s : ByteArray) (w : World) (la : Sle stf 1 w A na ca a) (lb : Sle stf 1 w B nb cb b) (_hs : s.size ≤ maxLen) : Calls Tryd.prog 6 #[.slice A na ca, .slice B nb cb, .string s] w fun e w' => e = .returned (.bool true) ∧ Below w.heap.size w w' := by
  obtain ⟨l, rfl⟩ : ∃ l : List UInt8, s = ⟨l.toArray⟩ := ⟨s.data.toList, by simp⟩
  exact nameTextsL_walk A na ca a B nb cb b l w la lb
theorem kk1 : getN [1, 97, 0, 1, 98, 192, 0] 3 = ([[98], [97]], 7, 0) := by decide +kernel
theorem kk2 : getN [192, 0] 0 = ([], 0, 4) := by decide +kernel
theorem kk3 : getN [64] 0 = ([], 0, 4) := by decide +kernel
theorem kk4 : getN [2, 97] 0 = ([], 0, 3) := by decide +kernel
theorem kk5 : getN [] 0 = ([], 0, 3) := by decide +kernel
theorem kk6 : goodN [[]] = false := by decide +kernel
theorem kk7 : parseR [46] = ([], 0) := by decide +kernel
theorem kk8 : parseR [97, 46, 46, 98] = ([], 9) := by decide +kernel
theorem kk9 : textN [[97, 32, 98], [46]] = [97, 92, 48, 51, 50, 98, 46, 92, 48, 52, 54] := by decide +kernel
theorem kk0 : textN [] = [46] := by decide +kernel
set_option linter.unusedVariables false in
set_option linter.unusedSimpArgs false in
set_option maxRecDepth 100000 in
set_option maxHeartbeats 16000000 in
theorem nameKnown_walk (w : World) : Calls Tryd.prog 3 #[] w fun e w' => e = .returned (.bool true) ∧ Below w.heap.size w w' := by
  have nl0 := Sl.nil w
  have nls := Sle.nil (f := stf) (k := 1) (by decide) stf_len w
  have bel := Below.refl w.heap.size w
  go_enter Tryd.func3, Tryd.ntmps3
  go_wp2_with fail
  with_reducible refine (awake_any _).mono ?_
  rintro e w1 ⟨rfl, b1⟩
  replace nl0 := nl0.below b1
  replace nls := nls.below b1
  replace bel := bel.trans (b1.mono bel.size)
  clear b1
  go_wp2_with (first | ((with_reducible show wpList _ _ _ (⟨some 25, _, _, _, _, _⟩ :: _) _ _); refine wpList_lit_n rfl 27 5 7 _ rfl #[.int .u8 1, .int .u8 97, .int .u8 0, .int .u8 1, .int .u8 98, .int .u8 192, .int .u8 0] (.int .u8 0) Tryd.underlying27 (by kernel_rfl) 1 (by kernel_rfl) (by decide) (by kernel_rfl) ?_; intro g25 w2 ge lt hh bb; have hl : w2.heap[g25]? = some (.cells (([1, 97, 0, 1, 98, 192, 0] : List UInt8).map u8v).toArray 5 (0, 0)) := (by simpa [u8v, byteOf_val] using hh); have s25w := own_lit (B := w1.heap.size) ([1, 97, 0, 1, 98, 192, 0]) hl ge 7 rfl (by simp [maxLen]); have s25 := (own_sl s25w).1; have s25lo := bel.size; clear hl; have s25ge := ge; have lz_s25 := bb.size; have bl_nl0_s25 := nl0.bl_new; have bl_nls_s25 := nls.bl_new; have av_nl0_b25 := nl0.av_new ge; have av_nls_b25 := nls.av_new ge; have ob25 := Nat.le_trans bel.size ge; replace nl0 := nl0.below bb; replace nls := nls.below bb; replace bel := bel.trans (bb.mono bel.size); have hb25 := hh; clear hh lt ge bb))
  with_reducible refine (nget_lit (k := 2) (x := 7) (y := 0) _ s25 (by decide) kk1 rfl rfl rfl).mono ?_
  rintro e w3 ⟨v_ga, rfl, gaw, b3⟩
  have y_ga_b25 := Lib.hid (hlt hb25)
  have bl_nl0_ga := nl0.bl_new
  have bl_nls_ga := nls.bl_new
  have bl_s25_ga := s25.bl_new
  have galo := bel.size
  have lz_ga := b3.size
  replace hb25 := blk_u hb25 b3
  replace nl0 := nl0.below b3
  replace nls := nls.below b3
  replace s25 := s25.below b3
  replace s25w := own_under s25w b3
  replace lz_s25 := Nat.le_trans lz_s25 b3.size
  replace bel := bel.trans (b3.mono bel.size)
  clear b3
  obtain ⟨Aga, cga, rfl⟩ := owk_val gaw
  have ga := (owk_sle (by decide) stf_len gaw).1
  have fr_ga := (owk_sle (by decide) stf_len gaw).2
  have av_ga_b25 := fr_ga.av y_ga_b25.out
  clear s25 s25w lz_s25
  go_wp2_with (first | ((with_reducible show wpList _ _ _ (⟨some 31, _, _, _, _, _⟩ :: _) _ _); refine wpList_lit_n rfl 27 5 2 _ rfl #[.int .u8 192, .int .u8 0] (.int .u8 0) Tryd.underlying27 (by kernel_rfl) 1 (by kernel_rfl) (by decide) (by kernel_rfl) ?_; intro g31 w4 ge lt hh bb; have hl : w4.heap[g31]? = some (.cells (([192, 0] : List UInt8).map u8v).toArray 5 (0, 0)) := (by simpa [u8v, byteOf_val] using hh); have s31w := own_lit (B := w3.heap.size) ([192, 0]) hl ge 2 rfl (by simp [maxLen]); have s31 := (own_sl s31w).1; have s31lo := bel.size; clear hl; have s31ge := ge; have lz_s31 := bb.size; have y_s31_b25 := Lib.hid (hlt hb25); have bl_nl0_s31 := nl0.bl_new; have bl_nls_s31 := nls.bl_new; have bl_ga_s31 := ga.bl_new; have d_b25_b31 := ne_new (hlt hb25) ge; have av_nl0_b31 := nl0.av_new ge; have av_nls_b31 := nls.av_new ge; have av_ga_b31 := ga.av_new ge; have of_ga_b31 := owk_new gaw ge; have ob31 := Nat.le_trans bel.size ge; replace hb25 := blk_u hb25 bb; replace nl0 := nl0.below bb; replace nls := nls.below bb; replace ga := ga.below bb; replace gaw := owk_under gaw bb; replace lz_ga := Nat.le_trans lz_ga bb.size; replace bel := bel.trans (bb.mono bel.size); have hb31 := hh; clear hh lt ge bb; have av_s31_b25 := (own_sl s31w).2.av y_s31_b25.out))
  with_reducible refine (nget_lit (k := 0) (x := 0) (y := 4) _ s31 (by decide) kk2 rfl rfl rfl).mono ?_
  rintro e w5 ⟨v_gb, rfl, gbw, b5⟩
  have y_gb_b25 := Lib.hid (hlt hb25)
  have y_gb_b31 := Lib.hid (hlt hb31)
  have bl_nl0_gb := nl0.bl_new
  have bl_nls_gb := nls.bl_new
  have bl_ga_gb := ga.bl_new
  have bl_s31_gb := s31.bl_new
  have gblo := bel.size
  have lz_gb := b5.size
  replace hb25 := blk_u hb25 b5
  replace hb31 := blk_u hb31 b5
  replace nl0 := nl0.below b5
  replace nls := nls.below b5
  replace ga := ga.below b5
  replace gaw := owk_under gaw b5
  replace s31 := s31.below b5
  replace s31w := own_under s31w b5
  replace lz_ga := Nat.le_trans lz_ga b5.size
  replace lz_s31 := Nat.le_trans lz_s31 b5.size
  replace bel := bel.trans (b5.mono bel.size)
  clear b5
  obtain ⟨Agb, cgb, rfl⟩ := owk_val gbw
  have gb := (owk_sle (by decide) stf_len gbw).1
  have fr_gb := (owk_sle (by decide) stf_len gbw).2
  have av_gb_b25 := fr_gb.av y_gb_b25.out
  have av_gb_b31 := fr_gb.av y_gb_b31.out
  clear gb gbw lz_gb
  clear s31 s31w lz_s31
  go_wp2_with (first | ((with_reducible show wpList _ _ _ (⟨some 37, _, _, _, _, _⟩ :: _) _ _); refine wpList_lit_n rfl 27 5 1 _ rfl #[.int .u8 64] (.int .u8 0) Tryd.underlying27 (by kernel_rfl) 1 (by kernel_rfl) (by decide) (by kernel_rfl) ?_; intro g37 w6 ge lt hh bb; have hl : w6.heap[g37]? = some (.cells (([64] : List UInt8).map u8v).toArray 5 (0, 0)) := (by simpa [u8v, byteOf_val] using hh); have s37w := own_lit (B := w5.heap.size) ([64]) hl ge 1 rfl (by simp [maxLen]); have s37 := (own_sl s37w).1; have s37lo := bel.size; clear hl; have s37ge := ge; have lz_s37 := bb.size; have y_s37_b25 := Lib.hid (hlt hb25); have y_s37_b31 := Lib.hid (hlt hb31); have bl_nl0_s37 := nl0.bl_new; have bl_nls_s37 := nls.bl_new; have bl_ga_s37 := ga.bl_new; have d_b25_b37 := ne_new (hlt hb25) ge; have d_b31_b37 := ne_new (hlt hb31) ge; have av_nl0_b37 := nl0.av_new ge; have av_nls_b37 := nls.av_new ge; have av_ga_b37 := ga.av_new ge; have of_ga_b37 := owk_new gaw ge; have ob37 := Nat.le_trans bel.size ge; replace hb25 := blk_u hb25 bb; replace hb31 := blk_u hb31 bb; replace nl0 := nl0.below bb; replace nls := nls.below bb; replace ga := ga.below bb; replace gaw := owk_under gaw bb; replace lz_ga := Nat.le_trans lz_ga bb.size; replace bel := bel.trans (bb.mono bel.size); have hb37 := hh; clear hh lt ge bb; have av_s37_b25 := (own_sl s37w).2.av y_s37_b25.out; have av_s37_b31 := (own_sl s37w).2.av y_s37_b31.out))
  with_reducible refine (nget_lit (k := 0) (x := 0) (y := 4) _ s37 (by decide) kk3 rfl rfl rfl).mono ?_
  rintro e w7 ⟨v_gc, rfl, gcw, b7⟩
  have y_gc_b25 := Lib.hid (hlt hb25)
  have y_gc_b31 := Lib.hid (hlt hb31)
  have y_gc_b37 := Lib.hid (hlt hb37)
  have bl_nl0_gc := nl0.bl_new
  have bl_nls_gc := nls.bl_new
  have bl_ga_gc := ga.bl_new
  have bl_s37_gc := s37.bl_new
  have gclo := bel.size
  have lz_gc := b7.size
  replace hb25 := blk_u hb25 b7
  replace hb31 := blk_u hb31 b7
  replace hb37 := blk_u hb37 b7
  replace nl0 := nl0.below b7
  replace nls := nls.below b7
  replace ga := ga.below b7
  replace gaw := owk_under gaw b7
  replace s37 := s37.below b7
  replace s37w := own_under s37w b7
  replace lz_ga := Nat.le_trans lz_ga b7.size
  replace lz_s37 := Nat.le_trans lz_s37 b7.size
  replace bel := bel.trans (b7.mono bel.size)
  clear b7
  obtain ⟨Agc, cgc, rfl⟩ := owk_val gcw
  have gc := (owk_sle (by decide) stf_len gcw).1
  have fr_gc := (owk_sle (by decide) stf_len gcw).2
  have av_gc_b25 := fr_gc.av y_gc_b25.out
  have av_gc_b31 := fr_gc.av y_gc_b31.out
  have av_gc_b37 := fr_gc.av y_gc_b37.out
  clear gc gcw lz_gc
  clear s37 s37w lz_s37
  go_wp2_with (first | ((with_reducible show wpList _ _ _ (⟨some 43, _, _, _, _, _⟩ :: _) _ _); refine wpList_lit_n rfl 27 5 2 _ rfl #[.int .u8 2, .int .u8 97] (.int .u8 0) Tryd.underlying27 (by kernel_rfl) 1 (by kernel_rfl) (by decide) (by kernel_rfl) ?_; intro g43 w8 ge lt hh bb; have hl : w8.heap[g43]? = some (.cells (([2, 97] : List UInt8).map u8v).toArray 5 (0, 0)) := (by simpa [u8v, byteOf_val] using hh); have s43w := own_lit (B := w7.heap.size) ([2, 97]) hl ge 2 rfl (by simp [maxLen]); have s43 := (own_sl s43w).1; have s43lo := bel.size; clear hl; have s43ge := ge; have lz_s43 := bb.size; have y_s43_b25 := Lib.hid (hlt hb25); have y_s43_b31 := Lib.hid (hlt hb31); have y_s43_b37 := Lib.hid (hlt hb37); have bl_nl0_s43 := nl0.bl_new; have bl_nls_s43 := nls.bl_new; have bl_ga_s43 := ga.bl_new; have d_b25_b43 := ne_new (hlt hb25) ge; have d_b31_b43 := ne_new (hlt hb31) ge; have d_b37_b43 := ne_new (hlt hb37) ge; have av_nl0_b43 := nl0.av_new ge; have av_nls_b43 := nls.av_new ge; have av_ga_b43 := ga.av_new ge; have of_ga_b43 := owk_new gaw ge; have ob43 := Nat.le_trans bel.size ge; replace hb25 := blk_u hb25 bb; replace hb31 := blk_u hb31 bb; replace hb37 := blk_u hb37 bb; replace nl0 := nl0.below bb; replace nls := nls.below bb; replace ga := ga.below bb; replace gaw := owk_under gaw bb; replace lz_ga := Nat.le_trans lz_ga bb.size; replace bel := bel.trans (bb.mono bel.size); have hb43 := hh; clear hh lt ge bb; have av_s43_b25 := (own_sl s43w).2.av y_s43_b25.out; have av_s43_b31 := (own_sl s43w).2.av y_s43_b31.out; have av_s43_b37 := (own_sl s43w).2.av y_s43_b37.out))
  with_reducible refine (nget_lit (k := 0) (x := 0) (y := 3) _ s43 (by decide) kk4 rfl rfl rfl).mono ?_
  rintro e w9 ⟨v_gd, rfl, gdw, b9⟩
  have y_gd_b25 := Lib.hid (hlt hb25)
  have y_gd_b31 := Lib.hid (hlt hb31)
  have y_gd_b37 := Lib.hid (hlt hb37)
  have y_gd_b43 := Lib.hid (hlt hb43)
  have bl_nl0_gd := nl0.bl_new
  have bl_nls_gd := nls.bl_new
  have bl_ga_gd := ga.bl_new
  have bl_s43_gd := s43.bl_new
  have gdlo := bel.size
  have lz_gd := b9.size
  replace hb25 := blk_u hb25 b9
  replace hb31 := blk_u hb31 b9
  replace hb37 := blk_u hb37 b9
  replace hb43 := blk_u hb43 b9
  replace nl0 := nl0.below b9
  replace nls := nls.below b9
  replace ga := ga.below b9
  replace gaw := owk_under gaw b9
  replace s43 := s43.below b9
  replace s43w := own_under s43w b9
  replace lz_ga := Nat.le_trans lz_ga b9.size
  replace lz_s43 := Nat.le_trans lz_s43 b9.size
  replace bel := bel.trans (b9.mono bel.size)
  clear b9
  obtain ⟨Agd, cgd, rfl⟩ := owk_val gdw
  have gd := (owk_sle (by decide) stf_len gdw).1
  have fr_gd := (owk_sle (by decide) stf_len gdw).2
  have av_gd_b25 := fr_gd.av y_gd_b25.out
  have av_gd_b31 := fr_gd.av y_gd_b31.out
  have av_gd_b37 := fr_gd.av y_gd_b37.out
  have av_gd_b43 := fr_gd.av y_gd_b43.out
  clear gd gdw lz_gd
  clear s43 s43w lz_s43
  go_wp2_with fail
  with_reducible refine (nget_lit (k := 0) (x := 0) (y := 3) _ nl0 (by decide) kk5 rfl rfl rfl).mono ?_
  rintro e w10 ⟨v_gf, rfl, gfw, b10⟩
  have y_gf_b25 := Lib.hid (hlt hb25)
  have y_gf_b31 := Lib.hid (hlt hb31)
  have y_gf_b37 := Lib.hid (hlt hb37)
  have y_gf_b43 := Lib.hid (hlt hb43)
  have bl_nl0_gf := nl0.bl_new
  have bl_nls_gf := nls.bl_new
  have bl_ga_gf := ga.bl_new
  have gflo := bel.size
  have lz_gf := b10.size
  replace hb25 := blk_u hb25 b10
  replace hb31 := blk_u hb31 b10
  replace hb37 := blk_u hb37 b10
  replace hb43 := blk_u hb43 b10
  replace nl0 := nl0.below b10
  replace nls := nls.below b10
  replace ga := ga.below b10
  replace gaw := owk_under gaw b10
  replace lz_ga := Nat.le_trans lz_ga b10.size
  replace bel := bel.trans (b10.mono bel.size)
  clear b10
  obtain ⟨Agf, cgf, rfl⟩ := owk_val gfw
  have gf := (owk_sle (by decide) stf_len gfw).1
  have fr_gf := (owk_sle (by decide) stf_len gfw).2
  have av_gf_b25 := fr_gf.av y_gf_b25.out
  have av_gf_b31 := fr_gf.av y_gf_b31.out
  have av_gf_b37 := fr_gf.av y_gf_b37.out
  have av_gf_b43 := fr_gf.av y_gf_b43.out
  clear gf gfw lz_gf
  go_wp2_with (first | ((with_reducible show wpList _ _ _ (⟨some 54, _, _, _, _, _⟩ :: _) _ _); refine wpList_lit_n rfl 23 9 1 _ rfl #[.string ⟨#[]⟩] (.string ⟨#[]⟩) Tryd.underlying23 (by kernel_rfl) 1 (by kernel_rfl) (by decide) (by kernel_rfl) ?_; intro g54 w11 ge lt hh bb; have d_b25_b54 := ne_new (hlt hb25) ge; have d_b31_b54 := ne_new (hlt hb31) ge; have d_b37_b54 := ne_new (hlt hb37) ge; have d_b43_b54 := ne_new (hlt hb43) ge; have av_nl0_b54 := nl0.av_new ge; have av_nls_b54 := nls.av_new ge; have av_ga_b54 := ga.av_new ge; have of_ga_b54 := owk_new gaw ge; have ob54 := Nat.le_trans bel.size ge; replace hb25 := blk_u hb25 bb; replace hb31 := blk_u hb31 bb; replace hb37 := blk_u hb37 bb; replace hb43 := blk_u hb43 bb; replace nl0 := nl0.below bb; replace nls := nls.below bb; replace ga := ga.below bb; replace gaw := owk_under gaw bb; replace lz_ga := Nat.le_trans lz_ga bb.size; replace bel := bel.trans (bb.mono bel.size); have hb54 := hh; clear hh lt ge bb; have p0 : Sle stf 1 w11 (some ⟨g54, 0, none⟩) (1) (1) ([[]]) := sle_lit ([[]]) (by decide) stf_len hb54 rfl (by simp [maxLen])))
  with_reducible refine (nput_bad _ _ _ _ _ _ _ _ p0 (by decide) kk6).mono ?_
  rintro e w12 ⟨rfl, b12⟩
  replace hb25 := blk_u hb25 b12
  replace hb31 := blk_u hb31 b12
  replace hb37 := blk_u hb37 b12
  replace hb43 := blk_u hb43 b12
  replace hb54 := blk_u hb54 b12
  replace nl0 := nl0.below b12
  replace nls := nls.below b12
  replace ga := ga.below b12
  replace gaw := owk_under gaw b12
  replace p0 := p0.below b12
  replace lz_ga := Nat.le_trans lz_ga b12.size
  replace bel := bel.trans (b12.mono bel.size)
  clear b12
  go_wp2_with fail
  with_reducible refine (nparse_lit (s := [46]) (k := 0) _ kk7 rfl).mono ?_
  rintro e w13 ⟨v_pr, rfl, prw, b13⟩
  have y_pr_b25 := Lib.hid (hlt hb25)
  have y_pr_b31 := Lib.hid (hlt hb31)
  have y_pr_b37 := Lib.hid (hlt hb37)
  have y_pr_b43 := Lib.hid (hlt hb43)
  have y_pr_b54 := Lib.hid (hlt hb54)
  have bl_nl0_pr := nl0.bl_new
  have bl_nls_pr := nls.bl_new
  have bl_ga_pr := ga.bl_new
  have bl_p0_pr := p0.bl_new
  have prlo := bel.size
  have lz_pr := b13.size
  replace hb25 := blk_u hb25 b13
  replace hb31 := blk_u hb31 b13
  replace hb37 := blk_u hb37 b13
  replace hb43 := blk_u hb43 b13
  replace hb54 := blk_u hb54 b13
  replace nl0 := nl0.below b13
  replace nls := nls.below b13
  replace ga := ga.below b13
  replace gaw := owk_under gaw b13
  replace p0 := p0.below b13
  replace lz_ga := Nat.le_trans lz_ga b13.size
  replace bel := bel.trans (b13.mono bel.size)
  clear b13
  obtain ⟨Apr, cpr, rfl⟩ := owk_val prw
  have pr := (owk_sle (by decide) stf_len prw).1
  have fr_pr := (owk_sle (by decide) stf_len prw).2
  have av_pr_b25 := fr_pr.av y_pr_b25.out
  have av_pr_b31 := fr_pr.av y_pr_b31.out
  have av_pr_b37 := fr_pr.av y_pr_b37.out
  have av_pr_b43 := fr_pr.av y_pr_b43.out
  have av_pr_b54 := fr_pr.av y_pr_b54.out
  go_wp2_with fail
  with_reducible refine (nparse_lit (s := [97, 46, 46, 98]) (k := 0) _ kk8 rfl).mono ?_
  rintro e w14 ⟨v_ps, rfl, psw, b14⟩
  have y_ps_b25 := Lib.hid (hlt hb25)
  have y_ps_b31 := Lib.hid (hlt hb31)
  have y_ps_b37 := Lib.hid (hlt hb37)
  have y_ps_b43 := Lib.hid (hlt hb43)
  have y_ps_b54 := Lib.hid (hlt hb54)
  have bl_nl0_ps := nl0.bl_new
  have bl_nls_ps := nls.bl_new
  have bl_ga_ps := ga.bl_new
  have bl_p0_ps := p0.bl_new
  have bl_pr_ps := pr.bl_new
  have pslo := bel.size
  have lz_ps := b14.size
  replace hb25 := blk_u hb25 b14
  replace hb31 := blk_u hb31 b14
  replace hb37 := blk_u hb37 b14
  replace hb43 := blk_u hb43 b14
  replace hb54 := blk_u hb54 b14
  replace nl0 := nl0.below b14
  replace nls := nls.below b14
  replace ga := ga.below b14
  replace gaw := owk_under gaw b14
  replace p0 := p0.below b14
  replace pr := pr.below b14
  replace prw := owk_under prw b14
  replace lz_ga := Nat.le_trans lz_ga b14.size
  replace lz_pr := Nat.le_trans lz_pr b14.size
  replace bel := bel.trans (b14.mono bel.size)
  clear b14
  obtain ⟨Aps, cps, rfl⟩ := owk_val psw
  have ps := (owk_sle (by decide) stf_len psw).1
  have fr_ps := (owk_sle (by decide) stf_len psw).2
  have av_ps_b25 := fr_ps.av y_ps_b25.out
  have av_ps_b31 := fr_ps.av y_ps_b31.out
  have av_ps_b37 := fr_ps.av y_ps_b37.out
  have av_ps_b43 := fr_ps.av y_ps_b43.out
  have av_ps_b54 := fr_ps.av y_ps_b54.out
  clear ps psw lz_ps
  go_wp2_with (first | ((with_reducible show wpList _ _ _ (⟨some 74, _, _, _, _, _⟩ :: _) _ _); refine wpList_wanted (by rfl) (fun K hK => ?_); refine wp_lit_n 23 9 2 _ rfl #[.string ⟨#[98]⟩, .string ⟨#[97]⟩] (.string ⟨#[]⟩) Tryd.underlying23 (by kernel_rfl) 1 (by kernel_rfl) (by decide) (by kernel_rfl) ?_; intro g74 w15 ge lt hh bb; have d_b25_b74 := ne_new (hlt hb25) ge; have d_b31_b74 := ne_new (hlt hb31) ge; have d_b37_b74 := ne_new (hlt hb37) ge; have d_b43_b74 := ne_new (hlt hb43) ge; have d_b54_b74 := ne_new (hlt hb54) ge; have av_nl0_b74 := nl0.av_new ge; have av_nls_b74 := nls.av_new ge; have av_ga_b74 := ga.av_new ge; have of_ga_b74 := owk_new gaw ge; have av_p0_b74 := p0.av_new ge; have av_pr_b74 := pr.av_new ge; have of_pr_b74 := owk_new prw ge; have ob74 := Nat.le_trans bel.size ge; replace hb25 := blk_u hb25 bb; replace hb31 := blk_u hb31 bb; replace hb37 := blk_u hb37 bb; replace hb43 := blk_u hb43 bb; replace hb54 := blk_u hb54 bb; replace nl0 := nl0.below bb; replace nls := nls.below bb; replace ga := ga.below bb; replace gaw := owk_under gaw bb; replace p0 := p0.below bb; replace pr := pr.below bb; replace prw := owk_under prw bb; replace lz_ga := Nat.le_trans lz_ga bb.size; replace lz_pr := Nat.le_trans lz_pr bb.size; replace bel := bel.trans (bb.mono bel.size); have hb74 := hh; clear hh lt ge bb; have x1 : Sle stf 1 w15 (some ⟨g74, 0, none⟩) (2) (2) ([[98], [97]]) := sle_lit ([[98], [97]]) (by decide) stf_len hb74 rfl (by simp [maxLen]); refine hK _ _ ?_; clear hK K))
  with_reducible refine (lexact_any _ _ _ _ _ _ _ _ ga x1 (by decide)).mono ?_
  rintro e w16 ⟨rfl, b16⟩
  replace hb25 := blk_u hb25 b16
  replace hb31 := blk_u hb31 b16
  replace hb37 := blk_u hb37 b16
  replace hb43 := blk_u hb43 b16
  replace hb54 := blk_u hb54 b16
  replace hb74 := blk_u hb74 b16
  replace nl0 := nl0.below b16
  replace nls := nls.below b16
  replace ga := ga.below b16
  replace gaw := owk_under gaw b16
  replace p0 := p0.below b16
  replace pr := pr.below b16
  replace prw := owk_under prw b16
  replace x1 := x1.below b16
  replace lz_ga := Nat.le_trans lz_ga b16.size
  replace lz_pr := Nat.le_trans lz_pr b16.size
  replace bel := bel.trans (b16.mono bel.size)
  clear b16
  go_wp2_with fail
  with_reducible refine (ntext_lit _ nls (by decide) kk0).mono ?_
  rintro e w17 ⟨rfl, b17⟩
  replace hb25 := blk_u hb25 b17
  replace hb31 := blk_u hb31 b17
  replace hb37 := blk_u hb37 b17
  replace hb43 := blk_u hb43 b17
  replace hb54 := blk_u hb54 b17
  replace hb74 := blk_u hb74 b17
  replace nl0 := nl0.below b17
  replace nls := nls.below b17
  replace ga := ga.below b17
  replace gaw := owk_under gaw b17
  replace p0 := p0.below b17
  replace pr := pr.below b17
  replace prw := owk_under prw b17
  replace x1 := x1.below b17
  replace lz_ga := Nat.le_trans lz_ga b17.size
  replace lz_pr := Nat.le_trans lz_pr b17.size
  replace bel := bel.trans (b17.mono bel.size)
  clear b17
  go_wp2_with (first | ((with_reducible show wpList _ _ _ (⟨some 115, _, _, _, _, _⟩ :: _) _ _); refine wpList_wanted (by rfl) (fun K hK => ?_); refine wp_lit_n 23 9 2 _ rfl #[.string ⟨#[97, 32, 98]⟩, .string ⟨#[46]⟩] (.string ⟨#[]⟩) Tryd.underlying23 (by kernel_rfl) 1 (by kernel_rfl) (by decide) (by kernel_rfl) ?_; intro g115 w18 ge lt hh bb; have d_b25_b115 := ne_new (hlt hb25) ge; have d_b31_b115 := ne_new (hlt hb31) ge; have d_b37_b115 := ne_new (hlt hb37) ge; have d_b43_b115 := ne_new (hlt hb43) ge; have d_b54_b115 := ne_new (hlt hb54) ge; have d_b74_b115 := ne_new (hlt hb74) ge; have av_nl0_b115 := nl0.av_new ge; have av_nls_b115 := nls.av_new ge; have av_ga_b115 := ga.av_new ge; have of_ga_b115 := owk_new gaw ge; have av_p0_b115 := p0.av_new ge; have av_pr_b115 := pr.av_new ge; have of_pr_b115 := owk_new prw ge; have av_x1_b115 := x1.av_new ge; have ob115 := Nat.le_trans bel.size ge; replace hb25 := blk_u hb25 bb; replace hb31 := blk_u hb31 bb; replace hb37 := blk_u hb37 bb; replace hb43 := blk_u hb43 bb; replace hb54 := blk_u hb54 bb; replace hb74 := blk_u hb74 bb; replace nl0 := nl0.below bb; replace nls := nls.below bb; replace ga := ga.below bb; replace gaw := owk_under gaw bb; replace p0 := p0.below bb; replace pr := pr.below bb; replace prw := owk_under prw bb; replace x1 := x1.below bb; replace lz_ga := Nat.le_trans lz_ga bb.size; replace lz_pr := Nat.le_trans lz_pr bb.size; replace bel := bel.trans (bb.mono bel.size); have hb115 := hh; clear hh lt ge bb; have x2 : Sle stf 1 w18 (some ⟨g115, 0, none⟩) (2) (2) ([[97, 32, 98], [46]]) := sle_lit ([[97, 32, 98], [46]]) (by decide) stf_len hb115 rfl (by simp [maxLen]); refine hK _ _ ?_; clear hK K))
  with_reducible refine (ntext_lit _ x2 (by decide) kk9).mono ?_
  rintro e w19 ⟨rfl, b19⟩
  replace hb25 := blk_u hb25 b19
  replace hb31 := blk_u hb31 b19
  replace hb37 := blk_u hb37 b19
  replace hb43 := blk_u hb43 b19
  replace hb54 := blk_u hb54 b19
  replace hb74 := blk_u hb74 b19
  replace hb115 := blk_u hb115 b19
  replace nl0 := nl0.below b19
  replace nls := nls.below b19
  replace ga := ga.below b19
  replace gaw := owk_under gaw b19
  replace p0 := p0.below b19
  replace pr := pr.below b19
  replace prw := owk_under prw b19
  replace x1 := x1.below b19
  replace x2 := x2.below b19
  replace lz_ga := Nat.le_trans lz_ga b19.size
  replace lz_pr := Nat.le_trans lz_pr b19.size
  replace bel := bel.trans (b19.mono bel.size)
  clear b19
  go_wp2_with fail
  go_ret
  exact ⟨rfl, bel⟩
end Go.Proofs.YtholgadifhjmgaaDoor
