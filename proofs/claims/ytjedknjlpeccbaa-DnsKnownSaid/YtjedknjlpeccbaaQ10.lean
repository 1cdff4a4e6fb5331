/- Texts put together: Dr4, Dw0. -/
import Derived.Test.YtjedknjlpeccbaaQ1
import Derived.Test.YtjedknjlpeccbaaQ9
namespace Go.Proofs.Ytjedknjlpeccbaa
open Go.RowKit

set_option linter.unusedVariables false in
set_option linter.unusedSimpArgs false in
set_option maxRecDepth 100000 in
set_option maxHeartbeats 16000000 in
theorem rfit_any (x : Int) (w : World) : Calls Try.prog 36 #[.int .i64 x] w fun e w' => e = .returned (.bool (h16 x)) ∧ w = w' := by
  have bel := Below.refl w.heap.size w
  go_enter Try.func36, Try.ntmps36
  by_cases h0 : 0 ≤ x
  rotate_left
  · have HF : Hid (h16 x = false) := Lib.hid (by unfold h16; rw [decide_eq_false h0]; rfl)
    replace h0 : decide (0 ≤ x) = false := decide_eq_false h0
    go_wp2_with fail
    go_ret
    exact ⟨by rw [HF.out]; rfl, rfl⟩
  by_cases h1 : x ≤ 65535
  · have HH0 := Lib.hid h0
    have HH1 := Lib.hid h1
    go_wp2_with fail
    go_ret
    exact ⟨by unfold h16; rw [decide_eq_true HH0.out, decide_eq_true HH1.out]; rfl, rfl⟩
  have HF : Hid (h16 x = false) := Lib.hid (by unfold h16; rw [decide_eq_false h1, Bool.and_false])
  replace h1 : decide (x ≤ 65535) = false := decide_eq_false h1
  go_wp2_with fail
  go_ret
  exact ⟨by rw [HF.out]; rfl, rfl⟩
theorem rfit_is {x : Int} {b : Bool} (w : World) (h : h16 x = b) : Calls Try.prog 36 #[.int .i64 x] w fun e w' => e = .returned (.bool b) ∧ w = w' := by
  subst h
  exact rfit_any x w
theorem rgood_is {A : Option Addr} {n c : Nat} {l : List (List UInt8)} {b : Bool} (w : World) (la : Sle stf 1 w A n c l) (hn : n ≤ 100000) (h : goodN l = b) : Calls Try.prog 39 #[.slice A n c] w fun e w' => e = .returned (.bool b) ∧ w = w' := by
  subst h
  exact rgood_any A n c l w la hn
set_option linter.unusedVariables false in
set_option linter.unusedSimpArgs false in
set_option maxRecDepth 100000 in
set_option maxHeartbeats 16000000 in
theorem rgoods_any {A : Option Addr} {n c : Nat} {hs : List Rh} {L : List Rn} (w : World) (sr : Sle rE 5 w A n c hs) (rr : RRs w hs L) (hn : n ≤ 1000) (hrb : ∀ r ∈ L, r.name.length ≤ 100000 ∧ r.data.length ≤ 2100 ∧ 0 ≤ r.ttl ∧ r.ttl < 4294967296) : Calls Try.prog 37 #[.slice A n c] w fun e w' => e = .returned (.bool (L.all okR)) ∧ Below w.heap.size w w' := by
  have BLS := sr.bl_new
  have HRL := Lib.hid sr.1
  have HRR := Lib.hid rr
  have HRB := Lib.hid hrb
  have HLL : Hid (L.length = n) := Lib.hid (by rw [← rr.1]; exact sr.1)
  have n0 : (0 : Int) ≤ n := by omega
  have n1 : (n : Int) ≤ 1000 := by omega
  clear rr hrb
  have bel := Below.refl w.heap.size w
  go_enter Try.func37, Try.ntmps37
  go_wp2_with fail
  go_loopg [3] (n) (fun gk s3 wr => ∃ i : Nat, gk = n - i ∧ i ≤ n ∧ Hid (∀ r ∈ L.take i, okR r = true) ∧ s3 = .int .i64 (i : Int) ∧ w = wr)
  case atStart => exact ⟨0, Nat.sub_zero _, Nat.zero_le _, Lib.hid (by simp), rfl, rfl⟩
  case round =>
    obtain ⟨i, HGK, hi, HO, rfl, rfl⟩ := hrel
    have HGK_ := Lib.hid HGK
    clear HGK
    have i0 : (0 : Int) ≤ i := by omega
    by_cases hik : i < n
    rotate_left
    · have HI : Hid (n ≤ i) := Lib.hid (by omega)
      replace hik : decide (i < n) = false := decide_eq_false hik
      have HA : Hid (L.all okR = true) := Lib.hid (List.all_eq_true.2 (by have h_ := HO.out; rw [List.take_of_length_le (by have h1_ := HI.out; have h2_ := HLL.out; omega)] at h_; exact h_))
      go_wp2_with fail
      go_ret
      exact ⟨by rw [HA.out]; rfl, bel⟩
    obtain ⟨gE, oE, hp_⟩ := sr.place (by omega)
    subst hp_
    obtain ⟨x, hx_⟩ : ∃ u_, hs[i]? = some u_ := ⟨_, List.getElem?_eq_getElem (by rw [HRL.out]; exact hik)⟩
    have HX := Lib.hid hx_
    obtain ⟨r1, hl_, hr_⟩ := HRR.out.at hx_
    have HLI := Lib.hid hl_
    have HXE : Hid ((⟨r1.name, x.t, x.k, x.u, r1.data⟩ : Rn) = r1) := Lib.hid (by rw [hr_.1, hr_.2.1, hr_.2.2.1])
    have HSN : Hid (Sle stf 1 w x.A x.n x.c r1.name) := Lib.hid hr_.2.2.2.1
    have HSD : Hid (Sl w x.B x.d x.e r1.data) := Lib.hid hr_.2.2.2.2
    have HRBX := Lib.hid (HRB.out r1 (List.mem_of_getElem? hl_))
    have HXN : Hid (x.n ≤ 100000) := Lib.hid (by have h_ := HRBX.out.1; have h1_ := hr_.2.2.2.1.1; omega)
    have HDL : Hid (r1.data.length = x.d) := Lib.hid hr_.2.2.2.2.1
    have HDB : (x.d : Int) ≤ 2100 := by have h_ := HRBX.out.2.1; have h1_ := HDL.out; omega
    have HD0 : (0 : Int) ≤ x.d := by omega
    have HU0 : Hid (0 ≤ x.u) := Lib.hid (by rw [hr_.2.2.1]; exact HRBX.out.2.2.1)
    have HU1 : Hid (x.u < 4294967296) := Lib.hid (by rw [hr_.2.2.1]; exact HRBX.out.2.2.2)
    clear hx_ hl_ hr_
    rcases (by decide : ∀ b : Bool, b = true ∨ b = false) (goodN r1.name) with hg_ | hg_
    rotate_left
    · have HG := Lib.hid hg_
      have HA : Hid (L.all okR = false) := Lib.hid (List.all_eq_false.2 ⟨r1, List.mem_of_getElem? HLI.out, by rw [show okR r1 = false by rw [← HXE.out]; unfold okR; rw [hg_]; rfl]; decide⟩)
      clear hg_
      have R14 := Sle.cellk0 sr HX.out _ rfl
      go_wp2_with fail
      clear R14
      with_reducible refine (rgood_is _ HSN.out HXN.out HG.out).mono ?_
      rintro e _ ⟨rfl, rfl⟩
      go_wp2_with fail
      go_ret
      exact ⟨by rw [HA.out]; rfl, bel⟩
    have HG := Lib.hid hg_
    clear hg_
    have R14 := Sle.cellk0 sr HX.out _ rfl
    go_wp2_with fail
    clear R14
    with_reducible refine (rgood_is _ HSN.out HXN.out HG.out).mono ?_
    rintro e _ ⟨rfl, rfl⟩
    rcases (by decide : ∀ b : Bool, b = true ∨ b = false) (h16 x.t) with ht_ | ht_
    rotate_left
    · have HT := Lib.hid ht_
      have HA : Hid (L.all okR = false) := Lib.hid (List.all_eq_false.2 ⟨r1, List.mem_of_getElem? HLI.out, by rw [show okR r1 = false by rw [← HXE.out]; unfold okR; rw [ht_]; simp]; decide⟩)
      clear ht_
      have R22 := Sle.cellk sr HX.out 1 _ rfl
      go_wp2_with fail
      clear R22
      with_reducible refine (rfit_is _ HT.out).mono ?_
      rintro e _ ⟨rfl, rfl⟩
      go_wp2_with fail
      go_ret
      exact ⟨by rw [HA.out]; rfl, bel⟩
    have HT := Lib.hid ht_
    clear ht_
    have R22 := Sle.cellk sr HX.out 1 _ rfl
    go_wp2_with fail
    clear R22
    with_reducible refine (rfit_is _ HT.out).mono ?_
    rintro e _ ⟨rfl, rfl⟩
    rcases (by decide : ∀ b : Bool, b = true ∨ b = false) (h16 x.k) with hk_ | hk_
    rotate_left
    · have HK := Lib.hid hk_
      have HA : Hid (L.all okR = false) := Lib.hid (List.all_eq_false.2 ⟨r1, List.mem_of_getElem? HLI.out, by rw [show okR r1 = false by rw [← HXE.out]; unfold okR; rw [hk_]; simp]; decide⟩)
      clear hk_
      have R31 := Sle.cellk sr HX.out 2 _ rfl
      go_wp2_with fail
      clear R31
      with_reducible refine (rfit_is _ HK.out).mono ?_
      rintro e _ ⟨rfl, rfl⟩
      go_wp2_with fail
      go_ret
      exact ⟨by rw [HA.out]; rfl, bel⟩
    have HK := Lib.hid hk_
    have t42 : decide ((65535 : Int) < (x.d : Int)) = false := decide_eq_false (by omega)
    clear hk_
    have R31 := Sle.cellk sr HX.out 2 _ rfl
    go_wp2_with fail
    clear R31
    with_reducible refine (rfit_is _ HK.out).mono ?_
    rintro e _ ⟨rfl, rfl⟩
    have R40 := Sle.cellk sr HX.out 4 _ rfl
    go_wp2_with fail
    clear R40
    go_roundg (n - (i + 1))
    case measure => have := HGK_.out; omega
    case rel => exact ⟨i + 1, rfl, hik, Lib.hid (ok_step HO.out HLI.out (by rw [← HXE.out]; exact okR_of (okQ_of HG.out HT.out HK.out) (by have h_ := HRBX.out.2.1; omega))), by go_num, rfl⟩
theorem rgoods_is {A : Option Addr} {n c : Nat} {hs : List Rh} {L : List Rn} (w : World) (sr : Sle rE 5 w A n c hs) (rr : RRs w hs L) (hn : n ≤ 1000) (hrb : ∀ r ∈ L, r.name.length ≤ 100000 ∧ r.data.length ≤ 2100 ∧ 0 ≤ r.ttl ∧ r.ttl < 4294967296) {b : Bool} (h : L.all okR = b) : Calls Try.prog 37 #[.slice A n c] w fun e w' => e = .returned (.bool b) ∧ Below w.heap.size w w' := by
  subst h
  exact rgoods_any w sr rr hn hrb
theorem sl_to {w : World} {A : Option Addr} {n c : Nat} {l l' : List UInt8} (h : Sl w A n c l) (e : l = l') : Sl w A n c l' := e ▸ h
theorem drop_nx {α : Type} {l : List α} {i : Nat} {x : α} (h : l[i]? = some x) : l.drop i = x :: l.drop (i + 1) := by
  obtain ⟨hi, e⟩ := List.getElem?_eq_some_iff.1 h
  rw [List.drop_eq_getElem_cons hi, e]
set_option linter.unusedVariables false in
set_option linter.unusedSimpArgs false in
set_option maxRecDepth 100000 in
set_option maxHeartbeats 16000000 in
theorem rputs_any {A : Option Addr} {n c : Nat} {hs : List Rh} {L : List Rn} (w : World) (sr : Sle rE 5 w A n c hs) (rr : RRs w hs L) (hn : n ≤ 1000) (hrb : ∀ r ∈ L, r.name.length ≤ 100000 ∧ r.data.length ≤ 2100 ∧ 0 ≤ r.ttl ∧ r.ttl < 4294967296) {B : Option Addr} {nb cb : Nat} {l0 : List UInt8} (sb : Sl w B nb cb l0) (hnb : nb ≤ 100000) (hok : ∀ r ∈ L, okR r = true) : Calls Try.prog 41 #[.slice B nb cb, .slice A n c] w fun e w' => ∃ B' n' c', e = .returned (.slice B' n' c') ∧ n' ≤ 100000 ∧ Sl w' B' n' c' (cutE l0 L) ∧ Below w.heap.size w w' := by
  have BLS := sr.bl_new
  have HRL := Lib.hid sr.1
  have HRR := Lib.hid rr
  have HRB := Lib.hid hrb
  have HLL : Hid (L.length = n) := Lib.hid (by rw [← rr.1]; exact sr.1)
  have n0 : (0 : Int) ≤ n := by omega
  have n1 : (n : Int) ≤ 1000 := by omega
  clear rr hrb
  have HOK := Lib.hid hok
  clear hok
  obtain ⟨ii, hii, hz0, hz1, hz2⟩ := info_parts Try.info5
  have bel := Below.refl w.heap.size w
  go_enter Try.func41, Try.ntmps41
  go_wp2_with fail
  go_loopg [0, 5] (n) (fun gk s0 s5 wr => ∃ i : Nat, ∃ B1 : Option Addr, ∃ n1 : Nat, ∃ c1 : Nat, ∃ l1 : List UInt8, gk = n - i ∧ i ≤ n ∧ Hid (cutE l1 (L.drop i) = cutE l0 L) ∧ Hid (n1 ≤ 100000) ∧ s0 = .slice B1 n1 c1 ∧ s5 = .int .i64 (i : Int) ∧ Sle rE 5 wr (A) (n) (c) (hs) ∧ Sl wr (B1) (n1) (c1) (l1) ∧ Below w.heap.size w wr)
  case atStart => exact ⟨0, B, nb, cb, l0, Nat.sub_zero _, Nat.zero_le _, Lib.hid (by rw [List.drop_zero]), Lib.hid hnb, rfl, rfl, sr, sb, bel⟩
  case round =>
    clear sr sb bel
    obtain ⟨i, B1, n1, c1, l1, HGK, hi, HC, HN1, rfl, rfl, sr, sb, bel⟩ := hrel
    have HGK_ := Lib.hid HGK
    clear HGK
    have i0 : (0 : Int) ≤ i := by omega
    have n10 : (0 : Int) ≤ n1 := by omega
    have n11 : (n1 : Int) ≤ 100000 := by have h_ := HN1.out; omega
    by_cases hik : i < n
    rotate_left
    · have HI : Hid (n ≤ i) := Lib.hid (by omega)
      replace hik : decide (i < n) = false := decide_eq_false hik
      have HE : Hid (cutE l0 L = l1) := Lib.hid (by rw [← HC.out, List.drop_eq_nil_of_le (by have h1_ := HI.out; have h2_ := HLL.out; omega)]; rfl)
      go_wp2_with fail
      go_ret
      exact ⟨_, _, _, rfl, HN1.out, by rw [HE.out]; exact sb, bel⟩
    obtain ⟨gE, oE, hp_⟩ := sr.place (by omega)
    subst hp_
    obtain ⟨x, hx_⟩ : ∃ u_, hs[i]? = some u_ := ⟨_, List.getElem?_eq_getElem (by rw [HRL.out]; exact hik)⟩
    have HX := Lib.hid hx_
    obtain ⟨r1, hl_, hr_⟩ := HRR.out.at hx_
    have HLI := Lib.hid hl_
    have HXE : Hid ((⟨r1.name, x.t, x.k, x.u, r1.data⟩ : Rn) = r1) := Lib.hid (by rw [hr_.1, hr_.2.1, hr_.2.2.1])
    have HSN : Hid (Sle stf 1 w x.A x.n x.c r1.name) := Lib.hid hr_.2.2.2.1
    have HSD : Hid (Sl w x.B x.d x.e r1.data) := Lib.hid hr_.2.2.2.2
    have HRBX := Lib.hid (HRB.out r1 (List.mem_of_getElem? hl_))
    have HXN : Hid (x.n ≤ 100000) := Lib.hid (by have h_ := HRBX.out.1; have h1_ := hr_.2.2.2.1.1; omega)
    have HDL : Hid (r1.data.length = x.d) := Lib.hid hr_.2.2.2.2.1
    have HDB : (x.d : Int) ≤ 2100 := by have h_ := HRBX.out.2.1; have h1_ := HDL.out; omega
    have HD0 : (0 : Int) ≤ x.d := by omega
    have HU0 : Hid (0 ≤ x.u) := Lib.hid (by rw [hr_.2.2.1]; exact HRBX.out.2.2.1)
    have HU1 : Hid (x.u < 4294967296) := Lib.hid (by rw [hr_.2.2.1]; exact HRBX.out.2.2.2)
    clear hx_ hl_ hr_
    have HLN := Lib.hid sb.1
    by_cases h2 : n1 ≤ 2000
    rotate_left
    · have HN2 : Hid (2000 < n1) := Lib.hid (by omega)
      have t14 : (2000 : Int) < (n1 : Int) := by omega
      have HE : Hid (cutE l0 L = l1) := Lib.hid (by rw [← HC.out, drop_nx HLI.out, cutE, if_pos (by have h_ := HN2.out; have h1_ := HLN.out; omega)])
      clear h2
      go_wp2_with fail
      go_ret
      exact ⟨_, _, _, rfl, HN1.out, by rw [HE.out]; exact sb, bel⟩
    have HN2 := Lib.hid h2
    have t14 : decide ((2000 : Int) < (n1 : Int)) = false := decide_eq_false (by omega)
    have HNL : Hid (n1 ≤ 100000) := Lib.hid (by omega)
    have HG : Hid (goodN r1.name = true) := Lib.hid (okQ_is (okR_is (HOK.out r1 (List.mem_of_getElem? HLI.out))).1).1
    obtain ⟨z, hz_⟩ : ∃ u_, (l1 ++ putN r1.name).length = u_ := ⟨_, rfl⟩
    have HPL := Lib.hid hz_
    have HZB : Hid (z ≤ 2255) := Lib.hid (by have h_ := good_size HG.out; have h1_ := HLN.out; have h2_ := put_len r1.name; rw [List.length_append] at hz_; omega)
    have z0 : (0 : Int) ≤ z := by omega
    have z1 : (z : Int) ≤ 2255 := by have h_ := HZB.out; omega
    clear h2 hz_
    have R21 := Sle.cellk0 sr HX.out _ rfl
    go_wp2_with fail
    clear R21
    with_reducible refine (rput_lit _ sb (HSN.out.below bel) HNL.out HG.out rfl HPL.out).mono ?_
    rintro e w1 ⟨v_pa, rfl, paw, b1⟩
    have bl_sr_pa := sr.bl_new
    have bl_sb_pa := sb.bl_new
    have palo := bel.size
    have lz_pa := b1.size
    replace sr := sr.below b1
    replace sb := sb.below b1
    replace bel := bel.trans (b1.mono bel.size)
    clear b1
    obtain ⟨Apa, cpa, rfl⟩ := own_val paw
    have pa := (own_sl paw).1
    have fr_pa := (own_sl paw).2
    go_wp2_with fail
    replace bel := bel.drew
    replace sr := sr.drew
    replace sb := sb.drew
    replace pa := pa.drew
    replace paw : w1.drew.ownsRow _ _ _ _ _ _ := paw
    replace lz_pa : _ ≤ w1.drew.heap.size := lz_pa
    refine wp_region_held_drew (S := fun W => Sle rE 5 W (some ⟨gE, oE, none⟩) (n) (c) (hs)) (by kernel_rfl) sr (fun hH => ?_)
    generalize w1.drew = w2 at bel sr sb pa paw lz_pa hH ⊢
    refine wpAnyH_take (i := 0) (v := ?_) rfl (by kernel_rfl) (by kernel_rfl) (by kernel_rfl) (fun _ _ _ h => h) (Or.inl ⟨by rfl, ?_⟩) hH ?_
    rotate_left
    · ((intro W hW; clear hW; go_simp) <;> with_reducible rfl)
    simp only [Act.put, List.getElem_toArray, List.getElem_cons_zero, List.setIfInBounds_toArray, List.set_cons_zero, List.set_cons_succ]
    refine wpAnyH_take (i := 1) (v := ?_) rfl (by kernel_rfl) (by kernel_rfl) (by kernel_rfl) (fun _ _ _ h => h) (Or.inl ⟨by rfl, ?_⟩) hH ?_
    rotate_left
    · ((intro W hW; clear hW; go_simp) <;> with_reducible rfl)
    simp only [sq3, sq4]
    refine wpAnyH_take (i := 2) (v := ?_) rfl (by kernel_rfl) (by kernel_rfl) (by kernel_rfl) (fun _ _ _ h => h) (Or.inl ⟨by rfl, ?_⟩) hH ?_
    rotate_left
    · ((intro W hW; clear hW; go_simp) <;> with_reducible rfl)
    simp only [sq3, sq4]
    refine wpAnyH_take (i := 3) (v := ?_) rfl (by kernel_rfl) (by kernel_rfl) (by kernel_rfl) (fun _ _ _ h => h) (Or.inl ⟨by rfl, ?_⟩) hH ?_
    rotate_left
    · ((intro W hW; clear hW; go_simp) <;> with_reducible rfl)
    simp only [sq3, sq4]
    refine wpAnyH_take (i := 4) (v := ?_) rfl (by kernel_rfl) (by kernel_rfl) (by kernel_rfl) (fun _ _ _ h => h) (Or.inl ⟨by rfl, ?_⟩) hH ?_
    rotate_left
    · ((intro W hW; clear hW; go_simp) <;> with_reducible rfl)
    simp only [sq3, sq4]
    refine wpAnyH_take (i := 5) (v := ?_) rfl (by kernel_rfl) (by kernel_rfl) (by kernel_rfl) (fun _ _ _ h => h) (Or.inl ⟨by rfl, ?_⟩) hH ?_
    rotate_left
    · ((intro W hW; have hk := Sle.cellk (hW) HX.out 1 _ rfl; clear hW; go_simp) <;> with_reducible rfl)
    simp only [sq3, sq4]
    refine wpAnyH_take (i := 7) (v := ?_) rfl (by kernel_rfl) (by kernel_rfl) (by kernel_rfl) (fun _ _ _ h => h) (Or.inl ⟨by rfl, ?_⟩) hH ?_
    rotate_left
    · ((intro W hW; clear hW; go_simp) <;> with_reducible rfl)
    simp only [sq3, sq4]
    refine wpAnyH_take (i := 8) (v := ?_) rfl (by kernel_rfl) (by kernel_rfl) (by kernel_rfl) (fun _ _ _ h => h) (Or.inl ⟨by rfl, ?_⟩) hH ?_
    rotate_left
    · ((intro W hW; clear hW; go_simp) <;> with_reducible rfl)
    simp only [sq3, sq4]
    refine wpAnyH_take (i := 9) (v := ?_) rfl (by kernel_rfl) (by kernel_rfl) (by kernel_rfl) (fun _ _ _ h => h) (Or.inl ⟨by rfl, ?_⟩) hH ?_
    rotate_left
    · ((intro W hW; clear hW; go_simp) <;> with_reducible rfl)
    simp only [sq3, sq4]
    refine wpAnyH_take (i := 10) (v := ?_) rfl (by kernel_rfl) (by kernel_rfl) (by kernel_rfl) (fun _ _ _ h => h) (Or.inl ⟨by rfl, ?_⟩) hH ?_
    rotate_left
    · ((intro W hW; clear hW; go_simp) <;> with_reducible rfl)
    simp only [sq3, sq4]
    refine wpAnyH_take (i := 11) (v := ?_) rfl (by kernel_rfl) (by kernel_rfl) (by kernel_rfl) (fun _ _ _ h => h) (Or.inl ⟨by rfl, ?_⟩) hH ?_
    rotate_left
    · ((intro W hW; have hk := Sle.cellk (hW) HX.out 2 _ rfl; clear hW; go_simp) <;> with_reducible rfl)
    simp only [sq3, sq4]
    refine wpAnyH_ready (rs := [6]) (by kernel_rfl) (by simp) ?_
    refine AllReadyH.cons (o := _) rfl (fun K hK => ?_) AllReadyH.nil
    simp only [sq3]
    go_simp
    with_reducible refine (r16_oto _ (z) (z + 2) _ _ _ _ rfl pa (by omega)).mono ?_
    rintro e w3 ⟨v_pb, rfl, pbw, b3⟩
    dsimp only
    have bl_sr_pb := sr.bl_new
    have bl_sb_pb := sb.bl_new
    have bl_pa_pb := pa.bl_new
    have pblo := bel.size
    have lz_pb := b3.size
    replace sr := sr.below b3
    replace sb := sb.below b3
    replace pa := pa.below b3
    replace paw := own_under paw b3
    replace lz_pa := Nat.le_trans lz_pa b3.size
    replace bel := bel.trans (b3.mono bel.size)
    clear b3
    obtain ⟨Apb, cpb, rfl⟩ := own_val pbw
    have pb := (own_sl pbw).1
    have fr_pb := (own_sl pbw).2
    clear pa paw lz_pa
    refine hK.out _ _ sr (fun hH4 => ?_)
    clear hK K
    refine wpAnyH_ready (rs := [12]) (by kernel_rfl) (by simp) ?_
    refine AllReadyH.cons (o := _) rfl (fun K hK => ?_) AllReadyH.nil
    simp only [sq3]
    go_simp
    with_reducible refine (r16_oto _ (z + 2) (z + 2 + 2) _ _ _ _ rfl pb (by omega)).mono ?_
    rintro e w5 ⟨v_pc, rfl, pcw, b5⟩
    dsimp only
    have bl_sr_pc := sr.bl_new
    have bl_sb_pc := sb.bl_new
    have bl_pb_pc := pb.bl_new
    have pclo := bel.size
    have lz_pc := b5.size
    replace sr := sr.below b5
    replace sb := sb.below b5
    replace pb := pb.below b5
    replace pbw := own_under pbw b5
    replace lz_pb := Nat.le_trans lz_pb b5.size
    replace bel := bel.trans (b5.mono bel.size)
    clear b5
    obtain ⟨Apc, cpc, rfl⟩ := own_val pcw
    have pc := (own_sl pcw).1
    have fr_pc := (own_sl pcw).2
    clear pb pbw lz_pb
    refine hK.out _ _ sr (fun hH6 => ?_)
    clear hK K
    refine wpAnyH_take (i := 13) (v := ?_) rfl (by kernel_rfl) (by kernel_rfl) (by kernel_rfl) (fun _ _ _ h => h) (Or.inl ⟨by rfl, ?_⟩) hH6 ?_
    rotate_left
    · ((intro W hW; clear hW; go_simp) <;> with_reducible rfl)
    simp only [Act.put, List.getElem_toArray, List.getElem_cons_zero, List.getElem_cons_succ, List.setIfInBounds_toArray, List.set_cons_zero]
    refine wpAnyH_done (by kernel_rfl) ?_ _
    go_wp2_with fail
    replace bel := bel.drew
    replace sr := sr.drew
    replace sb := sb.drew
    replace pc := pc.drew
    replace pcw : w5.drew.ownsRow _ _ _ _ _ _ := pcw
    replace lz_pc : _ ≤ w5.drew.heap.size := lz_pc
    refine wp_region_held_drew (S := fun W => Sle rE 5 W (some ⟨gE, oE, none⟩) (n) (c) (hs)) (by kernel_rfl) sr (fun hH => ?_)
    generalize w5.drew = w7 at bel sr sb pc pcw lz_pc hH ⊢
    refine wpAnyH_take (i := 0) (v := ?_) rfl (by kernel_rfl) (by kernel_rfl) (by kernel_rfl) (fun _ _ _ h => h) (Or.inl ⟨by rfl, ?_⟩) hH ?_
    rotate_left
    · ((intro W hW; clear hW; go_simp) <;> with_reducible rfl)
    simp only [Act.put, List.getElem_toArray, List.getElem_cons_zero, List.setIfInBounds_toArray, List.set_cons_zero, List.set_cons_succ]
    refine wpAnyH_take (i := 1) (v := ?_) rfl (by kernel_rfl) (by kernel_rfl) (by kernel_rfl) (fun _ _ _ h => h) (Or.inl ⟨by rfl, ?_⟩) hH ?_
    rotate_left
    · ((intro W hW; clear hW; go_simp) <;> with_reducible rfl)
    simp only [sq3, sq4]
    refine wpAnyH_take (i := 2) (v := ?_) rfl (by kernel_rfl) (by kernel_rfl) (by kernel_rfl) (fun _ _ _ h => h) (Or.inl ⟨by rfl, ?_⟩) hH ?_
    rotate_left
    · ((intro W hW; clear hW; go_simp) <;> with_reducible rfl)
    simp only [sq3, sq4]
    refine wpAnyH_take (i := 3) (v := ?_) rfl (by kernel_rfl) (by kernel_rfl) (by kernel_rfl) (fun _ _ _ h => h) (Or.inl ⟨by rfl, ?_⟩) hH ?_
    rotate_left
    · ((intro W hW; clear hW; go_simp) <;> with_reducible rfl)
    simp only [sq3, sq4]
    refine wpAnyH_take (i := 4) (v := ?_) rfl (by kernel_rfl) (by kernel_rfl) (by kernel_rfl) (fun _ _ _ h => h) (Or.inl ⟨by rfl, ?_⟩) hH ?_
    rotate_left
    · ((intro W hW; clear hW; go_simp) <;> with_reducible rfl)
    simp only [sq3, sq4]
    refine wpAnyH_take (i := 5) (v := ?_) rfl (by kernel_rfl) (by kernel_rfl) (by kernel_rfl) (fun _ _ _ h => h) (Or.inl ⟨by rfl, ?_⟩) hH ?_
    rotate_left
    · ((intro W hW; have hk := Sle.cellk (hW) HX.out 3 _ rfl; clear hW; go_simp) <;> with_reducible rfl)
    simp only [sq3, sq4]
    refine wpAnyH_take (i := 7) (v := ?_) rfl (by kernel_rfl) (by kernel_rfl) (by kernel_rfl) (fun _ _ _ h => h) (Or.inl ⟨by rfl, ?_⟩) hH ?_
    rotate_left
    · ((intro W hW; clear hW; go_simp) <;> with_reducible rfl)
    simp only [sq3, sq4]
    refine wpAnyH_take (i := 8) (v := ?_) rfl (by kernel_rfl) (by kernel_rfl) (by kernel_rfl) (fun _ _ _ h => h) (Or.inl ⟨by rfl, ?_⟩) hH ?_
    rotate_left
    · ((intro W hW; clear hW; go_simp) <;> with_reducible rfl)
    simp only [sq3, sq4]
    refine wpAnyH_take (i := 9) (v := ?_) rfl (by kernel_rfl) (by kernel_rfl) (by kernel_rfl) (fun _ _ _ h => h) (Or.inl ⟨by rfl, ?_⟩) hH ?_
    rotate_left
    · ((intro W hW; clear hW; go_simp) <;> with_reducible rfl)
    simp only [sq3, sq4]
    refine wpAnyH_take (i := 10) (v := ?_) rfl (by kernel_rfl) (by kernel_rfl) (by kernel_rfl) (fun _ _ _ h => h) (Or.inl ⟨by rfl, ?_⟩) hH ?_
    rotate_left
    · ((intro W hW; clear hW; go_simp) <;> with_reducible rfl)
    simp only [sq3, sq4]
    refine wpAnyH_take (i := 11) (v := ?_) rfl (by kernel_rfl) (by kernel_rfl) (by kernel_rfl) (fun _ _ _ h => h) (Or.inl ⟨by rfl, ?_⟩) hH ?_
    rotate_left
    · ((intro W hW; have hk := Sle.cellk (hW) HX.out 4 _ rfl; clear hW; go_simp) <;> with_reducible rfl)
    simp only [sq3, sq4]
    refine wpAnyH_take (i := 12) (v := ?_) rfl (by kernel_rfl) (by kernel_rfl) (by kernel_rfl) (fun _ _ _ h => h) (Or.inl ⟨by rfl, ?_⟩) hH ?_
    rotate_left
    · ((intro W hW; clear hW; go_simp) <;> with_reducible rfl)
    simp only [sq3, sq4]
    refine wpAnyH_ready (rs := [6]) (by kernel_rfl) (by simp) ?_
    refine AllReadyH.cons (o := _) rfl (fun K hK => ?_) AllReadyH.nil
    simp only [sq3]
    go_simp
    with_reducible refine (r32_oto _ (z + 2 + 2) (z + 2 + 2 + 4) _ _ _ _ HU0.out HU1.out rfl pc (by omega)).mono ?_
    rintro e w8 ⟨v_pd, rfl, pdw, b8⟩
    dsimp only
    have bl_sr_pd := sr.bl_new
    have bl_sb_pd := sb.bl_new
    have bl_pc_pd := pc.bl_new
    have pdlo := bel.size
    have lz_pd := b8.size
    replace sr := sr.below b8
    replace sb := sb.below b8
    replace pc := pc.below b8
    replace pcw := own_under pcw b8
    replace lz_pc := Nat.le_trans lz_pc b8.size
    replace bel := bel.trans (b8.mono bel.size)
    clear b8
    obtain ⟨Apd, cpd, rfl⟩ := own_val pdw
    have pd := (own_sl pdw).1
    have fr_pd := (own_sl pdw).2
    clear pc pcw lz_pc
    refine hK.out _ _ sr (fun hH9 => ?_)
    clear hK K
    refine wpAnyH_ready (rs := [13]) (by kernel_rfl) (by simp) ?_
    refine AllReadyH.cons (o := _) rfl (fun K hK => ?_) AllReadyH.nil
    simp only [sq3]
    go_simp
    with_reducible refine (r16_oto _ (z + 2 + 2 + 4) (z + 2 + 2 + 4 + 2) _ _ _ _ rfl pd (by omega)).mono ?_
    rintro e w10 ⟨v_pe, rfl, pew, b10⟩
    dsimp only
    have bl_sr_pe := sr.bl_new
    have bl_sb_pe := sb.bl_new
    have bl_pd_pe := pd.bl_new
    have pelo := bel.size
    have lz_pe := b10.size
    replace sr := sr.below b10
    replace sb := sb.below b10
    replace pd := pd.below b10
    replace pdw := own_under pdw b10
    replace lz_pd := Nat.le_trans lz_pd b10.size
    replace bel := bel.trans (b10.mono bel.size)
    clear b10
    obtain ⟨Ape, cpe, rfl⟩ := own_val pew
    have pe := (own_sl pew).1
    have fr_pe := (own_sl pew).2
    clear pd pdw lz_pd
    refine hK.out _ _ sr (fun hH11 => ?_)
    clear hK K
    refine wpAnyH_take (i := 14) (v := ?_) rfl (by kernel_rfl) (by kernel_rfl) (by kernel_rfl) (fun _ _ _ h => h) (Or.inl ⟨by rfl, ?_⟩) hH11 ?_
    rotate_left
    · ((intro W hW; clear hW; go_simp) <;> with_reducible rfl)
    simp only [Act.put, List.getElem_toArray, List.getElem_cons_zero, List.getElem_cons_succ, List.setIfInBounds_toArray, List.set_cons_zero]
    refine wpAnyH_done (by kernel_rfl) ?_ _
    have sd := HSD.out.below bel
    have R55 := Sle.cellk sr HX.out 4 _ rfl
    go_wp2_with (first | ((with_reducible show wpList _ _ _ (⟨some 56, _, _, _, _, _⟩ :: _) _ _); refine wpList_append_bb _ rfl (.tmp 50) (.tmp 55) 30 rfl (w8.heap.size) 5 ii (.int .u8 0) Try.underlying30 hii hz0 hz1 hz2 rfl _ (z + 2 + 2 + 4 + 2) (l1 ++ putN r1.name ++ two x.t ++ two x.k ++ four x.u ++ two (x.d : Int)) rfl pew (x.B) (x.d) (x.e) (r1.data) rfl sd (by omega) lz_pe ?_; intro v56 w12 own_ bb; replace sr := sr.under bl_sr_pe bb; replace sb := sb.under bl_sb_pe bb; clear sd; replace bel := bel.trans (bb.mono pelo); have lz_s56 := Nat.le_trans lz_pe bb.size; clear bb; clear pe pew lz_pe; replace own_ : w12.ownsRow (w8.heap.size) 5 1 v56 (z + 2 + 2 + 4 + 2 + x.d) ((l1 ++ putN r1.name ++ two x.t ++ two x.k ++ four x.u ++ two (x.d : Int) ++ r1.data : List UInt8).map u8v) := own_; obtain ⟨A56, c56, rfl⟩ := own_val own_; have s56w := own_; have s56 := (own_sl own_).1; have fr_s56 := (own_sl own_).2; clear own_; have s57 := sl_to s56 (show _ = l1 ++ encR r1 by rw [← congrArg encR HXE.out]; simp [encR, HDL.out])))
    try clear R55
    go_roundg (n - (i + 1))
    case measure => have := HGK_.out; omega
    case rel => exact ⟨i + 1, A56, z + 2 + 2 + 4 + 2 + x.d, c56, l1 ++ encR r1, rfl, hik, Lib.hid (by rw [← HC.out, drop_nx HLI.out, cutE, if_neg (by have h_ := HN2.out; have h1_ := HLN.out; omega)]), Lib.hid (by have h_ := HZB.out; omega), by go_num, by go_num, sr, s57, bel⟩
open Go.RowKit

set_option linter.unusedVariables false in
set_option linter.unusedSimpArgs false in
set_option maxRecDepth 100000 in
set_option maxHeartbeats 16000000 in
theorem lquestion_any (A : Option Addr) (n c : Nat) (t k : Int) (w : World) : Calls Try.prog 58 #[.agg #[.slice A n c, .int .i64 t, .int .i64 k]] w fun e w' => e = .returned (.agg #[.slice A n c, .int .i64 t, .int .i64 k]) ∧ Below w.heap.size w w' := by
  have bel := Below.refl w.heap.size w
  go_enter Try.func58, Try.ntmps58
  go_wp2_with (first | ((with_reducible show wpList _ _ _ (⟨some 1, _, _, _, _, _⟩ :: _) _ _); refine wpList_box_n rfl 60 (.tmp 0) rfl #[.slice A n c, .int .i64 t, .int .i64 k] rfl ?_; intro g1 w1 ge lt hh bb; have op := Nat.le_trans bel.size ge; replace bel := bel.trans (bb.mono bel.size); have hp := hh; clear hh lt ge bb) | ((with_reducible show wpList _ _ _ (⟨some 2, _, _, _, _, _⟩ :: _) _ _); refine wpList_new_a rfl 68 rfl #[.slice none 0 0, .int .i64 0, .int .i64 0] (by kernel_rfl) ?_; intro g2 w2 ge hh bb; have d_p_b2 := ne_new (hlt hp) ge; have ob2 := Nat.le_trans bel.size ge; replace hp := blk_u hp bb; replace bel := bel.trans (bb.mono bel.size); have hb2 := hh; clear hh ge bb; have R4 := cell_lit hp 0 _ rfl; have R6 := cell_lit hp 1 _ rfl; have R8 := cell_lit hp 2 _ rfl) | ((with_reducible show wpList _ _ _ (⟨none, Op.store _ (.tmp 2) _, _, _, _, _⟩ :: _) _ _); refine wpList_store_blk rfl 68 (.tmp 2) (.tmp 9) rfl g2 rfl _ rfl _ 68 hb2 (by rfl) (by kernel_rfl) (by kernel_rfl) ?_; intro w3 hq gr; replace hp := blk_a hp gr d_p_b2; replace bel := below_grown bel gr ob2 bel.size; clear hb2; have hb2 := hq; clear hq gr))
  try clear R4
  try clear R6
  try clear R8
  exact bodyPost_ret (results_cell_row' rfl _ _ _ _ _ _ _ rfl hb2 Try.underlying68 rfl (by kernel_rfl)) rfl ⟨rfl, bel⟩
set_option linter.unusedVariables false in
set_option linter.unusedSimpArgs false in
set_option maxRecDepth 100000 in
set_option maxHeartbeats 16000000 in
theorem lquestions_any {A : Option Addr} {n c : Nat} {hs : List Qh} (w : World) (sq : Sle qE 3 w A n c hs) (hn : n ≤ 1000) : Calls Try.prog 32 #[.slice A n c] w fun e w' => ∃ B cB, e = .returned (.slice B n cB) ∧ w'.ownsRow w.heap.size 68 3 (.slice B n cB) n (hs.flatMap qE) ∧ Below w.heap.size w w' := by
  have HSL := Lib.hid sq.1
  have BLS := sq.bl_new
  have n0 : (0 : Int) ≤ n := by omega
  have n1 : (n : Int) ≤ 1000 := by omega
  obtain ⟨jq, hjq, hjq0, hjq1, hjq2⟩ := info_parts Try.info_rqn
  have bel := Below.refl w.heap.size w
  go_enter Try.func32, Try.ntmps32
  go_wp2_with fail
  go_loopg [3, 4] (n) (fun gk s3 s4 wr => ∃ i : Nat, ∃ (Aou : Option Addr) (cou : Nat), gk = n - i ∧ i ≤ n ∧ s3 = .slice Aou i cou ∧ s4 = .int .i64 (i : Int) ∧ wr.ownsRow (w.heap.size) 68 3 (.slice Aou (i) cou) (i) ((hs.take i : List Qh).flatMap qE) ∧ Sle qE 3 wr (A) (n) (c) (hs) ∧ Below w.heap.size w wr)
  case atStart => exact ⟨0, none, 0, Nat.sub_zero _, Nat.zero_le _, rfl, rfl, owk_nil _ _ _, sq, bel⟩
  case round =>
    clear sq bel
    obtain ⟨i, Aou, cou, HGK, hi, rfl, rfl, ouw, sq, bel⟩ := hrel
    have HGK_ := Lib.hid HGK
    clear HGK
    have ou := (owk_sle (by decide) qE_len ouw).1
    have fr_ou := (owk_sle (by decide) qE_len ouw).2
    have lz_ou := bel.size
    have oulo := Nat.le_refl (w.heap.size)
    have i0 : (0 : Int) ≤ i := by omega
    by_cases hik : i < n
    rotate_left
    · have hie : i = n := by omega
      subst hie
      replace hik : decide (i < i) = false := decide_eq_false (by omega)
      go_wp2_with fail
      go_ret
      exact ⟨_, _, rfl, by rw [List.take_of_length_le (by have h_ := HSL.out; omega)] at ouw; exact ouw, bel⟩
    obtain ⟨gE, oE, hp_⟩ := sq.place (by omega)
    subst hp_
    obtain ⟨x, hx_⟩ : ∃ u_, hs[i]? = some u_ := ⟨_, List.getElem?_eq_getElem (by rw [HSL.out]; exact hik)⟩
    have HX := Lib.hid hx_
    clear hx_
    have R15 := Lib.hid (Sle.range0 sq HX.out 3 [.slice x.A x.n x.c, .int .i64 x.t, .int .i64 x.k] rfl)
    go_wp2_with (first | ((with_reducible show wpList _ _ _ (⟨some 15, _, _, _, _, _⟩ :: _) _ _); refine wpList_load_rng 60 (.tmp 14) rfl (by kernel_rfl) _ _ rfl _ R15.out _ Try.underlying60 rfl (by kernel_rfl) ?_))
    try clear R15
    with_reducible refine (lquestion_any _ _ _ _ _ _).mono ?_
    rintro e w1 ⟨rfl, b1⟩
    replace sq := sq.below b1
    replace ou := ou.below b1
    replace ouw := owk_under ouw b1
    replace lz_ou := Nat.le_trans lz_ou b1.size
    replace bel := bel.trans (b1.mono bel.size)
    clear b1
    go_wp2_with (first | ((with_reducible show wpList _ _ _ (⟨some 17, _, _, _, _, _⟩ :: _) _ _); refine wpList_lit_n rfl 37 68 1 _ rfl #[.slice x.A x.n x.c, .int .i64 x.t, .int .i64 x.k] (.agg #[.slice none 0 0, .int .i64 0, .int .i64 0]) Try.underlying37 (by kernel_rfl) 3 (by kernel_rfl) (by decide) (by kernel_rfl) ?_; intro g17 w2 ge lt hh bb; have av_sq_b17 := sq.av_new ge; have av_ou_b17 := ou.av_new ge; have of_ou_b17 := owk_new ouw ge; have ob17 := Nat.le_trans bel.size ge; replace sq := sq.below bb; replace ou := ou.below bb; replace ouw := owk_under ouw bb; replace lz_ou := Nat.le_trans lz_ou bb.size; replace bel := bel.trans (bb.mono bel.size); have hb17 := hh; clear hh lt ge bb; have l1 : Sle qE 3 w2 (some ⟨g17, 0, none⟩) (1) (1) ([x]) := sle_lit ([x]) (by decide) qE_len hb17 rfl (by simp [maxLen])) | ((with_reducible show wpList _ _ _ (⟨some 18, _, _, _, _, _⟩ :: _) _ _); refine wpList_append_sle rfl (.tmp 11) (.tmp 17) 37 rfl (w.heap.size) 68 jq (.agg #[.slice none 0 0, .int .i64 0, .int .i64 0]) 40 Try.underlying37 hjq hjq0 hjq1 hjq2 rfl qE_one _ (i) (hs.take i) rfl ouw (some ⟨g17, 0, none⟩) (1) (1) ([x]) rfl l1 (by unfold maxLen; omega) (by omega) lz_ou ?_; intro v18 w3 own_ bb gw ofw; have of18_b17 := ofw _ (hlt hb17) of_ou_b17; clear ofw; replace sq := sq.under BLS bb; replace l1 := Sle.off l1 of_ou_b17 gw; replace hb17 := blk_own hb17 gw of_ou_b17; clear gw; replace bel := bel.trans (bb.mono oulo); have lz_s18 := Nat.le_trans lz_ou bb.size; clear bb; clear ou ouw lz_ou; replace own_ : w3.ownsRow (w.heap.size) 68 3 v18 (i + 1) ((hs.take i ++ [x] : List Qh).flatMap qE) := own_; obtain ⟨A18, c18, rfl⟩ := owk_val own_; have s18w := own_; have s18 := (owk_sle (by decide) qE_len own_).1; have fr_s18 := (owk_sle (by decide) qE_len own_).2; clear own_; have av_s18_b17 := owk_av s18w of18_b17))
    go_roundg (n - (i + 1))
    case measure => have := HGK_.out; omega
    case rel => exact ⟨i + 1, A18, c18, rfl, hik, rfl, by go_num, (owk_to s18w rfl (by rw [take_next HX.out])), sq, bel⟩
set_option linter.unusedVariables false in
set_option linter.unusedSimpArgs false in
set_option maxRecDepth 100000 in
set_option maxHeartbeats 16000000 in
theorem lrecords_any {A : Option Addr} {n c : Nat} {hs : List Rh} (w : World) (sq : Sle rE 5 w A n c hs) (hn : n ≤ 1000) : Calls Try.prog 33 #[.slice A n c] w fun e w' => ∃ B cB, e = .returned (.slice B n cB) ∧ w'.ownsRow w.heap.size 100 5 (.slice B n cB) n (hs.flatMap rE) ∧ Below w.heap.size w w' := by
  have HSL := Lib.hid sq.1
  have BLS := sq.bl_new
  have n0 : (0 : Int) ≤ n := by omega
  have n1 : (n : Int) ≤ 1000 := by omega
  obtain ⟨jr, hjr, hjr0, hjr1, hjr2⟩ := info_parts Try.info_rrn
  have bel := Below.refl w.heap.size w
  go_enter Try.func33, Try.ntmps33
  go_wp2_with fail
  go_loopg [3, 4] (n) (fun gk s3 s4 wr => ∃ i : Nat, ∃ (Aou : Option Addr) (cou : Nat), gk = n - i ∧ i ≤ n ∧ s3 = .slice Aou i cou ∧ s4 = .int .i64 (i : Int) ∧ wr.ownsRow (w.heap.size) 100 5 (.slice Aou (i) cou) (i) ((hs.take i : List Rh).flatMap rE) ∧ Sle rE 5 wr (A) (n) (c) (hs) ∧ Below w.heap.size w wr)
  case atStart => exact ⟨0, none, 0, Nat.sub_zero _, Nat.zero_le _, rfl, rfl, owk_nil _ _ _, sq, bel⟩
  case round =>
    clear sq bel
    obtain ⟨i, Aou, cou, HGK, hi, rfl, rfl, ouw, sq, bel⟩ := hrel
    have HGK_ := Lib.hid HGK
    clear HGK
    have ou := (owk_sle (by decide) rE_len ouw).1
    have fr_ou := (owk_sle (by decide) rE_len ouw).2
    have lz_ou := bel.size
    have oulo := Nat.le_refl (w.heap.size)
    have i0 : (0 : Int) ≤ i := by omega
    by_cases hik : i < n
    rotate_left
    · have hie : i = n := by omega
      subst hie
      replace hik : decide (i < i) = false := decide_eq_false (by omega)
      go_wp2_with fail
      go_ret
      exact ⟨_, _, rfl, by rw [List.take_of_length_le (by have h_ := HSL.out; omega)] at ouw; exact ouw, bel⟩
    obtain ⟨gE, oE, hp_⟩ := sq.place (by omega)
    subst hp_
    obtain ⟨x, hx_⟩ : ∃ u_, hs[i]? = some u_ := ⟨_, List.getElem?_eq_getElem (by rw [HSL.out]; exact hik)⟩
    have HX := Lib.hid hx_
    clear hx_
    go_wp2_with fail
    replace bel := bel.drew
    replace sq := sq.drew
    replace ou := ou.drew
    replace ouw : wr.drew.ownsRow _ _ _ _ _ _ := ouw
    replace lz_ou : _ ≤ wr.drew.heap.size := lz_ou
    refine wp_region_held_drew (S := fun W => Sle rE 5 W (some ⟨gE, oE, none⟩) (n) (c) (hs)) (by kernel_rfl) sq (fun hH => ?_)
    generalize wr.drew = w1 at bel sq ou ouw lz_ou hH ⊢
    refine wpAnyH_take (i := 0) (v := ?_) rfl (by kernel_rfl) (by kernel_rfl) (by kernel_rfl) (fun _ _ _ h => h) (Or.inl ⟨by rfl, ?_⟩) hH ?_
    rotate_left
    · ((intro W hW; clear hW; go_simp) <;> with_reducible rfl)
    simp only [Act.put, List.getElem_toArray, List.getElem_cons_zero, List.setIfInBounds_toArray, List.set_cons_zero, List.set_cons_succ]
    refine wpAnyH_take (i := 1) (v := ?_) rfl (by kernel_rfl) (by kernel_rfl) (by kernel_rfl) (fun _ _ _ h => h) (Or.inl ⟨by rfl, ?_⟩) hH ?_
    rotate_left
    · ((intro W hW; clear hW; go_simp) <;> with_reducible rfl)
    simp only [sq3, sq4]
    refine wpAnyH_take (i := 2) (v := ?_) rfl (by kernel_rfl) (by kernel_rfl) (by kernel_rfl) (fun _ _ _ h => h) (Or.inl ⟨by rfl, ?_⟩) hH ?_
    rotate_left
    · ((intro W hW; clear hW; go_simp) <;> with_reducible rfl)
    simp only [sq3, sq4]
    refine wpAnyH_take (i := 3) (v := ?_) rfl (by kernel_rfl) (by kernel_rfl) (by kernel_rfl) (fun _ _ _ h => h) (Or.inl ⟨by rfl, ?_⟩) hH ?_
    rotate_left
    · ((intro W hW; clear hW; go_simp) <;> with_reducible rfl)
    simp only [sq3, sq4]
    refine wpAnyH_take (i := 4) (v := ?_) rfl (by kernel_rfl) (by kernel_rfl) (by kernel_rfl) (fun _ _ _ h => h) (Or.inl ⟨by rfl, ?_⟩) hH ?_
    rotate_left
    · ((intro W hW; clear hW; go_simp) <;> with_reducible rfl)
    simp only [sq3, sq4]
    refine wpAnyH_take (i := 5) (v := ?_) rfl (by kernel_rfl) (by kernel_rfl) (by kernel_rfl) (fun _ _ _ h => h) (Or.inl ⟨by rfl, ?_⟩) hH ?_
    rotate_left
    · ((intro W hW; have hk := Sle.cellk0 (hW) HX.out _ rfl; clear hW; go_simp) <;> with_reducible rfl)
    simp only [sq3, sq4]
    refine wpAnyH_take (i := 6) (v := ?_) rfl (by kernel_rfl) (by kernel_rfl) (by kernel_rfl) (fun _ _ _ h => h) (Or.inl ⟨by rfl, ?_⟩) hH ?_
    rotate_left
    · ((intro W hW; clear hW; go_simp) <;> with_reducible rfl)
    simp only [sq3, sq4]
    refine wpAnyH_take (i := 7) (v := ?_) rfl (by kernel_rfl) (by kernel_rfl) (by kernel_rfl) (fun _ _ _ h => h) (Or.inl ⟨by rfl, ?_⟩) hH ?_
    rotate_left
    · ((intro W hW; clear hW; go_simp) <;> with_reducible rfl)
    simp only [sq3, sq4]
    refine wpAnyH_take (i := 8) (v := ?_) rfl (by kernel_rfl) (by kernel_rfl) (by kernel_rfl) (fun _ _ _ h => h) (Or.inl ⟨by rfl, ?_⟩) hH ?_
    rotate_left
    · ((intro W hW; clear hW; go_simp) <;> with_reducible rfl)
    simp only [sq3, sq4]
    refine wpAnyH_take (i := 9) (v := ?_) rfl (by kernel_rfl) (by kernel_rfl) (by kernel_rfl) (fun _ _ _ h => h) (Or.inl ⟨by rfl, ?_⟩) hH ?_
    rotate_left
    · ((intro W hW; clear hW; go_simp) <;> with_reducible rfl)
    simp only [sq3, sq4]
    refine wpAnyH_take (i := 10) (v := ?_) rfl (by kernel_rfl) (by kernel_rfl) (by kernel_rfl) (fun _ _ _ h => h) (Or.inl ⟨by rfl, ?_⟩) hH ?_
    rotate_left
    · ((intro W hW; have hk := Sle.cellk (hW) HX.out 1 _ rfl; clear hW; go_simp) <;> with_reducible rfl)
    simp only [sq3, sq4]
    refine wpAnyH_take (i := 11) (v := ?_) rfl (by kernel_rfl) (by kernel_rfl) (by kernel_rfl) (fun _ _ _ h => h) (Or.inl ⟨by rfl, ?_⟩) hH ?_
    rotate_left
    · ((intro W hW; clear hW; go_simp) <;> with_reducible rfl)
    simp only [sq3, sq4]
    refine wpAnyH_take (i := 12) (v := ?_) rfl (by kernel_rfl) (by kernel_rfl) (by kernel_rfl) (fun _ _ _ h => h) (Or.inl ⟨by rfl, ?_⟩) hH ?_
    rotate_left
    · ((intro W hW; clear hW; go_simp) <;> with_reducible rfl)
    simp only [sq3, sq4]
    refine wpAnyH_take (i := 13) (v := ?_) rfl (by kernel_rfl) (by kernel_rfl) (by kernel_rfl) (fun _ _ _ h => h) (Or.inl ⟨by rfl, ?_⟩) hH ?_
    rotate_left
    · ((intro W hW; clear hW; go_simp) <;> with_reducible rfl)
    simp only [sq3, sq4]
    refine wpAnyH_take (i := 14) (v := ?_) rfl (by kernel_rfl) (by kernel_rfl) (by kernel_rfl) (fun _ _ _ h => h) (Or.inl ⟨by rfl, ?_⟩) hH ?_
    rotate_left
    · ((intro W hW; clear hW; go_simp) <;> with_reducible rfl)
    simp only [sq3, sq4]
    refine wpAnyH_take (i := 15) (v := ?_) rfl (by kernel_rfl) (by kernel_rfl) (by kernel_rfl) (fun _ _ _ h => h) (Or.inl ⟨by rfl, ?_⟩) hH ?_
    rotate_left
    · ((intro W hW; have hk := Sle.cellk (hW) HX.out 2 _ rfl; clear hW; go_simp) <;> with_reducible rfl)
    simp only [sq3, sq4]
    refine wpAnyH_take (i := 16) (v := ?_) rfl (by kernel_rfl) (by kernel_rfl) (by kernel_rfl) (fun _ _ _ h => h) (Or.inl ⟨by rfl, ?_⟩) hH ?_
    rotate_left
    · ((intro W hW; clear hW; go_simp) <;> with_reducible rfl)
    simp only [sq3, sq4]
    refine wpAnyH_take (i := 17) (v := ?_) rfl (by kernel_rfl) (by kernel_rfl) (by kernel_rfl) (fun _ _ _ h => h) (Or.inl ⟨by rfl, ?_⟩) hH ?_
    rotate_left
    · ((intro W hW; clear hW; go_simp) <;> with_reducible rfl)
    simp only [sq3, sq4]
    refine wpAnyH_take (i := 18) (v := ?_) rfl (by kernel_rfl) (by kernel_rfl) (by kernel_rfl) (fun _ _ _ h => h) (Or.inl ⟨by rfl, ?_⟩) hH ?_
    rotate_left
    · ((intro W hW; clear hW; go_simp) <;> with_reducible rfl)
    simp only [sq3, sq4]
    refine wpAnyH_take (i := 19) (v := ?_) rfl (by kernel_rfl) (by kernel_rfl) (by kernel_rfl) (fun _ _ _ h => h) (Or.inl ⟨by rfl, ?_⟩) hH ?_
    rotate_left
    · ((intro W hW; clear hW; go_simp) <;> with_reducible rfl)
    simp only [sq3, sq4]
    refine wpAnyH_take (i := 20) (v := ?_) rfl (by kernel_rfl) (by kernel_rfl) (by kernel_rfl) (fun _ _ _ h => h) (Or.inl ⟨by rfl, ?_⟩) hH ?_
    rotate_left
    · ((intro W hW; have hk := Sle.cellk (hW) HX.out 3 _ rfl; clear hW; go_simp) <;> with_reducible rfl)
    simp only [sq3, sq4]
    refine wpAnyH_take (i := 21) (v := ?_) rfl (by kernel_rfl) (by kernel_rfl) (by kernel_rfl) (fun _ _ _ h => h) (Or.inl ⟨by rfl, ?_⟩) hH ?_
    rotate_left
    · ((intro W hW; clear hW; go_simp) <;> with_reducible rfl)
    simp only [sq3, sq4]
    refine wpAnyH_take (i := 22) (v := ?_) rfl (by kernel_rfl) (by kernel_rfl) (by kernel_rfl) (fun _ _ _ h => h) (Or.inl ⟨by rfl, ?_⟩) hH ?_
    rotate_left
    · ((intro W hW; clear hW; go_simp) <;> with_reducible rfl)
    simp only [sq3, sq4]
    refine wpAnyH_take (i := 23) (v := ?_) rfl (by kernel_rfl) (by kernel_rfl) (by kernel_rfl) (fun _ _ _ h => h) (Or.inl ⟨by rfl, ?_⟩) hH ?_
    rotate_left
    · ((intro W hW; clear hW; go_simp) <;> with_reducible rfl)
    simp only [sq3, sq4]
    refine wpAnyH_take (i := 24) (v := ?_) rfl (by kernel_rfl) (by kernel_rfl) (by kernel_rfl) (fun _ _ _ h => h) (Or.inl ⟨by rfl, ?_⟩) hH ?_
    rotate_left
    · ((intro W hW; clear hW; go_simp) <;> with_reducible rfl)
    simp only [sq3, sq4]
    refine wpAnyH_take (i := 25) (v := ?_) rfl (by kernel_rfl) (by kernel_rfl) (by kernel_rfl) (fun _ _ _ h => h) (Or.inl ⟨by rfl, ?_⟩) hH ?_
    rotate_left
    · ((intro W hW; have hk := Sle.cellk (hW) HX.out 4 _ rfl; clear hW; go_simp) <;> with_reducible rfl)
    simp only [sq3, sq4]
    refine wpAnyH_take (i := 26) (v := ?_) rfl (by kernel_rfl) (by kernel_rfl) (by kernel_rfl) (fun _ _ _ h => h) (Or.inl ⟨by rfl, ?_⟩) hH ?_
    rotate_left
    · ((intro W hW; clear hW; go_simp) <;> with_reducible rfl)
    simp only [sq3, sq4]
    refine wpAnyH_ready (rs := [27]) (by kernel_rfl) (by simp) ?_
    refine AllReadyH.cons (o := _) rfl (fun K hK => ?_) AllReadyH.nil
    simp only [sq3]
    rw [if_pos (by rfl)]
    refine wp_lit_n 38 100 1 _ rfl #[.slice x.A x.n x.c, .int .i64 x.t, .int .i64 x.k, .int .u32 x.u, .slice x.B x.d x.e] (.agg #[.slice none 0 0, .int .i64 0, .int .i64 0, .int .u32 0, .slice none 0 0]) Try.underlying38 (by kernel_rfl) 5 (by kernel_rfl) (by decide) (by kernel_rfl) ?_
    intro g38 w2 ge lt hh bb
    have av_sq_b38 := sq.av_new ge
    have av_ou_b38 := ou.av_new ge
    have of_ou_b38 := owk_new ouw ge
    have ob38 := Nat.le_trans bel.size ge
    replace sq := sq.below bb
    replace ou := ou.below bb
    replace ouw := owk_under ouw bb
    replace lz_ou := Nat.le_trans lz_ou bb.size
    replace bel := bel.trans (bb.mono bel.size)
    have hb38 := hh
    clear hh lt ge bb
    have l1 : Sle rE 5 w2 (some ⟨g38, 0, none⟩) (1) (1) ([x]) := sle_lit ([x]) (by decide) rE_len hb38 rfl (by simp [maxLen])
    refine hK.out _ _ sq (fun hH3 => ?_)
    clear hK K
    simp only [sq4]
    refine wpAnyH_ready (rs := [28]) (by kernel_rfl) (by simp) ?_
    refine AllReadyH.cons (o := _) rfl (fun K hK => ?_) AllReadyH.nil
    simp only [sq3]
    rw [if_pos (by rfl)]
    refine wp_append_sle (.tmp 11) (.tmp 38) 38 rfl (w.heap.size) 100 jr (.agg #[.slice none 0 0, .int .i64 0, .int .i64 0, .int .u32 0, .slice none 0 0]) 72 Try.underlying38 hjr hjr0 hjr1 hjr2 rfl rE_one _ (i) (hs.take i) rfl ouw (some ⟨g38, 0, none⟩) (1) (1) ([x]) rfl l1 (by unfold maxLen; omega) (by omega) lz_ou ?_
    intro v39 w4 own_ bb gw ofw
    have of39_b38 := ofw _ (hlt hb38) of_ou_b38
    clear ofw
    replace sq := sq.under BLS bb
    replace l1 := Sle.off l1 of_ou_b38 gw
    replace hb38 := blk_own hb38 gw of_ou_b38
    clear gw
    replace bel := bel.trans (bb.mono oulo)
    have lz_s39 := Nat.le_trans lz_ou bb.size
    clear bb
    clear ou ouw lz_ou
    replace own_ : w4.ownsRow (w.heap.size) 100 5 v39 (i + 1) ((hs.take i ++ [x] : List Rh).flatMap rE) := own_
    obtain ⟨A39, c39, rfl⟩ := owk_val own_
    have s39w := own_
    have s39 := (owk_sle (by decide) rE_len own_).1
    have fr_s39 := (owk_sle (by decide) rE_len own_).2
    clear own_
    have av_s39_b38 := owk_av s39w of39_b38
    refine hK.out _ _ sq (fun hH5 => ?_)
    clear hK K
    simp only [sq4]
    refine wpAnyH_take (i := 29) (v := ?_) rfl (by kernel_rfl) (by kernel_rfl) (by kernel_rfl) (fun _ _ _ h => h) (Or.inl ⟨by rfl, ?_⟩) hH5 ?_
    rotate_left
    · ((intro W hW; clear hW; go_simp) <;> with_reducible rfl)
    simp only [sq3, sq4]
    refine wpAnyH_done (by kernel_rfl) ?_ _
    go_wp2_with fail
    go_roundg (n - (i + 1))
    case measure => have := HGK_.out; omega
    case rel => exact ⟨i + 1, A39, c39, rfl, hik, rfl, by go_num, (owk_to s39w rfl (by rw [take_next HX.out])), sq, bel⟩
set_option linter.unusedVariables false in
set_option linter.unusedSimpArgs false in
set_option maxRecDepth 100000 in
set_option maxHeartbeats 16000000 in
theorem lown_any {id fl : Int} {Q : Option Addr} {qn qc : Nat} {A : Option Addr} {an ac : Nat} {O : Option Addr} {on oc : Nat} {M : Option Addr} {mn mc : Nat} {m : Mn} (w : World) (hM : Mr w Q qn qc A an ac O on oc M mn mc m) (hl : partsM m ≤ 1000) : Calls Try.prog 13 #[.agg #[.int .i64 id, .int .i64 fl, .slice Q qn qc, .slice A an ac, .slice O on oc, .slice M mn mc]] w fun e w' => ∃ (Q' : Option Addr) (qc' : Nat) (A' : Option Addr) (ac' : Nat) (O' : Option Addr) (oc' : Nat) (M' : Option Addr) (mc' : Nat), e = .returned (.agg #[.int .i64 id, .int .i64 fl, .slice Q' qn qc', .slice A' an ac', .slice O' on oc', .slice M' mn mc']) ∧ Mr w' Q' qn qc' A' an ac' O' on oc' M' mn mc' m ∧ Below w.heap.size w w' := by
  obtain ⟨hs, ha, ho, hm, q1_, q2_, a1_, a2_, o1_, o2_, m1_, m2_⟩ := hM
  have HSQ := Lib.hid q1_
  have HRQ := Lib.hid q2_
  have HSA := Lib.hid a1_
  have HRA := Lib.hid a2_
  have HSO := Lib.hid o1_
  have HRO := Lib.hid o2_
  have HSM := Lib.hid m1_
  have HRM := Lib.hid m2_
  have e1_ := q1_.1.symm.trans q2_.1
  have e2_ := a1_.1.symm.trans a2_.1
  have e3_ := o1_.1.symm.trans o2_.1
  have e4_ := m1_.1.symm.trans m2_.1
  unfold partsM at hl
  have HNHSQ : Hid (qn ≤ 1000) := Lib.hid (by omega)
  have HNHSA : Hid (an ≤ 1000) := Lib.hid (by omega)
  have HNHSO : Hid (on ≤ 1000) := Lib.hid (by omega)
  have HNHSM : Hid (mn ≤ 1000) := Lib.hid (by omega)
  clear q1_ q2_ a1_ a2_ o1_ o2_ m1_ m2_ e1_ e2_ e3_ e4_ hl
  have bel := Below.refl w.heap.size w
  go_enter Try.func13, Try.ntmps13
  go_wp2_with (first | ((with_reducible show wpList _ _ _ (⟨some 1, _, _, _, _, _⟩ :: _) _ _); refine wpList_box_n rfl 26 (.tmp 0) rfl #[.int .i64 id, .int .i64 fl, .slice Q qn qc, .slice A an ac, .slice O on oc, .slice M mn mc] rfl ?_; intro g1 w1 ge lt hh bb; have op := Nat.le_trans bel.size ge; replace bel := bel.trans (bb.mono bel.size); have hp := hh; clear hh lt ge bb) | ((with_reducible show wpList _ _ _ (⟨some 2, _, _, _, _, _⟩ :: _) _ _); refine wpList_new_a rfl 40 rfl #[.int .i64 0, .int .i64 0, .slice none 0 0, .slice none 0 0, .slice none 0 0, .slice none 0 0] (by kernel_rfl) ?_; intro g2 w2 ge hh bb; have d_p_b2 := ne_new (hlt hp) ge; have ob2 := Nat.le_trans bel.size ge; replace hp := blk_u hp bb; replace bel := bel.trans (bb.mono bel.size); have hb2 := hh; clear hh ge bb))
  replace bel := bel.drew
  replace hp : w2.drew.heap[g1]? = _ := hp
  replace hb2 : w2.drew.heap[g2]? = _ := hb2
  refine wp_region_held_drew (S := fun W => W.heap[g1]? = some (.cells #[.int .i64 id, .int .i64 fl, .slice Q qn qc, .slice A an ac, .slice O on oc, .slice M mn mc] 26 (0, 0))) (by kernel_rfl) hp (fun hH => ?_)
  generalize w2.drew = w3 at bel hp hb2 hH ⊢
  refine wpAnyH_take (i := 0) (v := ?_) rfl (by kernel_rfl) (by kernel_rfl) (by kernel_rfl) (fun _ _ _ h => h) (Or.inl ⟨by rfl, ?_⟩) hH ?_
  rotate_left
  · ((intro W hW; clear hW; go_simp) <;> with_reducible rfl)
  simp only [Act.put, List.getElem_toArray, List.getElem_cons_zero, List.setIfInBounds_toArray, List.set_cons_zero, List.set_cons_succ]
  refine wpAnyH_take (i := 1) (v := ?_) rfl (by kernel_rfl) (by kernel_rfl) (by kernel_rfl) (fun _ _ _ h => h) (Or.inl ⟨by rfl, ?_⟩) hH ?_
  rotate_left
  · ((intro W hW; have hk := cell_lit (hW) 0 _ rfl; clear hW; go_simp) <;> with_reducible rfl)
  simp only [sq3, sq4]
  refine wpAnyH_take (i := 2) (v := ?_) rfl (by kernel_rfl) (by kernel_rfl) (by kernel_rfl) (fun _ _ _ h => h) (Or.inl ⟨by rfl, ?_⟩) hH ?_
  rotate_left
  · ((intro W hW; clear hW; go_simp) <;> with_reducible rfl)
  simp only [sq3, sq4]
  refine wpAnyH_take (i := 3) (v := ?_) rfl (by kernel_rfl) (by kernel_rfl) (by kernel_rfl) (fun _ _ _ h => h) (Or.inl ⟨by rfl, ?_⟩) hH ?_
  rotate_left
  · ((intro W hW; have hk := cell_lit (hW) 1 _ rfl; clear hW; go_simp) <;> with_reducible rfl)
  simp only [sq3, sq4]
  refine wpAnyH_take (i := 4) (v := ?_) rfl (by kernel_rfl) (by kernel_rfl) (by kernel_rfl) (fun _ _ _ h => h) (Or.inl ⟨by rfl, ?_⟩) hH ?_
  rotate_left
  · ((intro W hW; clear hW; go_simp) <;> with_reducible rfl)
  simp only [sq3, sq4]
  refine wpAnyH_take (i := 5) (v := ?_) rfl (by kernel_rfl) (by kernel_rfl) (by kernel_rfl) (fun _ _ _ h => h) (Or.inl ⟨by rfl, ?_⟩) hH ?_
  rotate_left
  · ((intro W hW; have hk := cell_lit (hW) 2 _ rfl; clear hW; go_simp) <;> with_reducible rfl)
  simp only [sq3, sq4]
  refine wpAnyH_take (i := 7) (v := ?_) rfl (by kernel_rfl) (by kernel_rfl) (by kernel_rfl) (fun _ _ _ h => h) (Or.inl ⟨by rfl, ?_⟩) hH ?_
  rotate_left
  · ((intro W hW; clear hW; go_simp) <;> with_reducible rfl)
  simp only [sq3, sq4]
  refine wpAnyH_take (i := 8) (v := ?_) rfl (by kernel_rfl) (by kernel_rfl) (by kernel_rfl) (fun _ _ _ h => h) (Or.inl ⟨by rfl, ?_⟩) hH ?_
  rotate_left
  · ((intro W hW; have hk := cell_lit (hW) 3 _ rfl; clear hW; go_simp) <;> with_reducible rfl)
  simp only [sq3, sq4]
  refine wpAnyH_take (i := 10) (v := ?_) rfl (by kernel_rfl) (by kernel_rfl) (by kernel_rfl) (fun _ _ _ h => h) (Or.inl ⟨by rfl, ?_⟩) hH ?_
  rotate_left
  · ((intro W hW; clear hW; go_simp) <;> with_reducible rfl)
  simp only [sq3, sq4]
  refine wpAnyH_take (i := 11) (v := ?_) rfl (by kernel_rfl) (by kernel_rfl) (by kernel_rfl) (fun _ _ _ h => h) (Or.inl ⟨by rfl, ?_⟩) hH ?_
  rotate_left
  · ((intro W hW; have hk := cell_lit (hW) 4 _ rfl; clear hW; go_simp) <;> with_reducible rfl)
  simp only [sq3, sq4]
  refine wpAnyH_take (i := 13) (v := ?_) rfl (by kernel_rfl) (by kernel_rfl) (by kernel_rfl) (fun _ _ _ h => h) (Or.inl ⟨by rfl, ?_⟩) hH ?_
  rotate_left
  · ((intro W hW; clear hW; go_simp) <;> with_reducible rfl)
  simp only [sq3, sq4]
  refine wpAnyH_take (i := 14) (v := ?_) rfl (by kernel_rfl) (by kernel_rfl) (by kernel_rfl) (fun _ _ _ h => h) (Or.inl ⟨by rfl, ?_⟩) hH ?_
  rotate_left
  · ((intro W hW; have hk := cell_lit (hW) 5 _ rfl; clear hW; go_simp) <;> with_reducible rfl)
  simp only [sq3, sq4]
  refine wpAnyH_ready (rs := [6]) (by kernel_rfl) (by simp) ?_
  refine AllReadyH.cons (o := _) rfl (fun K hK => ?_) AllReadyH.nil
  simp only [sq3]
  go_simp
  with_reducible refine (lquestions_any _ (HSQ.out.below bel) HNHSQ.out).mono ?_
  rintro e w4 ⟨Bq, cBq, rfl, s_Bq, b4⟩
  dsimp only
  replace hp := blk_u hp b4
  replace hb2 := blk_u hb2 b4
  replace bel := bel.trans (b4.mono bel.size)
  clear b4
  refine hK.out _ _ hp (fun hH5 => ?_)
  clear hK K
  refine wpAnyH_ready (rs := [9]) (by kernel_rfl) (by simp) ?_
  refine AllReadyH.cons (o := _) rfl (fun K hK => ?_) AllReadyH.nil
  simp only [sq3]
  go_simp
  with_reducible refine (lrecords_any _ (HSA.out.below bel) HNHSA.out).mono ?_
  rintro e w6 ⟨Ba, cBa, rfl, s_Ba, b6⟩
  dsimp only
  replace hp := blk_u hp b6
  replace hb2 := blk_u hb2 b6
  replace s_Bq := owk_under s_Bq b6
  replace bel := bel.trans (b6.mono bel.size)
  clear b6
  refine hK.out _ _ hp (fun hH7 => ?_)
  clear hK K
  refine wpAnyH_ready (rs := [12]) (by kernel_rfl) (by simp) ?_
  refine AllReadyH.cons (o := _) rfl (fun K hK => ?_) AllReadyH.nil
  simp only [sq3]
  go_simp
  with_reducible refine (lrecords_any _ (HSO.out.below bel) HNHSO.out).mono ?_
  rintro e w8 ⟨Bo, cBo, rfl, s_Bo, b8⟩
  dsimp only
  replace hp := blk_u hp b8
  replace hb2 := blk_u hb2 b8
  replace s_Bq := owk_under s_Bq b8
  replace s_Ba := owk_under s_Ba b8
  replace bel := bel.trans (b8.mono bel.size)
  clear b8
  refine hK.out _ _ hp (fun hH9 => ?_)
  clear hK K
  refine wpAnyH_ready (rs := [15]) (by kernel_rfl) (by simp) ?_
  refine AllReadyH.cons (o := _) rfl (fun K hK => ?_) AllReadyH.nil
  simp only [sq3]
  go_simp
  with_reducible refine (lrecords_any _ (HSM.out.below bel) HNHSM.out).mono ?_
  rintro e w10 ⟨Bm, cBm, rfl, s_Bm, b10⟩
  dsimp only
  replace hp := blk_u hp b10
  replace hb2 := blk_u hb2 b10
  replace s_Bq := owk_under s_Bq b10
  replace s_Ba := owk_under s_Ba b10
  replace s_Bo := owk_under s_Bo b10
  replace bel := bel.trans (b10.mono bel.size)
  clear b10
  refine hK.out _ _ hp (fun hH11 => ?_)
  clear hK K
  refine wpAnyH_take (i := 16) (v := ?_) rfl (by kernel_rfl) (by kernel_rfl) (by kernel_rfl) (fun _ _ _ h => h) (Or.inl ⟨by rfl, ?_⟩) hH11 ?_
  rotate_left
  · ((intro W hW; clear hW; go_simp) <;> with_reducible rfl)
  simp only [sq3, sq4]
  refine wpAnyH_ready (rs := [17]) (by kernel_rfl) (by simp) ?_
  refine AllReadyH.cons (o := _) rfl (fun K hK => ?_) AllReadyH.nil
  simp only [sq3]
  rw [if_pos (by rfl)]
  refine wp_store_blk 40 (.tmp 2) (.tmp 19) rfl g2 rfl _ rfl _ 40 hb2 (by rfl) (by kernel_rfl) (by kernel_rfl) ?_
  intro w12 hq gr
  replace hp := blk_a hp gr d_p_b2
  replace s_Bq := owk_off s_Bq (ofs_type s_Bq hb2 (by decide)) gr
  replace s_Ba := owk_off s_Ba (ofs_type s_Ba hb2 (by decide)) gr
  replace s_Bo := owk_off s_Bo (ofs_type s_Bo hb2 (by decide)) gr
  replace s_Bm := owk_off s_Bm (ofs_type s_Bm hb2 (by decide)) gr
  replace bel := below_grown bel gr ob2 bel.size
  clear hb2
  have hb2 := hq
  clear hq gr
  refine hK.out _ _ hp (fun hH13 => ?_)
  clear hK K
  simp only [Act.put]
  refine wpAnyH_done (by kernel_rfl) ?_ _
  go_wp2_with fail
  exact bodyPost_ret (results_cell_row' rfl _ _ _ _ _ _ _ rfl hb2 Try.underlying40 rfl (by kernel_rfl)) rfl ⟨_, _, _, _, _, _, _, _, rfl, ⟨hs, ha, ho, hm, (owk_sle (by decide) qE_len s_Bq).1, HRQ.out.below bel, (owk_sle (by decide) rE_len s_Ba).1, HRA.out.below bel, (owk_sle (by decide) rE_len s_Bo).1, HRO.out.below bel, (owk_sle (by decide) rE_len s_Bm).1, HRM.out.below bel⟩, bel⟩
set_option linter.unusedVariables false in
set_option linter.unusedSimpArgs false in
set_option maxRecDepth 100000 in
set_option maxHeartbeats 16000000 in
theorem llong_any (A : Option Addr) (n c : Nat) (l : List (List UInt8)) (w : World) (la : Sle stf 1 w A n c l) : Calls Try.prog 35 #[.slice A n c] w fun e w' => e = .returned (.bool (longN l)) ∧ w = w' := by
  have HN := Lib.hid la.1
  skip
  go_enter Try.func35, Try.ntmps35
  by_cases h2 : n ≤ 200
  rotate_left
  · have h3 : (200 : Int) < n := by omega
    have HF : Hid (longN l = true) := Lib.hid (by unfold longN; rw [HN.out, decide_eq_true (by omega), Bool.true_or])
    clear h2
    go_wp2_with fail
    go_ret
    exact ⟨by rw [HF.out]; rfl, rfl⟩
  have hb : (n : Int) ≤ 200 := by omega
  have h3 : decide ((200 : Int) < n) = false := decide_eq_false (by omega)
  go_wp2_with fail
  go_loopg [3] (n) (fun gk s3 wr => ∃ i : Nat, gk = n - i ∧ i ≤ n ∧ Hid (∀ y ∈ l.take i, y.length ≤ 300) ∧ s3 = .int .i64 (i : Int) ∧ w = wr)
  case atStart => exact ⟨0, Nat.sub_zero _, Nat.zero_le _, Lib.hid (fun y hy => by simp at hy), rfl, rfl⟩
  case round =>
    obtain ⟨i, HGK, hi, HO, rfl, rfl⟩ := hrel
    have HGK_ := Lib.hid HGK
    clear HGK
    have i0 : (0 : Int) ≤ i := by omega
    by_cases h : i < n
    rotate_left
    · have HF : Hid (longN l = false) := Lib.hid (long_of (by rw [HN.out]; exact h2) (by have h_ := HO.out; rw [take_full (by rw [HN.out]; exact h)] at h_; exact h_))
      replace h : decide (i < n) = false := decide_eq_false h
      go_wp2_with fail
      go_ret
      exact ⟨by rw [HF.out]; rfl, rfl⟩
    obtain ⟨gA, oA, rfl⟩ := la.place (by omega)
    obtain ⟨x, HX_⟩ : ∃ u_, l[i]? = some u_ := ⟨_, List.getElem?_eq_getElem (by rw [HN.out]; exact h)⟩
    have HX := Lib.hid HX_
    clear HX_
    obtain ⟨k, HK_⟩ : ∃ u_, x.length = u_ := ⟨_, rfl⟩
    have HK := Lib.hid HK_
    clear HK_
    by_cases h4 : k ≤ 300
    rotate_left
    · have h5 : (300 : Int) < k := by omega
      have HF : Hid (longN l = true) := Lib.hid (long_at HX.out (by rw [HK.out]; omega))
      clear h4
      have R16 := Sle.st (i := i) la HX.out
      have R17 := fun W => st_lenN HK.out 3 W
      go_wp2_with fail
      clear R16 R17
      go_ret
      exact ⟨by rw [HF.out]; rfl, rfl⟩
    have h5 : decide ((300 : Int) < k) = false := decide_eq_false (by omega)
    have R16 := Sle.st (i := i) la HX.out
    have R17 := fun W => st_lenN HK.out 3 W
    go_wp2_with fail
    clear R16 R17
    go_roundg (n - (i + 1))
    case measure => have := HGK_.out; omega
    case rel => exact ⟨i + 1, rfl, h, Lib.hid (short_next HO.out HX.out (by rw [HK.out]; exact h4)), by go_num, rfl⟩
theorem llong_is {A : Option Addr} {n c : Nat} {l : List (List UInt8)} {b : Bool} (w : World) (la : Sle stf 1 w A n c l) (h : longN l = b) : Calls Try.prog 35 #[.slice A n c] w fun e w' => e = .returned (.bool b) ∧ w = w' := by
  subst h
  exact llong_any A n c l w la
/-- Are records more than is asked of? -/
def greatR (r : Rn) : Bool := longN r.name || decide (2000 < r.data.length)
def manyR (L : List Rn) : Bool := decide (70 < L.length) || L.any greatR
def greatM (m : Mn) : Bool := decide (70 < m.q.length) || manyR m.a || manyR m.o || manyR m.m || m.q.any fun q => longN q.name
theorem many_no {L : List Rn} (h : manyR L = false) : L.length ≤ 70 ∧ ∀ r ∈ L, longN r.name = false ∧ r.data.length ≤ 2000 := by
  unfold manyR at h
  rw [Bool.or_eq_false_iff] at h
  refine ⟨by have := of_decide_eq_false h.1; omega, fun r hr => ?_⟩
  have := List.any_eq_false.1 h.2 r hr
  rw [Bool.not_eq_true] at this
  unfold greatR at this
  rw [Bool.or_eq_false_iff] at this
  exact ⟨this.1, by have h2 := of_decide_eq_false this.2; omega⟩
theorem great_no {m : Mn} (h : greatM m = false) : partsM m ≤ 280 ∧ (∀ q ∈ m.q, longN q.name = false) ∧ ∀ r ∈ allR m, longN r.name = false ∧ r.data.length ≤ 2000 := by
  unfold greatM at h
  rw [Bool.or_eq_false_iff, Bool.or_eq_false_iff, Bool.or_eq_false_iff, Bool.or_eq_false_iff] at h
  obtain ⟨⟨⟨⟨h1, h2⟩, h3⟩, h4⟩, h5⟩ := h
  have g1 := of_decide_eq_false h1
  obtain ⟨a1, a2⟩ := many_no h2
  obtain ⟨o1, o2⟩ := many_no h3
  obtain ⟨m1, m2⟩ := many_no h4
  refine ⟨by unfold partsM; omega, fun q hq => by have := List.any_eq_false.1 h5 q hq; simpa using this, fun r hr => ?_⟩
  unfold allR at hr
  rcases List.mem_append.1 hr with hr | hr
  · rcases List.mem_append.1 hr with hr | hr
    · exact a2 r hr
    · exact o2 r hr
  · exact m2 r hr
set_option linter.unusedVariables false in
set_option linter.unusedSimpArgs false in
set_option maxRecDepth 100000 in
set_option maxHeartbeats 16000000 in
theorem lmany_any {A : Option Addr} {n c : Nat} {hs : List Rh} {L : List Rn} (w : World) (sr : Sle rE 5 w A n c hs) (rr : RRs w hs L) : Calls Try.prog 34 #[.slice A n c] w fun e w' => e = .returned (.bool (manyR L)) ∧ w = w' := by
  have HRL := Lib.hid sr.1
  have HRR := Lib.hid rr
  have HLL : Hid (L.length = n) := Lib.hid (by rw [← rr.1]; exact sr.1)
  have n0 : (0 : Int) ≤ n := by omega
  clear rr
  skip
  go_enter Try.func34, Try.ntmps34
  by_cases h70 : n ≤ 70
  rotate_left
  · have t6 : (70 : Int) < (n : Int) := by omega
    have HF : Hid (manyR L = true) := Lib.hid (by unfold manyR; rw [decide_eq_true (by have h_ := HLL.out; omega)]; rfl)
    clear h70
    go_wp2_with fail
    go_ret
    exact ⟨by rw [HF.out]; rfl, rfl⟩
  have t6 : decide ((70 : Int) < (n : Int)) = false := decide_eq_false (by omega)
  have n70 : (n : Int) ≤ 70 := by omega
  go_wp2_with fail
  go_loopg [3] (n) (fun gk s3 wr => ∃ i : Nat, gk = n - i ∧ i ≤ n ∧ Hid ((L.take i).any greatR = false) ∧ s3 = .int .i64 (i : Int) ∧ w = wr)
  case atStart => exact ⟨0, Nat.sub_zero _, Nat.zero_le _, Lib.hid rfl, rfl, rfl⟩
  case round =>
    obtain ⟨i, HGK, hi, HO, rfl, rfl⟩ := hrel
    have HGK_ := Lib.hid HGK
    clear HGK
    have i0 : (0 : Int) ≤ i := by omega
    by_cases hik : i < n
    rotate_left
    · have HF : Hid (manyR L = false) := Lib.hid (by unfold manyR; have h_ := HO.out; rw [List.take_of_length_le (by have h1_ := HLL.out; omega)] at h_; rw [h_, decide_eq_false (by have h1_ := HLL.out; omega)]; rfl)
      replace hik : decide (i < n) = false := decide_eq_false hik
      go_wp2_with fail
      go_ret
      exact ⟨by rw [HF.out]; rfl, rfl⟩
    obtain ⟨gE, oE, hp_⟩ := sr.place (by omega)
    subst hp_
    obtain ⟨x, hx_⟩ : ∃ u_, hs[i]? = some u_ := ⟨_, List.getElem?_eq_getElem (by rw [HRL.out]; exact hik)⟩
    have HX := Lib.hid hx_
    obtain ⟨r1, hl_, hr_⟩ := HRR.out.at hx_
    have HLI := Lib.hid hl_
    have HSN : Hid (Sle stf 1 w x.A x.n x.c r1.name) := Lib.hid hr_.2.2.2.1
    have HDL : Hid (r1.data.length = x.d) := Lib.hid hr_.2.2.2.2.1
    have HD0 : (0 : Int) ≤ x.d := by omega
    clear hx_ hl_ hr_
    rcases (by decide : ∀ b : Bool, b = true ∨ b = false) (longN r1.name) with hg_ | hg_
    · have HG := Lib.hid hg_
      have HF : Hid (manyR L = true) := Lib.hid (by unfold manyR; rw [Bool.or_eq_true]; exact .inr (List.any_eq_true.2 ⟨r1, List.mem_of_getElem? HLI.out, by unfold greatR; rw [hg_]; rfl⟩))
      clear hg_
      have R17 := Sle.cellk0 sr HX.out _ rfl
      go_wp2_with fail
      clear R17
      with_reducible refine (llong_is _ HSN.out HG.out).mono ?_
      rintro e _ ⟨rfl, rfl⟩
      go_wp2_with fail
      go_ret
      exact ⟨by rw [HF.out]; rfl, rfl⟩
    have HG := Lib.hid hg_
    clear hg_
    have R17 := Sle.cellk0 sr HX.out _ rfl
    go_wp2_with fail
    clear R17
    with_reducible refine (llong_is _ HSN.out HG.out).mono ?_
    rintro e _ ⟨rfl, rfl⟩
    by_cases hd : x.d ≤ 2000
    rotate_left
    · have t26 : (2000 : Int) < (x.d : Int) := by omega
      have HF : Hid (manyR L = true) := Lib.hid (by unfold manyR; rw [Bool.or_eq_true]; exact .inr (List.any_eq_true.2 ⟨r1, List.mem_of_getElem? HLI.out, by unfold greatR; rw [HG.out, HDL.out]; simp; omega⟩))
      clear hd
      have R24 := Sle.cellk sr HX.out 4 _ rfl
      go_wp2_with fail
      clear R24
      go_ret
      exact ⟨by rw [HF.out]; rfl, rfl⟩
    have t26 : decide ((2000 : Int) < (x.d : Int)) = false := decide_eq_false (by omega)
    have HD := Lib.hid hd
    clear hd
    have R24 := Sle.cellk sr HX.out 4 _ rfl
    go_wp2_with fail
    clear R24
    go_roundg (n - (i + 1))
    case measure => have := HGK_.out; omega
    case rel => exact ⟨i + 1, rfl, hik, Lib.hid (by rw [take_next HLI.out, List.any_append, HO.out]; simp [greatR, HG.out, HDL.out, HD.out]), by go_num, rfl⟩
theorem lmany_is {A : Option Addr} {n c : Nat} {hs : List Rh} {L : List Rn} {b : Bool} (w : World) (sr : Sle rE 5 w A n c hs) (rr : RRs w hs L) (h : manyR L = b) : Calls Try.prog 34 #[.slice A n c] w fun e w' => e = .returned (.bool b) ∧ w = w' := by
  subst h
  exact lmany_any w sr rr
end Go.Proofs.Ytjedknjlpeccbaa
