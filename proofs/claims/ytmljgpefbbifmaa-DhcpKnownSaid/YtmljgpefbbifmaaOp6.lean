/- The reference's PutOpts. -/
import Derived.Test.YtmljgpefbbifmaaOp4
namespace Go.Proofs.Ytmljgpefbbifmaa
open Go.RowKit

theorem dist_new {L : OptL} {i : Nat} {c : Int} (h : ∀ (j : Nat) (p : Int × List UInt8), j < i → L[j]? = some p → ¬ p.1 = c) : ¬ c ∈ (L.take i).map (·.1) := by
  intro hm
  obtain ⟨p, hp, e⟩ := List.mem_map.1 hm
  obtain ⟨j, hj⟩ := List.getElem?_of_mem hp
  rw [List.getElem?_take] at hj
  split at hj
  · exact h j p ‹_› hj e
  · cases hj
theorem nk_next {L : OptL} {k : Nat} {c : Int} {q : Int × List UInt8} (h : ∀ (j : Nat) (p : Int × List UInt8), j < k → L[j]? = some p → ¬ p.1 = c) (hk : L[k]? = some q) (hq : ¬ q.1 = c) : ∀ (j : Nat) (p : Int × List UInt8), j < k + 1 → L[j]? = some p → ¬ p.1 = c := by
  intro j p hj hp
  rcases Nat.lt_or_ge j k with h_ | h_
  · exact h j p h_ hp
  · obtain rfl : j = k := by omega
    rw [hk] at hp
    cases hp
    exact hq
theorem dist_old {L : OptL} {i k : Nat} {p : Int × List UInt8} (hk : k < i) (hp : L[k]? = some p) : p.1 ∈ (L.take i).map (·.1) := by
  refine List.mem_map.2 ⟨p, ?_, rfl⟩
  refine List.mem_of_getElem? (i := k) ?_
  rw [List.getElem?_take, if_pos hk]
  exact hp
def restL (fs : Bool) (c : UInt8) (l : List UInt8) : List UInt8 := if fs = true ∨ 0 < l.length then piecesL c l else []
theorem rest_end {c : UInt8} {l : List UInt8} (h : l.length = 0) : restL false c l = [] := by unfold restL; rw [if_neg]; simp; exact List.eq_nil_of_length_eq_zero h
theorem rest_go {fs : Bool} {c : UInt8} {l : List UInt8} (h : fs = true ∨ 0 < l.length) : restL fs c l = piecesL c l := by unfold restL; rw [if_pos h]
theorem rest_long {fs : Bool} {c : UInt8} {l0 l r : List UInt8} (hw : l0 ++ restL fs c l = r) (h : fs = true ∨ 0 < l.length) (h2 : 255 < l.length) : (l0 ++ [c, 255] ++ l.take 255) ++ restL false c (l.drop 255) = r := by
  rw [rest_go h, pieces_long h2] at hw
  rw [rest_go (.inr (by simp; omega)), ← hw]
  simp only [List.append_assoc]
theorem rest_last {fs : Bool} {c : UInt8} {l0 l r : List UInt8} {m : Nat} (hm : l.length = m) (hw : l0 ++ restL fs c l = r) (h : fs = true ∨ 0 < l.length) (h2 : l.length ≤ 255) : (l0 ++ [c, byteOf (m : Int)] ++ l.take m) ++ restL false c (l.drop m) = r := by
  rw [rest_go h, pieces_last h2] at hw
  rw [rest_end (by simp; omega), ← hw, ← hm, List.take_length, List.append_nil]
  simp only [List.append_assoc]
set_option linter.unusedVariables false in
set_option linter.unusedSimpArgs false in
set_option maxRecDepth 100000 in
set_option maxHeartbeats 16000000 in
theorem rput12_any {A : Option Addr} {n c : Nat} {hs : List Oh} {L : OptL} (w : World) (en : Sle opE 2 w A n c hs) (hbd : Bd w hs L) (hn : n ≤ 100000) (hb : ∀ x ∈ hs, x.n ≤ 100000) : Calls Try.prog 29 #[.slice A n c] w fun e w' => ∃ A' n' c', e = .returned (.tuple #[.slice A' n' c', .int .i64 (putL L).2]) ∧ Sl w' A' n' c' (putL L).1 ∧ Below w.heap.size w w' := by
  have hble := en.bl_new
  have HL := Lib.hid en.1
  have hn0 : (n : Int) ≤ 100000 := by omega
  have HBD := Lib.hid hbd
  have HB := Lib.hid hb
  clear hbd hb
  obtain ⟨ii, hii, hz0, hz1, hz2⟩ := info_parts Try.info_u8
  have bel := Below.refl w.heap.size w
  go_enter Try.func29, Try.ntmps29
  go_wp2_with fail
  go_loopg [5] (n) (fun gk s5 wr => ∃ i : Nat, gk = n - i ∧ i ≤ n ∧ Hid (distinctB (L.take i) = true) ∧ s5 = .int .i64 (i : Int) ∧ Sle opE 2 wr (A) (n) (c) (hs) ∧ Below w.heap.size w wr)
  case atStart => exact ⟨0, Nat.sub_zero _, Nat.zero_le _, Lib.hid rfl, rfl, en, bel⟩
  case round =>
    clear en bel
    obtain ⟨i, HGK, hin, HD, rfl, en, bel⟩ := hrel
    have HGK_ := Lib.hid HGK
    clear HGK
    by_cases h : i < n
    · have HG0_ := HGK_
      obtain ⟨x, hx_⟩ : ∃ x, hs[i]? = some x := ⟨_, List.getElem?_eq_getElem (by have := HL.out; omega)⟩
      obtain ⟨l, hl_, sb_⟩ := HBD.out.at hx_
      have i0 : (0 : Int) ≤ i := by omega
      have i1 : (i : Int) < n := by omega
      have HX := Lib.hid hx_
      have HLI := Lib.hid hl_
      have HSB := Lib.hid sb_
      clear hx_ hl_ sb_
      obtain ⟨gE, oE, hEp⟩ := en.place (by omega)
      subst hEp
      by_cases h1 : x.c < 1
      · have HP : Hid (putL L = ([], 1)) := Lib.hid (by unfold putL; rw [if_neg (by rw [dist_bad (p := (x.c, l)) HLI.out (fun h_ => by have := h_.1; omega)]; decide)])
        have R21 := Sle.cellk0 en HX.out _ rfl
        go_wp2_with fail
        clear R21
        exact bodyPost_ret (v := .tuple #[.slice none 0 0, .int .i64 1]) (by simp [results, Try.results29, go_sem]) rfl ⟨none, 0, 0, by rw [HP.out], by rw [HP.out]; exact Sl.nil _, bel⟩
      by_cases h2 : 254 < x.c
      · replace h1 : decide (x.c < 1) = false := decide_eq_false h1
        have HP : Hid (putL L = ([], 1)) := Lib.hid (by unfold putL; rw [if_neg (by rw [dist_bad (p := (x.c, l)) HLI.out (fun h_ => by have := h_.2; omega)]; decide)])
        have R21 := Sle.cellk0 en HX.out _ rfl
        have R28 := Sle.cellk0 en HX.out _ rfl
        go_wp2_with fail
        clear R21 R28
        exact bodyPost_ret (v := .tuple #[.slice none 0 0, .int .i64 1]) (by simp [results, Try.results29, go_sem]) rfl ⟨none, 0, 0, by rw [HP.out], by rw [HP.out]; exact Sl.nil _, bel⟩
      have HC1 : Hid (1 ≤ x.c) := Lib.hid (by omega)
      have HC2 : Hid (x.c ≤ 254) := Lib.hid (by omega)
      replace h1 : decide (x.c < 1) = false := decide_eq_false h1
      replace h2 : decide (254 < x.c) = false := decide_eq_false h2
      have R21 := Sle.cellk0 en HX.out _ rfl
      have R28 := Sle.cellk0 en HX.out _ rfl
      go_wp2_with fail
      clear R21 R28
      go_loopg [6] (i) (fun gk s6 wr => ∃ k : Nat, gk = i - k ∧ k ≤ i ∧ Hid (∀ (j : Nat) (p : Int × List UInt8), j < k → L[j]? = some p → ¬ p.1 = x.c) ∧ s6 = .int .i64 (k : Int) ∧ Sle opE 2 wr (some ⟨gE, oE, none⟩) (n) (c) (hs) ∧ Below w.heap.size w wr)
      case atStart => exact ⟨0, Nat.sub_zero _, Nat.zero_le _, Lib.hid (fun j p h => absurd h (by omega)), rfl, en, bel⟩
      case round =>
        clear en bel
        obtain ⟨k, HGK, hki, HNK, rfl, en, bel⟩ := hrel
        have HGK_ := Lib.hid HGK
        clear HGK
        by_cases hk : k < i
        rotate_left
        · have HD2 : Hid (distinctB (L.take (i + 1)) = true) := Lib.hid (dist_next (p := (x.c, l)) HD.out HLI.out HC1.out HC2.out (dist_new (fun j p hj hp => HNK.out j p (by omega) hp)))
          obtain rfl : k = i := by omega
          replace hk : decide (k < k) = false := decide_eq_false (by omega)
          have HGA := HG0_
          go_wp2_with fail
          go_roundg (n - (k + 1))
          case measure => have h1_ := HGA.out; omega
          case rel => exact ⟨k + 1, rfl, by omega, HD2, by go_num, en, bel⟩
        obtain ⟨y, hx_⟩ : ∃ x, hs[k]? = some x := ⟨_, List.getElem?_eq_getElem (by have := HL.out; omega)⟩
        obtain ⟨ly, hl_, sb_⟩ := HBD.out.at hx_
        have k0 : (0 : Int) ≤ k := by omega
        have k1 : (k : Int) < i := by omega
        have HXy := Lib.hid hx_
        have HLIy := Lib.hid hl_
        have HSBy := Lib.hid sb_
        clear hx_ hl_ sb_
        have kn : (k : Int) < n := by omega
        go_wp2_with fail
        replace bel := bel.drew
        replace en := en.drew
        refine wp_region_held_drew (S := fun W => Sle opE 2 W (some ⟨gE, oE, none⟩) (n) (c) (hs)) (by kernel_rfl) en (fun hH => ?_)
        generalize wr.drew = w1 at bel en hH ⊢
        refine wpAnyH_take (i := 0) (v := ?_) rfl (by kernel_rfl) (by kernel_rfl) (by kernel_rfl) (fun _ _ _ h => h) (Or.inl ⟨by rfl, ?_⟩) hH ?_
        rotate_left
        · ((intro W hW; clear hW; go_simp) <;> with_reducible rfl)
        simp only [Act.put, List.getElem_toArray, List.getElem_cons_zero, List.setIfInBounds_toArray, List.set_cons_zero, List.set_cons_succ]
        refine wpAnyH_take (i := 1) (v := ?_) rfl (by kernel_rfl) (by kernel_rfl) (by kernel_rfl) (fun _ _ _ h => h) (Or.inl ⟨by rfl, ?_⟩) hH ?_
        rotate_left
        · ((intro W hW; clear hW; go_simp) <;> with_reducible rfl)
        simp only [Act.put, List.getElem_toArray, List.getElem_cons_zero, List.getElem_cons_succ, List.setIfInBounds_toArray, List.set_cons_zero, List.set_cons_succ]
        refine wpAnyH_take (i := 2) (v := ?_) rfl (by kernel_rfl) (by kernel_rfl) (by kernel_rfl) (fun _ _ _ h => h) (Or.inl ⟨by rfl, ?_⟩) hH ?_
        rotate_left
        · ((intro W hW; clear hW; go_simp) <;> with_reducible rfl)
        simp only [Act.put, List.getElem_toArray, List.getElem_cons_zero, List.getElem_cons_succ, List.setIfInBounds_toArray, List.set_cons_zero, List.set_cons_succ]
        refine wpAnyH_take (i := 3) (v := ?_) rfl (by kernel_rfl) (by kernel_rfl) (by kernel_rfl) (fun _ _ _ h => h) (Or.inl ⟨by rfl, ?_⟩) hH ?_
        rotate_left
        · ((intro W hW; clear hW; go_simp) <;> with_reducible rfl)
        simp only [Act.put, List.getElem_toArray, List.getElem_cons_zero, List.getElem_cons_succ, List.setIfInBounds_toArray, List.set_cons_zero, List.set_cons_succ]
        refine wpAnyH_take (i := 4) (v := ?_) rfl (by kernel_rfl) (by kernel_rfl) (by kernel_rfl) (fun _ _ _ h => h) (Or.inl ⟨by rfl, ?_⟩) hH ?_
        rotate_left
        · ((intro W hW; have hk := Sle.cellk0 (hW) HXy.out _ rfl; clear hW; go_simp) <;> with_reducible rfl)
        simp only [Act.put, List.getElem_toArray, List.getElem_cons_zero, List.getElem_cons_succ, List.setIfInBounds_toArray, List.set_cons_zero, List.set_cons_succ]
        refine wpAnyH_take (i := 5) (v := ?_) rfl (by kernel_rfl) (by kernel_rfl) (by kernel_rfl) (fun _ _ _ h => h) (Or.inl ⟨by rfl, ?_⟩) hH ?_
        rotate_left
        · ((intro W hW; clear hW; go_simp) <;> with_reducible rfl)
        simp only [Act.put, List.getElem_toArray, List.getElem_cons_zero, List.getElem_cons_succ, List.setIfInBounds_toArray, List.set_cons_zero, List.set_cons_succ]
        refine wpAnyH_take (i := 6) (v := ?_) rfl (by kernel_rfl) (by kernel_rfl) (by kernel_rfl) (fun _ _ _ h => h) (Or.inl ⟨by rfl, ?_⟩) hH ?_
        rotate_left
        · ((intro W hW; clear hW; go_simp) <;> with_reducible rfl)
        simp only [Act.put, List.getElem_toArray, List.getElem_cons_zero, List.getElem_cons_succ, List.setIfInBounds_toArray, List.set_cons_zero, List.set_cons_succ]
        refine wpAnyH_take (i := 7) (v := ?_) rfl (by kernel_rfl) (by kernel_rfl) (by kernel_rfl) (fun _ _ _ h => h) (Or.inl ⟨by rfl, ?_⟩) hH ?_
        rotate_left
        · ((intro W hW; clear hW; go_simp) <;> with_reducible rfl)
        simp only [Act.put, List.getElem_toArray, List.getElem_cons_zero, List.getElem_cons_succ, List.setIfInBounds_toArray, List.set_cons_zero, List.set_cons_succ]
        refine wpAnyH_take (i := 8) (v := ?_) rfl (by kernel_rfl) (by kernel_rfl) (by kernel_rfl) (fun _ _ _ h => h) (Or.inl ⟨by rfl, ?_⟩) hH ?_
        rotate_left
        · ((intro W hW; clear hW; go_simp) <;> with_reducible rfl)
        simp only [Act.put, List.getElem_toArray, List.getElem_cons_zero, List.getElem_cons_succ, List.setIfInBounds_toArray, List.set_cons_zero, List.set_cons_succ]
        refine wpAnyH_take (i := 9) (v := ?_) rfl (by kernel_rfl) (by kernel_rfl) (by kernel_rfl) (fun _ _ _ h => h) (Or.inl ⟨by rfl, ?_⟩) hH ?_
        rotate_left
        · ((intro W hW; have hk := Sle.cellk0 (hW) HX.out _ rfl; clear hW; go_simp) <;> with_reducible rfl)
        simp only [Act.put, List.getElem_toArray, List.getElem_cons_zero, List.getElem_cons_succ, List.setIfInBounds_toArray, List.set_cons_zero, List.set_cons_succ]
        refine wpAnyH_take (i := 10) (v := ?_) rfl (by kernel_rfl) (by kernel_rfl) (by kernel_rfl) (fun _ _ _ h => h) (Or.inl ⟨by rfl, ?_⟩) hH ?_
        rotate_left
        · ((intro W hW; clear hW; go_simp) <;> with_reducible rfl)
        simp only [Act.put, List.getElem_toArray, List.getElem_cons_zero, List.getElem_cons_succ, List.setIfInBounds_toArray, List.set_cons_zero, List.set_cons_succ]
        by_cases hc : y.c = x.c
        rotate_left
        · have ec : (y.c == x.c) = false := beq_eq_false_iff_ne.2 hc
          have HCY := Lib.hid hc
          clear hc
          refine wpAnyH_done (by kernel_rfl) ?_ _
          go_wp2_with fail
          go_roundg (i - (k + 1))
          case measure => have := HGK_.out; omega
          case rel => exact ⟨k + 1, rfl, by omega, Lib.hid (nk_next (q := (y.c, ly)) HNK.out HLIy.out HCY.out), by go_num, en, bel⟩
        have ec : (y.c == x.c) = true := beq_iff_eq.2 hc
        have HP : Hid (putL L = ([], 1)) := Lib.hid (by unfold putL; rw [if_neg (by rw [dist_dup (p := (x.c, l)) HLI.out (by show x.c ∈ _; rw [← hc]; exact dist_old (p := (y.c, ly)) hk HLIy.out)]; decide)])
        clear hc
        refine wpAnyH_done (by kernel_rfl) ?_ _
        go_wp2_with fail
        exact bodyPost_ret (v := .tuple #[.slice none 0 0, .int .i64 1]) (by simp [results, Try.results29, go_sem]) rfl ⟨none, 0, 0, by rw [HP.out], by rw [HP.out]; exact Sl.nil _, bel⟩
    have HDB : Hid (distinctB L = true) := Lib.hid (by have h1 := HD.out; rw [List.take_of_length_le (by have h1 := HL.out; have h2 := HBD.out.1; omega)] at h1; exact h1)
    obtain rfl : n = i := by omega
    replace h : decide (n < n) = false := decide_eq_false (by omega)
    go_wp2_with fail
    go_loopg [7, 4] (n) (fun gk s7 s4 wr => ∃ i : Nat, ∃ q : Nat, ∃ (Aow : Option Addr) (cow : Nat), gk = n - i ∧ i ≤ n ∧ Hid (q ≤ 1200) ∧ s7 = .int .i64 (i : Int) ∧ s4 = .slice Aow q cow ∧ wr.ownsRow (w.heap.size) 5 1 (.slice Aow (q) cow) (q) ((allL (L.take i) : List UInt8).map u8v) ∧ Sle opE 2 wr (A) (n) (c) (hs) ∧ Below w.heap.size w wr)
    case atStart => exact ⟨0, 0, none, 0, Nat.sub_zero _, Nat.zero_le _, Lib.hid (Nat.zero_le _), rfl, rfl, World.ownsRow_nil _ _ _ _, en, bel⟩
    case round =>
      clear en bel
      obtain ⟨i, q, Aow, cow, HGK, hin, HQ, rfl, rfl, oww, en, bel⟩ := hrel
      have HGK_ := Lib.hid HGK
      clear HGK
      have ow := (own_sl oww).1
      have fr_ow := (own_sl oww).2
      have lz_ow := bel.size
      have owlo := Nat.le_refl (w.heap.size)
      by_cases h : i < n
      rotate_left
      · have HAL : Hid (allL (L.take i) = allL L) := Lib.hid (by rw [List.take_of_length_le (by have h1 := HL.out; have h2 := HBD.out.1; omega)])
        have HQL := Lib.hid (own_len oww)
        obtain rfl : i = n := by omega
        replace h : decide (i < i) = false := decide_eq_false (by omega)
        have q0 : (0 : Int) ≤ q := by omega
        by_cases h9 : 1199 < q
        · have h9i : (1199 : Int) < q := by omega
          have HP : Hid (putL L = ([], 2)) := Lib.hid (by unfold putL; rw [if_pos HDB.out, if_neg]; rw [← HAL.out, HQL.out]; omega)
          go_wp2_with fail
          exact bodyPost_ret (v := .tuple #[.slice none 0 0, .int .i64 2]) (by simp [results, Try.results29, go_sem]) rfl ⟨none, 0, 0, by rw [HP.out], by rw [HP.out]; exact Sl.nil _, bel⟩
        have h9i : decide ((1199 : Int) < q) = false := decide_eq_false (by omega)
        have HP : Hid (putL L = (allL L ++ [255], 0)) := Lib.hid (by unfold putL; rw [if_pos HDB.out, if_pos]; rw [← HAL.out, HQL.out]; omega)
        go_wp2_with (first | ((with_reducible show wpList _ _ _ (⟨some 93, _, _, _, _, _⟩ :: _) _ _); refine wpList_lit_n rfl 34 5 1 _ rfl #[.int .u8 255] (.int .u8 0) Try.underlying34 (by kernel_rfl) 1 (by kernel_rfl) (by decide) (by kernel_rfl) ?_; intro g93 w1 ge lt hh bb; have hl : w1.heap[g93]? = some (.cells (([255] : List UInt8).map u8v).toArray 5 (0, 0)) := (by simpa [u8v, byteOf_val] using hh); have e5w := own_lit (B := wr.heap.size) ([255]) hl ge 1 rfl (by simp [maxLen]); have e5 := (own_sl e5w).1; have e5lo := bel.size; clear hl; have e5ge := ge; have lz_e5 := bb.size; have bl_en_e5 := en.bl_new; have bl_ow_e5 := ow.bl_new; have av_en_b93 := en.av_new ge; have av_ow_b93 := ow.av_new ge; have of_ow_b93 := own_new oww ge; have ob93 := Nat.le_trans bel.size ge; replace en := en.below bb; replace ow := ow.below bb; replace oww := own_under oww bb; replace lz_ow := Nat.le_trans lz_ow bb.size; replace bel := bel.trans (bb.mono bel.size); have hb93 := hh; clear hh lt ge bb) | ((with_reducible show wpList _ _ _ (⟨some 94, _, _, _, _, _⟩ :: _) _ _); refine wpList_append_bg _ rfl (.tmp 92) (.tmp 93) 34 rfl (w.heap.size) 5 ii (.int .u8 0) Try.underlying34 hii hz0 hz1 hz2 rfl _ (q) (allL (L.take i)) rfl oww (some ⟨g93, 0, none⟩) (1) (1) ([255]) rfl e5 (by have := HQ.out; omega) lz_ow ?_; intro v94 w2 own_ bb gw ofw; have of94_b93 := ofw _ (hlt hb93) of_ow_b93; clear ofw; replace en := en.under hble bb; clear e5 e5w lz_e5; replace hb93 := blk_own hb93 gw of_ow_b93; clear gw; replace bel := bel.trans (bb.mono owlo); have lz_rb := Nat.le_trans lz_ow bb.size; clear bb; clear ow oww lz_ow; replace own_ : w2.ownsRow (w.heap.size) 5 1 v94 (q + 1) ((allL (L.take i) ++ [255] : List UInt8).map u8v) := own_; obtain ⟨A94, c94, rfl⟩ := own_val own_; have rbw := own_; have rb := (own_sl own_).1; have fr_rb := (own_sl own_).2; clear own_; have av_rb_b93 := own_av rbw of94_b93))
        exact bodyPost_ret (v := .tuple #[.slice A94 (q + 1) c94, .int .i64 0]) (by simp [results, Try.results29, go_sem]) rfl ⟨A94, q + 1, c94, by rw [HP.out], by rw [HP.out, ← HAL.out]; exact rb, bel⟩
      have HG1_ := HGK_
      obtain ⟨x, hx_⟩ : ∃ x, hs[i]? = some x := ⟨_, List.getElem?_eq_getElem (by have := HL.out; omega)⟩
      obtain ⟨l, hl_, sb_⟩ := HBD.out.at hx_
      have i0 : (0 : Int) ≤ i := by omega
      have i1 : (i : Int) < n := by omega
      have HX := Lib.hid hx_
      have HLI := Lib.hid hl_
      have HSB := Lib.hid sb_
      have HXN := Lib.hid (HB.out _ (List.mem_of_getElem? hx_))
      clear hx_ hl_ sb_
      obtain ⟨gE, oE, hEp⟩ := en.place (by omega)
      subst hEp
      have xs := HSB.out.below bel
      have HAL := Lib.hid (all_next (p := (x.c, l)) HLI.out)
      have HQL := Lib.hid (own_len oww)
      have R57 := Sle.cellk en HX.out 1 _ rfl
      go_wp2_with fail
      clear R57
      go_loopg [8, 9, 4] (x.n + 1) (fun gk s8 s9 s4 wr => ∃ Bx : Option Addr, ∃ mx : Nat, ∃ cx : Nat, ∃ lx : List UInt8, ∃ fs : Bool, ∃ q2 : Nat, ∃ l2 : List UInt8, ∃ (Aob : Option Addr) (cob : Nat), gk = mx + fs.toNat ∧ Hid (l2 ++ restL fs (byteOf x.c) lx = allL (L.take i) ++ piecesL (byteOf x.c) l) ∧ Bl Bx mx w.heap.size ∧ Hid (q2 ≤ 1200) ∧ Hid (mx ≤ 100000) ∧ s8 = .slice Bx mx cx ∧ s9 = .bool fs ∧ s4 = .slice Aob q2 cob ∧ wr.ownsRow (w.heap.size) 5 1 (.slice Aob (q2) cob) (q2) ((l2 : List UInt8).map u8v) ∧ Sle opE 2 wr (some ⟨gE, oE, none⟩) (n) (c) (hs) ∧ Sl wr (Bx) (mx) (cx) (lx) ∧ Below w.heap.size w wr)
      case atStart => exact ⟨x.A, x.n, x.cp, l, true, q, allL (L.take i), Aow, cow, rfl, Lib.hid rfl, HSB.out.bl_new, HQ, HXN, rfl, rfl, rfl, oww, en, xs, bel⟩
      case round =>
        clear en ow xs bel
        obtain ⟨Bx, mx, cx, lx, fs, q2, l2, Aob, cob, HGK, HW, hbx, HQ2, HMX, rfl, rfl, rfl, obw, en, xs, bel⟩ := hrel
        have HGK_ := Lib.hid HGK
        clear HGK
        have ob := (own_sl obw).1
        have fr_ob := (own_sl obw).2
        have lz_ob := bel.size
        have oblo := Nat.le_refl (w.heap.size)
        rcases fs with _ | _
        rotate_left
        · have HFS : Hid (0 < mx + true.toNat ∧ True) := Lib.hid ⟨by simp, trivial⟩
          by_cases h5 : 255 < mx
          rotate_left
          · have HKP : Hid (mx ≤ 255) := Lib.hid (by omega)
            have h5i : decide ((255 : Int) < mx) = false := decide_eq_false (by omega)
            clear h5
            obtain ⟨A81, c81, r81, f81, u81⟩ := piece_front xs (k := mx) (Nat.le_refl _)
            have pf := f81 _ xs
            have hbf := hbx.sub u81
            obtain ⟨A85, c85, r85, f85, u85⟩ := piece_back xs (k := mx) (Nat.le_refl _)
            have bk := f85 _ xs
            have hbk := hbx.sub u85
            obtain ⟨q3, hq3⟩ : ∃ q3, q2 + 2 + mx = q3 := ⟨_, rfl⟩
            have HQ3 := Lib.hid hq3
            have HQN : Hid (q3 ≤ 200000) := Lib.hid (by have h1 := HQ2.out; have h2 := HMX.out; omega)
            have q30 : (0 : Int) ≤ q3 := by omega
            have HML : Hid (lx.length = mx) := Lib.hid xs.1
            clear hq3 f81 u81 f85 u85
            go_wp2_with fail
            replace bel := bel.drew
            replace en := en.drew
            replace xs := xs.drew
            replace ob := ob.drew
            replace obw : wr.drew.ownsRow _ _ _ _ _ _ := obw
            replace lz_ob : _ ≤ wr.drew.heap.size := lz_ob
            replace pf := pf.drew
            replace bk := bk.drew
            refine wp_region_held_drew (S := fun W => Sle opE 2 W (some ⟨gE, oE, none⟩) (n) (c) (hs)) (by kernel_rfl) en (fun hH => ?_)
            generalize wr.drew = w1 at bel en xs ob pf bk obw lz_ob hH ⊢
            refine wpAnyH_take (i := 0) (v := ?_) rfl (by kernel_rfl) (by kernel_rfl) (by kernel_rfl) (fun _ _ _ h => h) (Or.inl ⟨by rfl, ?_⟩) hH ?_
            rotate_left
            · ((intro W hW; clear hW; go_simp) <;> with_reducible rfl)
            simp only [Act.put, List.getElem_toArray, List.getElem_cons_zero, List.setIfInBounds_toArray, List.set_cons_zero, List.set_cons_succ]
            refine wpAnyH_take (i := 1) (v := ?_) rfl (by kernel_rfl) (by kernel_rfl) (by kernel_rfl) (fun _ _ _ h => h) (Or.inl ⟨by rfl, ?_⟩) hH ?_
            rotate_left
            · ((intro W hW; clear hW; go_simp) <;> with_reducible rfl)
            simp only [Act.put, List.getElem_toArray, List.getElem_cons_zero, List.getElem_cons_succ, List.setIfInBounds_toArray, List.set_cons_zero, List.set_cons_succ]
            refine wpAnyH_take (i := 2) (v := ?_) rfl (by kernel_rfl) (by kernel_rfl) (by kernel_rfl) (fun _ _ _ h => h) (Or.inl ⟨by rfl, ?_⟩) hH ?_
            rotate_left
            · ((intro W hW; clear hW; go_simp) <;> with_reducible rfl)
            simp only [Act.put, List.getElem_toArray, List.getElem_cons_zero, List.getElem_cons_succ, List.setIfInBounds_toArray, List.set_cons_zero, List.set_cons_succ]
            refine wpAnyH_take (i := 3) (v := ?_) rfl (by kernel_rfl) (by kernel_rfl) (by kernel_rfl) (fun _ _ _ h => h) (Or.inl ⟨by rfl, ?_⟩) hH ?_
            rotate_left
            · ((intro W hW; clear hW; go_simp) <;> with_reducible rfl)
            simp only [Act.put, List.getElem_toArray, List.getElem_cons_zero, List.getElem_cons_succ, List.setIfInBounds_toArray, List.set_cons_zero, List.set_cons_succ]
            refine wpAnyH_take (i := 4) (v := ?_) rfl (by kernel_rfl) (by kernel_rfl) (by kernel_rfl) (fun _ _ _ h => h) (Or.inl ⟨by rfl, ?_⟩) hH ?_
            rotate_left
            · ((intro W hW; clear hW; go_simp) <;> with_reducible rfl)
            simp only [Act.put, List.getElem_toArray, List.getElem_cons_zero, List.getElem_cons_succ, List.setIfInBounds_toArray, List.set_cons_zero, List.set_cons_succ]
            refine wpAnyH_take (i := 5) (v := ?_) rfl (by kernel_rfl) (by kernel_rfl) (by kernel_rfl) (fun _ _ _ h => h) (Or.inl ⟨by rfl, ?_⟩) hH ?_
            rotate_left
            · ((intro W hW; have hk := Sle.cellk0 (hW) HX.out _ rfl; clear hW; go_simp) <;> with_reducible rfl)
            simp only [Act.put, List.getElem_toArray, List.getElem_cons_zero, List.getElem_cons_succ, List.setIfInBounds_toArray, List.set_cons_zero, List.set_cons_succ]
            refine wpAnyH_take (i := 6) (v := ?_) rfl (by kernel_rfl) (by kernel_rfl) (by kernel_rfl) (fun _ _ _ h => h) (Or.inl ⟨by rfl, ?_⟩) hH ?_
            rotate_left
            · ((intro W hW; clear hW; go_simp) <;> with_reducible rfl)
            simp only [Act.put, List.getElem_toArray, List.getElem_cons_zero, List.getElem_cons_succ, List.setIfInBounds_toArray, List.set_cons_zero, List.set_cons_succ]
            refine wpAnyH_take (i := 7) (v := ?_) rfl (by kernel_rfl) (by kernel_rfl) (by kernel_rfl) (fun _ _ _ h => h) (Or.inl ⟨by rfl, ?_⟩) hH ?_
            rotate_left
            · ((intro W hW; clear hW; go_simp) <;> with_reducible rfl)
            simp only [Act.put, List.getElem_toArray, List.getElem_cons_zero, List.getElem_cons_succ, List.setIfInBounds_toArray, List.set_cons_zero, List.set_cons_succ]
            refine wpAnyH_take (i := 8) (v := ?_) rfl (by kernel_rfl) (by kernel_rfl) (by kernel_rfl) (fun _ _ _ h => h) (Or.inl ⟨by rfl, ?_⟩) hH ?_
            rotate_left
            · ((intro W hW; clear hW; go_simp) <;> with_reducible rfl)
            simp only [Act.put, List.getElem_toArray, List.getElem_cons_zero, List.getElem_cons_succ, List.setIfInBounds_toArray, List.set_cons_zero, List.set_cons_succ]
            refine wpAnyH_take (i := 11) (v := ?_) rfl (by kernel_rfl) (by kernel_rfl) (by kernel_rfl) (fun _ _ _ h => h) (Or.inl ⟨by rfl, ?_⟩) hH ?_
            rotate_left
            · ((intro W hW; clear hW; go_simp) <;> with_reducible rfl)
            simp only [Act.put, List.getElem_toArray, List.getElem_cons_zero, List.getElem_cons_succ, List.setIfInBounds_toArray, List.set_cons_zero, List.set_cons_succ]
            refine wpAnyH_take (i := 12) (v := ?_) rfl (by kernel_rfl) (by kernel_rfl) (by kernel_rfl) (fun _ _ _ h => h) (Or.inl ⟨by rfl, ?_⟩) hH ?_
            rotate_left
            · ((intro W hW; clear hW; go_simp) <;> with_reducible rfl)
            simp only [Act.put, List.getElem_toArray, List.getElem_cons_zero, List.getElem_cons_succ, List.setIfInBounds_toArray, List.set_cons_zero, List.set_cons_succ]
            refine wpAnyH_take (i := 13) (v := ?_) rfl (by kernel_rfl) (by kernel_rfl) (by kernel_rfl) (fun _ _ _ h => h) (Or.inl ⟨by rfl, ?_⟩) hH ?_
            rotate_left
            · ((intro W hW; clear hW; go_simp) <;> with_reducible rfl)
            simp only [Act.put, List.getElem_toArray, List.getElem_cons_zero, List.getElem_cons_succ, List.setIfInBounds_toArray, List.set_cons_zero, List.set_cons_succ]
            refine wpAnyH_ready (rs := [9]) (by kernel_rfl) (by simp) ?_
            refine AllReadyH.cons (o := _) rfl (fun K hK => ?_) AllReadyH.nil
            simp only [List.getElem_toArray, List.getElem_cons_zero, List.getElem_cons_succ]
            rw [if_pos (by rfl)]
            refine wp_lit_n 34 5 2 _ rfl #[.int .u8 (x.c % 256), .int .u8 ((mx : Int) % 256)] (.int .u8 0) Try.underlying34 (by kernel_rfl) 1 (by kernel_rfl) (by decide) (by kernel_rfl) ?_
            intro g77 w2 ge lt hh bb
            have hl : w2.heap[g77]? = some (.cells (([byteOf x.c, byteOf (mx : Int)] : List UInt8).map u8v).toArray 5 (0, 0)) := (by simpa [u8v, byteOf_val] using hh)
            have hdw := own_lit (B := w1.heap.size) ([byteOf x.c, byteOf (mx : Int)]) hl ge 2 rfl (by simp [maxLen])
            have hd := (own_sl hdw).1
            have hdlo := bel.size
            clear hl
            have hdge := ge
            have lz_hd := bb.size
            have bl_en_hd := en.bl_new
            have bl_xs_hd := xs.bl_new
            have bl_ob_hd := ob.bl_new
            have bl_pf_hd := pf.bl_new
            have bl_bk_hd := bk.bl_new
            have av_en_b77 := en.av_new ge
            have av_xs_b77 := xs.av_new ge
            have av_ob_b77 := ob.av_new ge
            have of_ob_b77 := own_new obw ge
            have av_pf_b77 := pf.av_new ge
            have av_bk_b77 := bk.av_new ge
            have ob77 := Nat.le_trans bel.size ge
            replace en := en.below bb
            replace xs := xs.below bb
            replace ob := ob.below bb
            replace obw := own_under obw bb
            replace pf := pf.below bb
            replace bk := bk.below bb
            replace lz_ob := Nat.le_trans lz_ob bb.size
            replace bel := bel.trans (bb.mono bel.size)
            have hb77 := hh
            clear hh lt ge bb
            refine hK.out _ _ en (fun hH3 => ?_)
            clear hK K
            simp only [Act.put, List.setIfInBounds_toArray, List.set_cons_zero, List.set_cons_succ]
            refine wpAnyH_ready (rs := [10]) (by kernel_rfl) (by simp) ?_
            refine AllReadyH.cons (o := _) rfl (fun K hK => ?_) AllReadyH.nil
            simp only [List.getElem_toArray, List.getElem_cons_zero, List.getElem_cons_succ]
            rw [if_pos (by rfl)]
            refine wp_append_bg (.tmp 68) (.tmp 77) 34 rfl (w.heap.size) 5 ii (.int .u8 0) Try.underlying34 hii hz0 hz1 hz2 rfl _ (q2) (l2) rfl obw (some ⟨g77, 0, none⟩) (2) (2) ([byteOf x.c, byteOf (mx : Int)]) rfl hd (by have := HQ2.out; omega) lz_ob ?_
            intro v78 w4 own_ bb gw ofw
            have of78_b77 := ofw _ (hlt hb77) of_ob_b77
            clear ofw
            replace en := en.under hble bb
            replace xs := xs.under hbx bb
            replace pf := pf.under hbf bb
            replace bk := bk.under hbk bb
            clear hd hdw lz_hd
            replace hb77 := blk_own hb77 gw of_ob_b77
            clear gw
            replace bel := bel.trans (bb.mono oblo)
            have lz_b1 := Nat.le_trans lz_ob bb.size
            clear bb
            clear ob obw lz_ob
            replace own_ : w4.ownsRow (w.heap.size) 5 1 v78 (q2 + 2) ((l2 ++ [byteOf x.c, byteOf (mx : Int)] : List UInt8).map u8v) := own_
            obtain ⟨A78, c78, rfl⟩ := own_val own_
            have b1w := own_
            have b1 := (own_sl own_).1
            have fr_b1 := (own_sl own_).2
            clear own_
            have av_b1_b77 := own_av b1w of78_b77
            refine hK.out _ _ en (fun hH5 => ?_)
            clear hK K
            simp only [Act.put, List.setIfInBounds_toArray, List.set_cons_zero, List.set_cons_succ]
            refine wpAnyH_ready (rs := [14]) (by kernel_rfl) (by simp) ?_
            refine AllReadyH.cons (o := _) rfl (fun K hK => ?_) AllReadyH.nil
            simp only [List.getElem_toArray, List.getElem_cons_zero, List.getElem_cons_succ]
            rw [if_pos (by rfl)]
            refine wp_append_bg (.tmp 78) (.tmp 81) 34 rfl (w.heap.size) 5 ii (.int .u8 0) Try.underlying34 hii hz0 hz1 hz2 rfl _ (q2 + 2) (l2 ++ [byteOf x.c, byteOf (mx : Int)]) rfl b1w (A81) (mx) (c81) (lx.take mx) rfl pf (by have := HQ2.out; have := HMX.out; omega) lz_b1 ?_
            intro v82 w6 own_ bb gw ofw
            have of82_b77 := ofw _ (hlt hb77) of78_b77
            clear ofw
            replace en := en.under hble bb
            replace xs := xs.under hbx bb
            replace pf := pf.under hbf bb
            replace bk := bk.under hbk bb
            replace hb77 := blk_own hb77 gw of78_b77
            clear gw
            replace bel := bel.trans (bb.mono oblo)
            have lz_b2 := Nat.le_trans lz_b1 bb.size
            clear bb
            clear b1 b1w lz_b1
            replace own_ : w6.ownsRow (w.heap.size) 5 1 v82 (q3) ((l2 ++ [byteOf x.c, byteOf (mx : Int)] ++ (lx.take mx) : List UInt8).map u8v) := (by rw [← HQ3.out]; exact own_)
            obtain ⟨A82, c82, rfl⟩ := own_val own_
            have b2w := own_
            have b2 := (own_sl own_).1
            have fr_b2 := (own_sl own_).2
            clear own_
            have av_b2_b77 := own_av b2w of82_b77
            refine hK.out _ _ en (fun hH7 => ?_)
            clear hK K
            simp only [Act.put, List.setIfInBounds_toArray, List.set_cons_zero, List.set_cons_succ]
            refine wpAnyH_take (i := 15) (v := ?_) rfl (by kernel_rfl) (by kernel_rfl) (by kernel_rfl) (fun _ _ _ h => h) (Or.inl ⟨by rfl, ?_⟩) hH7 ?_
            rotate_left
            · ((intro W hW; clear hW; go_simp) <;> with_reducible rfl)
            simp only [Act.put, List.getElem_toArray, List.getElem_cons_zero, List.getElem_cons_succ, List.setIfInBounds_toArray, List.set_cons_zero, List.set_cons_succ]
            by_cases h6 : 1200 < q3
            · have h6i : (1200 : Int) < q3 := by omega
              have HW2 : Hid ((l2 ++ [byteOf x.c, byteOf (mx : Int)] ++ lx.take mx) ++ restL false (byteOf x.c) (lx.drop mx) = allL (L.take i) ++ piecesL (byteOf x.c) l) := Lib.hid (rest_last HML.out HW.out (.inl rfl) (by rw [HML.out]; exact HKP.out))
              have HP : Hid (putL L = ([], 2)) := Lib.hid (by unfold putL; rw [if_pos HDB.out, if_neg]; have h1 := all_take L (i + 1); have h2 := own_len b2w; rw [HAL.out, ← HW2.out, List.length_append, h2] at h1; omega)
              refine wpAnyH_done (by kernel_rfl) ?_ _
              have R85 := r85
              go_wp2_with fail
              clear R85
              exact bodyPost_ret (v := .tuple #[.slice none 0 0, .int .i64 2]) (by simp [results, Try.results29, go_sem]) rfl ⟨none, 0, 0, by rw [HP.out], by rw [HP.out]; exact Sl.nil _, bel⟩
            have h6i : decide ((1200 : Int) < q3) = false := decide_eq_false (by omega)
            have HQ4 : Hid (q3 ≤ 1200) := Lib.hid (by omega)
            have HW2 : Hid ((l2 ++ [byteOf x.c, byteOf (mx : Int)] ++ lx.take mx) ++ restL false (byteOf x.c) (lx.drop mx) = allL (L.take i) ++ piecesL (byteOf x.c) l) := Lib.hid (rest_last HML.out HW.out (.inl rfl) (by rw [HML.out]; exact HKP.out))
            clear h6
            refine wpAnyH_done (by kernel_rfl) ?_ _
            have R85 := r85
            go_wp2_with fail
            clear R85
            go_roundg (mx - mx + 0)
            case measure => have h1_ := HGK_.out; have h2_ := HFS.out; have h3_ := HKP.out; omega
            case rel => exact ⟨A85, mx - mx, c85, lx.drop mx, false, q3, (l2 ++ [byteOf x.c, byteOf (mx : Int)] ++ lx.take mx), A82, c82, rfl, HW2, hbk, HQ4, Lib.hid (by have h1 := HMX.out; omega), (by rw [Nat.sub_self]), by go_num, rfl, b2w, en, bk, bel⟩
          have HKP : Hid (0 < 255 ∧ 255 < mx) := Lib.hid ⟨by decide, h5⟩
          have h5i : (255 : Int) < mx := by omega
          obtain ⟨A81, c81, r81, f81, u81⟩ := piece_front xs (k := 255) (by omega)
          replace r81 : ∀ W, (Instr.slice 34 (.slice Bx mx cx) none (some (.int .i64 255)) none).run Try.prog W = .ok (.slice A81 255 c81) W := r81
          have pf := f81 _ xs
          have hbf := hbx.sub u81
          obtain ⟨A85, c85, r85, f85, u85⟩ := piece_back xs (k := 255) (by omega)
          replace r85 : ∀ W, (Instr.slice 34 (.slice Bx mx cx) (some (.int .i64 255)) none none).run Try.prog W = .ok (.slice A85 (mx - 255) c85) W := r85
          have bk := f85 _ xs
          have hbk := hbx.sub u85
          obtain ⟨q3, hq3⟩ : ∃ q3, q2 + 2 + 255 = q3 := ⟨_, rfl⟩
          have HQ3 := Lib.hid hq3
          have HQN : Hid (q3 ≤ 200000) := Lib.hid (by have h1 := HQ2.out; have h2 := HMX.out; omega)
          have q30 : (0 : Int) ≤ q3 := by omega
          have HML : Hid (lx.length = mx) := Lib.hid xs.1
          clear hq3 f81 u81 f85 u85
          go_wp2_with fail
          replace bel := bel.drew
          replace en := en.drew
          replace xs := xs.drew
          replace ob := ob.drew
          replace obw : wr.drew.ownsRow _ _ _ _ _ _ := obw
          replace lz_ob : _ ≤ wr.drew.heap.size := lz_ob
          replace pf := pf.drew
          replace bk := bk.drew
          refine wp_region_held_drew (S := fun W => Sle opE 2 W (some ⟨gE, oE, none⟩) (n) (c) (hs)) (by kernel_rfl) en (fun hH => ?_)
          generalize wr.drew = w1 at bel en xs ob pf bk obw lz_ob hH ⊢
          refine wpAnyH_take (i := 0) (v := ?_) rfl (by kernel_rfl) (by kernel_rfl) (by kernel_rfl) (fun _ _ _ h => h) (Or.inl ⟨by rfl, ?_⟩) hH ?_
          rotate_left
          · ((intro W hW; clear hW; go_simp) <;> with_reducible rfl)
          simp only [Act.put, List.getElem_toArray, List.getElem_cons_zero, List.setIfInBounds_toArray, List.set_cons_zero, List.set_cons_succ]
          refine wpAnyH_take (i := 1) (v := ?_) rfl (by kernel_rfl) (by kernel_rfl) (by kernel_rfl) (fun _ _ _ h => h) (Or.inl ⟨by rfl, ?_⟩) hH ?_
          rotate_left
          · ((intro W hW; clear hW; go_simp) <;> with_reducible rfl)
          simp only [Act.put, List.getElem_toArray, List.getElem_cons_zero, List.getElem_cons_succ, List.setIfInBounds_toArray, List.set_cons_zero, List.set_cons_succ]
          refine wpAnyH_take (i := 2) (v := ?_) rfl (by kernel_rfl) (by kernel_rfl) (by kernel_rfl) (fun _ _ _ h => h) (Or.inl ⟨by rfl, ?_⟩) hH ?_
          rotate_left
          · ((intro W hW; clear hW; go_simp) <;> with_reducible rfl)
          simp only [Act.put, List.getElem_toArray, List.getElem_cons_zero, List.getElem_cons_succ, List.setIfInBounds_toArray, List.set_cons_zero, List.set_cons_succ]
          refine wpAnyH_take (i := 3) (v := ?_) rfl (by kernel_rfl) (by kernel_rfl) (by kernel_rfl) (fun _ _ _ h => h) (Or.inl ⟨by rfl, ?_⟩) hH ?_
          rotate_left
          · ((intro W hW; clear hW; go_simp) <;> with_reducible rfl)
          simp only [Act.put, List.getElem_toArray, List.getElem_cons_zero, List.getElem_cons_succ, List.setIfInBounds_toArray, List.set_cons_zero, List.set_cons_succ]
          refine wpAnyH_take (i := 4) (v := ?_) rfl (by kernel_rfl) (by kernel_rfl) (by kernel_rfl) (fun _ _ _ h => h) (Or.inl ⟨by rfl, ?_⟩) hH ?_
          rotate_left
          · ((intro W hW; clear hW; go_simp) <;> with_reducible rfl)
          simp only [Act.put, List.getElem_toArray, List.getElem_cons_zero, List.getElem_cons_succ, List.setIfInBounds_toArray, List.set_cons_zero, List.set_cons_succ]
          refine wpAnyH_take (i := 5) (v := ?_) rfl (by kernel_rfl) (by kernel_rfl) (by kernel_rfl) (fun _ _ _ h => h) (Or.inl ⟨by rfl, ?_⟩) hH ?_
          rotate_left
          · ((intro W hW; have hk := Sle.cellk0 (hW) HX.out _ rfl; clear hW; go_simp) <;> with_reducible rfl)
          simp only [Act.put, List.getElem_toArray, List.getElem_cons_zero, List.getElem_cons_succ, List.setIfInBounds_toArray, List.set_cons_zero, List.set_cons_succ]
          refine wpAnyH_take (i := 6) (v := ?_) rfl (by kernel_rfl) (by kernel_rfl) (by kernel_rfl) (fun _ _ _ h => h) (Or.inl ⟨by rfl, ?_⟩) hH ?_
          rotate_left
          · ((intro W hW; clear hW; go_simp) <;> with_reducible rfl)
          simp only [Act.put, List.getElem_toArray, List.getElem_cons_zero, List.getElem_cons_succ, List.setIfInBounds_toArray, List.set_cons_zero, List.set_cons_succ]
          refine wpAnyH_take (i := 7) (v := ?_) rfl (by kernel_rfl) (by kernel_rfl) (by kernel_rfl) (fun _ _ _ h => h) (Or.inl ⟨by rfl, ?_⟩) hH ?_
          rotate_left
          · ((intro W hW; clear hW; go_simp) <;> with_reducible rfl)
          simp only [Act.put, List.getElem_toArray, List.getElem_cons_zero, List.getElem_cons_succ, List.setIfInBounds_toArray, List.set_cons_zero, List.set_cons_succ]
          refine wpAnyH_take (i := 8) (v := ?_) rfl (by kernel_rfl) (by kernel_rfl) (by kernel_rfl) (fun _ _ _ h => h) (Or.inl ⟨by rfl, ?_⟩) hH ?_
          rotate_left
          · ((intro W hW; clear hW; go_simp) <;> with_reducible rfl)
          simp only [Act.put, List.getElem_toArray, List.getElem_cons_zero, List.getElem_cons_succ, List.setIfInBounds_toArray, List.set_cons_zero, List.set_cons_succ]
          refine wpAnyH_take (i := 11) (v := ?_) rfl (by kernel_rfl) (by kernel_rfl) (by kernel_rfl) (fun _ _ _ h => h) (Or.inl ⟨by rfl, ?_⟩) hH ?_
          rotate_left
          · ((intro W hW; clear hW; go_simp) <;> with_reducible rfl)
          simp only [Act.put, List.getElem_toArray, List.getElem_cons_zero, List.getElem_cons_succ, List.setIfInBounds_toArray, List.set_cons_zero, List.set_cons_succ]
          refine wpAnyH_take (i := 12) (v := ?_) rfl (by kernel_rfl) (by kernel_rfl) (by kernel_rfl) (fun _ _ _ h => h) (Or.inl ⟨by rfl, ?_⟩) hH ?_
          rotate_left
          · ((intro W hW; clear hW; go_simp) <;> with_reducible rfl)
          simp only [Act.put, List.getElem_toArray, List.getElem_cons_zero, List.getElem_cons_succ, List.setIfInBounds_toArray, List.set_cons_zero, List.set_cons_succ]
          refine wpAnyH_take (i := 13) (v := ?_) rfl (by kernel_rfl) (by kernel_rfl) (by kernel_rfl) (fun _ _ _ h => h) (Or.inl ⟨by rfl, ?_⟩) hH ?_
          rotate_left
          · ((intro W hW; clear hW; go_simp) <;> with_reducible rfl)
          simp only [Act.put, List.getElem_toArray, List.getElem_cons_zero, List.getElem_cons_succ, List.setIfInBounds_toArray, List.set_cons_zero, List.set_cons_succ]
          refine wpAnyH_ready (rs := [9]) (by kernel_rfl) (by simp) ?_
          refine AllReadyH.cons (o := _) rfl (fun K hK => ?_) AllReadyH.nil
          simp only [List.getElem_toArray, List.getElem_cons_zero, List.getElem_cons_succ]
          rw [if_pos (by rfl)]
          refine wp_lit_n 34 5 2 _ rfl #[.int .u8 (x.c % 256), .int .u8 255] (.int .u8 0) Try.underlying34 (by kernel_rfl) 1 (by kernel_rfl) (by decide) (by kernel_rfl) ?_
          intro g77 w2 ge lt hh bb
          have hl : w2.heap[g77]? = some (.cells (([byteOf x.c, 255] : List UInt8).map u8v).toArray 5 (0, 0)) := (by simpa [u8v, byteOf_val] using hh)
          have hdw := own_lit (B := w1.heap.size) ([byteOf x.c, 255]) hl ge 2 rfl (by simp [maxLen])
          have hd := (own_sl hdw).1
          have hdlo := bel.size
          clear hl
          have hdge := ge
          have lz_hd := bb.size
          have bl_en_hd := en.bl_new
          have bl_xs_hd := xs.bl_new
          have bl_ob_hd := ob.bl_new
          have bl_pf_hd := pf.bl_new
          have bl_bk_hd := bk.bl_new
          have av_en_b77 := en.av_new ge
          have av_xs_b77 := xs.av_new ge
          have av_ob_b77 := ob.av_new ge
          have of_ob_b77 := own_new obw ge
          have av_pf_b77 := pf.av_new ge
          have av_bk_b77 := bk.av_new ge
          have ob77 := Nat.le_trans bel.size ge
          replace en := en.below bb
          replace xs := xs.below bb
          replace ob := ob.below bb
          replace obw := own_under obw bb
          replace pf := pf.below bb
          replace bk := bk.below bb
          replace lz_ob := Nat.le_trans lz_ob bb.size
          replace bel := bel.trans (bb.mono bel.size)
          have hb77 := hh
          clear hh lt ge bb
          refine hK.out _ _ en (fun hH3 => ?_)
          clear hK K
          simp only [Act.put, List.setIfInBounds_toArray, List.set_cons_zero, List.set_cons_succ]
          refine wpAnyH_ready (rs := [10]) (by kernel_rfl) (by simp) ?_
          refine AllReadyH.cons (o := _) rfl (fun K hK => ?_) AllReadyH.nil
          simp only [List.getElem_toArray, List.getElem_cons_zero, List.getElem_cons_succ]
          rw [if_pos (by rfl)]
          refine wp_append_bg (.tmp 68) (.tmp 77) 34 rfl (w.heap.size) 5 ii (.int .u8 0) Try.underlying34 hii hz0 hz1 hz2 rfl _ (q2) (l2) rfl obw (some ⟨g77, 0, none⟩) (2) (2) ([byteOf x.c, 255]) rfl hd (by have := HQ2.out; omega) lz_ob ?_
          intro v78 w4 own_ bb gw ofw
          have of78_b77 := ofw _ (hlt hb77) of_ob_b77
          clear ofw
          replace en := en.under hble bb
          replace xs := xs.under hbx bb
          replace pf := pf.under hbf bb
          replace bk := bk.under hbk bb
          clear hd hdw lz_hd
          replace hb77 := blk_own hb77 gw of_ob_b77
          clear gw
          replace bel := bel.trans (bb.mono oblo)
          have lz_b1 := Nat.le_trans lz_ob bb.size
          clear bb
          clear ob obw lz_ob
          replace own_ : w4.ownsRow (w.heap.size) 5 1 v78 (q2 + 2) ((l2 ++ [byteOf x.c, 255] : List UInt8).map u8v) := own_
          obtain ⟨A78, c78, rfl⟩ := own_val own_
          have b1w := own_
          have b1 := (own_sl own_).1
          have fr_b1 := (own_sl own_).2
          clear own_
          have av_b1_b77 := own_av b1w of78_b77
          refine hK.out _ _ en (fun hH5 => ?_)
          clear hK K
          simp only [Act.put, List.setIfInBounds_toArray, List.set_cons_zero, List.set_cons_succ]
          refine wpAnyH_ready (rs := [14]) (by kernel_rfl) (by simp) ?_
          refine AllReadyH.cons (o := _) rfl (fun K hK => ?_) AllReadyH.nil
          simp only [List.getElem_toArray, List.getElem_cons_zero, List.getElem_cons_succ]
          rw [if_pos (by rfl)]
          refine wp_append_bg (.tmp 78) (.tmp 81) 34 rfl (w.heap.size) 5 ii (.int .u8 0) Try.underlying34 hii hz0 hz1 hz2 rfl _ (q2 + 2) (l2 ++ [byteOf x.c, 255]) rfl b1w (A81) (255) (c81) (lx.take 255) rfl pf (by have := HQ2.out; have := HMX.out; omega) lz_b1 ?_
          intro v82 w6 own_ bb gw ofw
          have of82_b77 := ofw _ (hlt hb77) of78_b77
          clear ofw
          replace en := en.under hble bb
          replace xs := xs.under hbx bb
          replace pf := pf.under hbf bb
          replace bk := bk.under hbk bb
          replace hb77 := blk_own hb77 gw of78_b77
          clear gw
          replace bel := bel.trans (bb.mono oblo)
          have lz_b2 := Nat.le_trans lz_b1 bb.size
          clear bb
          clear b1 b1w lz_b1
          replace own_ : w6.ownsRow (w.heap.size) 5 1 v82 (q3) ((l2 ++ [byteOf x.c, 255] ++ (lx.take 255) : List UInt8).map u8v) := (by rw [← HQ3.out]; exact own_)
          obtain ⟨A82, c82, rfl⟩ := own_val own_
          have b2w := own_
          have b2 := (own_sl own_).1
          have fr_b2 := (own_sl own_).2
          clear own_
          have av_b2_b77 := own_av b2w of82_b77
          refine hK.out _ _ en (fun hH7 => ?_)
          clear hK K
          simp only [Act.put, List.setIfInBounds_toArray, List.set_cons_zero, List.set_cons_succ]
          refine wpAnyH_take (i := 15) (v := ?_) rfl (by kernel_rfl) (by kernel_rfl) (by kernel_rfl) (fun _ _ _ h => h) (Or.inl ⟨by rfl, ?_⟩) hH7 ?_
          rotate_left
          · ((intro W hW; clear hW; go_simp) <;> with_reducible rfl)
          simp only [Act.put, List.getElem_toArray, List.getElem_cons_zero, List.getElem_cons_succ, List.setIfInBounds_toArray, List.set_cons_zero, List.set_cons_succ]
          by_cases h6 : 1200 < q3
          · have h6i : (1200 : Int) < q3 := by omega
            have HW2 : Hid ((l2 ++ [byteOf x.c, 255] ++ lx.take 255) ++ restL false (byteOf x.c) (lx.drop 255) = allL (L.take i) ++ piecesL (byteOf x.c) l) := Lib.hid (rest_long HW.out (.inl rfl) (by rw [HML.out]; exact HKP.out.2))
            have HP : Hid (putL L = ([], 2)) := Lib.hid (by unfold putL; rw [if_pos HDB.out, if_neg]; have h1 := all_take L (i + 1); have h2 := own_len b2w; rw [HAL.out, ← HW2.out, List.length_append, h2] at h1; omega)
            refine wpAnyH_done (by kernel_rfl) ?_ _
            have R85 := r85
            go_wp2_with fail
            clear R85
            exact bodyPost_ret (v := .tuple #[.slice none 0 0, .int .i64 2]) (by simp [results, Try.results29, go_sem]) rfl ⟨none, 0, 0, by rw [HP.out], by rw [HP.out]; exact Sl.nil _, bel⟩
          have h6i : decide ((1200 : Int) < q3) = false := decide_eq_false (by omega)
          have HQ4 : Hid (q3 ≤ 1200) := Lib.hid (by omega)
          have HW2 : Hid ((l2 ++ [byteOf x.c, 255] ++ lx.take 255) ++ restL false (byteOf x.c) (lx.drop 255) = allL (L.take i) ++ piecesL (byteOf x.c) l) := Lib.hid (rest_long HW.out (.inl rfl) (by rw [HML.out]; exact HKP.out.2))
          clear h6
          refine wpAnyH_done (by kernel_rfl) ?_ _
          have R85 := r85
          go_wp2_with fail
          clear R85
          go_roundg (mx - 255 + 0)
          case measure => have h1_ := HGK_.out; have h2_ := HFS.out; have h3_ := HKP.out; omega
          case rel => exact ⟨A85, mx - 255, c85, lx.drop 255, false, q3, (l2 ++ [byteOf x.c, 255] ++ lx.take 255), A82, c82, rfl, HW2, hbk, HQ4, Lib.hid (by have h1 := HMX.out; omega), rfl, by go_num, rfl, b2w, en, bk, bel⟩
        by_cases h0 : 0 < mx
        rotate_left
        · have HEND : Hid (l2 = allL (L.take (i + 1))) := Lib.hid (by have h1 := HW.out; rw [rest_end (by rw [xs.1]; omega), List.append_nil] at h1; rw [HAL.out]; exact h1)
          obtain rfl : mx = 0 := by omega
          clear h0
          go_wp2_with fail
          go_roundg (n - (i + 1))
          case measure => have h1_ := HG1_.out; omega
          case rel => exact ⟨i + 1, q2, Aob, cob, rfl, by omega, HQ2, by go_num, rfl, (by rw [← HEND.out]; exact obw), en, bel⟩
        have h0i : (0 : Int) < mx := by omega
        have HFP : Hid (0 < lx.length) := Lib.hid (by rw [xs.1]; exact h0)
        have HFS : Hid (0 < mx + false.toNat ∧ 0 < mx) := Lib.hid ⟨by simp; exact h0, h0⟩
        clear h0
        by_cases h5 : 255 < mx
        rotate_left
        · have HKP : Hid (mx ≤ 255) := Lib.hid (by omega)
          have h5i : decide ((255 : Int) < mx) = false := decide_eq_false (by omega)
          clear h5
          obtain ⟨A81, c81, r81, f81, u81⟩ := piece_front xs (k := mx) (Nat.le_refl _)
          have pf := f81 _ xs
          have hbf := hbx.sub u81
          obtain ⟨A85, c85, r85, f85, u85⟩ := piece_back xs (k := mx) (Nat.le_refl _)
          have bk := f85 _ xs
          have hbk := hbx.sub u85
          obtain ⟨q3, hq3⟩ : ∃ q3, q2 + 2 + mx = q3 := ⟨_, rfl⟩
          have HQ3 := Lib.hid hq3
          have HQN : Hid (q3 ≤ 200000) := Lib.hid (by have h1 := HQ2.out; have h2 := HMX.out; omega)
          have q30 : (0 : Int) ≤ q3 := by omega
          have HML : Hid (lx.length = mx) := Lib.hid xs.1
          clear hq3 f81 u81 f85 u85
          go_wp2_with fail
          replace bel := bel.drew
          replace en := en.drew
          replace xs := xs.drew
          replace ob := ob.drew
          replace obw : wr.drew.ownsRow _ _ _ _ _ _ := obw
          replace lz_ob : _ ≤ wr.drew.heap.size := lz_ob
          replace pf := pf.drew
          replace bk := bk.drew
          refine wp_region_held_drew (S := fun W => Sle opE 2 W (some ⟨gE, oE, none⟩) (n) (c) (hs)) (by kernel_rfl) en (fun hH => ?_)
          generalize wr.drew = w1 at bel en xs ob pf bk obw lz_ob hH ⊢
          refine wpAnyH_take (i := 0) (v := ?_) rfl (by kernel_rfl) (by kernel_rfl) (by kernel_rfl) (fun _ _ _ h => h) (Or.inl ⟨by rfl, ?_⟩) hH ?_
          rotate_left
          · ((intro W hW; clear hW; go_simp) <;> with_reducible rfl)
          simp only [Act.put, List.getElem_toArray, List.getElem_cons_zero, List.setIfInBounds_toArray, List.set_cons_zero, List.set_cons_succ]
          refine wpAnyH_take (i := 1) (v := ?_) rfl (by kernel_rfl) (by kernel_rfl) (by kernel_rfl) (fun _ _ _ h => h) (Or.inl ⟨by rfl, ?_⟩) hH ?_
          rotate_left
          · ((intro W hW; clear hW; go_simp) <;> with_reducible rfl)
          simp only [Act.put, List.getElem_toArray, List.getElem_cons_zero, List.getElem_cons_succ, List.setIfInBounds_toArray, List.set_cons_zero, List.set_cons_succ]
          refine wpAnyH_take (i := 2) (v := ?_) rfl (by kernel_rfl) (by kernel_rfl) (by kernel_rfl) (fun _ _ _ h => h) (Or.inl ⟨by rfl, ?_⟩) hH ?_
          rotate_left
          · ((intro W hW; clear hW; go_simp) <;> with_reducible rfl)
          simp only [Act.put, List.getElem_toArray, List.getElem_cons_zero, List.getElem_cons_succ, List.setIfInBounds_toArray, List.set_cons_zero, List.set_cons_succ]
          refine wpAnyH_take (i := 3) (v := ?_) rfl (by kernel_rfl) (by kernel_rfl) (by kernel_rfl) (fun _ _ _ h => h) (Or.inl ⟨by rfl, ?_⟩) hH ?_
          rotate_left
          · ((intro W hW; clear hW; go_simp) <;> with_reducible rfl)
          simp only [Act.put, List.getElem_toArray, List.getElem_cons_zero, List.getElem_cons_succ, List.setIfInBounds_toArray, List.set_cons_zero, List.set_cons_succ]
          refine wpAnyH_take (i := 4) (v := ?_) rfl (by kernel_rfl) (by kernel_rfl) (by kernel_rfl) (fun _ _ _ h => h) (Or.inl ⟨by rfl, ?_⟩) hH ?_
          rotate_left
          · ((intro W hW; clear hW; go_simp) <;> with_reducible rfl)
          simp only [Act.put, List.getElem_toArray, List.getElem_cons_zero, List.getElem_cons_succ, List.setIfInBounds_toArray, List.set_cons_zero, List.set_cons_succ]
          refine wpAnyH_take (i := 5) (v := ?_) rfl (by kernel_rfl) (by kernel_rfl) (by kernel_rfl) (fun _ _ _ h => h) (Or.inl ⟨by rfl, ?_⟩) hH ?_
          rotate_left
          · ((intro W hW; have hk := Sle.cellk0 (hW) HX.out _ rfl; clear hW; go_simp) <;> with_reducible rfl)
          simp only [Act.put, List.getElem_toArray, List.getElem_cons_zero, List.getElem_cons_succ, List.setIfInBounds_toArray, List.set_cons_zero, List.set_cons_succ]
          refine wpAnyH_take (i := 6) (v := ?_) rfl (by kernel_rfl) (by kernel_rfl) (by kernel_rfl) (fun _ _ _ h => h) (Or.inl ⟨by rfl, ?_⟩) hH ?_
          rotate_left
          · ((intro W hW; clear hW; go_simp) <;> with_reducible rfl)
          simp only [Act.put, List.getElem_toArray, List.getElem_cons_zero, List.getElem_cons_succ, List.setIfInBounds_toArray, List.set_cons_zero, List.set_cons_succ]
          refine wpAnyH_take (i := 7) (v := ?_) rfl (by kernel_rfl) (by kernel_rfl) (by kernel_rfl) (fun _ _ _ h => h) (Or.inl ⟨by rfl, ?_⟩) hH ?_
          rotate_left
          · ((intro W hW; clear hW; go_simp) <;> with_reducible rfl)
          simp only [Act.put, List.getElem_toArray, List.getElem_cons_zero, List.getElem_cons_succ, List.setIfInBounds_toArray, List.set_cons_zero, List.set_cons_succ]
          refine wpAnyH_take (i := 8) (v := ?_) rfl (by kernel_rfl) (by kernel_rfl) (by kernel_rfl) (fun _ _ _ h => h) (Or.inl ⟨by rfl, ?_⟩) hH ?_
          rotate_left
          · ((intro W hW; clear hW; go_simp) <;> with_reducible rfl)
          simp only [Act.put, List.getElem_toArray, List.getElem_cons_zero, List.getElem_cons_succ, List.setIfInBounds_toArray, List.set_cons_zero, List.set_cons_succ]
          refine wpAnyH_take (i := 11) (v := ?_) rfl (by kernel_rfl) (by kernel_rfl) (by kernel_rfl) (fun _ _ _ h => h) (Or.inl ⟨by rfl, ?_⟩) hH ?_
          rotate_left
          · ((intro W hW; clear hW; go_simp) <;> with_reducible rfl)
          simp only [Act.put, List.getElem_toArray, List.getElem_cons_zero, List.getElem_cons_succ, List.setIfInBounds_toArray, List.set_cons_zero, List.set_cons_succ]
          refine wpAnyH_take (i := 12) (v := ?_) rfl (by kernel_rfl) (by kernel_rfl) (by kernel_rfl) (fun _ _ _ h => h) (Or.inl ⟨by rfl, ?_⟩) hH ?_
          rotate_left
          · ((intro W hW; clear hW; go_simp) <;> with_reducible rfl)
          simp only [Act.put, List.getElem_toArray, List.getElem_cons_zero, List.getElem_cons_succ, List.setIfInBounds_toArray, List.set_cons_zero, List.set_cons_succ]
          refine wpAnyH_take (i := 13) (v := ?_) rfl (by kernel_rfl) (by kernel_rfl) (by kernel_rfl) (fun _ _ _ h => h) (Or.inl ⟨by rfl, ?_⟩) hH ?_
          rotate_left
          · ((intro W hW; clear hW; go_simp) <;> with_reducible rfl)
          simp only [Act.put, List.getElem_toArray, List.getElem_cons_zero, List.getElem_cons_succ, List.setIfInBounds_toArray, List.set_cons_zero, List.set_cons_succ]
          refine wpAnyH_ready (rs := [9]) (by kernel_rfl) (by simp) ?_
          refine AllReadyH.cons (o := _) rfl (fun K hK => ?_) AllReadyH.nil
          simp only [List.getElem_toArray, List.getElem_cons_zero, List.getElem_cons_succ]
          rw [if_pos (by rfl)]
          refine wp_lit_n 34 5 2 _ rfl #[.int .u8 (x.c % 256), .int .u8 ((mx : Int) % 256)] (.int .u8 0) Try.underlying34 (by kernel_rfl) 1 (by kernel_rfl) (by decide) (by kernel_rfl) ?_
          intro g77 w2 ge lt hh bb
          have hl : w2.heap[g77]? = some (.cells (([byteOf x.c, byteOf (mx : Int)] : List UInt8).map u8v).toArray 5 (0, 0)) := (by simpa [u8v, byteOf_val] using hh)
          have hdw := own_lit (B := w1.heap.size) ([byteOf x.c, byteOf (mx : Int)]) hl ge 2 rfl (by simp [maxLen])
          have hd := (own_sl hdw).1
          have hdlo := bel.size
          clear hl
          have hdge := ge
          have lz_hd := bb.size
          have bl_en_hd := en.bl_new
          have bl_xs_hd := xs.bl_new
          have bl_ob_hd := ob.bl_new
          have bl_pf_hd := pf.bl_new
          have bl_bk_hd := bk.bl_new
          have av_en_b77 := en.av_new ge
          have av_xs_b77 := xs.av_new ge
          have av_ob_b77 := ob.av_new ge
          have of_ob_b77 := own_new obw ge
          have av_pf_b77 := pf.av_new ge
          have av_bk_b77 := bk.av_new ge
          have ob77 := Nat.le_trans bel.size ge
          replace en := en.below bb
          replace xs := xs.below bb
          replace ob := ob.below bb
          replace obw := own_under obw bb
          replace pf := pf.below bb
          replace bk := bk.below bb
          replace lz_ob := Nat.le_trans lz_ob bb.size
          replace bel := bel.trans (bb.mono bel.size)
          have hb77 := hh
          clear hh lt ge bb
          refine hK.out _ _ en (fun hH3 => ?_)
          clear hK K
          simp only [Act.put, List.setIfInBounds_toArray, List.set_cons_zero, List.set_cons_succ]
          refine wpAnyH_ready (rs := [10]) (by kernel_rfl) (by simp) ?_
          refine AllReadyH.cons (o := _) rfl (fun K hK => ?_) AllReadyH.nil
          simp only [List.getElem_toArray, List.getElem_cons_zero, List.getElem_cons_succ]
          rw [if_pos (by rfl)]
          refine wp_append_bg (.tmp 68) (.tmp 77) 34 rfl (w.heap.size) 5 ii (.int .u8 0) Try.underlying34 hii hz0 hz1 hz2 rfl _ (q2) (l2) rfl obw (some ⟨g77, 0, none⟩) (2) (2) ([byteOf x.c, byteOf (mx : Int)]) rfl hd (by have := HQ2.out; omega) lz_ob ?_
          intro v78 w4 own_ bb gw ofw
          have of78_b77 := ofw _ (hlt hb77) of_ob_b77
          clear ofw
          replace en := en.under hble bb
          replace xs := xs.under hbx bb
          replace pf := pf.under hbf bb
          replace bk := bk.under hbk bb
          clear hd hdw lz_hd
          replace hb77 := blk_own hb77 gw of_ob_b77
          clear gw
          replace bel := bel.trans (bb.mono oblo)
          have lz_b1 := Nat.le_trans lz_ob bb.size
          clear bb
          clear ob obw lz_ob
          replace own_ : w4.ownsRow (w.heap.size) 5 1 v78 (q2 + 2) ((l2 ++ [byteOf x.c, byteOf (mx : Int)] : List UInt8).map u8v) := own_
          obtain ⟨A78, c78, rfl⟩ := own_val own_
          have b1w := own_
          have b1 := (own_sl own_).1
          have fr_b1 := (own_sl own_).2
          clear own_
          have av_b1_b77 := own_av b1w of78_b77
          refine hK.out _ _ en (fun hH5 => ?_)
          clear hK K
          simp only [Act.put, List.setIfInBounds_toArray, List.set_cons_zero, List.set_cons_succ]
          refine wpAnyH_ready (rs := [14]) (by kernel_rfl) (by simp) ?_
          refine AllReadyH.cons (o := _) rfl (fun K hK => ?_) AllReadyH.nil
          simp only [List.getElem_toArray, List.getElem_cons_zero, List.getElem_cons_succ]
          rw [if_pos (by rfl)]
          refine wp_append_bg (.tmp 78) (.tmp 81) 34 rfl (w.heap.size) 5 ii (.int .u8 0) Try.underlying34 hii hz0 hz1 hz2 rfl _ (q2 + 2) (l2 ++ [byteOf x.c, byteOf (mx : Int)]) rfl b1w (A81) (mx) (c81) (lx.take mx) rfl pf (by have := HQ2.out; have := HMX.out; omega) lz_b1 ?_
          intro v82 w6 own_ bb gw ofw
          have of82_b77 := ofw _ (hlt hb77) of78_b77
          clear ofw
          replace en := en.under hble bb
          replace xs := xs.under hbx bb
          replace pf := pf.under hbf bb
          replace bk := bk.under hbk bb
          replace hb77 := blk_own hb77 gw of78_b77
          clear gw
          replace bel := bel.trans (bb.mono oblo)
          have lz_b2 := Nat.le_trans lz_b1 bb.size
          clear bb
          clear b1 b1w lz_b1
          replace own_ : w6.ownsRow (w.heap.size) 5 1 v82 (q3) ((l2 ++ [byteOf x.c, byteOf (mx : Int)] ++ (lx.take mx) : List UInt8).map u8v) := (by rw [← HQ3.out]; exact own_)
          obtain ⟨A82, c82, rfl⟩ := own_val own_
          have b2w := own_
          have b2 := (own_sl own_).1
          have fr_b2 := (own_sl own_).2
          clear own_
          have av_b2_b77 := own_av b2w of82_b77
          refine hK.out _ _ en (fun hH7 => ?_)
          clear hK K
          simp only [Act.put, List.setIfInBounds_toArray, List.set_cons_zero, List.set_cons_succ]
          refine wpAnyH_take (i := 15) (v := ?_) rfl (by kernel_rfl) (by kernel_rfl) (by kernel_rfl) (fun _ _ _ h => h) (Or.inl ⟨by rfl, ?_⟩) hH7 ?_
          rotate_left
          · ((intro W hW; clear hW; go_simp) <;> with_reducible rfl)
          simp only [Act.put, List.getElem_toArray, List.getElem_cons_zero, List.getElem_cons_succ, List.setIfInBounds_toArray, List.set_cons_zero, List.set_cons_succ]
          by_cases h6 : 1200 < q3
          · have h6i : (1200 : Int) < q3 := by omega
            have HW2 : Hid ((l2 ++ [byteOf x.c, byteOf (mx : Int)] ++ lx.take mx) ++ restL false (byteOf x.c) (lx.drop mx) = allL (L.take i) ++ piecesL (byteOf x.c) l) := Lib.hid (rest_last HML.out HW.out (.inr HFP.out) (by rw [HML.out]; exact HKP.out))
            have HP : Hid (putL L = ([], 2)) := Lib.hid (by unfold putL; rw [if_pos HDB.out, if_neg]; have h1 := all_take L (i + 1); have h2 := own_len b2w; rw [HAL.out, ← HW2.out, List.length_append, h2] at h1; omega)
            refine wpAnyH_done (by kernel_rfl) ?_ _
            have R85 := r85
            go_wp2_with fail
            clear R85
            exact bodyPost_ret (v := .tuple #[.slice none 0 0, .int .i64 2]) (by simp [results, Try.results29, go_sem]) rfl ⟨none, 0, 0, by rw [HP.out], by rw [HP.out]; exact Sl.nil _, bel⟩
          have h6i : decide ((1200 : Int) < q3) = false := decide_eq_false (by omega)
          have HQ4 : Hid (q3 ≤ 1200) := Lib.hid (by omega)
          have HW2 : Hid ((l2 ++ [byteOf x.c, byteOf (mx : Int)] ++ lx.take mx) ++ restL false (byteOf x.c) (lx.drop mx) = allL (L.take i) ++ piecesL (byteOf x.c) l) := Lib.hid (rest_last HML.out HW.out (.inr HFP.out) (by rw [HML.out]; exact HKP.out))
          clear h6
          refine wpAnyH_done (by kernel_rfl) ?_ _
          have R85 := r85
          go_wp2_with fail
          clear R85
          go_roundg (mx - mx + 0)
          case measure => have h1_ := HGK_.out; have h2_ := HFS.out; have h3_ := HKP.out; omega
          case rel => exact ⟨A85, mx - mx, c85, lx.drop mx, false, q3, (l2 ++ [byteOf x.c, byteOf (mx : Int)] ++ lx.take mx), A82, c82, rfl, HW2, hbk, HQ4, Lib.hid (by have h1 := HMX.out; omega), (by rw [Nat.sub_self]), by go_num, rfl, b2w, en, bk, bel⟩
        have HKP : Hid (0 < 255 ∧ 255 < mx) := Lib.hid ⟨by decide, h5⟩
        have h5i : (255 : Int) < mx := by omega
        obtain ⟨A81, c81, r81, f81, u81⟩ := piece_front xs (k := 255) (by omega)
        replace r81 : ∀ W, (Instr.slice 34 (.slice Bx mx cx) none (some (.int .i64 255)) none).run Try.prog W = .ok (.slice A81 255 c81) W := r81
        have pf := f81 _ xs
        have hbf := hbx.sub u81
        obtain ⟨A85, c85, r85, f85, u85⟩ := piece_back xs (k := 255) (by omega)
        replace r85 : ∀ W, (Instr.slice 34 (.slice Bx mx cx) (some (.int .i64 255)) none none).run Try.prog W = .ok (.slice A85 (mx - 255) c85) W := r85
        have bk := f85 _ xs
        have hbk := hbx.sub u85
        obtain ⟨q3, hq3⟩ : ∃ q3, q2 + 2 + 255 = q3 := ⟨_, rfl⟩
        have HQ3 := Lib.hid hq3
        have HQN : Hid (q3 ≤ 200000) := Lib.hid (by have h1 := HQ2.out; have h2 := HMX.out; omega)
        have q30 : (0 : Int) ≤ q3 := by omega
        have HML : Hid (lx.length = mx) := Lib.hid xs.1
        clear hq3 f81 u81 f85 u85
        go_wp2_with fail
        replace bel := bel.drew
        replace en := en.drew
        replace xs := xs.drew
        replace ob := ob.drew
        replace obw : wr.drew.ownsRow _ _ _ _ _ _ := obw
        replace lz_ob : _ ≤ wr.drew.heap.size := lz_ob
        replace pf := pf.drew
        replace bk := bk.drew
        refine wp_region_held_drew (S := fun W => Sle opE 2 W (some ⟨gE, oE, none⟩) (n) (c) (hs)) (by kernel_rfl) en (fun hH => ?_)
        generalize wr.drew = w1 at bel en xs ob pf bk obw lz_ob hH ⊢
        refine wpAnyH_take (i := 0) (v := ?_) rfl (by kernel_rfl) (by kernel_rfl) (by kernel_rfl) (fun _ _ _ h => h) (Or.inl ⟨by rfl, ?_⟩) hH ?_
        rotate_left
        · ((intro W hW; clear hW; go_simp) <;> with_reducible rfl)
        simp only [Act.put, List.getElem_toArray, List.getElem_cons_zero, List.setIfInBounds_toArray, List.set_cons_zero, List.set_cons_succ]
        refine wpAnyH_take (i := 1) (v := ?_) rfl (by kernel_rfl) (by kernel_rfl) (by kernel_rfl) (fun _ _ _ h => h) (Or.inl ⟨by rfl, ?_⟩) hH ?_
        rotate_left
        · ((intro W hW; clear hW; go_simp) <;> with_reducible rfl)
        simp only [Act.put, List.getElem_toArray, List.getElem_cons_zero, List.getElem_cons_succ, List.setIfInBounds_toArray, List.set_cons_zero, List.set_cons_succ]
        refine wpAnyH_take (i := 2) (v := ?_) rfl (by kernel_rfl) (by kernel_rfl) (by kernel_rfl) (fun _ _ _ h => h) (Or.inl ⟨by rfl, ?_⟩) hH ?_
        rotate_left
        · ((intro W hW; clear hW; go_simp) <;> with_reducible rfl)
        simp only [Act.put, List.getElem_toArray, List.getElem_cons_zero, List.getElem_cons_succ, List.setIfInBounds_toArray, List.set_cons_zero, List.set_cons_succ]
        refine wpAnyH_take (i := 3) (v := ?_) rfl (by kernel_rfl) (by kernel_rfl) (by kernel_rfl) (fun _ _ _ h => h) (Or.inl ⟨by rfl, ?_⟩) hH ?_
        rotate_left
        · ((intro W hW; clear hW; go_simp) <;> with_reducible rfl)
        simp only [Act.put, List.getElem_toArray, List.getElem_cons_zero, List.getElem_cons_succ, List.setIfInBounds_toArray, List.set_cons_zero, List.set_cons_succ]
        refine wpAnyH_take (i := 4) (v := ?_) rfl (by kernel_rfl) (by kernel_rfl) (by kernel_rfl) (fun _ _ _ h => h) (Or.inl ⟨by rfl, ?_⟩) hH ?_
        rotate_left
        · ((intro W hW; clear hW; go_simp) <;> with_reducible rfl)
        simp only [Act.put, List.getElem_toArray, List.getElem_cons_zero, List.getElem_cons_succ, List.setIfInBounds_toArray, List.set_cons_zero, List.set_cons_succ]
        refine wpAnyH_take (i := 5) (v := ?_) rfl (by kernel_rfl) (by kernel_rfl) (by kernel_rfl) (fun _ _ _ h => h) (Or.inl ⟨by rfl, ?_⟩) hH ?_
        rotate_left
        · ((intro W hW; have hk := Sle.cellk0 (hW) HX.out _ rfl; clear hW; go_simp) <;> with_reducible rfl)
        simp only [Act.put, List.getElem_toArray, List.getElem_cons_zero, List.getElem_cons_succ, List.setIfInBounds_toArray, List.set_cons_zero, List.set_cons_succ]
        refine wpAnyH_take (i := 6) (v := ?_) rfl (by kernel_rfl) (by kernel_rfl) (by kernel_rfl) (fun _ _ _ h => h) (Or.inl ⟨by rfl, ?_⟩) hH ?_
        rotate_left
        · ((intro W hW; clear hW; go_simp) <;> with_reducible rfl)
        simp only [Act.put, List.getElem_toArray, List.getElem_cons_zero, List.getElem_cons_succ, List.setIfInBounds_toArray, List.set_cons_zero, List.set_cons_succ]
        refine wpAnyH_take (i := 7) (v := ?_) rfl (by kernel_rfl) (by kernel_rfl) (by kernel_rfl) (fun _ _ _ h => h) (Or.inl ⟨by rfl, ?_⟩) hH ?_
        rotate_left
        · ((intro W hW; clear hW; go_simp) <;> with_reducible rfl)
        simp only [Act.put, List.getElem_toArray, List.getElem_cons_zero, List.getElem_cons_succ, List.setIfInBounds_toArray, List.set_cons_zero, List.set_cons_succ]
        refine wpAnyH_take (i := 8) (v := ?_) rfl (by kernel_rfl) (by kernel_rfl) (by kernel_rfl) (fun _ _ _ h => h) (Or.inl ⟨by rfl, ?_⟩) hH ?_
        rotate_left
        · ((intro W hW; clear hW; go_simp) <;> with_reducible rfl)
        simp only [Act.put, List.getElem_toArray, List.getElem_cons_zero, List.getElem_cons_succ, List.setIfInBounds_toArray, List.set_cons_zero, List.set_cons_succ]
        refine wpAnyH_take (i := 11) (v := ?_) rfl (by kernel_rfl) (by kernel_rfl) (by kernel_rfl) (fun _ _ _ h => h) (Or.inl ⟨by rfl, ?_⟩) hH ?_
        rotate_left
        · ((intro W hW; clear hW; go_simp) <;> with_reducible rfl)
        simp only [Act.put, List.getElem_toArray, List.getElem_cons_zero, List.getElem_cons_succ, List.setIfInBounds_toArray, List.set_cons_zero, List.set_cons_succ]
        refine wpAnyH_take (i := 12) (v := ?_) rfl (by kernel_rfl) (by kernel_rfl) (by kernel_rfl) (fun _ _ _ h => h) (Or.inl ⟨by rfl, ?_⟩) hH ?_
        rotate_left
        · ((intro W hW; clear hW; go_simp) <;> with_reducible rfl)
        simp only [Act.put, List.getElem_toArray, List.getElem_cons_zero, List.getElem_cons_succ, List.setIfInBounds_toArray, List.set_cons_zero, List.set_cons_succ]
        refine wpAnyH_take (i := 13) (v := ?_) rfl (by kernel_rfl) (by kernel_rfl) (by kernel_rfl) (fun _ _ _ h => h) (Or.inl ⟨by rfl, ?_⟩) hH ?_
        rotate_left
        · ((intro W hW; clear hW; go_simp) <;> with_reducible rfl)
        simp only [Act.put, List.getElem_toArray, List.getElem_cons_zero, List.getElem_cons_succ, List.setIfInBounds_toArray, List.set_cons_zero, List.set_cons_succ]
        refine wpAnyH_ready (rs := [9]) (by kernel_rfl) (by simp) ?_
        refine AllReadyH.cons (o := _) rfl (fun K hK => ?_) AllReadyH.nil
        simp only [List.getElem_toArray, List.getElem_cons_zero, List.getElem_cons_succ]
        rw [if_pos (by rfl)]
        refine wp_lit_n 34 5 2 _ rfl #[.int .u8 (x.c % 256), .int .u8 255] (.int .u8 0) Try.underlying34 (by kernel_rfl) 1 (by kernel_rfl) (by decide) (by kernel_rfl) ?_
        intro g77 w2 ge lt hh bb
        have hl : w2.heap[g77]? = some (.cells (([byteOf x.c, 255] : List UInt8).map u8v).toArray 5 (0, 0)) := (by simpa [u8v, byteOf_val] using hh)
        have hdw := own_lit (B := w1.heap.size) ([byteOf x.c, 255]) hl ge 2 rfl (by simp [maxLen])
        have hd := (own_sl hdw).1
        have hdlo := bel.size
        clear hl
        have hdge := ge
        have lz_hd := bb.size
        have bl_en_hd := en.bl_new
        have bl_xs_hd := xs.bl_new
        have bl_ob_hd := ob.bl_new
        have bl_pf_hd := pf.bl_new
        have bl_bk_hd := bk.bl_new
        have av_en_b77 := en.av_new ge
        have av_xs_b77 := xs.av_new ge
        have av_ob_b77 := ob.av_new ge
        have of_ob_b77 := own_new obw ge
        have av_pf_b77 := pf.av_new ge
        have av_bk_b77 := bk.av_new ge
        have ob77 := Nat.le_trans bel.size ge
        replace en := en.below bb
        replace xs := xs.below bb
        replace ob := ob.below bb
        replace obw := own_under obw bb
        replace pf := pf.below bb
        replace bk := bk.below bb
        replace lz_ob := Nat.le_trans lz_ob bb.size
        replace bel := bel.trans (bb.mono bel.size)
        have hb77 := hh
        clear hh lt ge bb
        refine hK.out _ _ en (fun hH3 => ?_)
        clear hK K
        simp only [Act.put, List.setIfInBounds_toArray, List.set_cons_zero, List.set_cons_succ]
        refine wpAnyH_ready (rs := [10]) (by kernel_rfl) (by simp) ?_
        refine AllReadyH.cons (o := _) rfl (fun K hK => ?_) AllReadyH.nil
        simp only [List.getElem_toArray, List.getElem_cons_zero, List.getElem_cons_succ]
        rw [if_pos (by rfl)]
        refine wp_append_bg (.tmp 68) (.tmp 77) 34 rfl (w.heap.size) 5 ii (.int .u8 0) Try.underlying34 hii hz0 hz1 hz2 rfl _ (q2) (l2) rfl obw (some ⟨g77, 0, none⟩) (2) (2) ([byteOf x.c, 255]) rfl hd (by have := HQ2.out; omega) lz_ob ?_
        intro v78 w4 own_ bb gw ofw
        have of78_b77 := ofw _ (hlt hb77) of_ob_b77
        clear ofw
        replace en := en.under hble bb
        replace xs := xs.under hbx bb
        replace pf := pf.under hbf bb
        replace bk := bk.under hbk bb
        clear hd hdw lz_hd
        replace hb77 := blk_own hb77 gw of_ob_b77
        clear gw
        replace bel := bel.trans (bb.mono oblo)
        have lz_b1 := Nat.le_trans lz_ob bb.size
        clear bb
        clear ob obw lz_ob
        replace own_ : w4.ownsRow (w.heap.size) 5 1 v78 (q2 + 2) ((l2 ++ [byteOf x.c, 255] : List UInt8).map u8v) := own_
        obtain ⟨A78, c78, rfl⟩ := own_val own_
        have b1w := own_
        have b1 := (own_sl own_).1
        have fr_b1 := (own_sl own_).2
        clear own_
        have av_b1_b77 := own_av b1w of78_b77
        refine hK.out _ _ en (fun hH5 => ?_)
        clear hK K
        simp only [Act.put, List.setIfInBounds_toArray, List.set_cons_zero, List.set_cons_succ]
        refine wpAnyH_ready (rs := [14]) (by kernel_rfl) (by simp) ?_
        refine AllReadyH.cons (o := _) rfl (fun K hK => ?_) AllReadyH.nil
        simp only [List.getElem_toArray, List.getElem_cons_zero, List.getElem_cons_succ]
        rw [if_pos (by rfl)]
        refine wp_append_bg (.tmp 78) (.tmp 81) 34 rfl (w.heap.size) 5 ii (.int .u8 0) Try.underlying34 hii hz0 hz1 hz2 rfl _ (q2 + 2) (l2 ++ [byteOf x.c, 255]) rfl b1w (A81) (255) (c81) (lx.take 255) rfl pf (by have := HQ2.out; have := HMX.out; omega) lz_b1 ?_
        intro v82 w6 own_ bb gw ofw
        have of82_b77 := ofw _ (hlt hb77) of78_b77
        clear ofw
        replace en := en.under hble bb
        replace xs := xs.under hbx bb
        replace pf := pf.under hbf bb
        replace bk := bk.under hbk bb
        replace hb77 := blk_own hb77 gw of78_b77
        clear gw
        replace bel := bel.trans (bb.mono oblo)
        have lz_b2 := Nat.le_trans lz_b1 bb.size
        clear bb
        clear b1 b1w lz_b1
        replace own_ : w6.ownsRow (w.heap.size) 5 1 v82 (q3) ((l2 ++ [byteOf x.c, 255] ++ (lx.take 255) : List UInt8).map u8v) := (by rw [← HQ3.out]; exact own_)
        obtain ⟨A82, c82, rfl⟩ := own_val own_
        have b2w := own_
        have b2 := (own_sl own_).1
        have fr_b2 := (own_sl own_).2
        clear own_
        have av_b2_b77 := own_av b2w of82_b77
        refine hK.out _ _ en (fun hH7 => ?_)
        clear hK K
        simp only [Act.put, List.setIfInBounds_toArray, List.set_cons_zero, List.set_cons_succ]
        refine wpAnyH_take (i := 15) (v := ?_) rfl (by kernel_rfl) (by kernel_rfl) (by kernel_rfl) (fun _ _ _ h => h) (Or.inl ⟨by rfl, ?_⟩) hH7 ?_
        rotate_left
        · ((intro W hW; clear hW; go_simp) <;> with_reducible rfl)
        simp only [Act.put, List.getElem_toArray, List.getElem_cons_zero, List.getElem_cons_succ, List.setIfInBounds_toArray, List.set_cons_zero, List.set_cons_succ]
        by_cases h6 : 1200 < q3
        · have h6i : (1200 : Int) < q3 := by omega
          have HW2 : Hid ((l2 ++ [byteOf x.c, 255] ++ lx.take 255) ++ restL false (byteOf x.c) (lx.drop 255) = allL (L.take i) ++ piecesL (byteOf x.c) l) := Lib.hid (rest_long HW.out (.inr HFP.out) (by rw [HML.out]; exact HKP.out.2))
          have HP : Hid (putL L = ([], 2)) := Lib.hid (by unfold putL; rw [if_pos HDB.out, if_neg]; have h1 := all_take L (i + 1); have h2 := own_len b2w; rw [HAL.out, ← HW2.out, List.length_append, h2] at h1; omega)
          refine wpAnyH_done (by kernel_rfl) ?_ _
          have R85 := r85
          go_wp2_with fail
          clear R85
          exact bodyPost_ret (v := .tuple #[.slice none 0 0, .int .i64 2]) (by simp [results, Try.results29, go_sem]) rfl ⟨none, 0, 0, by rw [HP.out], by rw [HP.out]; exact Sl.nil _, bel⟩
        have h6i : decide ((1200 : Int) < q3) = false := decide_eq_false (by omega)
        have HQ4 : Hid (q3 ≤ 1200) := Lib.hid (by omega)
        have HW2 : Hid ((l2 ++ [byteOf x.c, 255] ++ lx.take 255) ++ restL false (byteOf x.c) (lx.drop 255) = allL (L.take i) ++ piecesL (byteOf x.c) l) := Lib.hid (rest_long HW.out (.inr HFP.out) (by rw [HML.out]; exact HKP.out.2))
        clear h6
        refine wpAnyH_done (by kernel_rfl) ?_ _
        have R85 := r85
        go_wp2_with fail
        clear R85
        go_roundg (mx - 255 + 0)
        case measure => have h1_ := HGK_.out; have h2_ := HFS.out; have h3_ := HKP.out; omega
        case rel => exact ⟨A85, mx - 255, c85, lx.drop 255, false, q3, (l2 ++ [byteOf x.c, 255] ++ lx.take 255), A82, c82, rfl, HW2, hbk, HQ4, Lib.hid (by have h1 := HMX.out; omega), rfl, by go_num, rfl, b2w, en, bk, bel⟩
end Go.Proofs.Ytmljgpefbbifmaa
