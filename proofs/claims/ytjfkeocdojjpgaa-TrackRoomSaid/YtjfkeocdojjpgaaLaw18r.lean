/- TrackRoom. -/
import Derived.Test.YtjfkeocdojjpgaaLaw18
namespace Go.Proofs.Ytjfkeocdojjpgaa
open Go.RowKit

/-- The first k talks, each begun. -/
def rC (i : Nat) : Cn := ⟨(i : Int), atA 1, 80, 1, false⟩
def rL (k : Nat) : List Cn := (List.range k).map rC
def rO (ov : Int) : Cn := ⟨ov, atA 1, 80, 6, false⟩
def rZ : Cn := ⟨1000, atA 1, 80, 1, false⟩
def rM (k : Nat) (ov : Int) : List Cn := (rL k).set ov.toNat (rO ov)
def rF (k : Nat) (ov : Int) : List Cn := (rL k).eraseIdx ov.toNat ++ [rZ]
theorem rL_len (k : Nat) : (rL k).length = k := by unfold rL; rw [List.length_map, List.length_range]
theorem rL_at {k j : Nat} (h : j < k) : (rL k)[j]? = some (rC j) := by
  unfold rL
  rw [List.getElem?_map, List.getElem?_range h]; rfl
theorem rL_next (k : Nat) : rL k ++ [rC k] = rL (k + 1) := by
  unfold rL
  rw [List.range_succ, List.map_append]; rfl
theorem is_rC (o : Int) (j : Nat) : isB o (atA 1) 80 (rC j) = ((j : Int) == o) := by
  have e : (atA 1).eqB (atA 1) = true := Ad4.eqB_self _
  show (((j : Int) == o) && ((atA 1).eqB (atA 1) && ((80 : Int) == 80))) = _
  rw [e, beq_self_eq_true, Bool.true_and, Bool.and_true]
theorem is_rZ (o : Int) : isB o (atA 1) 80 rZ = ((1000 : Int) == o) := by
  have e : (atA 1).eqB (atA 1) = true := Ad4.eqB_self _
  show (((1000 : Int) == o) && ((atA 1).eqB (atA 1) && ((80 : Int) == 80))) = _
  rw [e, beq_self_eq_true, Bool.true_and, Bool.and_true]
theorem rL_mem {k : Nat} {e : Cn} (h : e ∈ rL k) : ∃ j, j < k ∧ e = rC j := by
  unfold rL at h
  obtain ⟨j, hj, rfl⟩ := List.mem_map.1 h
  exact ⟨j, List.mem_range.1 hj, rfl⟩
theorem rL_no {k : Nat} {o : Int} (h : (k : Int) ≤ o) : (rL k).findIdx (isB o (atA 1) 80) = (rL k).length := idx_none_of fun e he => by
  obtain ⟨j, hj, rfl⟩ := rL_mem he
  rw [is_rC, beq_eq_false_iff_ne]; omega
theorem rM_len (k : Nat) (ov : Int) : (rM k ov).length = k := by unfold rM; rw [List.length_set, rL_len]
theorem rM_idx {k : Nat} {ov : Int} (h0 : 0 ≤ ov) (h1 : ov < k) : least (rM k ov) = ov.toNat := by
  have hi : ov.toNat < k := by omega
  have h : (rM k ov).findIdx overB = ov.toNat := by
    refine idx_at (x := rO ov) ?_ rfl fun j e hj he => ?_
    · unfold rM
      exact List.getElem?_set_self (by rw [rL_len]; exact hi)
    · unfold rM at he
      rw [List.getElem?_set_ne (by omega), rL_at (by omega)] at he
      injection he with he
      rw [← he]; rfl
  unfold least
  rw [h, if_pos (by rw [rM_len]; exact hi)]
theorem rM_era {k : Nat} {ov : Int} : (rM k ov).eraseIdx ov.toNat = (rL k).eraseIdx ov.toNat := by
  unfold rM
  rw [List.eraseIdx_set_eq]
theorem rF_mem {k : Nat} {ov : Int} {e : Cn} (h : e ∈ rF k ov) : (∃ j : Nat, j < k ∧ (j : Int) ≠ ov ∧ e = rC j) ∨ e = rZ := by
  unfold rF at h
  rcases List.mem_append.1 h with h | h
  · left
    rw [List.mem_eraseIdx_iff_getElem?] at h
    obtain ⟨j, hj, he⟩ := h
    have hjk : j < k := by have := (List.getElem?_eq_some_iff.1 he).1; rwa [rL_len] at this
    rw [rL_at hjk] at he
    injection he with he
    exact ⟨j, hjk, by omega, he.symm⟩
  · exact .inr (List.mem_singleton.1 h)
theorem rF_len {k : Nat} {ov : Int} (h0 : 0 ≤ ov) (h1 : ov < k) : (rF k ov).length = k := by
  unfold rF
  rw [List.length_append, List.length_singleton]
  have := era_len (l := rL k) (i := ov.toNat) (by rw [rL_len]; omega)
  rw [rL_len] at this; exact this
theorem rF_yes {k : Nat} {ov o : Int} (h : ∃ e ∈ rF k ov, isB o (atA 1) 80 e = true) : ∃ i x, (rF k ov).findIdx (isB o (atA 1) 80) = i ∧ (rF k ov)[i]? = some x ∧ x.s = 1 := by
  have hl := List.findIdx_lt_length.2 h
  obtain ⟨x, hx, _, _⟩ := idx_some rfl hl
  refine ⟨_, x, rfl, hx, ?_⟩
  rcases rF_mem (List.mem_of_getElem? hx) with ⟨j, _, _, rfl⟩ | rfl
  · rfl
  · rfl
theorem room_1 {lo gt : Nat} {rm : Int} {k : Nat} (w : World) (hT : Tk lo gt w ⟨rm, rL k⟩) (hk : (k : Int) < rm) : Calls Try.prog 10 #[.pointer (some ⟨gt, 0, none⟩), .int .i64 (k : Int), .agg #[.int .u8 ((atA 1).a.toNat : Int), .int .u8 ((atA 1).b.toNat : Int), .int .u8 ((atA 1).c.toNat : Int), .int .u8 ((atA 1).d.toNat : Int)], .int .i64 80, .bool false, .agg #[.int .i64 0, .int .i64 0, .int .u32 0, .int .u32 0, .int .i64 2, .int .i64 0, .int .i64 0, .slice none 0 0, .slice none 0 0]] w fun e w' => e = .returned (.int .i64 1) ∧ Tk lo gt w' ⟨rm, rL (k + 1)⟩ ∧ Fap gt w w' ∧ Below lo w w' := see_new (s := ⟨rm, rL k⟩) (s2 := ⟨rm, rL (k + 1)⟩) (y := rC k) w hT (rL_no (Int.le_refl _)) (by kernel_rfl) rfl (by decide) (by show ((rL k).length : Int) < rm; rw [rL_len]; exact hk) (by show (⟨rm, rL k ++ [rC k]⟩ : Ts) = _; rw [rL_next])
theorem room_2 {lo gt : Nat} {rm ov : Int} {k : Nat} (w : World) (hT : Tk lo gt w ⟨rm, rL k⟩) (h0 : 0 ≤ ov) (h1 : ov < k) : Calls Try.prog 10 #[.pointer (some ⟨gt, 0, none⟩), .int .i64 ov, .agg #[.int .u8 ((atA 1).a.toNat : Int), .int .u8 ((atA 1).b.toNat : Int), .int .u8 ((atA 1).c.toNat : Int), .int .u8 ((atA 1).d.toNat : Int)], .int .i64 80, .bool true, .agg #[.int .i64 0, .int .i64 0, .int .u32 0, .int .u32 0, .int .i64 4, .int .i64 0, .int .i64 0, .slice none 0 0, .slice none 0 0]] w fun e w' => e = .returned (.int .i64 6) ∧ Tk lo gt w' ⟨rm, rM k ov⟩ ∧ Fap gt w w' ∧ Below lo w w' := by
  have e : rC ov.toNat = ⟨ov, atA 1, 80, 1, false⟩ := by unfold rC; rw [Int.toNat_of_nonneg h0]
  have hx : (rL k)[ov.toNat]? = some ⟨ov, atA 1, 80, 1, false⟩ := by rw [rL_at (by omega), e]
  refine see_old (s := ⟨rm, rL k⟩) (s2 := ⟨rm, rM k ov⟩) (y := rO ov) w hT (idx_at hx (by rw [← e, is_rC, Int.toNat_of_nonneg h0]; exact beq_self_eq_true _) fun j e' hj he' => ?_) hx (by kernel_rfl) rfl rfl
  rw [show (⟨rm, rL k⟩ : Ts).l = rL k from rfl, rL_at (by omega)] at he'
  injection he' with he'
  rw [← he', is_rC, beq_eq_false_iff_ne]; omega
theorem room_3 {lo gt : Nat} {rm ov : Int} {k : Nat} (w : World) (hT : Tk lo gt w ⟨rm, rM k ov⟩) (h0 : 0 ≤ ov) (h1 : ov < k) (hk : rm = k) (h6 : k ≤ 60) : Calls Try.prog 10 #[.pointer (some ⟨gt, 0, none⟩), .int .i64 1000, .agg #[.int .u8 ((atA 1).a.toNat : Int), .int .u8 ((atA 1).b.toNat : Int), .int .u8 ((atA 1).c.toNat : Int), .int .u8 ((atA 1).d.toNat : Int)], .int .i64 80, .bool false, .agg #[.int .i64 0, .int .i64 0, .int .u32 0, .int .u32 0, .int .i64 2, .int .i64 0, .int .i64 0, .slice none 0 0, .slice none 0 0]] w fun e w' => e = .returned (.int .i64 1) ∧ Tk lo gt w' ⟨rm, rF k ov⟩ ∧ Fap gt w w' ∧ Below lo w w' := by
  refine see_full (s := ⟨rm, rM k ov⟩) (s2 := ⟨rm, rF k ov⟩) (y := rZ) w hT (idx_none_of fun e he => ?_) (by kernel_rfl) rfl (by decide) (by show rm ≤ ((rM k ov).length : Int); rw [rM_len, hk]; exact Int.le_refl _) (by show (⟨rm, (rM k ov).eraseIdx (least (rM k ov)) ++ [rZ]⟩ : Ts) = _; rw [rM_idx h0 h1, rM_era]; rfl)
  rcases List.mem_or_eq_of_mem_set he with h | h
  · obtain ⟨j, hj, rfl⟩ := rL_mem h
    rw [is_rC, beq_eq_false_iff_ne]; omega
  · rw [h]
    show ((ov == 1000) && _) = false
    rw [beq_eq_false_iff_ne.2 (by omega), Bool.false_and]
theorem room_4 {lo gt : Nat} {rm ov j : Int} {k : Nat} (w : World) (hT : Tk lo gt w ⟨rm, rF k ov⟩) (h0 : 0 ≤ j) (h1 : j < k) (hj : j ≠ ov) (hv : 0 ≤ ov) : Calls Try.prog 12 #[.pointer (some ⟨gt, 0, none⟩), .int .i64 j, .agg #[.int .u8 ((atA 1).a.toNat : Int), .int .u8 ((atA 1).b.toNat : Int), .int .u8 ((atA 1).c.toNat : Int), .int .u8 ((atA 1).d.toNat : Int)], .int .i64 80] w fun e w' => e = .returned (.int .i64 1) ∧ Tk lo gt w' ⟨rm, rF k ov⟩ ∧ Fap gt w w' ∧ Below lo w w' := by
  obtain ⟨i, x, h2, h3, h4⟩ := rF_yes (k := k) (ov := ov) (o := j) ⟨rC j.toNat, List.mem_append_left _ (List.mem_eraseIdx_iff_getElem?.2 ⟨j.toNat, by omega, rL_at (by omega)⟩), by rw [is_rC, Int.toNat_of_nonneg h0]; exact beq_self_eq_true _⟩
  exact st_yes (s := ⟨rm, rF k ov⟩) w hT h2 h3 h4
theorem room_5 {lo gt : Nat} {rm ov j : Int} {k : Nat} (w : World) (hT : Tk lo gt w ⟨rm, rF k ov⟩) (h1 : j < 1000) (hj : j = ov) : Calls Try.prog 12 #[.pointer (some ⟨gt, 0, none⟩), .int .i64 j, .agg #[.int .u8 ((atA 1).a.toNat : Int), .int .u8 ((atA 1).b.toNat : Int), .int .u8 ((atA 1).c.toNat : Int), .int .u8 ((atA 1).d.toNat : Int)], .int .i64 80] w fun e w' => e = .returned (.int .i64 0) ∧ Tk lo gt w' ⟨rm, rF k ov⟩ ∧ Fap gt w w' ∧ Below lo w w' := by
  refine st_no (s := ⟨rm, rF k ov⟩) w hT (idx_none_of fun e he => ?_)
  rcases rF_mem he with ⟨q, hq, hne, rfl⟩ | rfl
  · rw [is_rC, beq_eq_false_iff_ne, hj]; exact hne
  · rw [is_rZ, beq_eq_false_iff_ne]; omega
theorem room_6 {lo gt : Nat} {rm ov : Int} {k : Nat} (w : World) (hT : Tk lo gt w ⟨rm, rF k ov⟩) (h0 : 0 ≤ ov) (h1 : ov < k) (hk : rm = k) : Calls Try.prog 13 #[.pointer (some ⟨gt, 0, none⟩)] w fun e w' => e = .returned (.int .i64 rm) ∧ Tk lo gt w' ⟨rm, rF k ov⟩ ∧ Fap gt w w' ∧ Below lo w w' := len_is (s := ⟨rm, rF k ov⟩) w hT (by show ((rF k ov).length : Int) = rm; rw [rF_len h0 h1, hk])
theorem room_7 {lo gt : Nat} {rm ov : Int} {k : Nat} (w : World) (hT : Tk lo gt w ⟨rm, rF k ov⟩)  : Calls Try.prog 12 #[.pointer (some ⟨gt, 0, none⟩), .int .i64 1000, .agg #[.int .u8 ((atA 1).a.toNat : Int), .int .u8 ((atA 1).b.toNat : Int), .int .u8 ((atA 1).c.toNat : Int), .int .u8 ((atA 1).d.toNat : Int)], .int .i64 80] w fun e w' => e = .returned (.int .i64 1) ∧ Tk lo gt w' ⟨rm, rF k ov⟩ ∧ Fap gt w w' ∧ Below lo w w' := by
  obtain ⟨i, x, h2, h3, h4⟩ := rF_yes (k := k) (ov := ov) (o := 1000) ⟨rZ, List.mem_append_right _ (List.mem_singleton.2 rfl), by rw [is_rZ]; rfl⟩
  exact st_yes (s := ⟨rm, rF k ov⟩) w hT h2 h3 h4
set_option linter.unusedVariables false in
set_option linter.unusedSimpArgs false in
set_option maxRecDepth 100000 in
set_option maxHeartbeats 16000000 in
theorem trackRoom_walk (rm ov mr : Int) (w : World) : Calls Try.prog 7 #[.int .i64 rm, .int .i64 ov, .int .i64 mr] w fun e w' => e = .returned (.bool true) ∧ Below w.heap.size w w' := by
  have bel := Below.refl w.heap.size w
  go_enter Try.func7, Try.ntmps7
  go_wp2_with fail
  with_reducible refine (awake_any _).mono ?_
  rintro e w1 ⟨rfl, b1⟩
  replace bel := bel.trans (b1.mono bel.size)
  clear b1
  by_cases c1 : rm < 1
  · go_wp2_with fail
    go_ret
    exact ⟨rfl, bel⟩
  have Hc1 : Hid (1 ≤ rm) := Lib.hid (by omega)
  replace c1 : decide (rm < 1) = false := decide_eq_false c1
  by_cases c2 : 60 < rm
  · go_wp2_with fail
    go_ret
    exact ⟨rfl, bel⟩
  have Hc2 : Hid (rm ≤ 60) := Lib.hid (by omega)
  replace c2 : decide (60 < rm) = false := decide_eq_false c2
  by_cases c3 : ov < 0
  · go_wp2_with fail
    go_ret
    exact ⟨rfl, bel⟩
  have Hc3 : Hid (0 ≤ ov) := Lib.hid (by omega)
  replace c3 : decide (ov < 0) = false := decide_eq_false c3
  by_cases c4 : rm ≤ ov
  · go_wp2_with fail
    go_ret
    exact ⟨rfl, bel⟩
  have Hc4 : Hid (ov < rm) := Lib.hid (by omega)
  replace c4 : decide (rm ≤ ov) = false := decide_eq_false c4
  by_cases c5 : mr < 1
  · go_wp2_with fail
    go_ret
    exact ⟨rfl, bel⟩
  have Hc5 : Hid (1 ≤ mr) := Lib.hid (by omega)
  replace c5 : decide (mr < 1) = false := decide_eq_false c5
  by_cases c6 : 1 < mr
  · go_wp2_with fail
    go_ret
    exact ⟨rfl, bel⟩
  have Hc6 : Hid (mr ≤ 1) := Lib.hid (by omega)
  replace c6 : decide (1 < mr) = false := decide_eq_false c6
  go_wp2_with fail
  have HLO_ := bel.size
  with_reducible refine (tnew_any (rm := rm) _ (by have := Hc1.out; omega) (by have := Hc2.out; omega)).mono ?_
  rintro e w2 ⟨gt, rfl, hT, b2⟩
  replace bel := bel.trans (b2.mono bel.size)
  clear b2
  replace hT : Tk w.heap.size gt w2 ⟨rm, []⟩ := hT.lo_mono HLO_
  clear HLO_
  go_wp2_with fail
  go_loopg [9] ((rm - (0 : Nat)).toNat) (fun gk s9 wr => ∃ k : Nat, gk = (rm - k).toNat ∧ (k : Int) ≤ rm ∧ Tk w.heap.size gt wr ⟨rm, rL k⟩ ∧ s9 = .int .i64 (k : Int) ∧ Below w.heap.size w wr)
  case atStart => exact ⟨0, rfl, (by have := Hc1.out; omega), hT, rfl, bel⟩
  case round =>
    clear hT bel
    obtain ⟨k, HGK, hk1, hT, rfl, bel⟩ := hrel
    have HGK_ := Lib.hid HGK
    clear HGK
    by_cases h : (k : Int) < rm
    · have HK := Lib.hid h
      have hw : IntKind.i64.wrap ((k : Int) + 1) = (k : Int) + 1 := IntWalk.i64_in _ (by have := Hc2.out; omega)
      go_wp2_with fail
      with_reducible refine (at_k 1 _).mono ?_
      rintro e w3 ⟨rfl, b3⟩
      replace hT := hT.below b3
      replace bel := bel.trans (b3.mono bel.size)
      clear b3
      go_wp2_with fail
      with_reducible refine (room_1 _ hT HK.out).mono ?_
      rintro e w4 ⟨rfl, hT_, f_, bb⟩
      clear hT
      have hT := hT_
      replace bel := bel.trans bb
      clear bb f_ hT_
      go_wp2_with fail
      go_roundg ((rm - ((k + 1 : Nat) : Int)).toNat)
      case measure => have := HGK_.out; have := HK.out; omega
      case rel => exact ⟨k + 1, rfl, by have := HK.out; omega, hT, by go_num, bel⟩
    have HRK : Hid (rm = (k : Int)) := Lib.hid (by omega)
    have HOV : Hid (ov < (k : Int)) := Lib.hid (by have := Hc4.out; omega)
    have HK60 : Hid (k ≤ 60) := Lib.hid (by have := Hc2.out; omega)
    replace h : decide ((k : Int) < rm) = false := decide_eq_false h
    go_wp2_with fail
    with_reducible refine (at_k 1 _).mono ?_
    rintro e w3 ⟨rfl, b3⟩
    replace hT := hT.below b3
    replace bel := bel.trans (b3.mono bel.size)
    clear b3
    go_wp2_with fail
    with_reducible refine (room_2 _ hT Hc3.out HOV.out).mono ?_
    rintro e w4 ⟨rfl, hT_, f_, bb⟩
    clear hT
    have hT := hT_
    replace bel := bel.trans bb
    clear bb f_ hT_
    go_wp2_with fail
    with_reducible refine (at_k 1 _).mono ?_
    rintro e w5 ⟨rfl, b5⟩
    replace hT := hT.below b5
    replace bel := bel.trans (b5.mono bel.size)
    clear b5
    go_wp2_with fail
    with_reducible refine (room_3 _ hT Hc3.out HOV.out HRK.out HK60.out).mono ?_
    rintro e w6 ⟨rfl, hT_, f_, bb⟩
    clear hT
    have hT := hT_
    replace bel := bel.trans bb
    clear bb f_ hT_
    go_wp2_with fail
    go_loopg [10] ((rm - 0).toNat) (fun gk s10 wr => ∃ j : Int, gk = (rm - j).toNat ∧ 0 ≤ j ∧ j ≤ rm ∧ Tk w.heap.size gt wr ⟨rm, rF k ov⟩ ∧ s10 = .int .i64 j ∧ Below w.heap.size w wr)
    case atStart => exact ⟨0, rfl, Int.le_refl _, (by have := Hc1.out; omega), hT, rfl, bel⟩
    case round =>
      clear hT bel
      obtain ⟨j, HGK, hj0, hj1, hT, rfl, bel⟩ := hrel
      have HGK_ := Lib.hid HGK
      clear HGK
      by_cases h2 : j < rm
      rotate_left
      · replace h2 : decide (j < rm) = false := decide_eq_false h2
        go_wp2_with fail
        with_reducible refine (room_6 _ hT Hc3.out HOV.out HRK.out).mono ?_
        rintro e w7 ⟨rfl, hT_, f_, bb⟩
        clear hT
        have hT := hT_
        replace bel := bel.trans bb
        clear bb f_ hT_
        go_wp2_with fail
        with_reducible refine (at_k 1 _).mono ?_
        rintro e w8 ⟨rfl, b8⟩
        replace hT := hT.below b8
        replace bel := bel.trans (b8.mono bel.size)
        clear b8
        go_wp2_with fail
        with_reducible refine (room_7 _ hT).mono ?_
        rintro e w9 ⟨rfl, hT_, f_, bb⟩
        clear hT
        have hT := hT_
        replace bel := bel.trans bb
        clear bb f_ hT_
        go_wp2_with fail
        go_ret
        exact ⟨rfl, bel⟩
      have HJ0 := Lib.hid hj0
      have HJ := Lib.hid h2
      have hw2 : IntKind.i64.wrap (j + 1) = j + 1 := IntWalk.i64_in _ (by have := Hc2.out; omega)
      go_wp2_with fail
      with_reducible refine (at_k 1 _).mono ?_
      rintro e w7 ⟨rfl, b7⟩
      replace hT := hT.below b7
      replace bel := bel.trans (b7.mono bel.size)
      clear b7
      by_cases he : j = ov
      · have HE := Lib.hid he
        have hje : (j == ov) = true := beq_iff_eq.2 he
        clear he
        go_wp2_with fail
        with_reducible refine (room_5 _ hT (by have := HJ.out; have := Hc2.out; omega) HE.out).mono ?_
        rintro e w8 ⟨rfl, hT_, f_, bb⟩
        clear hT
        have hT := hT_
        replace bel := bel.trans bb
        clear bb f_ hT_
        go_wp2_with fail
        go_roundg ((rm - (j + 1)).toNat)
        case measure => have := HGK_.out; have := HJ.out; omega
        case rel => exact ⟨j + 1, rfl, by omega, by have := HJ.out; omega, hT, by go_num, bel⟩
      have HE := Lib.hid he
      have hje : (j == ov) = false := beq_eq_false_iff_ne.2 he
      clear he
      go_wp2_with fail
      with_reducible refine (room_4 _ hT HJ0.out (by have := HJ.out; have := HRK.out; omega) HE.out Hc3.out).mono ?_
      rintro e w8 ⟨rfl, hT_, f_, bb⟩
      clear hT
      have hT := hT_
      replace bel := bel.trans bb
      clear bb f_ hT_
      go_wp2_with fail
      go_roundg ((rm - (j + 1)).toNat)
      case measure => have := HGK_.out; have := HJ.out; omega
      case rel => exact ⟨j + 1, rfl, by omega, by have := HJ.out; omega, hT, by go_num, bel⟩
end Go.Proofs.Ytjfkeocdojjpgaa
