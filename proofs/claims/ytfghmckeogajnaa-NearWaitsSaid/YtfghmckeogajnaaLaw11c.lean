/- NearWaits. -/
import Derived.Test.YtfghmckeogajnaaLaw11
namespace Go.Proofs.Ytfghmckeogajnaa
open Go.RowKit

/-- What waits behind some calls. -/
def waP (i : Nat) : List (List UInt8) := (List.range i).map (fun k : Nat => [byteOf (k : Int)])
theorem waP_succ (i : Nat) : waP i ++ [[byteOf (i : Int)]] = waP (i + 1) := by simp [waP, List.range_succ]
theorem waP_get {M i : Nat} (h : i < M) : (waP M)[i]? = some [byteOf (i : Int)] := by simp [waP, h]
theorem waP_lt {i : Nat} (h : i < 4) : waP (min i 4) ++ [[byteOf (i : Int)]] = waP (min (i + 1) 4) := by
  rw [show min i 4 = i by omega, show min (i + 1) 4 = i + 1 by omega]; exact waP_succ i
theorem waP_0 {i : Nat} (h : i = 0) : [[byteOf (i : Int)]] = waP (min (i + 1) 4) := by subst h; rfl
def waT (A : Option Addr) (c i : Nat) : List En := if i = 0 then [] else [⟨⟨10, 0, 0, byteOf 1⟩, 0, false, Mc6.zero, 1, A, min i 4, c⟩]
theorem waT_0 (A : Option Addr) (c : Nat) {i : Nat} (h : i = 0) : waT A c i = [] := if_pos h
theorem waT_pos (A : Option Addr) (c : Nat) {i : Nat} (h : 1 ≤ i) : waT A c i = [⟨⟨10, 0, 0, byteOf 1⟩, 0, false, Mc6.zero, 1, A, min i 4, c⟩] := if_neg (by omega)
theorem Pk.byte {lo n c i : Nat} {w : World} {A : Option Addr} {ps : List (List UInt8)} {b : UInt8} (h : Pk lo w A n c ps) (hp : ps[i]? = some [b]) : ∃ (g g2 k : Nat), A = some ⟨g, 0, none⟩ ∧ w.cell? ⟨g, i, none⟩ = some (.slice (some ⟨g2, 0, none⟩) 1 k) ∧ w.cell? ⟨g2, 0, none⟩ = some (.int .u8 (b.toNat : Int)) := by
  have hl := h.len
  obtain ⟨hs, h1, h2, h3⟩ := h
  have hi := (List.getElem?_eq_some_iff.1 hp).1
  obtain ⟨g, rfl, _⟩ := row_at h2 (by omega)
  obtain ⟨x, hx⟩ : ∃ x, hs[i]? = some x := ⟨_, List.getElem?_eq_getElem (by omega)⟩
  have o3 := h3 i x _ hx hp
  have e := el_cell0 (by decide) hdf_len h2 hx (.slice x.1 x.2.1 x.2.2) rfl
  rw [Nat.mul_one] at e
  have hs3 := (own_sl o3).1
  have hn : 1 = x.2.1 := hs3.1
  rw [← hn] at o3 hs3 e
  obtain ⟨g2, hg2, _⟩ := row_at o3 (by omega)
  rw [hg2] at e hs3
  refine ⟨g, g2, x.2.2, rfl, e, ?_⟩
  exact hs3.cells _ rfl 0 (u8v b) rfl
set_option linter.unusedVariables false in
set_option linter.unusedSimpArgs false in
set_option maxRecDepth 100000 in
set_option maxHeartbeats 16000000 in
theorem nearWaits_w (n : Int) (m : UInt8) (w : World) : Calls Try.prog 4 #[.int .i64 n, .int .u8 (m.toNat : Int)] w fun e w' => e = .returned (.bool true) ∧ Below w.heap.size w w' := by
  have bel := Below.refl w.heap.size w
  go_enter Try.func4, Try.ntmps4
  go_wp2_with fail
  with_reducible refine (awake_any _).mono ?_
  rintro e w1 ⟨rfl, b1⟩
  replace bel := bel.trans (b1.mono bel.size)
  clear b1
  by_cases c1 : n < 1
  · go_wp2_with fail
    go_ret
    exact ⟨rfl, bel⟩
  have Hc1 : Hid (1 ≤ n) := Lib.hid (by omega)
  replace c1 : decide (n < 1) = false := decide_eq_false c1
  by_cases c2 : 20 < n
  · go_wp2_with fail
    go_ret
    exact ⟨rfl, bel⟩
  have Hc2 : Hid (n ≤ 20) := Lib.hid (by omega)
  replace c2 : decide (20 < n) = false := decide_eq_false c2
  have kk := Hc1.out
  have kk2 := Hc2.out
  obtain ⟨K, rfl⟩ : ∃ K : Nat, n = (K : Int) := ⟨n.toNat, by omega⟩
  have K0 : (1 : Int) ≤ K := by omega
  have K1 : (K : Int) ≤ 20 := by omega
  go_wp2_with fail
  have HLO_ := bel.size
  with_reducible refine (tnew 100 (by decide) (by decide) _).mono ?_
  rintro e w2 ⟨gt, rfl, hT, b2⟩
  replace bel := bel.trans (b2.mono bel.size)
  clear b2
  replace hT := hT.lo_mono HLO_
  clear HLO_
  have pk := Pk.nil w.heap.size w2
  go_wp2_with fail
  go_loopg [7] (K) (fun gk s7 wr => ∃ i : Nat, ∃ A : Option Addr, ∃ c : Nat, gk = K - i ∧ i ≤ K ∧ Tb w.heap.size gt wr 100 0 (waT A c i) ∧ Pk w.heap.size wr A (min i 4) c (waP (min i 4)) ∧ s7 = .int .i64 (i : Int) ∧ Below w.heap.size w wr)
  case atStart => exact ⟨0, none, 0, rfl, Nat.zero_le _, (show Tb w.heap.size gt _ 100 0 (waT none 0 0) from hT), (Pk.nil _ _), rfl, bel⟩
  case round =>
    clear hT pk bel
    obtain ⟨i, A, c, HGK, hiK, hT, pk, rfl, bel⟩ := hrel
    have HGK_ := Lib.hid HGK
    clear HGK
    by_cases h : (i : Int) < K
    rotate_left
    · by_cases h5 : (4 : Int) < K
      · have hiK2 : i = K := by omega
        replace h : decide ((i : Int) < K) = false := decide_eq_false h
        rw [hiK2, waT_pos A c (by omega), show min K 4 = 4 by omega] at hT
        rw [hiK2, show min K 4 = 4 by omega] at pk
        go_wp2_with fail
        with_reducible refine (addr_k 1 _).mono ?_
        rintro e w3 ⟨rfl, b3⟩
        replace hT := hT.below b3
        replace pk := pk.kt (S := []) (kt_below b3) (by decide) (by decide)
        replace bel := bel.trans (b3.mono bel.size)
        clear b3
        go_wp2_with fail
        have cc : Calls Try.prog 10 #[.pointer (some ⟨gt, 0, none⟩), .agg #[.int .u8 10, .int .u8 0, .int .u8 0, .int .u8 ((byteOf 1).toNat : Int)], .agg #[.int .u8 (m.toNat : Int), .int .u8 0, .int .u8 0, .int .u8 0, .int .u8 0, .int .u8 0], .int .i64 0, .bool false] w3 (fun e w' => e = .returned (.slice A 4 c) ∧ Tb w.heap.size gt w' 100 0 [⟨⟨10, 0, 0, byteOf 1⟩, 0, true, ⟨m, 0, 0, 0, 0, 0⟩, 0, none, 0, 0⟩] ∧ Kt [49, 52] w3 w' ∧ Below w.heap.size w3 w') := learn_at (kn := false) (y := ⟨10, 0, 0, byteOf 1⟩) (m := ⟨m, 0, 0, 0, 0, 0⟩) (t := 0) (i := 0) (x := ⟨⟨10, 0, 0, byteOf 1⟩, 0, false, Mc6.zero, 1, A, 4, c⟩) _ hT rfl rfl
        with_reducible refine (cc).mono ?_
        rintro e w4 ⟨rfl, hT_, k_, bb⟩
        clear cc
        replace pk := pk.kt k_ (by decide) (by decide)
        clear hT
        have hT := hT_
        replace bel := bel.trans bb
        clear bb k_ hT_
        go_wp2_with fail
        with_reducible refine (addr_k 1 _).mono ?_
        rintro e w5 ⟨rfl, b5⟩
        replace hT := hT.below b5
        replace pk := pk.kt (S := []) (kt_below b5) (by decide) (by decide)
        replace bel := bel.trans (b5.mono bel.size)
        clear b5
        go_wp2_with fail
        have cc : Calls Try.prog 10 #[.pointer (some ⟨gt, 0, none⟩), .agg #[.int .u8 10, .int .u8 0, .int .u8 0, .int .u8 ((byteOf 1).toNat : Int)], .agg #[.int .u8 (m.toNat : Int), .int .u8 0, .int .u8 0, .int .u8 0, .int .u8 0, .int .u8 0], .int .i64 0, .bool false] w5 (fun e w' => e = .returned (.slice none 0 0) ∧ Tb w.heap.size gt w' 100 0 [⟨⟨10, 0, 0, byteOf 1⟩, 0, true, ⟨m, 0, 0, 0, 0, 0⟩, 0, none, 0, 0⟩] ∧ Kt [49, 52] w5 w' ∧ Below w.heap.size w5 w') := learn_at (kn := false) (y := ⟨10, 0, 0, byteOf 1⟩) (m := ⟨m, 0, 0, 0, 0, 0⟩) (t := 0) (i := 0) (x := ⟨⟨10, 0, 0, byteOf 1⟩, 0, true, ⟨m, 0, 0, 0, 0, 0⟩, 0, none, 0, 0⟩) _ hT rfl rfl
        with_reducible refine (cc).mono ?_
        rintro e w6 ⟨rfl, hT_, k_, bb⟩
        clear cc
        replace pk := pk.kt k_ (by decide) (by decide)
        clear hT
        have hT := hT_
        replace bel := bel.trans bb
        clear bb k_ hT_
        go_wp2_with fail
        go_loopg [11] (4) (fun gk s11 wr => ∃ j : Nat, gk = 4 - j ∧ j ≤ 4 ∧ s11 = .int .i64 (j : Int) ∧ w6 = wr)
        case atStart => exact ⟨0, rfl, Nat.zero_le _, rfl, rfl⟩
        case round =>
          obtain ⟨j, HGK, hj, rfl, rfl⟩ := hrel
          have HGK_ := Lib.hid HGK
          clear HGK
          by_cases h : (j : Int) < 4
          rotate_left
          · have hN : decide (j < 4) = false := decide_eq_false (by omega)
            replace h : decide ((j : Int) < 4) = false := decide_eq_false h
            go_wp2_with fail
            go_ret
            exact ⟨rfl, bel⟩
          have j0 : (0 : Int) ≤ j := by omega
          have j1 : (j : Int) ≤ 20 := by omega
          obtain ⟨gw, g2, kw, rfl, hcw, hcb⟩ := pk.byte (waP_get (M := 4) (i := j) (by omega))
          rw [byteOf_val, show (j : Int) % 256 = j by omega] at hcb
          go_wp2_with fail
          go_roundg (4 - (j + 1))
          case measure => have := HGK_.out; omega
          case rel => exact ⟨j + 1, rfl, by omega, by go_num, rfl⟩
      have hiK2 : i = K := by omega
      replace h : decide ((i : Int) < K) = false := decide_eq_false h
      rw [hiK2, waT_pos A c (by omega), show min K 4 = K by omega] at hT
      rw [hiK2, show min K 4 = K by omega] at pk
      replace h5 : decide ((4 : Int) < K) = false := decide_eq_false h5
      go_wp2_with fail
      with_reducible refine (addr_k 1 _).mono ?_
      rintro e w3 ⟨rfl, b3⟩
      replace hT := hT.below b3
      replace pk := pk.kt (S := []) (kt_below b3) (by decide) (by decide)
      replace bel := bel.trans (b3.mono bel.size)
      clear b3
      go_wp2_with fail
      have cc : Calls Try.prog 10 #[.pointer (some ⟨gt, 0, none⟩), .agg #[.int .u8 10, .int .u8 0, .int .u8 0, .int .u8 ((byteOf 1).toNat : Int)], .agg #[.int .u8 (m.toNat : Int), .int .u8 0, .int .u8 0, .int .u8 0, .int .u8 0, .int .u8 0], .int .i64 0, .bool false] w3 (fun e w' => e = .returned (.slice A K c) ∧ Tb w.heap.size gt w' 100 0 [⟨⟨10, 0, 0, byteOf 1⟩, 0, true, ⟨m, 0, 0, 0, 0, 0⟩, 0, none, 0, 0⟩] ∧ Kt [49, 52] w3 w' ∧ Below w.heap.size w3 w') := learn_at (kn := false) (y := ⟨10, 0, 0, byteOf 1⟩) (m := ⟨m, 0, 0, 0, 0, 0⟩) (t := 0) (i := 0) (x := ⟨⟨10, 0, 0, byteOf 1⟩, 0, false, Mc6.zero, 1, A, K, c⟩) _ hT rfl rfl
      with_reducible refine (cc).mono ?_
      rintro e w4 ⟨rfl, hT_, k_, bb⟩
      clear cc
      replace pk := pk.kt k_ (by decide) (by decide)
      clear hT
      have hT := hT_
      replace bel := bel.trans bb
      clear bb k_ hT_
      go_wp2_with fail
      with_reducible refine (addr_k 1 _).mono ?_
      rintro e w5 ⟨rfl, b5⟩
      replace hT := hT.below b5
      replace pk := pk.kt (S := []) (kt_below b5) (by decide) (by decide)
      replace bel := bel.trans (b5.mono bel.size)
      clear b5
      go_wp2_with fail
      have cc : Calls Try.prog 10 #[.pointer (some ⟨gt, 0, none⟩), .agg #[.int .u8 10, .int .u8 0, .int .u8 0, .int .u8 ((byteOf 1).toNat : Int)], .agg #[.int .u8 (m.toNat : Int), .int .u8 0, .int .u8 0, .int .u8 0, .int .u8 0, .int .u8 0], .int .i64 0, .bool false] w5 (fun e w' => e = .returned (.slice none 0 0) ∧ Tb w.heap.size gt w' 100 0 [⟨⟨10, 0, 0, byteOf 1⟩, 0, true, ⟨m, 0, 0, 0, 0, 0⟩, 0, none, 0, 0⟩] ∧ Kt [49, 52] w5 w' ∧ Below w.heap.size w5 w') := learn_at (kn := false) (y := ⟨10, 0, 0, byteOf 1⟩) (m := ⟨m, 0, 0, 0, 0, 0⟩) (t := 0) (i := 0) (x := ⟨⟨10, 0, 0, byteOf 1⟩, 0, true, ⟨m, 0, 0, 0, 0, 0⟩, 0, none, 0, 0⟩) _ hT rfl rfl
      with_reducible refine (cc).mono ?_
      rintro e w6 ⟨rfl, hT_, k_, bb⟩
      clear cc
      replace pk := pk.kt k_ (by decide) (by decide)
      clear hT
      have hT := hT_
      replace bel := bel.trans bb
      clear bb k_ hT_
      go_wp2_with fail
      go_loopg [11] (K) (fun gk s11 wr => ∃ j : Nat, gk = K - j ∧ j ≤ K ∧ s11 = .int .i64 (j : Int) ∧ w6 = wr)
      case atStart => exact ⟨0, rfl, Nat.zero_le _, rfl, rfl⟩
      case round =>
        obtain ⟨j, HGK, hj, rfl, rfl⟩ := hrel
        have HGK_ := Lib.hid HGK
        clear HGK
        by_cases h : (j : Int) < (K : Int)
        rotate_left
        · have hN : decide (j < K) = false := decide_eq_false (by omega)
          replace h : decide ((j : Int) < (K : Int)) = false := decide_eq_false h
          go_wp2_with fail
          go_ret
          exact ⟨rfl, bel⟩
        have j0 : (0 : Int) ≤ j := by omega
        have j1 : (j : Int) ≤ 20 := by omega
        obtain ⟨gw, g2, kw, rfl, hcw, hcb⟩ := pk.byte (waP_get (M := K) (i := j) (by omega))
        rw [byteOf_val, show (j : Int) % 256 = j by omega] at hcb
        go_wp2_with fail
        go_roundg (K - (j + 1))
        case measure => have := HGK_.out; omega
        case rel => exact ⟨j + 1, rfl, by omega, by go_num, rfl⟩
    have i0 : (0 : Int) ≤ i := by omega
    have i1 : (i : Int) ≤ 20 := by omega
    have hc : (i : Int) < K := by omega
    by_cases h0 : i = 0
    · have hq : ((i : Int) == 0) = true := by simp; omega
      rw [waT_0 A c h0] at hT
      have H0 := Lib.hid h0
      clear h0
      go_wp2_with fail
      with_reducible refine (addr_k 1 _).mono ?_
      rintro e w3 ⟨rfl, b3⟩
      replace hT := hT.below b3
      replace pk := pk.kt (S := []) (kt_below b3) (by decide) (by decide)
      replace bel := bel.trans (b3.mono bel.size)
      clear b3
      go_wp2_with (first | ((with_reducible show wpList _ _ _ (⟨some 33, _, _, _, _, _⟩ :: _) _ _); refine wpList_lit_n rfl 42 5 1 _ rfl #[.int .u8 (i : Int)] (.int .u8 0) Try.underlying42 (by kernel_rfl) 1 (by kernel_rfl) (by decide) (by kernel_rfl) ?_; intro g33 w4 ge lt hh bb; have hl : w4.heap[g33]? = some (.cells (([byteOf (i : Int)] : List UInt8).map u8v).toArray 5 (0, 0)) := (by simpa [u8v, byteOf_val, show (i : Int) % 256 = i by omega] using hh); have s33w := own_lit (B := w3.heap.size) ([byteOf (i : Int)]) hl ge 1 rfl (by simp [maxLen]); have s33 := (own_sl s33w).1; have s33lo := bel.size; clear hl; have s33ge := ge; have lz_s33 := bb.size; have ob33 := Nat.le_trans bel.size ge; replace hT := hT.below bb; replace pk := pk.kt (S := []) (kt_below bb) (by decide) (by decide); replace bel := bel.trans (bb.mono bel.size); have hb33 := hh; clear hh lt ge bb; have sb33 : Sb _ (some ⟨g33, 0, none⟩) 1 1 [byteOf (i : Int)] := Sb.lit (by simpa [u8v, byteOf_val, show (i : Int) % 256 = i by omega] using hb33) rfl (by simp [maxLen])))
      have cc : Calls Try.prog 11 #[.pointer (some ⟨gt, 0, none⟩), .agg #[.int .u8 10, .int .u8 0, .int .u8 0, .int .u8 ((byteOf 1).toNat : Int)], .slice (some ⟨g33, 0, none⟩) 1 1, .int .i64 0] w4 (fun e w' => ∃ A1 c1, e = .returned (.agg #[.int .u8 0, .int .u8 0, .int .u8 0, .int .u8 0, .int .u8 0, .int .u8 0, .bool false, .bool true]) ∧ Tb w.heap.size gt w' 100 0 [⟨⟨10, 0, 0, byteOf 1⟩, 0, false, Mc6.zero, 1, A1, 1, c1⟩] ∧ Pk w.heap.size w' A1 1 c1 [[byteOf (i : Int)]] ∧ Kt [49, 52] w4 w' ∧ Below w.heap.size w4 w') := want_new (y := ⟨10, 0, 0, byteOf 1⟩) (t := 0) (lb := [byteOf (i : Int)]) _ hT sb33 (by decide) rfl
      with_reducible refine (cc).mono ?_
      rintro e w5 ⟨A1, c1, rfl, hT_, pk_, k_, bb⟩
      clear cc
      replace hb33 := Kt.blk k_ hb33 (by decide)
      clear s33 s33w lz_s33
      clear pk
      clear hT
      have hT := hT_
      replace bel := bel.trans bb
      clear bb k_ hT_
      have pk := pk_
      clear pk_
      go_wp2_with (first | ((with_reducible show wpList _ _ _ (⟨some 8, _, _, _, _, _⟩ :: _) _ _); refine wpList_new_a rfl 34 rfl #[.int .u8 0, .int .u8 0, .int .u8 0, .int .u8 0, .int .u8 0, .int .u8 0, .bool false, .bool false] (by kernel_rfl) ?_; intro g8 w6 ge hh bb; have d_b33_xb := ne_new (hlt hb33) ge; have oxb := Nat.le_trans bel.size ge; replace hb33 := blk_u hb33 bb; replace hT := hT.below bb; replace pk := pk.kt (S := []) (kt_below bb) (by decide) (by decide); replace bel := bel.trans (bb.mono bel.size); have hxb := hh; clear hh ge bb) | ((with_reducible show wpList _ _ _ (⟨none, Op.store _ (.tmp 8) _, _, _, _, _⟩ :: _) _ _); refine wpList_store_blk rfl 34 (.tmp 8) (.tmp 34) rfl g8 rfl _ rfl _ 34 hxb (by rfl) (by kernel_rfl) (by kernel_rfl) ?_; intro w7 hq gr; replace hb33 := blk_a hb33 gr d_b33_xb; replace hT := hT.kt (kt_grown gr hxb (by simp) : Kt [34] _ _) (by decide) (by decide); replace pk := pk.kt (kt_grown gr hxb (by simp) : Kt [34] _ _) (by decide) (by decide); replace bel := below_grown bel gr oxb bel.size; clear hxb; have hxb := hq; clear hq gr; have R36 := cell_lit hxb 6 _ rfl; have R39 := cell_lit hxb 7 _ rfl))
      try clear R36
      try clear R39
      go_roundg (K - (i + 1))
      case measure => have := HGK_.out; omega
      case rel => exact ⟨i + 1, A1, c1, rfl, by omega, (show Tb w.heap.size gt _ 100 0 (waT A1 c1 (i + 1)) from (by rw [waT_pos _ _ (by omega : 1 ≤ i + 1), show min (i + 1) 4 = 1 by have := H0.out; omega]; exact hT)), (show Pk w.heap.size _ A1 (min (i + 1) 4) c1 (waP (min (i + 1) 4)) from (by rw [← waP_0 H0.out, show min (i + 1) 4 = 1 by have := H0.out; omega]; exact pk)), by go_num, bel⟩
    by_cases h4 : i < 4
    rotate_left
    · have hq : ((i : Int) == 0) = false := by simp; omega
      rw [waT_pos A c (by omega)] at hT
      have HW : Hid (4 ≤ min i 4) := Lib.hid (by omega)
      have HD : Hid ((adv 0 0 : Int) - 0 < 1) := Lib.hid (by decide)
      go_wp2_with fail
      with_reducible refine (addr_k 1 _).mono ?_
      rintro e w3 ⟨rfl, b3⟩
      replace hT := hT.below b3
      replace pk := pk.kt (S := []) (kt_below b3) (by decide) (by decide)
      replace bel := bel.trans (b3.mono bel.size)
      clear b3
      go_wp2_with (first | ((with_reducible show wpList _ _ _ (⟨some 33, _, _, _, _, _⟩ :: _) _ _); refine wpList_lit_n rfl 42 5 1 _ rfl #[.int .u8 (i : Int)] (.int .u8 0) Try.underlying42 (by kernel_rfl) 1 (by kernel_rfl) (by decide) (by kernel_rfl) ?_; intro g33 w4 ge lt hh bb; have hl : w4.heap[g33]? = some (.cells (([byteOf (i : Int)] : List UInt8).map u8v).toArray 5 (0, 0)) := (by simpa [u8v, byteOf_val, show (i : Int) % 256 = i by omega] using hh); have s33w := own_lit (B := w3.heap.size) ([byteOf (i : Int)]) hl ge 1 rfl (by simp [maxLen]); have s33 := (own_sl s33w).1; have s33lo := bel.size; clear hl; have s33ge := ge; have lz_s33 := bb.size; have ob33 := Nat.le_trans bel.size ge; replace hT := hT.below bb; replace pk := pk.kt (S := []) (kt_below bb) (by decide) (by decide); replace bel := bel.trans (bb.mono bel.size); have hb33 := hh; clear hh lt ge bb; have sb33 : Sb _ (some ⟨g33, 0, none⟩) 1 1 [byteOf (i : Int)] := Sb.lit (by simpa [u8v, byteOf_val, show (i : Int) % 256 = i by omega] using hb33) rfl (by simp [maxLen])))
      have cc : Calls Try.prog 11 #[.pointer (some ⟨gt, 0, none⟩), .agg #[.int .u8 10, .int .u8 0, .int .u8 0, .int .u8 ((byteOf 1).toNat : Int)], .slice (some ⟨g33, 0, none⟩) 1 1, .int .i64 0] w4 (fun e w' => e = .returned (.agg #[.int .u8 0, .int .u8 0, .int .u8 0, .int .u8 0, .int .u8 0, .int .u8 0, .bool false, .bool false]) ∧ Tb w.heap.size gt w' 100 0 [⟨⟨10, 0, 0, byteOf 1⟩, 0, false, Mc6.zero, 1, A, min i 4, c⟩] ∧ Kt [49, 52] w4 w' ∧ Below w.heap.size w4 w') := want_full (y := ⟨10, 0, 0, byteOf 1⟩) (t := 0) (lb := [byteOf (i : Int)]) (i := 0) (x := ⟨⟨10, 0, 0, byteOf 1⟩, 0, false, Mc6.zero, 1, A, min i 4, c⟩) _ hT sb33 (by decide) rfl rfl rfl HD.out HW.out
      with_reducible refine (cc).mono ?_
      rintro e w5 ⟨rfl, hT_, k_, bb⟩
      clear cc
      replace hb33 := Kt.blk k_ hb33 (by decide)
      clear s33 s33w lz_s33
      replace pk := pk.kt k_ (by decide) (by decide)
      clear hT
      have hT := hT_
      replace bel := bel.trans bb
      clear bb k_ hT_
      go_wp2_with (first | ((with_reducible show wpList _ _ _ (⟨some 8, _, _, _, _, _⟩ :: _) _ _); refine wpList_new_a rfl 34 rfl #[.int .u8 0, .int .u8 0, .int .u8 0, .int .u8 0, .int .u8 0, .int .u8 0, .bool false, .bool false] (by kernel_rfl) ?_; intro g8 w6 ge hh bb; have d_b33_xb := ne_new (hlt hb33) ge; have oxb := Nat.le_trans bel.size ge; replace hb33 := blk_u hb33 bb; replace hT := hT.below bb; replace pk := pk.kt (S := []) (kt_below bb) (by decide) (by decide); replace bel := bel.trans (bb.mono bel.size); have hxb := hh; clear hh ge bb) | ((with_reducible show wpList _ _ _ (⟨none, Op.store _ (.tmp 8) _, _, _, _, _⟩ :: _) _ _); refine wpList_store_blk rfl 34 (.tmp 8) (.tmp 34) rfl g8 rfl _ rfl _ 34 hxb (by rfl) (by kernel_rfl) (by kernel_rfl) ?_; intro w7 hq gr; replace hb33 := blk_a hb33 gr d_b33_xb; replace hT := hT.kt (kt_grown gr hxb (by simp) : Kt [34] _ _) (by decide) (by decide); replace pk := pk.kt (kt_grown gr hxb (by simp) : Kt [34] _ _) (by decide) (by decide); replace bel := below_grown bel gr oxb bel.size; clear hxb; have hxb := hq; clear hq gr; have R36 := cell_lit hxb 6 _ rfl; have R39 := cell_lit hxb 7 _ rfl))
      try clear R36
      try clear R39
      go_roundg (K - (i + 1))
      case measure => have := HGK_.out; omega
      case rel => exact ⟨i + 1, A, c, rfl, by omega, (show Tb w.heap.size gt _ 100 0 (waT A c (i + 1)) from (by rw [waT_pos _ _ (by omega : 1 ≤ i + 1), show min (i + 1) 4 = min i 4 by omega]; exact hT)), (show Pk w.heap.size _ A (min (i + 1) 4) c (waP (min (i + 1) 4)) from (by rw [show min (i + 1) 4 = min i 4 by omega]; exact pk)), by go_num, bel⟩
    have hq : ((i : Int) == 0) = false := by simp; omega
    rw [waT_pos A c (by omega)] at hT
    have HW : Hid (min i 4 < 4) := Lib.hid (by omega)
    have HD : Hid ((adv 0 0 : Int) - 0 < 1) := Lib.hid (by decide)
    go_wp2_with fail
    with_reducible refine (addr_k 1 _).mono ?_
    rintro e w3 ⟨rfl, b3⟩
    replace hT := hT.below b3
    replace pk := pk.kt (S := []) (kt_below b3) (by decide) (by decide)
    replace bel := bel.trans (b3.mono bel.size)
    clear b3
    go_wp2_with (first | ((with_reducible show wpList _ _ _ (⟨some 33, _, _, _, _, _⟩ :: _) _ _); refine wpList_lit_n rfl 42 5 1 _ rfl #[.int .u8 (i : Int)] (.int .u8 0) Try.underlying42 (by kernel_rfl) 1 (by kernel_rfl) (by decide) (by kernel_rfl) ?_; intro g33 w4 ge lt hh bb; have hl : w4.heap[g33]? = some (.cells (([byteOf (i : Int)] : List UInt8).map u8v).toArray 5 (0, 0)) := (by simpa [u8v, byteOf_val, show (i : Int) % 256 = i by omega] using hh); have s33w := own_lit (B := w3.heap.size) ([byteOf (i : Int)]) hl ge 1 rfl (by simp [maxLen]); have s33 := (own_sl s33w).1; have s33lo := bel.size; clear hl; have s33ge := ge; have lz_s33 := bb.size; have ob33 := Nat.le_trans bel.size ge; replace hT := hT.below bb; replace pk := pk.kt (S := []) (kt_below bb) (by decide) (by decide); replace bel := bel.trans (bb.mono bel.size); have hb33 := hh; clear hh lt ge bb; have sb33 : Sb _ (some ⟨g33, 0, none⟩) 1 1 [byteOf (i : Int)] := Sb.lit (by simpa [u8v, byteOf_val, show (i : Int) % 256 = i by omega] using hb33) rfl (by simp [maxLen])))
    have cc : Calls Try.prog 11 #[.pointer (some ⟨gt, 0, none⟩), .agg #[.int .u8 10, .int .u8 0, .int .u8 0, .int .u8 ((byteOf 1).toNat : Int)], .slice (some ⟨g33, 0, none⟩) 1 1, .int .i64 0] w4 (fun e w' => ∃ A2 c2, e = .returned (.agg #[.int .u8 0, .int .u8 0, .int .u8 0, .int .u8 0, .int .u8 0, .int .u8 0, .bool false, .bool false]) ∧ Tb w.heap.size gt w' 100 0 [⟨⟨10, 0, 0, byteOf 1⟩, 0, false, Mc6.zero, 1, A2, (min i 4 + 1), c2⟩] ∧ Pk w.heap.size w' A2 (min i 4 + 1) c2 (waP (min i 4) ++ [[byteOf (i : Int)]]) ∧ Kt [49, 52, 42] w4 w' ∧ Below w.heap.size w4 w') := want_more (y := ⟨10, 0, 0, byteOf 1⟩) (t := 0) (lb := [byteOf (i : Int)]) (i := 0) (x := ⟨⟨10, 0, 0, byteOf 1⟩, 0, false, Mc6.zero, 1, A, min i 4, c⟩) (ps := waP (min i 4)) _ hT sb33 (by decide) rfl rfl rfl HD.out HW.out pk
    with_reducible refine (cc).mono ?_
    rintro e w5 ⟨A2, c2, rfl, hT_, pk_, k_, bb⟩
    clear cc
    replace hb33 := Kt.blk k_ hb33 (by decide)
    clear s33 s33w lz_s33
    clear pk
    clear hT
    have hT := hT_
    replace bel := bel.trans bb
    clear bb k_ hT_
    have pk := pk_
    clear pk_
    go_wp2_with (first | ((with_reducible show wpList _ _ _ (⟨some 8, _, _, _, _, _⟩ :: _) _ _); refine wpList_new_a rfl 34 rfl #[.int .u8 0, .int .u8 0, .int .u8 0, .int .u8 0, .int .u8 0, .int .u8 0, .bool false, .bool false] (by kernel_rfl) ?_; intro g8 w6 ge hh bb; have d_b33_xb := ne_new (hlt hb33) ge; have oxb := Nat.le_trans bel.size ge; replace hb33 := blk_u hb33 bb; replace hT := hT.below bb; replace pk := pk.kt (S := []) (kt_below bb) (by decide) (by decide); replace bel := bel.trans (bb.mono bel.size); have hxb := hh; clear hh ge bb) | ((with_reducible show wpList _ _ _ (⟨none, Op.store _ (.tmp 8) _, _, _, _, _⟩ :: _) _ _); refine wpList_store_blk rfl 34 (.tmp 8) (.tmp 34) rfl g8 rfl _ rfl _ 34 hxb (by rfl) (by kernel_rfl) (by kernel_rfl) ?_; intro w7 hq gr; replace hb33 := blk_a hb33 gr d_b33_xb; replace hT := hT.kt (kt_grown gr hxb (by simp) : Kt [34] _ _) (by decide) (by decide); replace pk := pk.kt (kt_grown gr hxb (by simp) : Kt [34] _ _) (by decide) (by decide); replace bel := below_grown bel gr oxb bel.size; clear hxb; have hxb := hq; clear hq gr; have R36 := cell_lit hxb 6 _ rfl; have R39 := cell_lit hxb 7 _ rfl))
    try clear R36
    try clear R39
    go_roundg (K - (i + 1))
    case measure => have := HGK_.out; omega
    case rel => exact ⟨i + 1, A2, c2, rfl, by omega, (show Tb w.heap.size gt _ 100 0 (waT A2 c2 (i + 1)) from (by rw [waT_pos _ _ (by omega : 1 ≤ i + 1), show min (i + 1) 4 = min i 4 + 1 by omega]; exact hT)), (show Pk w.heap.size _ A2 (min (i + 1) 4) c2 (waP (min (i + 1) 4)) from (by rw [← waP_lt h4, show min (i + 1) 4 = min i 4 + 1 by omega]; exact pk)), by go_num, bel⟩
theorem nearWaits_walk (n m : Int) (w : World) (_ : (Lit.int .i64 n).wf = true) (hm : (Lit.int .u8 m).wf = true) : Calls Try.prog 4 #[.int .i64 n, .int .u8 m] w fun e w' => e = .returned (.bool true) ∧ Below w.heap.size w w' := by
  have h : m = ((byteOf m).toNat : Int) := by
    rw [byteOf_val]
    simp [Lit.wf, IntKind.min, IntKind.max, IntKind.signed, IntKind.bits] at hm
    omega
  rw [h]
  exact nearWaits_w n (byteOf m) w
end Go.Proofs.Ytfghmckeogajnaa
