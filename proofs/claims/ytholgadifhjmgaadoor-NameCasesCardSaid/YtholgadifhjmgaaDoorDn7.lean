/- The reference's Text, Parse. -/
import Derived.Test.YtholgadifhjmgaaDoorDn3
import Derived.Test.YtholgadifhjmgaaDoorSla
namespace Go.Proofs.YtholgadifhjmgaaDoor
open Go.RowKit

set_option linter.unusedVariables false in
set_option linter.unusedSimpArgs false in
set_option maxRecDepth 100000 in
set_option maxHeartbeats 16000000 in
theorem rtext_any (A : Option Addr) (n c : Nat) (l : List (List UInt8)) (w : World) (la : Sle stf 1 w A n c l) (hs : sizeN l ≤ 99999) : Calls Tryd.prog 22 #[.slice A n c] w fun e w' => e = .returned (.string ⟨(textN l).toArray⟩) ∧ Below w.heap.size w w' := by
  have HN := Lib.hid la.1
  have HS := Lib.hid hs
  have hb : (n : Int) ≤ 100000 := by have h_ := size_ge l; have h1_ := HN.out; omega
  clear hs
  obtain ⟨ii, hii, hz0, hz1, hz2⟩ := info_parts Tryd.info5
  have bel := Below.refl w.heap.size w
  go_enter Tryd.func22, Tryd.ntmps22
  by_cases h0 : n = 0
  · subst h0
    obtain rfl := List.eq_nil_of_length_eq_zero HN.out
    go_wp2_with fail
    go_ret
    exact ⟨rfl, bel⟩
  have h1 : ((n : Int) == 0) = false := by simpa using h0
  have h2 : (n == 0) = false := by simpa using h0
  have HNE : Hid (l ≠ []) := Lib.hid (fun e => h0 (by have h_ := HN.out; rw [e] at h_; exact h_.symm))
  go_wp2_with fail
  go_loopg [4, 3] (n) (fun gk s4 s3 wr => ∃ i : Nat, ∃ S : List UInt8, gk = n - i ∧ i ≤ n ∧ Hid (textG (l.take i) = S) ∧ s4 = .int .i64 (i : Int) ∧ s3 = .string ⟨(S).toArray⟩ ∧ Sle stf 1 wr (A) (n) (c) (l) ∧ Below w.heap.size w wr)
  case atStart => exact ⟨0, [], Nat.sub_zero _, Nat.zero_le _, Lib.hid rfl, rfl, rfl, la, bel⟩
  case round =>
    clear la bel
    obtain ⟨i, S, HGK, hi, HZ, rfl, rfl, la, bel⟩ := hrel
    have HGK_ := Lib.hid HGK
    clear HGK
    have i0 : (0 : Int) ≤ i := by omega
    have HGKo := HGK_
    by_cases h : i < n
    rotate_left
    · obtain rfl : i = n := by omega
      have HT : Hid (S = textN l) := Lib.hid (by unfold textN; rw [if_neg HNE.out, ← HZ.out, take_full (by rw [HN.out]; exact h)])
      replace h : decide (i < i) = false := decide_eq_false (by omega)
      go_wp2_with fail
      go_ret
      exact ⟨by rw [← HT.out]; rfl, bel⟩
    obtain ⟨gA, oA, rfl⟩ := la.place (by omega)
    obtain ⟨x0, HX0_⟩ : ∃ u_, l[i]? = some u_ := ⟨_, List.getElem?_eq_getElem (by rw [HN.out]; exact h)⟩
    have HX0 := Lib.hid HX0_
    clear HX0_
    obtain ⟨kx, HKX_⟩ : ∃ u_, x0.length = u_ := ⟨_, rfl⟩
    have HKX := Lib.hid HKX_
    clear HKX_
    have HPL : Hid (S.length + 1 + 4 * kx ≤ 400000) := Lib.hid (by rw [← HZ.out, ← HKX.out]; have h_ := textG_len (l.take i); have h1_ := size_next HX0.out; have h2_ := size_take l (i + 1); have h3_ := HS.out; omega)
    have hkx : (kx : Int) ≤ 100000 := by have h_ := HPL.out; omega
    by_cases hi0 : i = 0
    · have hi1 : decide (0 < i) = false := decide_eq_false (by omega)
      have hi00 := Lib.hid hi0
      clear hi0
      go_wp2_with fail
      go_loopg [5, 3] (kx) (fun gk s5 s3 wr => ∃ q : Nat, ∃ T : List UInt8, gk = kx - q ∧ q ≤ kx ∧ Hid (S ++ textL (x0.take q) = T) ∧ s5 = .int .i64 (q : Int) ∧ s3 = .string ⟨(T).toArray⟩ ∧ Sle stf 1 wr (some ⟨gA, oA, none⟩) (n) (c) (l) ∧ Below w.heap.size w wr)
      case atStart => exact ⟨0, S, Nat.sub_zero _, Nat.zero_le _, Lib.hid (by simp [textL]), rfl, rfl, la, bel⟩
      case round =>
        clear la bel
        obtain ⟨q, T, HGK, hq, HT, rfl, rfl, la, bel⟩ := hrel
        have HGK_ := Lib.hid HGK
        clear HGK
        have q0 : (0 : Int) ≤ q := by omega
        have HTL : Hid (T.length ≤ 400000) := Lib.hid (by rw [← HT.out]; simp only [List.length_append, List.length_singleton]; have h_ := textL_len (x0.take q); have h1_ : (x0.take q).length ≤ x0.length := by rw [List.length_take]; omega
                                                          have h2_ := HPL.out; have h3_ := HKX.out; omega)
        have htb := HTL.out
        by_cases h5 : q < kx
        rotate_left
        · obtain rfl : q = kx := by omega
          have HTE : Hid (textG (l.take (i + 1)) = T) := Lib.hid (by rw [← HT.out, take_full (l := x0) (by rw [HKX.out]; omega)]; rw [← HZ.out]; have h_ := HX0.out; rw [hi00.out] at h_ ⊢; rw [textG_first h_]; rfl)
          replace h5 : decide (q < q) = false := decide_eq_false (by omega)
          have R24 := Sle.st (i := i) la HX0.out
          have R25 := fun W => st_lenN HKX.out 3 W
          go_wp2_with fail
          clear R24 R25
          go_roundg (n - (i + 1))
          case measure => have := HGKo.out; omega
          case rel => exact ⟨i + 1, T, rfl, h, HTE, by go_num, by go_num, la, bel⟩
        obtain ⟨cx, HC_⟩ : ∃ u_, x0[q]? = some u_ := ⟨_, List.getElem?_eq_getElem (by rw [HKX.out]; exact h5)⟩
        have HC := Lib.hid HC_
        clear HC_
        obtain ⟨x, HX_⟩ : ∃ u_, (cx.toNat : Int) = u_ := ⟨_, rfl⟩
        have HX := Lib.hid HX_
        clear HX_
        have x00 : 0 ≤ x := by have h_ := HX.out; omega
        have x01 : x < 256 := by have h_ := HX.out; have h1_ := cx.toNat_lt; omega
        have R34_ := fun W => st_index HC.out W
        rw [HX.out] at R34_
        have R34 := R34_
        clear R34_
        by_cases p1 : x < 33
        · have HP : Hid (escB cx = [92, dg1 cx, dg2 cx, dg3 cx]) := Lib.hid (by unfold escB; rw [if_neg (by rw [show plainB cx = false from by unfold plainB; exact decide_eq_false (by have h_ := HX.out; omega)]; decide)])
          have R62 : ∀ W, (Op.stringOp .add ⟨T.toArray⟩ ⟨([92, dg1 cx, dg2 cx, dg3 cx] : List UInt8).toArray⟩).run Tryd.prog W = .ok (.string ⟨(T ++ [92, dg1 cx, dg2 cx, dg3 cx]).toArray⟩) W := fun W => st_add (x := T) (y := [92, dg1 cx, dg2 cx, dg3 cx]) (by simp; omega) W
          have R24 := Sle.st (i := i) la HX0.out
          have R25 := fun W => st_lenN HKX.out 3 W
          have R32 := Sle.st (i := i) la HX0.out
          have R34 := R34
          go_wp2_with (first | ((with_reducible show wpList _ _ _ (⟨some 60, _, _, _, _, _⟩ :: _) _ _); refine wpList_lit_n rfl 27 5 4 _ rfl #[.int .u8 92, .int .u8 (48 + x / 100), .int .u8 (48 + x / 10 % 10), .int .u8 (48 + x % 10)] (.int .u8 0) Tryd.underlying27 (by kernel_rfl) 1 (by kernel_rfl) (by decide) (by kernel_rfl) ?_; intro g60 w1 ge lt hh bb; have hl : w1.heap[g60]? = some (.cells (([92, dg1 cx, dg2 cx, dg3 cx] : List UInt8).map u8v).toArray 5 (0, 0)) := (by rw [show ([92, dg1 cx, dg2 cx, dg3 cx] : List UInt8).map u8v = [.int .u8 92, .int .u8 (48 + x / 100), .int .u8 (48 + x / 10 % 10), .int .u8 (48 + x % 10)] from dg_cells HX.out]; exact hh); have ytw := own_lit (B := wr.heap.size) ([92, dg1 cx, dg2 cx, dg3 cx]) hl ge 4 rfl (by simp [maxLen]); have yt := (own_sl ytw).1; have ytlo := bel.size; clear hl; have ytge := ge; have lz_yt := bb.size; have bl_la_yt := la.bl_new; have av_la_b60 := la.av_new ge; have ob60 := Nat.le_trans bel.size ge; replace la := la.below bb; replace bel := bel.trans (bb.mono bel.size); have hb60 := hh; clear hh lt ge bb; have st61 := yt.str (P := Tryd.prog) 27 5 9 Tryd.underlying27 Tryd.underlying5 Tryd.underlying9))
          try clear R24
          try clear R25
          try clear R32
          try clear R34
          try clear st61
          go_roundg (kx - (q + 1))
          case measure => have := HGK_.out; omega
          case rel => exact ⟨q + 1, T ++ [92, dg1 cx, dg2 cx, dg3 cx], rfl, h5, Lib.hid (by rw [textL_next HC.out, HP.out, ← List.append_assoc, HT.out]), by go_num, by go_num, la, bel⟩
        have p10 : decide (x < 33) = false := decide_eq_false p1
        by_cases p2 : 126 < x
        · have HP : Hid (escB cx = [92, dg1 cx, dg2 cx, dg3 cx]) := Lib.hid (by unfold escB; rw [if_neg (by rw [show plainB cx = false from by unfold plainB; exact decide_eq_false (by have h_ := HX.out; omega)]; decide)])
          have R62 : ∀ W, (Op.stringOp .add ⟨T.toArray⟩ ⟨([92, dg1 cx, dg2 cx, dg3 cx] : List UInt8).toArray⟩).run Tryd.prog W = .ok (.string ⟨(T ++ [92, dg1 cx, dg2 cx, dg3 cx]).toArray⟩) W := fun W => st_add (x := T) (y := [92, dg1 cx, dg2 cx, dg3 cx]) (by simp; omega) W
          have R24 := Sle.st (i := i) la HX0.out
          have R25 := fun W => st_lenN HKX.out 3 W
          have R32 := Sle.st (i := i) la HX0.out
          have R34 := R34
          go_wp2_with (first | ((with_reducible show wpList _ _ _ (⟨some 60, _, _, _, _, _⟩ :: _) _ _); refine wpList_lit_n rfl 27 5 4 _ rfl #[.int .u8 92, .int .u8 (48 + x / 100), .int .u8 (48 + x / 10 % 10), .int .u8 (48 + x % 10)] (.int .u8 0) Tryd.underlying27 (by kernel_rfl) 1 (by kernel_rfl) (by decide) (by kernel_rfl) ?_; intro g60 w1 ge lt hh bb; have hl : w1.heap[g60]? = some (.cells (([92, dg1 cx, dg2 cx, dg3 cx] : List UInt8).map u8v).toArray 5 (0, 0)) := (by rw [show ([92, dg1 cx, dg2 cx, dg3 cx] : List UInt8).map u8v = [.int .u8 92, .int .u8 (48 + x / 100), .int .u8 (48 + x / 10 % 10), .int .u8 (48 + x % 10)] from dg_cells HX.out]; exact hh); have ytw := own_lit (B := wr.heap.size) ([92, dg1 cx, dg2 cx, dg3 cx]) hl ge 4 rfl (by simp [maxLen]); have yt := (own_sl ytw).1; have ytlo := bel.size; clear hl; have ytge := ge; have lz_yt := bb.size; have bl_la_yt := la.bl_new; have av_la_b60 := la.av_new ge; have ob60 := Nat.le_trans bel.size ge; replace la := la.below bb; replace bel := bel.trans (bb.mono bel.size); have hb60 := hh; clear hh lt ge bb; have st61 := yt.str (P := Tryd.prog) 27 5 9 Tryd.underlying27 Tryd.underlying5 Tryd.underlying9))
          try clear R24
          try clear R25
          try clear R32
          try clear R34
          try clear st61
          go_roundg (kx - (q + 1))
          case measure => have := HGK_.out; omega
          case rel => exact ⟨q + 1, T ++ [92, dg1 cx, dg2 cx, dg3 cx], rfl, h5, Lib.hid (by rw [textL_next HC.out, HP.out, ← List.append_assoc, HT.out]), by go_num, by go_num, la, bel⟩
        have p20 : decide (126 < x) = false := decide_eq_false p2
        by_cases p3 : x = 46
        · have HP : Hid (escB cx = [92, dg1 cx, dg2 cx, dg3 cx]) := Lib.hid (by unfold escB; rw [if_neg (by rw [show plainB cx = false from by unfold plainB; exact decide_eq_false (by have h_ := HX.out; omega)]; decide)])
          have R62 : ∀ W, (Op.stringOp .add ⟨T.toArray⟩ ⟨([92, dg1 cx, dg2 cx, dg3 cx] : List UInt8).toArray⟩).run Tryd.prog W = .ok (.string ⟨(T ++ [92, dg1 cx, dg2 cx, dg3 cx]).toArray⟩) W := fun W => st_add (x := T) (y := [92, dg1 cx, dg2 cx, dg3 cx]) (by simp; omega) W
          have p30 : (x == 46) = true := by simpa using p3
          clear p3
          have R24 := Sle.st (i := i) la HX0.out
          have R25 := fun W => st_lenN HKX.out 3 W
          have R32 := Sle.st (i := i) la HX0.out
          have R34 := R34
          go_wp2_with (first | ((with_reducible show wpList _ _ _ (⟨some 60, _, _, _, _, _⟩ :: _) _ _); refine wpList_lit_n rfl 27 5 4 _ rfl #[.int .u8 92, .int .u8 (48 + x / 100), .int .u8 (48 + x / 10 % 10), .int .u8 (48 + x % 10)] (.int .u8 0) Tryd.underlying27 (by kernel_rfl) 1 (by kernel_rfl) (by decide) (by kernel_rfl) ?_; intro g60 w1 ge lt hh bb; have hl : w1.heap[g60]? = some (.cells (([92, dg1 cx, dg2 cx, dg3 cx] : List UInt8).map u8v).toArray 5 (0, 0)) := (by rw [show ([92, dg1 cx, dg2 cx, dg3 cx] : List UInt8).map u8v = [.int .u8 92, .int .u8 (48 + x / 100), .int .u8 (48 + x / 10 % 10), .int .u8 (48 + x % 10)] from dg_cells HX.out]; exact hh); have ytw := own_lit (B := wr.heap.size) ([92, dg1 cx, dg2 cx, dg3 cx]) hl ge 4 rfl (by simp [maxLen]); have yt := (own_sl ytw).1; have ytlo := bel.size; clear hl; have ytge := ge; have lz_yt := bb.size; have bl_la_yt := la.bl_new; have av_la_b60 := la.av_new ge; have ob60 := Nat.le_trans bel.size ge; replace la := la.below bb; replace bel := bel.trans (bb.mono bel.size); have hb60 := hh; clear hh lt ge bb; have st61 := yt.str (P := Tryd.prog) 27 5 9 Tryd.underlying27 Tryd.underlying5 Tryd.underlying9))
          try clear R24
          try clear R25
          try clear R32
          try clear R34
          try clear st61
          go_roundg (kx - (q + 1))
          case measure => have := HGK_.out; omega
          case rel => exact ⟨q + 1, T ++ [92, dg1 cx, dg2 cx, dg3 cx], rfl, h5, Lib.hid (by rw [textL_next HC.out, HP.out, ← List.append_assoc, HT.out]), by go_num, by go_num, la, bel⟩
        have p30 : (x == 46) = false := by simpa using p3
        have HP3 := Lib.hid p3
        clear p3
        by_cases p4 : x = 92
        rotate_left
        · have p40 : (x == 92) = false := by simpa using p4
          have HP : Hid (escB cx = [cx]) := Lib.hid (by unfold escB; rw [if_pos (show plainB cx = true from by unfold plainB; exact decide_eq_true (by have h_ := HX.out; have h1_ := HP3.out; omega))])
          clear p4
          have R71 := fun W => st_one HC.out W
          have R72 : ∀ W, (Op.stringOp .add ⟨T.toArray⟩ ⟨#[cx]⟩).run Tryd.prog W = .ok (.string ⟨(T ++ [cx]).toArray⟩) W := fun W => st_add (x := T) (y := [cx]) (by simp; omega) W
          have R24 := Sle.st (i := i) la HX0.out
          have R25 := fun W => st_lenN HKX.out 3 W
          have R32 := Sle.st (i := i) la HX0.out
          have R34 := R34
          have R67 := Sle.st (i := i) la HX0.out
          go_wp2_with fail
          clear R24 R25 R32 R34 R67
          go_roundg (kx - (q + 1))
          case measure => have := HGK_.out; omega
          case rel => exact ⟨q + 1, T ++ [cx], rfl, h5, Lib.hid (by rw [textL_next HC.out, HP.out, ← List.append_assoc, HT.out]), by go_num, by go_num, la, bel⟩
        have HP : Hid (escB cx = [92, dg1 cx, dg2 cx, dg3 cx]) := Lib.hid (by unfold escB; rw [if_neg (by rw [show plainB cx = false from by unfold plainB; exact decide_eq_false (by have h_ := HX.out; omega)]; decide)])
        have R62 : ∀ W, (Op.stringOp .add ⟨T.toArray⟩ ⟨([92, dg1 cx, dg2 cx, dg3 cx] : List UInt8).toArray⟩).run Tryd.prog W = .ok (.string ⟨(T ++ [92, dg1 cx, dg2 cx, dg3 cx]).toArray⟩) W := fun W => st_add (x := T) (y := [92, dg1 cx, dg2 cx, dg3 cx]) (by simp; omega) W
        have p40 : (x == 92) = true := by simpa using p4
        clear p4
        have R24 := Sle.st (i := i) la HX0.out
        have R25 := fun W => st_lenN HKX.out 3 W
        have R32 := Sle.st (i := i) la HX0.out
        have R34 := R34
        go_wp2_with (first | ((with_reducible show wpList _ _ _ (⟨some 60, _, _, _, _, _⟩ :: _) _ _); refine wpList_lit_n rfl 27 5 4 _ rfl #[.int .u8 92, .int .u8 (48 + x / 100), .int .u8 (48 + x / 10 % 10), .int .u8 (48 + x % 10)] (.int .u8 0) Tryd.underlying27 (by kernel_rfl) 1 (by kernel_rfl) (by decide) (by kernel_rfl) ?_; intro g60 w1 ge lt hh bb; have hl : w1.heap[g60]? = some (.cells (([92, dg1 cx, dg2 cx, dg3 cx] : List UInt8).map u8v).toArray 5 (0, 0)) := (by rw [show ([92, dg1 cx, dg2 cx, dg3 cx] : List UInt8).map u8v = [.int .u8 92, .int .u8 (48 + x / 100), .int .u8 (48 + x / 10 % 10), .int .u8 (48 + x % 10)] from dg_cells HX.out]; exact hh); have ytw := own_lit (B := wr.heap.size) ([92, dg1 cx, dg2 cx, dg3 cx]) hl ge 4 rfl (by simp [maxLen]); have yt := (own_sl ytw).1; have ytlo := bel.size; clear hl; have ytge := ge; have lz_yt := bb.size; have bl_la_yt := la.bl_new; have av_la_b60 := la.av_new ge; have ob60 := Nat.le_trans bel.size ge; replace la := la.below bb; replace bel := bel.trans (bb.mono bel.size); have hb60 := hh; clear hh lt ge bb; have st61 := yt.str (P := Tryd.prog) 27 5 9 Tryd.underlying27 Tryd.underlying5 Tryd.underlying9))
        try clear R24
        try clear R25
        try clear R32
        try clear R34
        try clear st61
        go_roundg (kx - (q + 1))
        case measure => have := HGK_.out; omega
        case rel => exact ⟨q + 1, T ++ [92, dg1 cx, dg2 cx, dg3 cx], rfl, h5, Lib.hid (by rw [textL_next HC.out, HP.out, ← List.append_assoc, HT.out]), by go_num, by go_num, la, bel⟩
    have hi1 : 0 < i := by omega
    have hi2 : Hid (0 < i) := Lib.hid (by omega)
    clear hi0
    have R19 : ∀ W, (Op.stringOp .add ⟨S.toArray⟩ ⟨#[46]⟩).run Tryd.prog W = .ok (.string ⟨(S ++ [46]).toArray⟩) W := fun W => st_add (x := S) (y := [46]) (by have h_ := HPL.out; simp; omega) W
    go_wp2_with fail
    go_loopg [5, 3] (kx) (fun gk s5 s3 wr => ∃ q : Nat, ∃ T : List UInt8, gk = kx - q ∧ q ≤ kx ∧ Hid ((S ++ [46]) ++ textL (x0.take q) = T) ∧ s5 = .int .i64 (q : Int) ∧ s3 = .string ⟨(T).toArray⟩ ∧ Sle stf 1 wr (some ⟨gA, oA, none⟩) (n) (c) (l) ∧ Below w.heap.size w wr)
    case atStart => exact ⟨0, (S ++ [46]), Nat.sub_zero _, Nat.zero_le _, Lib.hid (by simp [textL]), rfl, rfl, la, bel⟩
    case round =>
      clear la bel
      obtain ⟨q, T, HGK, hq, HT, rfl, rfl, la, bel⟩ := hrel
      have HGK_ := Lib.hid HGK
      clear HGK
      have q0 : (0 : Int) ≤ q := by omega
      have HTL : Hid (T.length ≤ 400000) := Lib.hid (by rw [← HT.out]; simp only [List.length_append, List.length_singleton]; have h_ := textL_len (x0.take q); have h1_ : (x0.take q).length ≤ x0.length := by rw [List.length_take]; omega
                                                        have h2_ := HPL.out; have h3_ := HKX.out; omega)
      have htb := HTL.out
      by_cases h5 : q < kx
      rotate_left
      · obtain rfl : q = kx := by omega
        have HTE : Hid (textG (l.take (i + 1)) = T) := Lib.hid (by rw [← HT.out, take_full (l := x0) (by rw [HKX.out]; omega)]; rw [textG_next HX0.out hi2.out, HZ.out]; simp)
        replace h5 : decide (q < q) = false := decide_eq_false (by omega)
        have R24 := Sle.st (i := i) la HX0.out
        have R25 := fun W => st_lenN HKX.out 3 W
        go_wp2_with fail
        clear R24 R25
        go_roundg (n - (i + 1))
        case measure => have := HGKo.out; omega
        case rel => exact ⟨i + 1, T, rfl, h, HTE, by go_num, by go_num, la, bel⟩
      obtain ⟨cx, HC_⟩ : ∃ u_, x0[q]? = some u_ := ⟨_, List.getElem?_eq_getElem (by rw [HKX.out]; exact h5)⟩
      have HC := Lib.hid HC_
      clear HC_
      obtain ⟨x, HX_⟩ : ∃ u_, (cx.toNat : Int) = u_ := ⟨_, rfl⟩
      have HX := Lib.hid HX_
      clear HX_
      have x00 : 0 ≤ x := by have h_ := HX.out; omega
      have x01 : x < 256 := by have h_ := HX.out; have h1_ := cx.toNat_lt; omega
      have R34_ := fun W => st_index HC.out W
      rw [HX.out] at R34_
      have R34 := R34_
      clear R34_
      by_cases p1 : x < 33
      · have HP : Hid (escB cx = [92, dg1 cx, dg2 cx, dg3 cx]) := Lib.hid (by unfold escB; rw [if_neg (by rw [show plainB cx = false from by unfold plainB; exact decide_eq_false (by have h_ := HX.out; omega)]; decide)])
        have R62 : ∀ W, (Op.stringOp .add ⟨T.toArray⟩ ⟨([92, dg1 cx, dg2 cx, dg3 cx] : List UInt8).toArray⟩).run Tryd.prog W = .ok (.string ⟨(T ++ [92, dg1 cx, dg2 cx, dg3 cx]).toArray⟩) W := fun W => st_add (x := T) (y := [92, dg1 cx, dg2 cx, dg3 cx]) (by simp; omega) W
        have R24 := Sle.st (i := i) la HX0.out
        have R25 := fun W => st_lenN HKX.out 3 W
        have R32 := Sle.st (i := i) la HX0.out
        have R34 := R34
        go_wp2_with (first | ((with_reducible show wpList _ _ _ (⟨some 60, _, _, _, _, _⟩ :: _) _ _); refine wpList_lit_n rfl 27 5 4 _ rfl #[.int .u8 92, .int .u8 (48 + x / 100), .int .u8 (48 + x / 10 % 10), .int .u8 (48 + x % 10)] (.int .u8 0) Tryd.underlying27 (by kernel_rfl) 1 (by kernel_rfl) (by decide) (by kernel_rfl) ?_; intro g60 w1 ge lt hh bb; have hl : w1.heap[g60]? = some (.cells (([92, dg1 cx, dg2 cx, dg3 cx] : List UInt8).map u8v).toArray 5 (0, 0)) := (by rw [show ([92, dg1 cx, dg2 cx, dg3 cx] : List UInt8).map u8v = [.int .u8 92, .int .u8 (48 + x / 100), .int .u8 (48 + x / 10 % 10), .int .u8 (48 + x % 10)] from dg_cells HX.out]; exact hh); have ytw := own_lit (B := wr.heap.size) ([92, dg1 cx, dg2 cx, dg3 cx]) hl ge 4 rfl (by simp [maxLen]); have yt := (own_sl ytw).1; have ytlo := bel.size; clear hl; have ytge := ge; have lz_yt := bb.size; have bl_la_yt := la.bl_new; have av_la_b60 := la.av_new ge; have ob60 := Nat.le_trans bel.size ge; replace la := la.below bb; replace bel := bel.trans (bb.mono bel.size); have hb60 := hh; clear hh lt ge bb; have st61 := yt.str (P := Tryd.prog) 27 5 9 Tryd.underlying27 Tryd.underlying5 Tryd.underlying9))
        try clear R24
        try clear R25
        try clear R32
        try clear R34
        try clear st61
        go_roundg (kx - (q + 1))
        case measure => have := HGK_.out; omega
        case rel => exact ⟨q + 1, T ++ [92, dg1 cx, dg2 cx, dg3 cx], rfl, h5, Lib.hid (by rw [textL_next HC.out, HP.out, ← List.append_assoc, HT.out]), by go_num, by go_num, la, bel⟩
      have p10 : decide (x < 33) = false := decide_eq_false p1
      by_cases p2 : 126 < x
      · have HP : Hid (escB cx = [92, dg1 cx, dg2 cx, dg3 cx]) := Lib.hid (by unfold escB; rw [if_neg (by rw [show plainB cx = false from by unfold plainB; exact decide_eq_false (by have h_ := HX.out; omega)]; decide)])
        have R62 : ∀ W, (Op.stringOp .add ⟨T.toArray⟩ ⟨([92, dg1 cx, dg2 cx, dg3 cx] : List UInt8).toArray⟩).run Tryd.prog W = .ok (.string ⟨(T ++ [92, dg1 cx, dg2 cx, dg3 cx]).toArray⟩) W := fun W => st_add (x := T) (y := [92, dg1 cx, dg2 cx, dg3 cx]) (by simp; omega) W
        have R24 := Sle.st (i := i) la HX0.out
        have R25 := fun W => st_lenN HKX.out 3 W
        have R32 := Sle.st (i := i) la HX0.out
        have R34 := R34
        go_wp2_with (first | ((with_reducible show wpList _ _ _ (⟨some 60, _, _, _, _, _⟩ :: _) _ _); refine wpList_lit_n rfl 27 5 4 _ rfl #[.int .u8 92, .int .u8 (48 + x / 100), .int .u8 (48 + x / 10 % 10), .int .u8 (48 + x % 10)] (.int .u8 0) Tryd.underlying27 (by kernel_rfl) 1 (by kernel_rfl) (by decide) (by kernel_rfl) ?_; intro g60 w1 ge lt hh bb; have hl : w1.heap[g60]? = some (.cells (([92, dg1 cx, dg2 cx, dg3 cx] : List UInt8).map u8v).toArray 5 (0, 0)) := (by rw [show ([92, dg1 cx, dg2 cx, dg3 cx] : List UInt8).map u8v = [.int .u8 92, .int .u8 (48 + x / 100), .int .u8 (48 + x / 10 % 10), .int .u8 (48 + x % 10)] from dg_cells HX.out]; exact hh); have ytw := own_lit (B := wr.heap.size) ([92, dg1 cx, dg2 cx, dg3 cx]) hl ge 4 rfl (by simp [maxLen]); have yt := (own_sl ytw).1; have ytlo := bel.size; clear hl; have ytge := ge; have lz_yt := bb.size; have bl_la_yt := la.bl_new; have av_la_b60 := la.av_new ge; have ob60 := Nat.le_trans bel.size ge; replace la := la.below bb; replace bel := bel.trans (bb.mono bel.size); have hb60 := hh; clear hh lt ge bb; have st61 := yt.str (P := Tryd.prog) 27 5 9 Tryd.underlying27 Tryd.underlying5 Tryd.underlying9))
        try clear R24
        try clear R25
        try clear R32
        try clear R34
        try clear st61
        go_roundg (kx - (q + 1))
        case measure => have := HGK_.out; omega
        case rel => exact ⟨q + 1, T ++ [92, dg1 cx, dg2 cx, dg3 cx], rfl, h5, Lib.hid (by rw [textL_next HC.out, HP.out, ← List.append_assoc, HT.out]), by go_num, by go_num, la, bel⟩
      have p20 : decide (126 < x) = false := decide_eq_false p2
      by_cases p3 : x = 46
      · have HP : Hid (escB cx = [92, dg1 cx, dg2 cx, dg3 cx]) := Lib.hid (by unfold escB; rw [if_neg (by rw [show plainB cx = false from by unfold plainB; exact decide_eq_false (by have h_ := HX.out; omega)]; decide)])
        have R62 : ∀ W, (Op.stringOp .add ⟨T.toArray⟩ ⟨([92, dg1 cx, dg2 cx, dg3 cx] : List UInt8).toArray⟩).run Tryd.prog W = .ok (.string ⟨(T ++ [92, dg1 cx, dg2 cx, dg3 cx]).toArray⟩) W := fun W => st_add (x := T) (y := [92, dg1 cx, dg2 cx, dg3 cx]) (by simp; omega) W
        have p30 : (x == 46) = true := by simpa using p3
        clear p3
        have R24 := Sle.st (i := i) la HX0.out
        have R25 := fun W => st_lenN HKX.out 3 W
        have R32 := Sle.st (i := i) la HX0.out
        have R34 := R34
        go_wp2_with (first | ((with_reducible show wpList _ _ _ (⟨some 60, _, _, _, _, _⟩ :: _) _ _); refine wpList_lit_n rfl 27 5 4 _ rfl #[.int .u8 92, .int .u8 (48 + x / 100), .int .u8 (48 + x / 10 % 10), .int .u8 (48 + x % 10)] (.int .u8 0) Tryd.underlying27 (by kernel_rfl) 1 (by kernel_rfl) (by decide) (by kernel_rfl) ?_; intro g60 w1 ge lt hh bb; have hl : w1.heap[g60]? = some (.cells (([92, dg1 cx, dg2 cx, dg3 cx] : List UInt8).map u8v).toArray 5 (0, 0)) := (by rw [show ([92, dg1 cx, dg2 cx, dg3 cx] : List UInt8).map u8v = [.int .u8 92, .int .u8 (48 + x / 100), .int .u8 (48 + x / 10 % 10), .int .u8 (48 + x % 10)] from dg_cells HX.out]; exact hh); have ytw := own_lit (B := wr.heap.size) ([92, dg1 cx, dg2 cx, dg3 cx]) hl ge 4 rfl (by simp [maxLen]); have yt := (own_sl ytw).1; have ytlo := bel.size; clear hl; have ytge := ge; have lz_yt := bb.size; have bl_la_yt := la.bl_new; have av_la_b60 := la.av_new ge; have ob60 := Nat.le_trans bel.size ge; replace la := la.below bb; replace bel := bel.trans (bb.mono bel.size); have hb60 := hh; clear hh lt ge bb; have st61 := yt.str (P := Tryd.prog) 27 5 9 Tryd.underlying27 Tryd.underlying5 Tryd.underlying9))
        try clear R24
        try clear R25
        try clear R32
        try clear R34
        try clear st61
        go_roundg (kx - (q + 1))
        case measure => have := HGK_.out; omega
        case rel => exact ⟨q + 1, T ++ [92, dg1 cx, dg2 cx, dg3 cx], rfl, h5, Lib.hid (by rw [textL_next HC.out, HP.out, ← List.append_assoc, HT.out]), by go_num, by go_num, la, bel⟩
      have p30 : (x == 46) = false := by simpa using p3
      have HP3 := Lib.hid p3
      clear p3
      by_cases p4 : x = 92
      rotate_left
      · have p40 : (x == 92) = false := by simpa using p4
        have HP : Hid (escB cx = [cx]) := Lib.hid (by unfold escB; rw [if_pos (show plainB cx = true from by unfold plainB; exact decide_eq_true (by have h_ := HX.out; have h1_ := HP3.out; omega))])
        clear p4
        have R71 := fun W => st_one HC.out W
        have R72 : ∀ W, (Op.stringOp .add ⟨T.toArray⟩ ⟨#[cx]⟩).run Tryd.prog W = .ok (.string ⟨(T ++ [cx]).toArray⟩) W := fun W => st_add (x := T) (y := [cx]) (by simp; omega) W
        have R24 := Sle.st (i := i) la HX0.out
        have R25 := fun W => st_lenN HKX.out 3 W
        have R32 := Sle.st (i := i) la HX0.out
        have R34 := R34
        have R67 := Sle.st (i := i) la HX0.out
        go_wp2_with fail
        clear R24 R25 R32 R34 R67
        go_roundg (kx - (q + 1))
        case measure => have := HGK_.out; omega
        case rel => exact ⟨q + 1, T ++ [cx], rfl, h5, Lib.hid (by rw [textL_next HC.out, HP.out, ← List.append_assoc, HT.out]), by go_num, by go_num, la, bel⟩
      have HP : Hid (escB cx = [92, dg1 cx, dg2 cx, dg3 cx]) := Lib.hid (by unfold escB; rw [if_neg (by rw [show plainB cx = false from by unfold plainB; exact decide_eq_false (by have h_ := HX.out; omega)]; decide)])
      have R62 : ∀ W, (Op.stringOp .add ⟨T.toArray⟩ ⟨([92, dg1 cx, dg2 cx, dg3 cx] : List UInt8).toArray⟩).run Tryd.prog W = .ok (.string ⟨(T ++ [92, dg1 cx, dg2 cx, dg3 cx]).toArray⟩) W := fun W => st_add (x := T) (y := [92, dg1 cx, dg2 cx, dg3 cx]) (by simp; omega) W
      have p40 : (x == 92) = true := by simpa using p4
      clear p4
      have R24 := Sle.st (i := i) la HX0.out
      have R25 := fun W => st_lenN HKX.out 3 W
      have R32 := Sle.st (i := i) la HX0.out
      have R34 := R34
      go_wp2_with (first | ((with_reducible show wpList _ _ _ (⟨some 60, _, _, _, _, _⟩ :: _) _ _); refine wpList_lit_n rfl 27 5 4 _ rfl #[.int .u8 92, .int .u8 (48 + x / 100), .int .u8 (48 + x / 10 % 10), .int .u8 (48 + x % 10)] (.int .u8 0) Tryd.underlying27 (by kernel_rfl) 1 (by kernel_rfl) (by decide) (by kernel_rfl) ?_; intro g60 w1 ge lt hh bb; have hl : w1.heap[g60]? = some (.cells (([92, dg1 cx, dg2 cx, dg3 cx] : List UInt8).map u8v).toArray 5 (0, 0)) := (by rw [show ([92, dg1 cx, dg2 cx, dg3 cx] : List UInt8).map u8v = [.int .u8 92, .int .u8 (48 + x / 100), .int .u8 (48 + x / 10 % 10), .int .u8 (48 + x % 10)] from dg_cells HX.out]; exact hh); have ytw := own_lit (B := wr.heap.size) ([92, dg1 cx, dg2 cx, dg3 cx]) hl ge 4 rfl (by simp [maxLen]); have yt := (own_sl ytw).1; have ytlo := bel.size; clear hl; have ytge := ge; have lz_yt := bb.size; have bl_la_yt := la.bl_new; have av_la_b60 := la.av_new ge; have ob60 := Nat.le_trans bel.size ge; replace la := la.below bb; replace bel := bel.trans (bb.mono bel.size); have hb60 := hh; clear hh lt ge bb; have st61 := yt.str (P := Tryd.prog) 27 5 9 Tryd.underlying27 Tryd.underlying5 Tryd.underlying9))
      try clear R24
      try clear R25
      try clear R32
      try clear R34
      try clear st61
      go_roundg (kx - (q + 1))
      case measure => have := HGK_.out; omega
      case rel => exact ⟨q + 1, T ++ [92, dg1 cx, dg2 cx, dg3 cx], rfl, h5, Lib.hid (by rw [textL_next HC.out, HP.out, ← List.append_assoc, HT.out]), by go_num, by go_num, la, bel⟩
theorem wp_val {P : Program} {o : Oper} {a : Act} {w : World} {K : Act → World → Prop} {Q : Exit → Act → World → Prop} {v : Value} (h : (execOp a.eval o).run P w = .ok (.value v) w) (hK : K (a.put o.dst v) w) : Oper.wp P o a w K Q := by
  unfold Oper.wp
  rw [h]
  exact hK
/-- A byte behind the last label; a text read from the left. -/
def addL (ls : List (List UInt8)) (c : UInt8) : List (List UInt8) := ls.dropLast ++ [ls.getLastD [] ++ [c]]
def digB (c : UInt8) : Bool := decide (48 ≤ c.toNat ∧ c.toNat ≤ 57)
def dig3 (a b d : UInt8) : Bool := digB a && digB b && digB d && decide (100 * (a.toNat - 48) + 10 * (b.toNat - 48) + (d.toNat - 48) ≤ 255)
def goP : List UInt8 → List (List UInt8) → Option (List (List UInt8))
  | c :: a :: b :: d :: r, ls => if c = 46 then goP (a :: b :: d :: r) (ls ++ [[]]) else if c = 92 then (if dig3 a b d = true then goP r (addL ls (unesc a b d)) else none) else goP (a :: b :: d :: r) (addL ls c)
  | c :: r, ls => if c = 46 then goP r (ls ++ [[]]) else if c = 92 then none else goP r (addL ls c)
  | [], ls => some ls
theorem goP_dot (r : List UInt8) (ls : List (List UInt8)) : goP (46 :: r) ls = goP r (ls ++ [[]]) := by
  rcases r with _ | ⟨a, _ | ⟨b, _ | ⟨d, r⟩⟩⟩ <;> rw [goP] <;> first | rfl | simp
theorem goP_one {c : UInt8} (r : List UInt8) (ls : List (List UInt8)) (h1 : c ≠ 46) (h2 : c ≠ 92) : goP (c :: r) ls = goP r (addL ls c) := by
  rcases r with _ | ⟨a, _ | ⟨b, _ | ⟨d, r⟩⟩⟩ <;> rw [goP, if_neg h1, if_neg h2] <;> simp
theorem goP_esc (a b d : UInt8) (r : List UInt8) (ls : List (List UInt8)) : goP (92 :: a :: b :: d :: r) ls = if dig3 a b d = true then goP r (addL ls (unesc a b d)) else none := by
  rw [goP, if_neg (by decide), if_pos rfl]
theorem goP_cut {r : List UInt8} (ls : List (List UInt8)) (h : r.length < 3) : goP (92 :: r) ls = none := by
  rcases r with _ | ⟨a, _ | ⟨b, _ | ⟨d, r⟩⟩⟩
  · rfl
  · rfl
  · rfl
  · simp at h; omega
theorem add_snoc (ls : List (List UInt8)) (y : List UInt8) (c : UInt8) : addL (ls ++ [y]) c = ls ++ [y ++ [c]] := by
  unfold addL
  rw [List.dropLast_concat, List.getLastD_concat]
theorem add_last {ls : List (List UInt8)} {q : Nat} {y : List UInt8} (h : ls.length = q + 1) (hy : ls[q]? = some y) (c : UInt8) : addL ls c = ls.set q (y ++ [c]) := by
  have e : ls = ls.take q ++ [y] := by
    have h1 := take_next hy
    rw [List.take_of_length_le (by omega)] at h1
    exact h1
  have hl : (ls.take q).length = q := by rw [List.length_take]; omega
  rw [e, add_snoc, List.set_append_right _ _ (by omega), hl, Nat.sub_self]
  rfl
theorem add_len {ls : List (List UInt8)} (c : UInt8) (h : 0 < ls.length) : (addL ls c).length = ls.length := by
  unfold addL
  rw [List.length_append, List.length_dropLast, List.length_singleton]
  omega
theorem dig3_dg (c : UInt8) : dig3 (dg1 c) (dg2 c) (dg3 c) = true := by
  obtain ⟨h1, h2, h3⟩ := dg_val c
  have hc := c.toNat_lt
  unfold dig3 digB
  rw [h1, h2, h3]
  simp only [Bool.and_eq_true, decide_eq_true_eq]
  omega
theorem goP_text : ∀ (x r : List UInt8) (ls : List (List UInt8)) (y : List UInt8), goP (textL x ++ r) (ls ++ [y]) = goP r (ls ++ [y ++ x])
  | [], r, ls, y => by rw [show textL [] = [] from rfl, List.nil_append, List.append_nil]
  | c :: x, r, ls, y => by
    have ih := goP_text x r ls (y ++ [c])
    rw [show textL (c :: x) = escB c ++ textL x from rfl, List.append_assoc]
    unfold escB
    split
    · rename_i hp
      rw [List.cons_append, List.nil_append, goP_one _ _ (fun e => by subst e; revert hp; decide) (fun e => by subst e; revert hp; decide), add_snoc, ih]
      simp
    · rw [show [92, dg1 c, dg2 c, dg3 c] ++ (textL x ++ r) = 92 :: dg1 c :: dg2 c :: dg3 c :: (textL x ++ r) from rfl, goP_esc, if_pos (dig3_dg c), unesc_dg, add_snoc, ih]
      simp
theorem goP_rest : ∀ (l : List (List UInt8)) (ls : List (List UInt8)) (y : List UInt8), goP (l.flatMap fun z => 46 :: textL z) (ls ++ [y]) = some (ls ++ [y] ++ l)
  | [], ls, y => by rw [List.flatMap_nil, goP, List.append_nil]
  | z :: l, ls, y => by
    rw [List.flatMap_cons, List.cons_append, goP_dot, goP_text, List.nil_append, goP_rest l (ls ++ [y]) z]
    simp
theorem goP_name {l : List (List UInt8)} (h : l ≠ []) : goP (textG l) [[]] = some l := by
  rcases l with _ | ⟨x, l⟩
  · exact absurd rfl h
  · have h1 := goP_text x (l.flatMap fun y => 46 :: textL y) [] []
    have h2 := goP_rest l [] x
    rw [List.nil_append, List.nil_append, List.nil_append] at h1
    rw [List.nil_append] at h2
    rw [textG, h1, h2]
    rfl
theorem goP_parse {s : List UInt8} (hs : s ≠ [46]) : parseS s = (match goP s [[]] with
    | none => none
    | some ls => if goodN ls = true ∧ textN ls = s then some ls else none) := by
  rcases h : parseS s with _ | l
  · rcases h2 : goP s [[]] with _ | ls
    · rfl
    · show none = if goodN ls = true ∧ textN ls = s then some ls else none
      rw [if_neg]
      rintro ⟨h3, h4⟩
      have h5 := parseS_text h3
      rw [h4, h] at h5
      cases h5
  · obtain ⟨h3, h4⟩ := parseS_sound h
    have hne : l ≠ [] := fun e => hs (by rw [← h4, e]; rfl)
    have h5 : textN l = textG l := if_neg hne
    have h6 := goP_name hne
    rw [← h5, h4] at h6
    rw [h6]
    simp only
    rw [if_pos ⟨h3, h4⟩]
theorem goP_no {s : List UInt8} (hs : s ≠ [46]) (h : goP s [[]] = none) : parseS s = none := by rw [goP_parse hs, h]
theorem goP_yes {s : List UInt8} {ls : List (List UInt8)} (hs : s ≠ [46]) (h : goP s [[]] = some ls) : parseS s = if goodN ls = true ∧ textN ls = s then some ls else none := by rw [goP_parse hs, h]
theorem owk_atb {w : World} {B k : Nat} {T : TypeId} {v : Value} {n : Nat} {xs : List Value} (h : w.ownsRow B T k v n xs) (hn : 0 < n) : ∃ g c, v = .slice (some ⟨g, 0, none⟩) n c ∧ B ≤ g ∧ g < w.heap.size ∧ n ≤ c := by
  rcases h.2 with ⟨_, rfl⟩ | ⟨g, cap, cur, rfl, hb, hh, hnc, hm, _⟩
  · omega
  · exact ⟨g, cap, rfl, hb, (Array.getElem?_eq_some_iff.1 hh).1, hnc⟩
theorem drop_next {α : Type} {l : List α} {i : Nat} {x : α} (h : l[i]? = some x) : l.drop i = x :: l.drop (i + 1) := by
  obtain ⟨hi, hx⟩ := List.getElem?_eq_some_iff.1 h
  rw [List.drop_eq_getElem_cons hi, hx]
theorem dig_no {a b d : UInt8} (h : ¬ (48 ≤ a.toNat ∧ a.toNat ≤ 57) ∨ ¬ (48 ≤ b.toNat ∧ b.toNat ≤ 57) ∨ ¬ (48 ≤ d.toNat ∧ d.toNat ≤ 57) ∨ 255 < 100 * (a.toNat - 48) + 10 * (b.toNat - 48) + (d.toNat - 48)) : dig3 a b d = false := by
  unfold dig3 digB
  rw [Bool.eq_false_iff]
  intro e
  simp only [Bool.and_eq_true, decide_eq_true_eq] at e
  omega
theorem dig_yes {a b d : UInt8} (h1 : 48 ≤ a.toNat ∧ a.toNat ≤ 57) (h2 : 48 ≤ b.toNat ∧ b.toNat ≤ 57) (h3 : 48 ≤ d.toNat ∧ d.toNat ≤ 57) (h4 : 100 * (a.toNat - 48) + 10 * (b.toNat - 48) + (d.toNat - 48) ≤ 255) : dig3 a b d = true := by
  unfold dig3 digB
  simp only [Bool.and_eq_true, decide_eq_true_eq]
  omega
theorem add_bound {ls : List (List UInt8)} {i : Nat} (c : UInt8) (h : ∀ x ∈ ls, x.length ≤ i) : ∀ x ∈ addL ls c, x.length ≤ i + 1 := by
  intro x hx
  unfold addL at hx
  rcases List.mem_append.1 hx with h1 | h1
  · have := h x ((List.dropLast_sublist ls).subset h1); omega
  · rw [List.mem_singleton.1 h1, List.length_append, List.length_singleton]
    rcases List.eq_nil_or_concat ls with e | ⟨l, y, e⟩
    · subst e; simp
    · subst e
      rw [List.concat_eq_append, List.getLastD_concat]
      have := h y (by simp)
      omega
set_option linter.unusedVariables false in
set_option linter.unusedSimpArgs false in
set_option maxRecDepth 100000 in
set_option maxHeartbeats 16000000 in
theorem rparse_any (s : List UInt8) (w : World) (hs : s.length ≤ 99999) : Calls Tryd.prog 21 #[.string ⟨s.toArray⟩] w fun e w' => ∃ v, e = .returned (.tuple #[v, .bool (parseS s).isSome]) ∧ w'.ownsRow w.heap.size 9 1 v (parseR s).1.length ((parseR s).1.flatMap stf) ∧ Below w.heap.size w w' := by
  obtain ⟨m, HM_⟩ : ∃ u_, s.length = u_ := ⟨_, rfl⟩
  have HM := Lib.hid HM_
  clear HM_
  have hm1 : m ≤ 99999 := by have h_ := HM.out; omega
  have hm2 : (m : Int) ≤ 99999 := by omega
  obtain ⟨is, his, his0, his1, his2⟩ := info_parts Tryd.info_str
  obtain ⟨ii, hii, hz0, hz1, hz2⟩ := info_parts Tryd.info5
  have bel := Below.refl w.heap.size w
  go_enter Tryd.func21, Tryd.ntmps21
  by_cases h0 : s = [46]
  · subst h0
    have HR : Hid (parseS [46] = some []) := Lib.hid rfl
    go_wp2_with fail
    exact bodyPost_ret (v := .tuple #[.slice none 0 0, .bool true]) (by simp [results, Tryd.results21, go_sem]) rfl ⟨_, by rw [HR.out]; rfl, by rw [parseR_yes HR.out]; exact owk_nil _ _ _, bel⟩
  have h00 : (s == [46]) = false := by simpa using h0
  have HS0 := Lib.hid h0
  clear h0
  go_wp2_with (first | ((with_reducible show wpList _ _ _ (⟨some 12, _, _, _, _, _⟩ :: _) _ _); refine wpList_lit_n rfl 23 9 1 _ rfl #[.string ⟨#[]⟩] (.string ⟨#[]⟩) Tryd.underlying23 (by kernel_rfl) 1 (by kernel_rfl) (by decide) (by kernel_rfl) ?_; intro g12 w1 ge lt hh bb; have rw0w := owk_lit (B := w.heap.size) ([[]] : List (List UInt8)) stf_len (show w1.heap[g12]? = some (.cells (([[]] : List (List UInt8)).flatMap stf).toArray 9 (0, 0)) from hh) ge 1 rfl (by simp [maxLen]); have rw0 := (owk_sle (by decide) stf_len rw0w).1; have rw0lo := bel.size; have rw0ge := ge; have lz_rw0 := bb.size; have ob12 := Nat.le_trans bel.size ge; replace bel := bel.trans (bb.mono bel.size); have hb12 := hh; clear hh lt ge bb; clear hb12))
  go_loopg [4, 5] (m) (fun gk s4 s5 wr => ∃ i : Nat, ∃ q : Nat, ∃ ls : List (List UInt8), ∃ (Arw : Option Addr) (crw : Nat), gk = m - i ∧ Hid (goP (s.drop i) ls = goP s [[]]) ∧ i ≤ m ∧ q ≤ i ∧ Hid (∀ x ∈ ls, x.length ≤ i) ∧ s4 = .slice Arw (q + 1) crw ∧ s5 = .int .i64 (i : Int) ∧ wr.ownsRow (w.heap.size) 9 1 (.slice Arw (q + 1) crw) (q + 1) ((ls : List (List UInt8)).flatMap stf) ∧ Below w.heap.size w wr)
  case atStart => exact ⟨0, 0, [[]], some ⟨g12, 0, none⟩, 1, Nat.sub_zero _, Lib.hid rfl, Nat.zero_le _, Nat.le_refl _, Lib.hid (fun x hx => by rw [List.mem_singleton.1 hx]; exact Nat.le_refl _), rfl, rfl, rw0w, bel⟩
  case round =>
    clear rw0 bel
    obtain ⟨i, q, ls, Arw, crw, HGK, HP, hi, hqi, HBD, rfl, rfl, rww, bel⟩ := hrel
    have HGK_ := Lib.hid HGK
    clear HGK
    have rw := (owk_sle (by decide) stf_len rww).1
    have fr_rw := (owk_sle (by decide) stf_len rww).2
    have lz_rw := bel.size
    have rwlo := Nat.le_refl (w.heap.size)
    have i0 : (0 : Int) ≤ i := by omega
    have HLL := Lib.hid rw.1
    by_cases h : i < m
    rotate_left
    · obtain rfl : i = m := by omega
      have HQ : Hid (goP s [[]] = some ls) := Lib.hid (by rw [← HP.out, List.drop_eq_nil_of_le (by rw [HM.out]; exact Nat.le_refl _), goP])
      have HQ2 := Lib.hid (goP_yes HS0.out HQ.out)
      replace h : decide (i < i) = false := decide_eq_false (by omega)
      rcases hg : goodN ls with _ | _
      · have HG := Lib.hid hg
        have HR : Hid (parseS s = none) := Lib.hid (by rw [HQ2.out, if_neg (fun h_ => by rw [HG.out] at h_; exact Bool.noConfusion h_.1)])
        clear hg
        have R15 := fun W => st_lenN HM.out 3 W
        go_wp2_with fail
        clear R15
        with_reducible refine (rgood_any _ _ _ ls _ rw (by omega)).mono ?_
        rintro e _ ⟨rfl, rfl⟩
        rw [HG.out]
        go_wp2_with fail
        exact bodyPost_ret (v := .tuple #[.slice none 0 0, .bool false]) (by simp [results, Tryd.results21, go_sem]) rfl ⟨_, by rw [HR.out]; rfl, by rw [parseR_no HR.out]; exact owk_nil _ _ _, bel⟩
      have HG := Lib.hid hg
      clear hg
      obtain ⟨T, HT_⟩ : ∃ u_, textN ls = u_ := ⟨_, rfl⟩
      have HT := Lib.hid HT_
      clear HT_
      have R15 := fun W => st_lenN HM.out 3 W
      go_wp2_with fail
      clear R15
      with_reducible refine (rgood_any _ _ _ ls _ rw (by omega)).mono ?_
      rintro e _ ⟨rfl, rfl⟩
      rw [HG.out]
      by_cases hts : T = s
      rotate_left
      · have HR : Hid (parseS s = none) := Lib.hid (by rw [HQ2.out, if_neg (fun h_ => hts (HT.out.symm.trans h_.2))])
        have t0 : (T == s) = false := by simpa using hts
        have t1 : (T != s) = true := by simpa using hts
        clear hts
        go_wp2_with fail
        with_reducible refine (rtext_any _ _ _ ls _ rw (by have h_ := good_size HG.out; omega)).mono ?_
        rintro e w2 ⟨rfl, b2⟩
        replace rw := rw.below b2
        replace rww := owk_under rww b2
        replace lz_rw := Nat.le_trans lz_rw b2.size
        replace bel := bel.trans (b2.mono bel.size)
        clear b2
        rw [HT.out]
        go_wp2_with fail
        exact bodyPost_ret (v := .tuple #[.slice none 0 0, .bool false]) (by simp [results, Tryd.results21, go_sem]) rfl ⟨_, by rw [HR.out]; rfl, by rw [parseR_no HR.out]; exact owk_nil _ _ _, bel⟩
      have HR : Hid (parseS s = some ls) := Lib.hid (by rw [HQ2.out, if_pos ⟨HG.out, HT.out.trans hts⟩])
      have t0 : (T == s) = true := by simpa using hts
      have t1 : (T != s) = false := by simpa using hts
      clear hts
      go_wp2_with fail
      with_reducible refine (rtext_any _ _ _ ls _ rw (by have h_ := good_size HG.out; omega)).mono ?_
      rintro e w2 ⟨rfl, b2⟩
      replace rw := rw.below b2
      replace rww := owk_under rww b2
      replace lz_rw := Nat.le_trans lz_rw b2.size
      replace bel := bel.trans (b2.mono bel.size)
      clear b2
      rw [HT.out]
      go_wp2_with fail
      exact bodyPost_ret (v := .tuple #[.slice Arw (q + 1) crw, .bool true]) (by simp [results, Tryd.results21, go_sem]) rfl ⟨_, by rw [HR.out]; rfl, by rw [parseR_yes HR.out]; exact owk_to rww HLL.out.symm rfl, bel⟩
    obtain ⟨cx, HC_⟩ : ∃ u_, s[i]? = some u_ := ⟨_, List.getElem?_eq_getElem (by rw [HM.out]; exact h)⟩
    have HC := Lib.hid HC_
    clear HC_
    obtain ⟨x, HX_⟩ : ∃ u_, (cx.toNat : Int) = u_ := ⟨_, rfl⟩
    have HX := Lib.hid HX_
    clear HX_
    have x0 : 0 ≤ x := by have h_ := HX.out; omega
    have x1 : x < 256 := by have h_ := HX.out; have h1_ := cx.toNat_lt; omega
    have R21_ := fun W => st_index HC.out W
    rw [HX.out] at R21_
    have R21 := R21_
    clear R21_
    have HD1 := Lib.hid (drop_next HC.out)
    by_cases hx : x = 46
    · have x46 : (x == 46) = true := by simpa using hx
      obtain rfl : cx = 46 := UInt8.toNat_inj.1 (by have h_ := HX.out; have h1_ : (46 : UInt8).toNat = 46 := rfl; omega)
      clear hx
      have R15 := fun W => st_lenN HM.out 3 W
      have R21 := R21
      go_wp2_with (first | ((with_reducible show wpList _ _ _ (⟨some 43, _, _, _, _, _⟩ :: _) _ _); refine wpList_lit_n rfl 23 9 1 _ rfl #[.string ⟨#[]⟩] (.string ⟨#[]⟩) Tryd.underlying23 (by kernel_rfl) 1 (by kernel_rfl) (by decide) (by kernel_rfl) ?_; intro g43 w2 ge lt hh bb; have av_rw_b43 := rw.av_new ge; have of_rw_b43 := owk_new rww ge; have ob43 := Nat.le_trans bel.size ge; replace rw := rw.below bb; replace rww := owk_under rww bb; replace lz_rw := Nat.le_trans lz_rw bb.size; replace bel := bel.trans (bb.mono bel.size); have hb43 := hh; clear hh lt ge bb; have l1 : Sle stf 1 w2 (some ⟨g43, 0, none⟩) (1) (1) ([[]]) := sle_lit ([[]]) (by decide) stf_len hb43 rfl (by simp [maxLen])) | ((with_reducible show wpList _ _ _ (⟨some 44, _, _, _, _, _⟩ :: _) _ _); refine wpList_append_sle rfl (.tmp 42) (.tmp 43) 23 rfl (w.heap.size) 9 is (.string ⟨#[]⟩) 16 Tryd.underlying23 his his0 his1 his2 rfl stf_one _ (q + 1) (ls) rfl rww (some ⟨g43, 0, none⟩) (1) (1) ([[]]) rfl l1 (by unfold maxLen; omega) (by omega) lz_rw ?_; intro v44 w3 own_ bb gw ofw; have of44_b43 := ofw _ (hlt hb43) of_rw_b43; clear ofw; replace l1 := Sle.off l1 of_rw_b43 gw; replace hb43 := blk_own hb43 gw of_rw_b43; clear gw; replace bel := bel.trans (bb.mono rwlo); have lz_la := Nat.le_trans lz_rw bb.size; clear bb; clear rw rww lz_rw; replace own_ : w3.ownsRow (w.heap.size) 9 1 v44 (q + 1 + 1) ((ls ++ ([[]]) : List (List UInt8)).flatMap stf) := own_; obtain ⟨A44, c44, rfl⟩ := owk_val own_; have law := own_; have la := (owk_sle (by decide) stf_len own_).1; have fr_la := (owk_sle (by decide) stf_len own_).2; clear own_; have av_la_b43 := owk_av law of44_b43))
      try clear R15
      try clear R21
      go_roundg (m - (i + 1))
      case measure => have := HGK_.out; omega
      case rel => exact ⟨i + 1, q + 1, ls ++ [[]], A44, c44, rfl, Lib.hid (by rw [← HP.out, HD1.out, goP_dot]), h, by omega, Lib.hid (fun x hx => by rcases List.mem_append.1 hx with h1 | h1; exact Nat.le_succ_of_le (HBD.out x h1); rw [List.mem_singleton.1 h1]; exact Nat.zero_le _), rfl, by go_num, law, bel⟩
    have x46 : (x == 46) = false := by simpa using hx
    have HN46 : Hid (cx ≠ 46) := Lib.hid (fun e => hx (by rw [← HX.out, e]; rfl))
    clear hx
    by_cases hx : x = 92
    rotate_left
    · have x92 : (x == 92) = false := by simpa using hx
      have HN92 : Hid (cx ≠ 92) := Lib.hid (fun e => hx (by rw [← HX.out, e]; rfl))
      clear hx
      obtain ⟨y, HY_⟩ : ∃ u_, ls[q]? = some u_ := ⟨_, List.getElem?_eq_getElem (by rw [HLL.out]; omega)⟩
      have HY := Lib.hid HY_
      clear HY_
      have hyl : y.length ≤ 100000 := by have h_ := HBD.out y (List.mem_of_getElem? HY.out); omega
      have q0 : (0 : Int) ≤ q := by omega
      have q1 : (q : Int) ≤ 100000 := by omega
      have wq0 : IntKind.i64.wrap (q : Int) = (q : Int) := IntWalk.i64_in _ (by omega)
      have wq1 : IntKind.i64.wrap ((q : Int) + 1) = (q : Int) + 1 := IntWalk.i64_in _ (by omega)
      have qlt : (q : Int) < (q : Int) + 1 := by omega
      have wi1 : IntKind.i64.wrap ((i : Int) + 1) = (i : Int) + 1 := IntWalk.i64_in _ (by omega)
      have R36 := fun W => st_one HC.out W
      have R37 : ∀ W, (Op.stringOp .add ⟨y.toArray⟩ ⟨#[cx]⟩).run Tryd.prog W = .ok (.string ⟨(y ++ [cx]).toArray⟩) W := fun W => st_add (x := y) (y := [cx]) (by simp; omega) W
      obtain ⟨gR, cg_, eg, rwge, rwlt, rwnc⟩ := owk_atb rww (by omega)
      injection eg with eg1 _ eg3
      subst eg1
      subst eg3
      have R15 := fun W => st_lenN HM.out 3 W
      have R21 := R21
      go_wp2_with fail
      clear R15 R21
      replace bel := bel.drew
      replace rw := rw.drew
      replace rww : wr.drew.ownsRow _ _ _ _ _ _ := rww
      replace lz_rw : _ ≤ wr.drew.heap.size := lz_rw
      refine wp_region_z 17 (S := fun W => Sle stf 1 W (some ⟨gR, 0, none⟩) (q + 1) (crw) (ls)) (by kernel_rfl) rw (fun hH => ?_)
      generalize wr.drew = w2 at bel rw rww lz_rw hH ⊢
      refine wpAnyZ_take (i := 0) (v := ?_) rfl (by kernel_rfl) (by kernel_rfl) (by kernel_rfl) (fun _ _ _ h => h) (Or.inl ⟨by rfl, ?_⟩) hH ?_
      rotate_left
      · ((intro W hW; clear hW; go_simp) <;> with_reducible rfl)
      simp only [Act.put, List.getElem_toArray, List.getElem_cons_zero, List.setIfInBounds_toArray, List.set_cons_zero, List.set_cons_succ]
      refine wpAnyZ_take (i := 1) (v := ?_) rfl (by kernel_rfl) (by kernel_rfl) (by kernel_rfl) (fun _ _ _ h => h) (Or.inl ⟨by rfl, ?_⟩) hH ?_
      rotate_left
      · ((intro W hW; clear hW; go_simp) <;> with_reducible rfl)
      simp only [Act.put, List.getElem_toArray, List.getElem_cons_zero, List.getElem_cons_succ, List.setIfInBounds_toArray, List.set_cons_zero, List.set_cons_succ]
      refine wpAnyZ_take (i := 2) (v := ?_) rfl (by kernel_rfl) (by kernel_rfl) (by kernel_rfl) (fun _ _ _ h => h) (Or.inl ⟨by rfl, ?_⟩) hH ?_
      rotate_left
      · ((intro W hW; clear hW; go_simp) <;> with_reducible rfl)
      simp only [Act.put, List.getElem_toArray, List.getElem_cons_zero, List.getElem_cons_succ, List.setIfInBounds_toArray, List.set_cons_zero, List.set_cons_succ]
      refine wpAnyZ_take (i := 3) (v := ?_) rfl (by kernel_rfl) (by kernel_rfl) (by kernel_rfl) (fun _ _ _ h => h) (Or.inl ⟨by rfl, ?_⟩) hH ?_
      rotate_left
      · ((intro W hW; clear hW; go_simp) <;> with_reducible rfl)
      simp only [Act.put, List.getElem_toArray, List.getElem_cons_zero, List.getElem_cons_succ, List.setIfInBounds_toArray, List.set_cons_zero, List.set_cons_succ]
      refine wpAnyZ_take (i := 4) (v := ?_) rfl (by kernel_rfl) (by kernel_rfl) (by kernel_rfl) (fun _ _ _ h => h) (Or.inl ⟨by rfl, ?_⟩) hH ?_
      rotate_left
      · ((intro W hW; clear hW; go_simp) <;> with_reducible rfl)
      simp only [Act.put, List.getElem_toArray, List.getElem_cons_zero, List.getElem_cons_succ, List.setIfInBounds_toArray, List.set_cons_zero, List.set_cons_succ]
      refine wpAnyZ_take (i := 5) (v := ?_) rfl (by kernel_rfl) (by kernel_rfl) (by kernel_rfl) (fun _ _ _ h => h) (Or.inl ⟨by rfl, ?_⟩) hH ?_
      rotate_left
      · ((intro W hW; clear hW; go_simp) <;> with_reducible rfl)
      simp only [Act.put, List.getElem_toArray, List.getElem_cons_zero, List.getElem_cons_succ, List.setIfInBounds_toArray, List.set_cons_zero, List.set_cons_succ]
      refine wpAnyZ_take (i := 6) (v := ?_) rfl (by kernel_rfl) (by kernel_rfl) (by kernel_rfl) (fun _ _ _ h => h) (Or.inl ⟨by rfl, ?_⟩) hH ?_
      rotate_left
      · ((intro W hW; clear hW; go_simp) <;> with_reducible rfl)
      simp only [Act.put, List.getElem_toArray, List.getElem_cons_zero, List.getElem_cons_succ, List.setIfInBounds_toArray, List.set_cons_zero, List.set_cons_succ]
      refine wpAnyZ_take (i := 7) (v := ?_) rfl (by kernel_rfl) (by kernel_rfl) (by kernel_rfl) (fun _ _ _ h => h) (Or.inl ⟨by rfl, ?_⟩) hH ?_
      rotate_left
      · ((intro W hW; clear hW; go_simp) <;> with_reducible rfl)
      simp only [Act.put, List.getElem_toArray, List.getElem_cons_zero, List.getElem_cons_succ, List.setIfInBounds_toArray, List.set_cons_zero, List.set_cons_succ]
      refine wpAnyZ_take (i := 8) (v := ?_) rfl (by kernel_rfl) (by kernel_rfl) (by kernel_rfl) (fun _ _ _ h => h) (Or.inl ⟨by rfl, ?_⟩) hH ?_
      rotate_left
      · ((intro W hW; clear hW; go_simp) <;> with_reducible rfl)
      simp only [Act.put, List.getElem_toArray, List.getElem_cons_zero, List.getElem_cons_succ, List.setIfInBounds_toArray, List.set_cons_zero, List.set_cons_succ]
      refine wpAnyZ_take (i := 9) (v := ?_) rfl (by kernel_rfl) (by kernel_rfl) (by kernel_rfl) (fun _ _ _ h => h) (Or.inl ⟨by rfl, ?_⟩) hH ?_
      rotate_left
      · ((intro W hW; have hk := (by have h_ := Sle.st (i := q) (hW) HY.out; rw [Nat.zero_add] at h_; exact h_); clear hW; go_simp) <;> with_reducible rfl)
      simp only [Act.put, List.getElem_toArray, List.getElem_cons_zero, List.getElem_cons_succ, List.setIfInBounds_toArray, List.set_cons_zero, List.set_cons_succ]
      refine wpAnyZ_take (i := 10) (v := ?_) rfl (by kernel_rfl) (by kernel_rfl) (by kernel_rfl) (fun _ _ _ h => h) (Or.inl ⟨by rfl, ?_⟩) hH ?_
      rotate_left
      · ((intro W hW; clear hW; go_simp) <;> with_reducible rfl)
      simp only [Act.put, List.getElem_toArray, List.getElem_cons_zero, List.getElem_cons_succ, List.setIfInBounds_toArray, List.set_cons_zero, List.set_cons_succ]
      refine wpAnyZ_take (i := 11) (v := ?_) rfl (by kernel_rfl) (by kernel_rfl) (by kernel_rfl) (fun _ _ _ h => h) (Or.inl ⟨by rfl, ?_⟩) hH ?_
      rotate_left
      · ((intro W hW; clear hW; go_simp) <;> with_reducible rfl)
      simp only [Act.put, List.getElem_toArray, List.getElem_cons_zero, List.getElem_cons_succ, List.setIfInBounds_toArray, List.set_cons_zero, List.set_cons_succ]
      refine wpAnyZ_take (i := 12) (v := ?_) rfl (by kernel_rfl) (by kernel_rfl) (by kernel_rfl) (fun _ _ _ h => h) (Or.inl ⟨by rfl, ?_⟩) hH ?_
      rotate_left
      · ((intro W hW; clear hW; go_simp) <;> with_reducible rfl)
      simp only [Act.put, List.getElem_toArray, List.getElem_cons_zero, List.getElem_cons_succ, List.setIfInBounds_toArray, List.set_cons_zero, List.set_cons_succ]
      refine wpAnyZ_take (i := 13) (v := ?_) rfl (by kernel_rfl) (by kernel_rfl) (by kernel_rfl) (fun _ _ _ h => h) (Or.inl ⟨by rfl, ?_⟩) hH ?_
      rotate_left
      · ((intro W hW; clear hW; go_simp) <;> with_reducible rfl)
      simp only [Act.put, List.getElem_toArray, List.getElem_cons_zero, List.getElem_cons_succ, List.setIfInBounds_toArray, List.set_cons_zero, List.set_cons_succ]
      refine wpAnyZ_take (i := 14) (v := ?_) rfl (by kernel_rfl) (by kernel_rfl) (by kernel_rfl) (fun _ _ _ h => h) (Or.inl ⟨by rfl, ?_⟩) hH ?_
      rotate_left
      · ((intro W hW; clear hW; go_simp) <;> with_reducible rfl)
      simp only [Act.put, List.getElem_toArray, List.getElem_cons_zero, List.getElem_cons_succ, List.setIfInBounds_toArray, List.set_cons_zero, List.set_cons_succ]
      refine wpAnyZ_take (i := 15) (v := ?_) rfl (by kernel_rfl) (by kernel_rfl) (by kernel_rfl) (fun _ _ _ h => h) (Or.inl ⟨by rfl, ?_⟩) hH ?_
      rotate_left
      · ((intro W hW; clear hW; go_simp) <;> with_reducible rfl)
      simp only [Act.put, List.getElem_toArray, List.getElem_cons_zero, List.getElem_cons_succ, List.setIfInBounds_toArray, List.set_cons_zero, List.set_cons_succ]
      refine wpAnyZ_take (i := 16) (v := ?_) rfl (by kernel_rfl) (by kernel_rfl) (by kernel_rfl) (fun _ _ _ h => h) (Or.inl ⟨by rfl, ?_⟩) hH ?_
      rotate_left
      · ((intro W hW; clear hW; go_simp) <;> with_reducible rfl)
      simp only [Act.put, List.getElem_toArray, List.getElem_cons_zero, List.getElem_cons_succ, List.setIfInBounds_toArray, List.set_cons_zero, List.set_cons_succ]
      refine wpAnyZ_ready (rs := [17]) (by kernel_rfl) (by simp) ?_
      refine AllReadyZ.last (o := _) rfl (fun K hK => ?_)
      simp only [List.getElem_toArray, List.getElem_cons_zero, List.getElem_cons_succ]
      rw [if_pos (by rfl)]
      refine wp_store_st 9 (.tmp 38) (.tmp 37) rfl gR (q) (y) (y ++ [cx]) rfl rfl rww (HY.out) (by kernel_rfl) ?_
      intro w3 own_ gr
      replace bel := bel.trans (row_bel gr rww bel.size)
      replace lz_rw := Nat.le_trans lz_rw gr.size
      clear gr rw rww
      have rww := owk_to own_ rfl ((add_last HLL.out HY.out _).symm)
      have rw := (owk_sle (by decide) stf_len rww).1
      clear own_
      refine hK.out _ _ trivial (fun hH4 => ?_)
      clear hK K
      simp only [Act.put]
      refine wpAnyZ_done (by kernel_rfl) ?_ _
      go_wp2_with fail
      go_roundg (m - (i + 1))
      case measure => have := HGK_.out; omega
      case rel => exact ⟨i + 1, q, addL ls cx, some ⟨gR, 0, none⟩, crw, rfl, Lib.hid (by rw [← HP.out, HD1.out, goP_one _ _ HN46.out HN92.out]), h, by omega, Lib.hid (add_bound _ HBD.out), rfl, by go_num, rww, bel⟩
    have x92 : (x == 92) = true := by simpa using hx
    obtain rfl : cx = 92 := UInt8.toNat_inj.1 (by have h_ := HX.out; have h1_ : (92 : UInt8).toNat = 92 := rfl; omega)
    clear hx
    by_cases h3 : i + 3 < m
    rotate_left
    · have h30 : (m : Int) ≤ (i : Int) + 3 := by omega
      have HR : Hid (parseS s = none) := Lib.hid (goP_no HS0.out (by rw [← HP.out, HD1.out, goP_cut _ (by rw [List.length_drop, HM.out]; omega)]))
      have R15 := fun W => st_lenN HM.out 3 W
      have R21 := R21
      have R51 := fun W => st_lenN HM.out 3 W
      go_wp2_with fail
      clear R15 R21 R51
      exact bodyPost_ret (v := .tuple #[.slice none 0 0, .bool false]) (by simp [results, Tryd.results21, go_sem]) rfl ⟨_, by rw [HR.out]; rfl, by rw [parseR_no HR.out]; exact owk_nil _ _ _, bel⟩
    have h30 : decide ((m : Int) ≤ (i : Int) + 3) = false := decide_eq_false (by omega)
    obtain ⟨a, HHA_⟩ : ∃ u_, s[i + 1]? = some u_ := ⟨_, List.getElem?_eq_getElem (by rw [HM.out]; omega)⟩
    have HHA := Lib.hid HHA_
    clear HHA_
    obtain ⟨xa, HXA_⟩ : ∃ u_, (a.toNat : Int) = u_ := ⟨_, rfl⟩
    have HXA := Lib.hid HXA_
    clear HXA_
    have xa0 : 0 ≤ xa := by have h_ := HXA.out; omega
    have xa1 : xa < 256 := by have h_ := HXA.out; have h1_ := a.toNat_lt; omega
    obtain ⟨b, HHB_⟩ : ∃ u_, s[i + 2]? = some u_ := ⟨_, List.getElem?_eq_getElem (by rw [HM.out]; omega)⟩
    have HHB := Lib.hid HHB_
    clear HHB_
    obtain ⟨xb, HXB_⟩ : ∃ u_, (b.toNat : Int) = u_ := ⟨_, rfl⟩
    have HXB := Lib.hid HXB_
    clear HXB_
    have xb0 : 0 ≤ xb := by have h_ := HXB.out; omega
    have xb1 : xb < 256 := by have h_ := HXB.out; have h1_ := b.toNat_lt; omega
    obtain ⟨d, HHDD_⟩ : ∃ u_, s[i + 3]? = some u_ := ⟨_, List.getElem?_eq_getElem (by rw [HM.out]; omega)⟩
    have HHDD := Lib.hid HHDD_
    clear HHDD_
    obtain ⟨xd, HXD_⟩ : ∃ u_, (d.toNat : Int) = u_ := ⟨_, rfl⟩
    have HXD := Lib.hid HXD_
    clear HXD_
    have xd0 : 0 ≤ xd := by have h_ := HXD.out; omega
    have xd1 : xd < 256 := by have h_ := HXD.out; have h1_ := d.toNat_lt; omega
    have R61a : ∀ W, (Instr.index 9 (.string ⟨s.toArray⟩) (.int .i64 ((i : Int) + 1))).run Tryd.prog W = .ok (.int .u8 xa) W := fun W => by have h_ := st_index (i := i + 1) HHA.out W; rw [HXA.out] at h_; exact h_
    have R61b : ∀ W, (Instr.index 9 (.string ⟨s.toArray⟩) (.int .i64 ((i : Int) + 2))).run Tryd.prog W = .ok (.int .u8 xb) W := fun W => by have h_ := st_index (i := i + 2) HHB.out W; rw [HXB.out] at h_; exact h_
    have R61d : ∀ W, (Instr.index 9 (.string ⟨s.toArray⟩) (.int .i64 ((i : Int) + 3))).run Tryd.prog W = .ok (.int .u8 xd) W := fun W => by have h_ := st_index (i := i + 3) HHDD.out W; rw [HXD.out] at h_; exact h_
    have HDR : Hid (s.drop i = 92 :: a :: b :: d :: s.drop (i + 4)) := Lib.hid (by rw [HD1.out, drop_next HHA.out, drop_next HHB.out, drop_next HHDD.out])
    obtain ⟨v1, hv1⟩ : ∃ v, xa - 48 = v := ⟨_, rfl⟩
    obtain ⟨v2, hv2⟩ : ∃ v, xb - 48 = v := ⟨_, rfl⟩
    obtain ⟨v3, hv3⟩ : ∃ v, xd - 48 = v := ⟨_, rfl⟩
    obtain ⟨v12, hv12⟩ : ∃ v, 10 * v1 + v2 = v := ⟨_, rfl⟩
    obtain ⟨vv, hvv⟩ : ∃ v, 10 * v12 + v3 = v := ⟨_, rfl⟩
    have HV1 := Lib.hid hv1
    have HV2 := Lib.hid hv2
    have HV3 := Lib.hid hv3
    have HV4 := Lib.hid hv12
    have HV5 := Lib.hid hvv
    obtain ⟨y, HY_⟩ : ∃ u_, ls[q]? = some u_ := ⟨_, List.getElem?_eq_getElem (by rw [HLL.out]; omega)⟩
    have HY := Lib.hid HY_
    clear HY_
    have hyl : y.length ≤ 100000 := by have h_ := HBD.out y (List.mem_of_getElem? HY.out); omega
    have q0 : (0 : Int) ≤ q := by omega
    have q1 : (q : Int) ≤ 100000 := by omega
    have wq0 : IntKind.i64.wrap (q : Int) = (q : Int) := IntWalk.i64_in _ (by omega)
    have wq1 : IntKind.i64.wrap ((q : Int) + 1) = (q : Int) + 1 := IntWalk.i64_in _ (by omega)
    have qlt : (q : Int) < (q : Int) + 1 := by omega
    have wi1 : IntKind.i64.wrap ((i : Int) + 1) = (i : Int) + 1 := IntWalk.i64_in _ (by omega)
    obtain ⟨gR, cg_, eg, rwge, rwlt, rwnc⟩ := owk_atb rww (by omega)
    injection eg with eg1 _ eg3
    subst eg1
    subst eg3
    have R15 := fun W => st_lenN HM.out 3 W
    have R21 := R21
    have R51 := fun W => st_lenN HM.out 3 W
    go_wp2_with fail
    clear R15 R21 R51
    refine wp_loop_rounds 4 ?_
    rw [rounds_succ]
    skip
    by_cases da : 48 ≤ xa
    rotate_left
    · have ga0 : xa < 48 := by omega
      have HR : Hid (parseS s = none) := Lib.hid (goP_no HS0.out (by rw [← HP.out, HDR.out, goP_esc, if_neg (by rw [dig_no (.inl (by have h_ := HXA.out; omega))]; decide)]))
      have R61 := R61a
      go_wp2_with fail
      clear R61
      exact bodyPost_ret (v := .tuple #[.slice none 0 0, .bool false]) (by simp [results, Tryd.results21, go_sem]) rfl ⟨_, by rw [HR.out]; rfl, by rw [parseR_no HR.out]; exact owk_nil _ _ _, bel⟩
    by_cases ea : xa ≤ 57
    rotate_left
    · have ga0 : decide (xa < 48) = false := decide_eq_false (by omega)
      have ga1 : 57 < xa := by omega
      have HR : Hid (parseS s = none) := Lib.hid (goP_no HS0.out (by rw [← HP.out, HDR.out, goP_esc, if_neg (by rw [dig_no (.inl (by have h_ := HXA.out; omega))]; decide)]))
      have R61 := R61a
      go_wp2_with fail
      clear R61
      exact bodyPost_ret (v := .tuple #[.slice none 0 0, .bool false]) (by simp [results, Tryd.results21, go_sem]) rfl ⟨_, by rw [HR.out]; rfl, by rw [parseR_no HR.out]; exact owk_nil _ _ _, bel⟩
    have ga0 : decide (xa < 48) = false := decide_eq_false (by omega)
    have ga1 : decide (57 < xa) = false := decide_eq_false (by omega)
    have v1_0 : 0 ≤ v1 := by omega
    have v1_1 : v1 ≤ 9 := by omega
    skip
    have R61 := R61b
    go_wp2_with fail
    clear R61
    rw [rounds_succ]
    by_cases db : 48 ≤ xb
    rotate_left
    · have gb0 : xb < 48 := by omega
      have HR : Hid (parseS s = none) := Lib.hid (goP_no HS0.out (by rw [← HP.out, HDR.out, goP_esc, if_neg (by rw [dig_no (.inr (.inl (by have h_ := HXB.out; omega)))]; decide)]))
      have R61 := R61b
      go_wp2_with fail
      clear R61
      exact bodyPost_ret (v := .tuple #[.slice none 0 0, .bool false]) (by simp [results, Tryd.results21, go_sem]) rfl ⟨_, by rw [HR.out]; rfl, by rw [parseR_no HR.out]; exact owk_nil _ _ _, bel⟩
    by_cases eb : xb ≤ 57
    rotate_left
    · have gb0 : decide (xb < 48) = false := decide_eq_false (by omega)
      have gb1 : 57 < xb := by omega
      have HR : Hid (parseS s = none) := Lib.hid (goP_no HS0.out (by rw [← HP.out, HDR.out, goP_esc, if_neg (by rw [dig_no (.inr (.inl (by have h_ := HXB.out; omega)))]; decide)]))
      have R61 := R61b
      go_wp2_with fail
      clear R61
      exact bodyPost_ret (v := .tuple #[.slice none 0 0, .bool false]) (by simp [results, Tryd.results21, go_sem]) rfl ⟨_, by rw [HR.out]; rfl, by rw [parseR_no HR.out]; exact owk_nil _ _ _, bel⟩
    have gb0 : decide (xb < 48) = false := decide_eq_false (by omega)
    have gb1 : decide (57 < xb) = false := decide_eq_false (by omega)
    have v2_0 : 0 ≤ v2 := by omega
    have v2_1 : v2 ≤ 9 := by omega
    have v12_0 : 0 ≤ v12 := by omega
    have v12_1 : v12 ≤ 99 := by omega
    skip
    have R61 := R61d
    go_wp2_with fail
    clear R61
    rw [rounds_succ]
    by_cases dd : 48 ≤ xd
    rotate_left
    · have gd0 : xd < 48 := by omega
      have HR : Hid (parseS s = none) := Lib.hid (goP_no HS0.out (by rw [← HP.out, HDR.out, goP_esc, if_neg (by rw [dig_no (.inr (.inr (.inl (by have h_ := HXD.out; omega))))]; decide)]))
      have R61 := R61d
      go_wp2_with fail
      clear R61
      exact bodyPost_ret (v := .tuple #[.slice none 0 0, .bool false]) (by simp [results, Tryd.results21, go_sem]) rfl ⟨_, by rw [HR.out]; rfl, by rw [parseR_no HR.out]; exact owk_nil _ _ _, bel⟩
    by_cases ed : xd ≤ 57
    rotate_left
    · have gd0 : decide (xd < 48) = false := decide_eq_false (by omega)
      have gd1 : 57 < xd := by omega
      have HR : Hid (parseS s = none) := Lib.hid (goP_no HS0.out (by rw [← HP.out, HDR.out, goP_esc, if_neg (by rw [dig_no (.inr (.inr (.inl (by have h_ := HXD.out; omega))))]; decide)]))
      have R61 := R61d
      go_wp2_with fail
      clear R61
      exact bodyPost_ret (v := .tuple #[.slice none 0 0, .bool false]) (by simp [results, Tryd.results21, go_sem]) rfl ⟨_, by rw [HR.out]; rfl, by rw [parseR_no HR.out]; exact owk_nil _ _ _, bel⟩
    have gd0 : decide (xd < 48) = false := decide_eq_false (by omega)
    have gd1 : decide (57 < xd) = false := decide_eq_false (by omega)
    have v3_0 : 0 ≤ v3 := by omega
    have v3_1 : v3 ≤ 9 := by omega
    have vv_0 : 0 ≤ vv := by omega
    have vv_1 : vv ≤ 999 := by omega
    have R61 := R61d
    go_wp2_with fail
    clear R61
    rw [rounds_succ]
    by_cases h255 : vv ≤ 255
    rotate_left
    · have h256 : 255 < vv := by omega
      have HR : Hid (parseS s = none) := Lib.hid (goP_no HS0.out (by rw [← HP.out, HDR.out, goP_esc, if_neg (by rw [dig_no (.inr (.inr (.inr (by have h_ := HXA.out; have h1_ := HXB.out; have h2_ := HXD.out; have h3_ := HV1.out; have h4_ := HV2.out; have h5_ := HV3.out; have h6_ := HV4.out; have h7_ := HV5.out; omega))))]; decide)]))
      go_wp2_with fail
      exact bodyPost_ret (v := .tuple #[.slice none 0 0, .bool false]) (by simp [results, Tryd.results21, go_sem]) rfl ⟨_, by rw [HR.out]; rfl, by rw [parseR_no HR.out]; exact owk_nil _ _ _, bel⟩
    have h256 : decide (255 < vv) = false := decide_eq_false (by omega)
    have HDY : Hid (dig3 a b d = true) := Lib.hid (dig_yes (by have h_ := HXA.out; omega) (by have h_ := HXB.out; omega) (by have h_ := HXD.out; omega) (by have h_ := HXA.out; have h1_ := HXB.out; have h2_ := HXD.out; have h3_ := HV1.out; have h4_ := HV2.out; have h5_ := HV3.out; have h6_ := HV4.out; have h7_ := HV5.out; omega))
    have HU : Hid (((unesc a b d).toNat : Int) = vv) := Lib.hid (by unfold unesc; rw [byteOf_val, HXA.out, HXB.out, HXD.out]; have h3_ := HV1.out; have h4_ := HV2.out; have h5_ := HV3.out; have h6_ := HV4.out; have h7_ := HV5.out; omega)
    have uw : IntKind.u8.wrap vv = vv := IntWalk.u8_in _ (by omega)
    have R90 : ∀ W, (Op.stringOp .add ⟨y.toArray⟩ ⟨([unesc a b d] : List UInt8).toArray⟩).run Tryd.prog W = .ok (.string ⟨(y ++ [unesc a b d]).toArray⟩) W := fun W => st_add (x := y) (y := [unesc a b d]) (by simp; omega) W
    go_wp2_with fail
    replace bel := bel.drew
    replace rw := rw.drew
    replace rww : wr.drew.ownsRow _ _ _ _ _ _ := rww
    replace lz_rw : _ ≤ wr.drew.heap.size := lz_rw
    refine wp_region_z 16 (S := fun W => Sle stf 1 W (some ⟨gR, 0, none⟩) (q + 1) (crw) (ls)) (by kernel_rfl) rw (fun hH => ?_)
    generalize wr.drew = w2 at bel rw rww lz_rw hH ⊢
    refine wpAnyZ_take (i := 0) (v := ?_) rfl (by kernel_rfl) (by kernel_rfl) (by kernel_rfl) (fun _ _ _ h => h) (Or.inl ⟨by rfl, ?_⟩) hH ?_
    rotate_left
    · ((intro W hW; clear hW; go_simp) <;> with_reducible rfl)
    simp only [Act.put, List.getElem_toArray, List.getElem_cons_zero, List.setIfInBounds_toArray, List.set_cons_zero, List.set_cons_succ]
    refine wpAnyZ_take (i := 1) (v := ?_) rfl (by kernel_rfl) (by kernel_rfl) (by kernel_rfl) (fun _ _ _ h => h) (Or.inl ⟨by rfl, ?_⟩) hH ?_
    rotate_left
    · ((intro W hW; clear hW; go_simp) <;> with_reducible rfl)
    simp only [Act.put, List.getElem_toArray, List.getElem_cons_zero, List.getElem_cons_succ, List.setIfInBounds_toArray, List.set_cons_zero, List.set_cons_succ]
    refine wpAnyZ_take (i := 2) (v := ?_) rfl (by kernel_rfl) (by kernel_rfl) (by kernel_rfl) (fun _ _ _ h => h) (Or.inl ⟨by rfl, ?_⟩) hH ?_
    rotate_left
    · ((intro W hW; clear hW; go_simp) <;> with_reducible rfl)
    simp only [Act.put, List.getElem_toArray, List.getElem_cons_zero, List.getElem_cons_succ, List.setIfInBounds_toArray, List.set_cons_zero, List.set_cons_succ]
    refine wpAnyZ_take (i := 3) (v := ?_) rfl (by kernel_rfl) (by kernel_rfl) (by kernel_rfl) (fun _ _ _ h => h) (Or.inl ⟨by rfl, ?_⟩) hH ?_
    rotate_left
    · ((intro W hW; clear hW; go_simp) <;> with_reducible rfl)
    simp only [Act.put, List.getElem_toArray, List.getElem_cons_zero, List.getElem_cons_succ, List.setIfInBounds_toArray, List.set_cons_zero, List.set_cons_succ]
    refine wpAnyZ_take (i := 4) (v := ?_) rfl (by kernel_rfl) (by kernel_rfl) (by kernel_rfl) (fun _ _ _ h => h) (Or.inl ⟨by rfl, ?_⟩) hH ?_
    rotate_left
    · ((intro W hW; clear hW; go_simp) <;> with_reducible rfl)
    simp only [Act.put, List.getElem_toArray, List.getElem_cons_zero, List.getElem_cons_succ, List.setIfInBounds_toArray, List.set_cons_zero, List.set_cons_succ]
    refine wpAnyZ_take (i := 5) (v := ?_) rfl (by kernel_rfl) (by kernel_rfl) (by kernel_rfl) (fun _ _ _ h => h) (Or.inl ⟨by rfl, ?_⟩) hH ?_
    rotate_left
    · ((intro W hW; clear hW; go_simp) <;> with_reducible rfl)
    simp only [Act.put, List.getElem_toArray, List.getElem_cons_zero, List.getElem_cons_succ, List.setIfInBounds_toArray, List.set_cons_zero, List.set_cons_succ]
    refine wpAnyZ_take (i := 6) (v := ?_) rfl (by kernel_rfl) (by kernel_rfl) (by kernel_rfl) (fun _ _ _ h => h) (Or.inl ⟨by rfl, ?_⟩) hH ?_
    rotate_left
    · ((intro W hW; clear hW; go_simp) <;> with_reducible rfl)
    simp only [Act.put, List.getElem_toArray, List.getElem_cons_zero, List.getElem_cons_succ, List.setIfInBounds_toArray, List.set_cons_zero, List.set_cons_succ]
    refine wpAnyZ_take (i := 7) (v := ?_) rfl (by kernel_rfl) (by kernel_rfl) (by kernel_rfl) (fun _ _ _ h => h) (Or.inl ⟨by rfl, ?_⟩) hH ?_
    rotate_left
    · ((intro W hW; clear hW; go_simp) <;> with_reducible rfl)
    simp only [Act.put, List.getElem_toArray, List.getElem_cons_zero, List.getElem_cons_succ, List.setIfInBounds_toArray, List.set_cons_zero, List.set_cons_succ]
    refine wpAnyZ_take (i := 8) (v := ?_) rfl (by kernel_rfl) (by kernel_rfl) (by kernel_rfl) (fun _ _ _ h => h) (Or.inl ⟨by rfl, ?_⟩) hH ?_
    rotate_left
    · ((intro W hW; clear hW; go_simp) <;> with_reducible rfl)
    simp only [Act.put, List.getElem_toArray, List.getElem_cons_zero, List.getElem_cons_succ, List.setIfInBounds_toArray, List.set_cons_zero, List.set_cons_succ]
    refine wpAnyZ_take (i := 9) (v := ?_) rfl (by kernel_rfl) (by kernel_rfl) (by kernel_rfl) (fun _ _ _ h => h) (Or.inl ⟨by rfl, ?_⟩) hH ?_
    rotate_left
    · ((intro W hW; have hk := (by have h_ := Sle.st (i := q) (hW) HY.out; rw [Nat.zero_add] at h_; exact h_); clear hW; go_simp) <;> with_reducible rfl)
    simp only [Act.put, List.getElem_toArray, List.getElem_cons_zero, List.getElem_cons_succ, List.setIfInBounds_toArray, List.set_cons_zero, List.set_cons_succ]
    refine wpAnyZ_take (i := 10) (v := ?_) rfl (by kernel_rfl) (by kernel_rfl) (by kernel_rfl) (fun _ _ _ h => h) (Or.inl ⟨by rfl, ?_⟩) hH ?_
    rotate_left
    · ((intro W hW; clear hW; go_simp) <;> with_reducible rfl)
    simp only [Act.put, List.getElem_toArray, List.getElem_cons_zero, List.getElem_cons_succ, List.setIfInBounds_toArray, List.set_cons_zero, List.set_cons_succ]
    refine wpAnyZ_take (i := 11) (v := ?_) rfl (by kernel_rfl) (by kernel_rfl) (by kernel_rfl) (fun _ _ _ h => h) (Or.inl ⟨by rfl, ?_⟩) hH ?_
    rotate_left
    · ((intro W hW; clear hW; go_simp) <;> with_reducible rfl)
    simp only [Act.put, List.getElem_toArray, List.getElem_cons_zero, List.getElem_cons_succ, List.setIfInBounds_toArray, List.set_cons_zero, List.set_cons_succ]
    refine wpAnyZ_ready (rs := [12]) (by kernel_rfl) (by simp) ?_
    refine AllReadyZ.cons (o := _) rfl (fun K hK => ?_) AllReadyZ.nil
    simp only [List.getElem_toArray, List.getElem_cons_zero, List.getElem_cons_succ]
    rw [if_pos (by rfl)]
    refine wp_lit_n 27 5 1 _ rfl #[.int .u8 vv] (.int .u8 0) Tryd.underlying27 (by kernel_rfl) 1 (by kernel_rfl) (by decide) (by kernel_rfl) ?_
    intro g88 w3 ge lt hh bb
    have hl : w3.heap[g88]? = some (.cells (([unesc a b d] : List UInt8).map u8v).toArray 5 (0, 0)) := (by simpa [u8v, HU.out] using hh)
    have ytw := own_lit (B := w2.heap.size) ([unesc a b d]) hl ge 1 rfl (by simp [maxLen])
    have yt := (own_sl ytw).1
    have ytlo := bel.size
    clear hl
    have ytge := ge
    have lz_yt := bb.size
    have bl_rw_yt := rw.bl_new
    have av_rw_b88 := rw.av_new ge
    have of_rw_b88 := owk_new rww ge
    have ob88 := Nat.le_trans bel.size ge
    replace rw := rw.below bb
    replace rww := owk_under rww bb
    replace lz_rw := Nat.le_trans lz_rw bb.size
    replace bel := bel.trans (bb.mono bel.size)
    have hb88 := hh
    clear hh lt ge bb
    refine hK.out _ _ rw (fun hH4 => ?_)
    clear hK K
    simp only [Act.put, List.setIfInBounds_toArray, List.set_cons_zero, List.set_cons_succ]
    refine wpAnyZ_ready (rs := [13]) (by kernel_rfl) (by simp) ?_
    refine AllReadyZ.cons (o := _) rfl (fun K hK => ?_) AllReadyZ.nil
    simp only [List.getElem_toArray, List.getElem_cons_zero, List.getElem_cons_succ]
    rw [if_pos (by rfl)]
    have st_ := yt.str (P := Tryd.prog) 27 5 9 Tryd.underlying27 Tryd.underlying5 Tryd.underlying9
    refine wp_val (v := .string ⟨([unesc a b d]).toArray⟩) (by (go_simp) <;> with_reducible rfl) ?_
    clear st_
    refine hK.out _ _ rw (fun hH5 => ?_)
    clear hK K
    simp only [Act.put, List.setIfInBounds_toArray, List.set_cons_zero, List.set_cons_succ]
    refine wpAnyZ_take (i := 14) (v := ?_) rfl (by kernel_rfl) (by kernel_rfl) (by kernel_rfl) (fun _ _ _ h => h) (Or.inl ⟨by rfl, ?_⟩) hH5 ?_
    rotate_left
    · ((intro W hW; clear hW; go_simp) <;> with_reducible rfl)
    simp only [Act.put, List.getElem_toArray, List.getElem_cons_zero, List.getElem_cons_succ, List.setIfInBounds_toArray, List.set_cons_zero, List.set_cons_succ]
    refine wpAnyZ_take (i := 15) (v := ?_) rfl (by kernel_rfl) (by kernel_rfl) (by kernel_rfl) (fun _ _ _ h => h) (Or.inl ⟨by rfl, ?_⟩) hH5 ?_
    rotate_left
    · ((intro W hW; clear hW; go_simp) <;> with_reducible rfl)
    simp only [Act.put, List.getElem_toArray, List.getElem_cons_zero, List.getElem_cons_succ, List.setIfInBounds_toArray, List.set_cons_zero, List.set_cons_succ]
    refine wpAnyZ_ready (rs := [16]) (by kernel_rfl) (by simp) ?_
    refine AllReadyZ.last (o := _) rfl (fun K hK => ?_)
    simp only [List.getElem_toArray, List.getElem_cons_zero, List.getElem_cons_succ]
    rw [if_pos (by rfl)]
    refine wp_store_st 9 (.tmp 91) (.tmp 90) rfl gR (q) (y) (y ++ [unesc a b d]) rfl rfl rww (HY.out) (by kernel_rfl) ?_
    intro w6 own_ gr
    clear yt ytw lz_yt
    clear hb88
    replace bel := bel.trans (row_bel gr rww bel.size)
    replace lz_rw := Nat.le_trans lz_rw gr.size
    clear gr rw rww
    have rww := owk_to own_ rfl ((add_last HLL.out HY.out _).symm)
    have rw := (owk_sle (by decide) stf_len rww).1
    clear own_
    refine hK.out _ _ trivial (fun hH7 => ?_)
    clear hK K
    simp only [Act.put]
    refine wpAnyZ_done (by kernel_rfl) ?_ _
    go_wp2_with fail
    go_roundg (m - (i + 4))
    case measure => have := HGK_.out; omega
    case rel => exact ⟨i + 4, q, addL ls (unesc a b d), some ⟨gR, 0, none⟩, crw, rfl, Lib.hid (by rw [← HP.out, HDR.out, goP_esc, if_pos HDY.out]), by omega, by omega, Lib.hid (fun x hx => by have h_ := add_bound _ HBD.out x hx; omega), rfl, by go_num, rww, bel⟩
end Go.Proofs.YtholgadifhjmgaaDoor
