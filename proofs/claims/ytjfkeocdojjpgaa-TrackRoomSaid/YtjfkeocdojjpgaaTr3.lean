/- enter, follow over an element of a row; over a block. -/
import Derived.Test.YtjfkeocdojjpgaaTr2
namespace Go.Proofs.Ytjfkeocdojjpgaa
open Go.RowKit

theorem fl_t {f m : Int} (h : fl f m = true) : (bits .and .i64 f m == 0) = false ∧ (bits .and .i64 f m != 0) = true := by
  unfold fl at h
  rw [Bool.not_eq_true'] at h
  exact ⟨h, by rw [bne, h]; rfl⟩
theorem fl_f {f m : Int} (h : fl f m = false) : (bits .and .i64 f m == 0) = true ∧ (bits .and .i64 f m != 0) = false := by
  unfold fl at h
  rw [Bool.not_eq_false'] at h
  exact ⟨h, by rw [bne, h]; rfl⟩
theorem gk_new {a b c : World} {row : Option Nat} {j : Nat} (h : a.grownBy b row) (hj : a.heap.size ≤ j) (k : b.grownBy c (some j)) : a.grownBy c row := World.grownBy.andThen h k (fun _ e => Or.inl (by cases e; exact hj))
theorem set_at {l : List Cn} {i : Nat} {x y : Cn} (h : l[i]? = some x) : (l.set i y)[i]? = some y := List.getElem?_set_self (List.getElem?_eq_some_iff.1 h).1
theorem box_row {lo g : Nat} {w : World} {x : Cn} (h : w.heap[g]? = some (.cells #[.int .i64 x.o, .int .u8 (x.ad.a.toNat : Int), .int .u8 (x.ad.b.toNat : Int), .int .u8 (x.ad.c.toNat : Int), .int .u8 (x.ad.d.toNat : Int), .int .i64 x.p, .int .i64 x.s, .bool x.d] 51 (0, 0))) (hg : lo ≤ g) : w.ownsRow lo 51 8 (.slice (some ⟨g, 0, none⟩) 1 1) 1 ([x].flatMap cnE) := owk_lit [x] cnE_len (show w.heap[g]? = some (.cells (([x] : List Cn).flatMap cnE).toArray 51 (0, 0)) from h) hg 1 rfl (by simp [maxLen])
theorem row_box {lo g : Nat} {w : World} {x : Cn} (h : w.ownsRow lo 51 8 (.slice (some ⟨g, 0, none⟩) 1 1) 1 ([x].flatMap cnE)) : w.heap[g]? = some (.cells #[.int .i64 x.o, .int .u8 (x.ad.a.toNat : Int), .int .u8 (x.ad.b.toNat : Int), .int .u8 (x.ad.c.toNat : Int), .int .u8 (x.ad.d.toNat : Int), .int .i64 x.p, .int .i64 x.s, .bool x.d] 51 (0, 0)) := by
  obtain ⟨_, cur, hb, hh, hn, hc, hs, ht⟩ := row_of h
  have e : cur = ([x] : List Cn).flatMap cnE := by
    rw [← List.take_of_length_le (l := cur) (i := 1 * 8) (by omega), ht]
  rw [hh, e]
  rfl
theorem set_self {l : List Cn} {i : Nat} {x : Cn} (h : l[i]? = some x) : l.set i x = l := by
  obtain ⟨h1, h2⟩ := List.getElem?_eq_some_iff.1 h
  rw [← h2]; exact List.set_getElem_self h1
set_option linter.unusedVariables false in
set_option linter.unusedSimpArgs false in
set_option maxRecDepth 100000 in
set_option maxHeartbeats 16000000 in
theorem enter_any {lo gE n c i : Nat} {l : List Cn} {x : Cn} (s : Int) (b : Bool) (w : World) (hlo : lo ≤ w.heap.size) (hown : w.ownsRow lo 51 8 (.slice (some ⟨gE, 0, none⟩) n c) n (l.flatMap cnE)) (hx : l[i]? = some x)  : Calls Try.prog 21 #[.pointer (some ⟨gE, i * 8, none⟩), .int .i64 s, .bool b] w fun e w' => e = .returned (.tuple #[]) ∧ w'.ownsRow lo 51 8 (.slice (some ⟨gE, 0, none⟩) n c) n ((l.set i ⟨x.o, x.ad, x.p, s, b⟩).flatMap cnE) ∧ w.grownBy w' (some gE) := by
  have own := hown
  clear hown
  have HLO := Lib.hid hlo
  have HLL := Lib.hid (row_len (by decide) cnE_len own)
  have en := (owk_sle (by decide) cnE_len own).1
  have HX := Lib.hid hx
  have hin_ : i < n := by have h1_ := (List.getElem?_eq_some_iff.1 hx).1; have h2_ := HLL.out; omega
  have i0 : (0 : Int) ≤ i := by omega
  have i1 : (i : Int) < n := by omega
  have grw := World.grownBy.refl w (some gE)
  clear hx hin_
  have bel := Below.refl lo w
  go_enter Try.func21, Try.ntmps21
  go_wp2_with (first | ((with_reducible show wpList _ _ _ (⟨none, Op.store _ (.tmp 9) _, _, _, _, _⟩ :: _) _ _); refine wpList_store_el rfl 3 (.tmp 9) (.tmp 7) rfl gE i 6 x (⟨x.o, x.ad, x.p, s, x.d⟩) rfl [.int .i64 s] rfl (by decide) cnE_len own HX.out (Nat.le_of_ble_eq_true rfl) rfl (by kernel_rfl) (by rfl) ?_; intro w1 own_ gw; replace bel := bel.trans (row_bel gw own (Nat.le_trans hlo bel.size)); replace grw := grw.trans gw; clear own; have own := own_; clear own_ gw; replace en := (owk_sle (by decide) cnE_len own).1; have HX2 := Lib.hid (set_at (y := (⟨x.o, x.ad, x.p, s, x.d⟩ : Cn)) HX.out)) | ((with_reducible show wpList _ _ _ (⟨none, Op.store _ (.tmp 13) _, _, _, _, _⟩ :: _) _ _); refine wpList_store_el rfl 4 (.tmp 13) (.tmp 11) rfl gE i 7 (⟨x.o, x.ad, x.p, s, x.d⟩) (⟨x.o, x.ad, x.p, s, b⟩) rfl [.bool b] rfl (by decide) cnE_len own HX2.out (Nat.le_of_ble_eq_true rfl) rfl (by kernel_rfl) (by rfl) ?_; intro w2 own_ gw; replace bel := bel.trans (row_bel gw own (Nat.le_trans hlo bel.size)); replace grw := grw.trans gw; clear own; have own := own_; clear own_ gw; replace en := (owk_sle (by decide) cnE_len own).1))
  exact bodyPost_end (results_none rfl _ _ _) rfl ⟨rfl, (by first | exact own | (have h_ := own; rw [List.set_set] at h_; exact h_) | (rw [set_self HX.out]; exact own)), grw⟩
set_option linter.unusedVariables false in
set_option linter.unusedSimpArgs false in
set_option maxRecDepth 100000 in
set_option maxHeartbeats 16000000 in
theorem fol0_1 {lo gE n c i : Nat} {l : List Cn} {o p f : Int} {ad : Ad4} {b d : Bool} (w : World) (hlo : lo ≤ w.heap.size) (hown : w.ownsRow lo 51 8 (.slice (some ⟨gE, 0, none⟩) n c) n (l.flatMap cnE)) (hx : l[i]? = some ⟨o, ad, p, 0, d⟩) (h2 : fl f 2 = true) (h20 : fl f 20 = false)  : Calls Try.prog 17 #[.pointer (some ⟨gE, i * 8, none⟩), .bool b, .int .i64 f] w fun e w' => e = .returned (.tuple #[]) ∧ w'.ownsRow lo 51 8 (.slice (some ⟨gE, 0, none⟩) n c) n ((l.set i ⟨o, ad, p, 1, b⟩).flatMap cnE) ∧ w.grownBy w' (some gE) := by
  have own := hown
  clear hown
  have HLO := Lib.hid hlo
  have HLL := Lib.hid (row_len (by decide) cnE_len own)
  have en := (owk_sle (by decide) cnE_len own).1
  have HX := Lib.hid hx
  have hin_ : i < n := by have h1_ := (List.getElem?_eq_some_iff.1 hx).1; have h2_ := HLL.out; omega
  have i0 : (0 : Int) ≤ i := by omega
  have i1 : (i : Int) < n := by omega
  have grw := World.grownBy.refl w (some gE)
  clear hx hin_
  obtain ⟨p2, q2⟩ := fl_t h2
  obtain ⟨a2, ha2⟩ : ∃ a, bits .and .i64 f 2 = a := ⟨_, rfl⟩
  rw [ha2] at p2 q2
  clear h2
  obtain ⟨p20, q20⟩ := fl_f h20
  obtain ⟨a20, ha20⟩ : ∃ a, bits .and .i64 f 20 = a := ⟨_, rfl⟩
  rw [ha20] at p20 q20
  clear h20
  have bel := Below.refl lo w
  go_enter Try.func17, Try.ntmps17
  have R10 := Sle.zcell en HX.out 6 _ rfl
  go_wp2_with fail
  clear R10
  have HLO_ := Nat.le_trans HLO.out bel.size
  with_reducible refine (enter_any (x := ⟨o, ad, p, 0, d⟩) 1 b _ HLO_ own HX.out).mono ?_
  rintro e w1 ⟨rfl, own_, gw⟩
  replace bel := bel.trans (row_bel gw own (Nat.le_trans hlo bel.size))
  replace grw := grw.trans gw
  clear own
  have own := own_
  clear own_ gw
  replace en := (owk_sle (by decide) cnE_len own).1
  clear HLO_
  go_wp2_with fail
  exact bodyPost_end (results_none rfl _ _ _) rfl ⟨rfl, (by first | exact own | (have h_ := own; rw [List.set_set] at h_; exact h_) | (rw [set_self HX.out]; exact own)), grw⟩
set_option linter.unusedVariables false in
set_option linter.unusedSimpArgs false in
set_option maxRecDepth 100000 in
set_option maxHeartbeats 16000000 in
theorem fol0_2 {lo gE n c i : Nat} {l : List Cn} {o p f : Int} {ad : Ad4} {b d : Bool} (w : World) (hlo : lo ≤ w.heap.size) (hown : w.ownsRow lo 51 8 (.slice (some ⟨gE, 0, none⟩) n c) n (l.flatMap cnE)) (hx : l[i]? = some ⟨o, ad, p, 0, d⟩) (h2 : fl f 2 = true) (h20 : fl f 20 = true)  : Calls Try.prog 17 #[.pointer (some ⟨gE, i * 8, none⟩), .bool b, .int .i64 f] w fun e w' => e = .returned (.tuple #[]) ∧ w'.ownsRow lo 51 8 (.slice (some ⟨gE, 0, none⟩) n c) n ((l.set i ⟨o, ad, p, 0, d⟩).flatMap cnE) ∧ w.grownBy w' (some gE) := by
  have own := hown
  clear hown
  have HLO := Lib.hid hlo
  have HLL := Lib.hid (row_len (by decide) cnE_len own)
  have en := (owk_sle (by decide) cnE_len own).1
  have HX := Lib.hid hx
  have hin_ : i < n := by have h1_ := (List.getElem?_eq_some_iff.1 hx).1; have h2_ := HLL.out; omega
  have i0 : (0 : Int) ≤ i := by omega
  have i1 : (i : Int) < n := by omega
  have grw := World.grownBy.refl w (some gE)
  clear hx hin_
  obtain ⟨p2, q2⟩ := fl_t h2
  obtain ⟨a2, ha2⟩ : ∃ a, bits .and .i64 f 2 = a := ⟨_, rfl⟩
  rw [ha2] at p2 q2
  clear h2
  obtain ⟨p20, q20⟩ := fl_t h20
  obtain ⟨a20, ha20⟩ : ∃ a, bits .and .i64 f 20 = a := ⟨_, rfl⟩
  rw [ha20] at p20 q20
  clear h20
  have bel := Below.refl lo w
  go_enter Try.func17, Try.ntmps17
  have R10 := Sle.zcell en HX.out 6 _ rfl
  go_wp2_with fail
  clear R10
  exact bodyPost_end (results_none rfl _ _ _) rfl ⟨rfl, (by first | exact own | (have h_ := own; rw [List.set_set] at h_; exact h_) | (rw [set_self HX.out]; exact own)), grw⟩
set_option linter.unusedVariables false in
set_option linter.unusedSimpArgs false in
set_option maxRecDepth 100000 in
set_option maxHeartbeats 16000000 in
theorem fol0_3 {lo gE n c i : Nat} {l : List Cn} {o p f : Int} {ad : Ad4} {b d : Bool} (w : World) (hlo : lo ≤ w.heap.size) (hown : w.ownsRow lo 51 8 (.slice (some ⟨gE, 0, none⟩) n c) n (l.flatMap cnE)) (hx : l[i]? = some ⟨o, ad, p, 0, d⟩) (h2 : fl f 2 = false)  : Calls Try.prog 17 #[.pointer (some ⟨gE, i * 8, none⟩), .bool b, .int .i64 f] w fun e w' => e = .returned (.tuple #[]) ∧ w'.ownsRow lo 51 8 (.slice (some ⟨gE, 0, none⟩) n c) n ((l.set i ⟨o, ad, p, 0, d⟩).flatMap cnE) ∧ w.grownBy w' (some gE) := by
  have own := hown
  clear hown
  have HLO := Lib.hid hlo
  have HLL := Lib.hid (row_len (by decide) cnE_len own)
  have en := (owk_sle (by decide) cnE_len own).1
  have HX := Lib.hid hx
  have hin_ : i < n := by have h1_ := (List.getElem?_eq_some_iff.1 hx).1; have h2_ := HLL.out; omega
  have i0 : (0 : Int) ≤ i := by omega
  have i1 : (i : Int) < n := by omega
  have grw := World.grownBy.refl w (some gE)
  clear hx hin_
  obtain ⟨p2, q2⟩ := fl_f h2
  obtain ⟨a2, ha2⟩ : ∃ a, bits .and .i64 f 2 = a := ⟨_, rfl⟩
  rw [ha2] at p2 q2
  clear h2
  have bel := Below.refl lo w
  go_enter Try.func17, Try.ntmps17
  have R10 := Sle.zcell en HX.out 6 _ rfl
  go_wp2_with fail
  clear R10
  exact bodyPost_end (results_none rfl _ _ _) rfl ⟨rfl, (by first | exact own | (have h_ := own; rw [List.set_set] at h_; exact h_) | (rw [set_self HX.out]; exact own)), grw⟩
set_option linter.unusedVariables false in
set_option linter.unusedSimpArgs false in
set_option maxRecDepth 100000 in
set_option maxHeartbeats 16000000 in
theorem fol1_r {lo gE n c i : Nat} {l : List Cn} {o p f : Int} {ad : Ad4} {b d : Bool} (w : World) (hlo : lo ≤ w.heap.size) (hown : w.ownsRow lo 51 8 (.slice (some ⟨gE, 0, none⟩) n c) n (l.flatMap cnE)) (hx : l[i]? = some ⟨o, ad, p, 1, d⟩) (h4 : fl f 4 = true)  : Calls Try.prog 17 #[.pointer (some ⟨gE, i * 8, none⟩), .bool b, .int .i64 f] w fun e w' => e = .returned (.tuple #[]) ∧ w'.ownsRow lo 51 8 (.slice (some ⟨gE, 0, none⟩) n c) n ((l.set i ⟨o, ad, p, 6, d⟩).flatMap cnE) ∧ w.grownBy w' (some gE) := by
  have own := hown
  clear hown
  have HLO := Lib.hid hlo
  have HLL := Lib.hid (row_len (by decide) cnE_len own)
  have en := (owk_sle (by decide) cnE_len own).1
  have HX := Lib.hid hx
  have hin_ : i < n := by have h1_ := (List.getElem?_eq_some_iff.1 hx).1; have h2_ := HLL.out; omega
  have i0 : (0 : Int) ≤ i := by omega
  have i1 : (i : Int) < n := by omega
  have grw := World.grownBy.refl w (some gE)
  clear hx hin_
  obtain ⟨p4, q4⟩ := fl_t h4
  obtain ⟨a4, ha4⟩ : ∃ a, bits .and .i64 f 4 = a := ⟨_, rfl⟩
  rw [ha4] at p4 q4
  clear h4
  have bel := Below.refl lo w
  go_enter Try.func17, Try.ntmps17
  have R10 := Sle.zcell en HX.out 6 _ rfl
  have R16 := Sle.zcell en HX.out 6 _ rfl
  go_wp2_with (first | ((with_reducible show wpList _ _ _ (⟨none, Op.store _ (.tmp 36) _, _, _, _, _⟩ :: _) _ _); refine wpList_store_el rfl 3 (.tmp 36) (.const (.int .i64 6)) rfl gE i 6 (⟨o, ad, p, 1, d⟩) (⟨o, ad, p, 6, d⟩) rfl [.int .i64 6] rfl (by decide) cnE_len own HX.out (Nat.le_of_ble_eq_true rfl) rfl (by kernel_rfl) (by rfl) ?_; intro w1 own_ gw; replace bel := bel.trans (row_bel gw own (Nat.le_trans hlo bel.size)); replace grw := grw.trans gw; clear own; have own := own_; clear own_ gw; replace en := (owk_sle (by decide) cnE_len own).1))
  try clear R10
  try clear R16
  exact bodyPost_end (results_none rfl _ _ _) rfl ⟨rfl, (by first | exact own | (have h_ := own; rw [List.set_set] at h_; exact h_) | (rw [set_self HX.out]; exact own)), grw⟩
set_option linter.unusedVariables false in
set_option linter.unusedSimpArgs false in
set_option maxRecDepth 100000 in
set_option maxHeartbeats 16000000 in
theorem fol1_f {lo gE n c i : Nat} {l : List Cn} {o p f : Int} {ad : Ad4} {b d : Bool} (w : World) (hlo : lo ≤ w.heap.size) (hown : w.ownsRow lo 51 8 (.slice (some ⟨gE, 0, none⟩) n c) n (l.flatMap cnE)) (hx : l[i]? = some ⟨o, ad, p, 1, d⟩) (h4 : fl f 4 = false) (h1 : fl f 1 = true)  : Calls Try.prog 17 #[.pointer (some ⟨gE, i * 8, none⟩), .bool b, .int .i64 f] w fun e w' => e = .returned (.tuple #[]) ∧ w'.ownsRow lo 51 8 (.slice (some ⟨gE, 0, none⟩) n c) n ((l.set i ⟨o, ad, p, 4, b⟩).flatMap cnE) ∧ w.grownBy w' (some gE) := by
  have own := hown
  clear hown
  have HLO := Lib.hid hlo
  have HLL := Lib.hid (row_len (by decide) cnE_len own)
  have en := (owk_sle (by decide) cnE_len own).1
  have HX := Lib.hid hx
  have hin_ : i < n := by have h1_ := (List.getElem?_eq_some_iff.1 hx).1; have h2_ := HLL.out; omega
  have i0 : (0 : Int) ≤ i := by omega
  have i1 : (i : Int) < n := by omega
  have grw := World.grownBy.refl w (some gE)
  clear hx hin_
  obtain ⟨p4, q4⟩ := fl_f h4
  obtain ⟨a4, ha4⟩ : ∃ a, bits .and .i64 f 4 = a := ⟨_, rfl⟩
  rw [ha4] at p4 q4
  clear h4
  obtain ⟨p1, q1⟩ := fl_t h1
  obtain ⟨a1, ha1⟩ : ∃ a, bits .and .i64 f 1 = a := ⟨_, rfl⟩
  rw [ha1] at p1 q1
  clear h1
  have bel := Below.refl lo w
  go_enter Try.func17, Try.ntmps17
  have R10 := Sle.zcell en HX.out 6 _ rfl
  have R16 := Sle.zcell en HX.out 6 _ rfl
  have R45 := Sle.zcell en HX.out 6 _ rfl
  go_wp2_with fail
  clear R10 R16 R45
  have HLO_ := Nat.le_trans HLO.out bel.size
  with_reducible refine (enter_any (x := ⟨o, ad, p, 1, d⟩) 4 b _ HLO_ own HX.out).mono ?_
  rintro e w1 ⟨rfl, own_, gw⟩
  replace bel := bel.trans (row_bel gw own (Nat.le_trans hlo bel.size))
  replace grw := grw.trans gw
  clear own
  have own := own_
  clear own_ gw
  replace en := (owk_sle (by decide) cnE_len own).1
  clear HLO_
  go_wp2_with fail
  exact bodyPost_end (results_none rfl _ _ _) rfl ⟨rfl, (by first | exact own | (have h_ := own; rw [List.set_set] at h_; exact h_) | (rw [set_self HX.out]; exact own)), grw⟩
set_option linter.unusedVariables false in
set_option linter.unusedSimpArgs false in
set_option maxRecDepth 100000 in
set_option maxHeartbeats 16000000 in
theorem fol1_y {lo gE n c i : Nat} {l : List Cn} {o p f : Int} {ad : Ad4} {b d : Bool} (w : World) (hlo : lo ≤ w.heap.size) (hown : w.ownsRow lo 51 8 (.slice (some ⟨gE, 0, none⟩) n c) n (l.flatMap cnE)) (hx : l[i]? = some ⟨o, ad, p, 1, d⟩) (h2 : fl f 2 = true) (h4 : fl f 4 = false) (h1 : fl f 1 = false) (hbd : (b != d) = true)  : Calls Try.prog 17 #[.pointer (some ⟨gE, i * 8, none⟩), .bool b, .int .i64 f] w fun e w' => e = .returned (.tuple #[]) ∧ w'.ownsRow lo 51 8 (.slice (some ⟨gE, 0, none⟩) n c) n ((l.set i ⟨o, ad, p, 2, d⟩).flatMap cnE) ∧ w.grownBy w' (some gE) := by
  have own := hown
  clear hown
  have HLO := Lib.hid hlo
  have HLL := Lib.hid (row_len (by decide) cnE_len own)
  have en := (owk_sle (by decide) cnE_len own).1
  have HX := Lib.hid hx
  have hin_ : i < n := by have h1_ := (List.getElem?_eq_some_iff.1 hx).1; have h2_ := HLL.out; omega
  have i0 : (0 : Int) ≤ i := by omega
  have i1 : (i : Int) < n := by omega
  have grw := World.grownBy.refl w (some gE)
  clear hx hin_
  obtain ⟨p2, q2⟩ := fl_t h2
  obtain ⟨a2, ha2⟩ : ∃ a, bits .and .i64 f 2 = a := ⟨_, rfl⟩
  rw [ha2] at p2 q2
  clear h2
  obtain ⟨p4, q4⟩ := fl_f h4
  obtain ⟨a4, ha4⟩ : ∃ a, bits .and .i64 f 4 = a := ⟨_, rfl⟩
  rw [ha4] at p4 q4
  clear h4
  obtain ⟨p1, q1⟩ := fl_f h1
  obtain ⟨a1, ha1⟩ : ∃ a, bits .and .i64 f 1 = a := ⟨_, rfl⟩
  rw [ha1] at p1 q1
  clear h1
  have hbe : (b == d) = false := by cases b <;> cases d <;> first | rfl | cases hbd
  have bel := Below.refl lo w
  go_enter Try.func17, Try.ntmps17
  have R10 := Sle.zcell en HX.out 6 _ rfl
  have R16 := Sle.zcell en HX.out 6 _ rfl
  have R55 := Sle.zcell en HX.out 6 _ rfl
  have R67 := Sle.zcell en HX.out 7 _ rfl
  go_wp2_with (first | ((with_reducible show wpList _ _ _ (⟨none, Op.store _ (.tmp 72) _, _, _, _, _⟩ :: _) _ _); refine wpList_store_el rfl 3 (.tmp 72) (.const (.int .i64 2)) rfl gE i 6 (⟨o, ad, p, 1, d⟩) (⟨o, ad, p, 2, d⟩) rfl [.int .i64 2] rfl (by decide) cnE_len own HX.out (Nat.le_of_ble_eq_true rfl) rfl (by kernel_rfl) (by rfl) ?_; intro w1 own_ gw; replace bel := bel.trans (row_bel gw own (Nat.le_trans hlo bel.size)); replace grw := grw.trans gw; clear own; have own := own_; clear own_ gw; replace en := (owk_sle (by decide) cnE_len own).1))
  try clear R10
  try clear R16
  try clear R55
  try clear R67
  exact bodyPost_end (results_none rfl _ _ _) rfl ⟨rfl, (by first | exact own | (have h_ := own; rw [List.set_set] at h_; exact h_) | (rw [set_self HX.out]; exact own)), grw⟩
set_option linter.unusedVariables false in
set_option linter.unusedSimpArgs false in
set_option maxRecDepth 100000 in
set_option maxHeartbeats 16000000 in
theorem fol1_d {lo gE n c i : Nat} {l : List Cn} {o p f : Int} {ad : Ad4} {b d : Bool} (w : World) (hlo : lo ≤ w.heap.size) (hown : w.ownsRow lo 51 8 (.slice (some ⟨gE, 0, none⟩) n c) n (l.flatMap cnE)) (hx : l[i]? = some ⟨o, ad, p, 1, d⟩) (h2 : fl f 2 = true) (h4 : fl f 4 = false) (h1 : fl f 1 = false) (hbd : (b != d) = false)  : Calls Try.prog 17 #[.pointer (some ⟨gE, i * 8, none⟩), .bool b, .int .i64 f] w fun e w' => e = .returned (.tuple #[]) ∧ w'.ownsRow lo 51 8 (.slice (some ⟨gE, 0, none⟩) n c) n ((l.set i ⟨o, ad, p, 1, d⟩).flatMap cnE) ∧ w.grownBy w' (some gE) := by
  have own := hown
  clear hown
  have HLO := Lib.hid hlo
  have HLL := Lib.hid (row_len (by decide) cnE_len own)
  have en := (owk_sle (by decide) cnE_len own).1
  have HX := Lib.hid hx
  have hin_ : i < n := by have h1_ := (List.getElem?_eq_some_iff.1 hx).1; have h2_ := HLL.out; omega
  have i0 : (0 : Int) ≤ i := by omega
  have i1 : (i : Int) < n := by omega
  have grw := World.grownBy.refl w (some gE)
  clear hx hin_
  obtain ⟨p2, q2⟩ := fl_t h2
  obtain ⟨a2, ha2⟩ : ∃ a, bits .and .i64 f 2 = a := ⟨_, rfl⟩
  rw [ha2] at p2 q2
  clear h2
  obtain ⟨p4, q4⟩ := fl_f h4
  obtain ⟨a4, ha4⟩ : ∃ a, bits .and .i64 f 4 = a := ⟨_, rfl⟩
  rw [ha4] at p4 q4
  clear h4
  obtain ⟨p1, q1⟩ := fl_f h1
  obtain ⟨a1, ha1⟩ : ∃ a, bits .and .i64 f 1 = a := ⟨_, rfl⟩
  rw [ha1] at p1 q1
  clear h1
  have hbe : (b == d) = true := by cases b <;> cases d <;> first | rfl | cases hbd
  have bel := Below.refl lo w
  go_enter Try.func17, Try.ntmps17
  have R10 := Sle.zcell en HX.out 6 _ rfl
  have R16 := Sle.zcell en HX.out 6 _ rfl
  have R55 := Sle.zcell en HX.out 6 _ rfl
  have R67 := Sle.zcell en HX.out 7 _ rfl
  have R77 := Sle.zcell en HX.out 6 _ rfl
  have R96 := Sle.zcell en HX.out 6 _ rfl
  go_wp2_with fail
  clear R10 R16 R55 R67 R77 R96
  exact bodyPost_end (results_none rfl _ _ _) rfl ⟨rfl, (by first | exact own | (have h_ := own; rw [List.set_set] at h_; exact h_) | (rw [set_self HX.out]; exact own)), grw⟩
set_option linter.unusedVariables false in
set_option linter.unusedSimpArgs false in
set_option maxRecDepth 100000 in
set_option maxHeartbeats 16000000 in
theorem fol1_n {lo gE n c i : Nat} {l : List Cn} {o p f : Int} {ad : Ad4} {b d : Bool} (w : World) (hlo : lo ≤ w.heap.size) (hown : w.ownsRow lo 51 8 (.slice (some ⟨gE, 0, none⟩) n c) n (l.flatMap cnE)) (hx : l[i]? = some ⟨o, ad, p, 1, d⟩) (h2 : fl f 2 = false) (h4 : fl f 4 = false) (h1 : fl f 1 = false)  : Calls Try.prog 17 #[.pointer (some ⟨gE, i * 8, none⟩), .bool b, .int .i64 f] w fun e w' => e = .returned (.tuple #[]) ∧ w'.ownsRow lo 51 8 (.slice (some ⟨gE, 0, none⟩) n c) n ((l.set i ⟨o, ad, p, 1, d⟩).flatMap cnE) ∧ w.grownBy w' (some gE) := by
  have own := hown
  clear hown
  have HLO := Lib.hid hlo
  have HLL := Lib.hid (row_len (by decide) cnE_len own)
  have en := (owk_sle (by decide) cnE_len own).1
  have HX := Lib.hid hx
  have hin_ : i < n := by have h1_ := (List.getElem?_eq_some_iff.1 hx).1; have h2_ := HLL.out; omega
  have i0 : (0 : Int) ≤ i := by omega
  have i1 : (i : Int) < n := by omega
  have grw := World.grownBy.refl w (some gE)
  clear hx hin_
  obtain ⟨p2, q2⟩ := fl_f h2
  obtain ⟨a2, ha2⟩ : ∃ a, bits .and .i64 f 2 = a := ⟨_, rfl⟩
  rw [ha2] at p2 q2
  clear h2
  obtain ⟨p4, q4⟩ := fl_f h4
  obtain ⟨a4, ha4⟩ : ∃ a, bits .and .i64 f 4 = a := ⟨_, rfl⟩
  rw [ha4] at p4 q4
  clear h4
  obtain ⟨p1, q1⟩ := fl_f h1
  obtain ⟨a1, ha1⟩ : ∃ a, bits .and .i64 f 1 = a := ⟨_, rfl⟩
  rw [ha1] at p1 q1
  clear h1
  have bel := Below.refl lo w
  go_enter Try.func17, Try.ntmps17
  have R10 := Sle.zcell en HX.out 6 _ rfl
  have R16 := Sle.zcell en HX.out 6 _ rfl
  have R55 := Sle.zcell en HX.out 6 _ rfl
  have R77 := Sle.zcell en HX.out 6 _ rfl
  have R96 := Sle.zcell en HX.out 6 _ rfl
  go_wp2_with fail
  clear R10 R16 R55 R77 R96
  exact bodyPost_end (results_none rfl _ _ _) rfl ⟨rfl, (by first | exact own | (have h_ := own; rw [List.set_set] at h_; exact h_) | (rw [set_self HX.out]; exact own)), grw⟩
set_option linter.unusedVariables false in
set_option linter.unusedSimpArgs false in
set_option maxRecDepth 100000 in
set_option maxHeartbeats 16000000 in
theorem fol2_r {lo gE n c i : Nat} {l : List Cn} {o p f : Int} {ad : Ad4} {b d : Bool} (w : World) (hlo : lo ≤ w.heap.size) (hown : w.ownsRow lo 51 8 (.slice (some ⟨gE, 0, none⟩) n c) n (l.flatMap cnE)) (hx : l[i]? = some ⟨o, ad, p, 2, d⟩) (h4 : fl f 4 = true)  : Calls Try.prog 17 #[.pointer (some ⟨gE, i * 8, none⟩), .bool b, .int .i64 f] w fun e w' => e = .returned (.tuple #[]) ∧ w'.ownsRow lo 51 8 (.slice (some ⟨gE, 0, none⟩) n c) n ((l.set i ⟨o, ad, p, 6, d⟩).flatMap cnE) ∧ w.grownBy w' (some gE) := by
  have own := hown
  clear hown
  have HLO := Lib.hid hlo
  have HLL := Lib.hid (row_len (by decide) cnE_len own)
  have en := (owk_sle (by decide) cnE_len own).1
  have HX := Lib.hid hx
  have hin_ : i < n := by have h1_ := (List.getElem?_eq_some_iff.1 hx).1; have h2_ := HLL.out; omega
  have i0 : (0 : Int) ≤ i := by omega
  have i1 : (i : Int) < n := by omega
  have grw := World.grownBy.refl w (some gE)
  clear hx hin_
  obtain ⟨p4, q4⟩ := fl_t h4
  obtain ⟨a4, ha4⟩ : ∃ a, bits .and .i64 f 4 = a := ⟨_, rfl⟩
  rw [ha4] at p4 q4
  clear h4
  have bel := Below.refl lo w
  go_enter Try.func17, Try.ntmps17
  have R10 := Sle.zcell en HX.out 6 _ rfl
  have R16 := Sle.zcell en HX.out 6 _ rfl
  go_wp2_with (first | ((with_reducible show wpList _ _ _ (⟨none, Op.store _ (.tmp 36) _, _, _, _, _⟩ :: _) _ _); refine wpList_store_el rfl 3 (.tmp 36) (.const (.int .i64 6)) rfl gE i 6 (⟨o, ad, p, 2, d⟩) (⟨o, ad, p, 6, d⟩) rfl [.int .i64 6] rfl (by decide) cnE_len own HX.out (Nat.le_of_ble_eq_true rfl) rfl (by kernel_rfl) (by rfl) ?_; intro w1 own_ gw; replace bel := bel.trans (row_bel gw own (Nat.le_trans hlo bel.size)); replace grw := grw.trans gw; clear own; have own := own_; clear own_ gw; replace en := (owk_sle (by decide) cnE_len own).1))
  try clear R10
  try clear R16
  exact bodyPost_end (results_none rfl _ _ _) rfl ⟨rfl, (by first | exact own | (have h_ := own; rw [List.set_set] at h_; exact h_) | (rw [set_self HX.out]; exact own)), grw⟩
set_option linter.unusedVariables false in
set_option linter.unusedSimpArgs false in
set_option maxRecDepth 100000 in
set_option maxHeartbeats 16000000 in
theorem fol2_f {lo gE n c i : Nat} {l : List Cn} {o p f : Int} {ad : Ad4} {b d : Bool} (w : World) (hlo : lo ≤ w.heap.size) (hown : w.ownsRow lo 51 8 (.slice (some ⟨gE, 0, none⟩) n c) n (l.flatMap cnE)) (hx : l[i]? = some ⟨o, ad, p, 2, d⟩) (h4 : fl f 4 = false) (h1 : fl f 1 = true)  : Calls Try.prog 17 #[.pointer (some ⟨gE, i * 8, none⟩), .bool b, .int .i64 f] w fun e w' => e = .returned (.tuple #[]) ∧ w'.ownsRow lo 51 8 (.slice (some ⟨gE, 0, none⟩) n c) n ((l.set i ⟨o, ad, p, 4, b⟩).flatMap cnE) ∧ w.grownBy w' (some gE) := by
  have own := hown
  clear hown
  have HLO := Lib.hid hlo
  have HLL := Lib.hid (row_len (by decide) cnE_len own)
  have en := (owk_sle (by decide) cnE_len own).1
  have HX := Lib.hid hx
  have hin_ : i < n := by have h1_ := (List.getElem?_eq_some_iff.1 hx).1; have h2_ := HLL.out; omega
  have i0 : (0 : Int) ≤ i := by omega
  have i1 : (i : Int) < n := by omega
  have grw := World.grownBy.refl w (some gE)
  clear hx hin_
  obtain ⟨p4, q4⟩ := fl_f h4
  obtain ⟨a4, ha4⟩ : ∃ a, bits .and .i64 f 4 = a := ⟨_, rfl⟩
  rw [ha4] at p4 q4
  clear h4
  obtain ⟨p1, q1⟩ := fl_t h1
  obtain ⟨a1, ha1⟩ : ∃ a, bits .and .i64 f 1 = a := ⟨_, rfl⟩
  rw [ha1] at p1 q1
  clear h1
  have bel := Below.refl lo w
  go_enter Try.func17, Try.ntmps17
  have R10 := Sle.zcell en HX.out 6 _ rfl
  have R16 := Sle.zcell en HX.out 6 _ rfl
  have R45 := Sle.zcell en HX.out 6 _ rfl
  go_wp2_with fail
  clear R10 R16 R45
  have HLO_ := Nat.le_trans HLO.out bel.size
  with_reducible refine (enter_any (x := ⟨o, ad, p, 2, d⟩) 4 b _ HLO_ own HX.out).mono ?_
  rintro e w1 ⟨rfl, own_, gw⟩
  replace bel := bel.trans (row_bel gw own (Nat.le_trans hlo bel.size))
  replace grw := grw.trans gw
  clear own
  have own := own_
  clear own_ gw
  replace en := (owk_sle (by decide) cnE_len own).1
  clear HLO_
  go_wp2_with fail
  exact bodyPost_end (results_none rfl _ _ _) rfl ⟨rfl, (by first | exact own | (have h_ := own; rw [List.set_set] at h_; exact h_) | (rw [set_self HX.out]; exact own)), grw⟩
set_option linter.unusedVariables false in
set_option linter.unusedSimpArgs false in
set_option maxRecDepth 100000 in
set_option maxHeartbeats 16000000 in
theorem fol2_y {lo gE n c i : Nat} {l : List Cn} {o p f : Int} {ad : Ad4} {b d : Bool} (w : World) (hlo : lo ≤ w.heap.size) (hown : w.ownsRow lo 51 8 (.slice (some ⟨gE, 0, none⟩) n c) n (l.flatMap cnE)) (hx : l[i]? = some ⟨o, ad, p, 2, d⟩) (h16 : fl f 16 = true) (h2 : fl f 2 = false) (h4 : fl f 4 = false) (h1 : fl f 1 = false)  : Calls Try.prog 17 #[.pointer (some ⟨gE, i * 8, none⟩), .bool b, .int .i64 f] w fun e w' => e = .returned (.tuple #[]) ∧ w'.ownsRow lo 51 8 (.slice (some ⟨gE, 0, none⟩) n c) n ((l.set i ⟨o, ad, p, 3, d⟩).flatMap cnE) ∧ w.grownBy w' (some gE) := by
  have own := hown
  clear hown
  have HLO := Lib.hid hlo
  have HLL := Lib.hid (row_len (by decide) cnE_len own)
  have en := (owk_sle (by decide) cnE_len own).1
  have HX := Lib.hid hx
  have hin_ : i < n := by have h1_ := (List.getElem?_eq_some_iff.1 hx).1; have h2_ := HLL.out; omega
  have i0 : (0 : Int) ≤ i := by omega
  have i1 : (i : Int) < n := by omega
  have grw := World.grownBy.refl w (some gE)
  clear hx hin_
  obtain ⟨p16, q16⟩ := fl_t h16
  obtain ⟨a16, ha16⟩ : ∃ a, bits .and .i64 f 16 = a := ⟨_, rfl⟩
  rw [ha16] at p16 q16
  clear h16
  obtain ⟨p2, q2⟩ := fl_f h2
  obtain ⟨a2, ha2⟩ : ∃ a, bits .and .i64 f 2 = a := ⟨_, rfl⟩
  rw [ha2] at p2 q2
  clear h2
  obtain ⟨p4, q4⟩ := fl_f h4
  obtain ⟨a4, ha4⟩ : ∃ a, bits .and .i64 f 4 = a := ⟨_, rfl⟩
  rw [ha4] at p4 q4
  clear h4
  obtain ⟨p1, q1⟩ := fl_f h1
  obtain ⟨a1, ha1⟩ : ∃ a, bits .and .i64 f 1 = a := ⟨_, rfl⟩
  rw [ha1] at p1 q1
  clear h1
  have bel := Below.refl lo w
  go_enter Try.func17, Try.ntmps17
  have R10 := Sle.zcell en HX.out 6 _ rfl
  have R16 := Sle.zcell en HX.out 6 _ rfl
  have R55 := Sle.zcell en HX.out 6 _ rfl
  have R77 := Sle.zcell en HX.out 6 _ rfl
  go_wp2_with (first | ((with_reducible show wpList _ _ _ (⟨none, Op.store _ (.tmp 91) _, _, _, _, _⟩ :: _) _ _); refine wpList_store_el rfl 3 (.tmp 91) (.const (.int .i64 3)) rfl gE i 6 (⟨o, ad, p, 2, d⟩) (⟨o, ad, p, 3, d⟩) rfl [.int .i64 3] rfl (by decide) cnE_len own HX.out (Nat.le_of_ble_eq_true rfl) rfl (by kernel_rfl) (by rfl) ?_; intro w1 own_ gw; replace bel := bel.trans (row_bel gw own (Nat.le_trans hlo bel.size)); replace grw := grw.trans gw; clear own; have own := own_; clear own_ gw; replace en := (owk_sle (by decide) cnE_len own).1))
  try clear R10
  try clear R16
  try clear R55
  try clear R77
  exact bodyPost_end (results_none rfl _ _ _) rfl ⟨rfl, (by first | exact own | (have h_ := own; rw [List.set_set] at h_; exact h_) | (rw [set_self HX.out]; exact own)), grw⟩
set_option linter.unusedVariables false in
set_option linter.unusedSimpArgs false in
set_option maxRecDepth 100000 in
set_option maxHeartbeats 16000000 in
theorem fol2_s {lo gE n c i : Nat} {l : List Cn} {o p f : Int} {ad : Ad4} {b d : Bool} (w : World) (hlo : lo ≤ w.heap.size) (hown : w.ownsRow lo 51 8 (.slice (some ⟨gE, 0, none⟩) n c) n (l.flatMap cnE)) (hx : l[i]? = some ⟨o, ad, p, 2, d⟩) (h16 : fl f 16 = true) (h2 : fl f 2 = true) (h4 : fl f 4 = false) (h1 : fl f 1 = false)  : Calls Try.prog 17 #[.pointer (some ⟨gE, i * 8, none⟩), .bool b, .int .i64 f] w fun e w' => e = .returned (.tuple #[]) ∧ w'.ownsRow lo 51 8 (.slice (some ⟨gE, 0, none⟩) n c) n ((l.set i ⟨o, ad, p, 2, d⟩).flatMap cnE) ∧ w.grownBy w' (some gE) := by
  have own := hown
  clear hown
  have HLO := Lib.hid hlo
  have HLL := Lib.hid (row_len (by decide) cnE_len own)
  have en := (owk_sle (by decide) cnE_len own).1
  have HX := Lib.hid hx
  have hin_ : i < n := by have h1_ := (List.getElem?_eq_some_iff.1 hx).1; have h2_ := HLL.out; omega
  have i0 : (0 : Int) ≤ i := by omega
  have i1 : (i : Int) < n := by omega
  have grw := World.grownBy.refl w (some gE)
  clear hx hin_
  obtain ⟨p16, q16⟩ := fl_t h16
  obtain ⟨a16, ha16⟩ : ∃ a, bits .and .i64 f 16 = a := ⟨_, rfl⟩
  rw [ha16] at p16 q16
  clear h16
  obtain ⟨p2, q2⟩ := fl_t h2
  obtain ⟨a2, ha2⟩ : ∃ a, bits .and .i64 f 2 = a := ⟨_, rfl⟩
  rw [ha2] at p2 q2
  clear h2
  obtain ⟨p4, q4⟩ := fl_f h4
  obtain ⟨a4, ha4⟩ : ∃ a, bits .and .i64 f 4 = a := ⟨_, rfl⟩
  rw [ha4] at p4 q4
  clear h4
  obtain ⟨p1, q1⟩ := fl_f h1
  obtain ⟨a1, ha1⟩ : ∃ a, bits .and .i64 f 1 = a := ⟨_, rfl⟩
  rw [ha1] at p1 q1
  clear h1
  have bel := Below.refl lo w
  go_enter Try.func17, Try.ntmps17
  have R10 := Sle.zcell en HX.out 6 _ rfl
  have R16 := Sle.zcell en HX.out 6 _ rfl
  have R55 := Sle.zcell en HX.out 6 _ rfl
  have R77 := Sle.zcell en HX.out 6 _ rfl
  have R96 := Sle.zcell en HX.out 6 _ rfl
  go_wp2_with fail
  clear R10 R16 R55 R77 R96
  exact bodyPost_end (results_none rfl _ _ _) rfl ⟨rfl, (by first | exact own | (have h_ := own; rw [List.set_set] at h_; exact h_) | (rw [set_self HX.out]; exact own)), grw⟩
set_option linter.unusedVariables false in
set_option linter.unusedSimpArgs false in
set_option maxRecDepth 100000 in
set_option maxHeartbeats 16000000 in
theorem fol2_n {lo gE n c i : Nat} {l : List Cn} {o p f : Int} {ad : Ad4} {b d : Bool} (w : World) (hlo : lo ≤ w.heap.size) (hown : w.ownsRow lo 51 8 (.slice (some ⟨gE, 0, none⟩) n c) n (l.flatMap cnE)) (hx : l[i]? = some ⟨o, ad, p, 2, d⟩) (h16 : fl f 16 = false) (h4 : fl f 4 = false) (h1 : fl f 1 = false)  : Calls Try.prog 17 #[.pointer (some ⟨gE, i * 8, none⟩), .bool b, .int .i64 f] w fun e w' => e = .returned (.tuple #[]) ∧ w'.ownsRow lo 51 8 (.slice (some ⟨gE, 0, none⟩) n c) n ((l.set i ⟨o, ad, p, 2, d⟩).flatMap cnE) ∧ w.grownBy w' (some gE) := by
  have own := hown
  clear hown
  have HLO := Lib.hid hlo
  have HLL := Lib.hid (row_len (by decide) cnE_len own)
  have en := (owk_sle (by decide) cnE_len own).1
  have HX := Lib.hid hx
  have hin_ : i < n := by have h1_ := (List.getElem?_eq_some_iff.1 hx).1; have h2_ := HLL.out; omega
  have i0 : (0 : Int) ≤ i := by omega
  have i1 : (i : Int) < n := by omega
  have grw := World.grownBy.refl w (some gE)
  clear hx hin_
  obtain ⟨p16, q16⟩ := fl_f h16
  obtain ⟨a16, ha16⟩ : ∃ a, bits .and .i64 f 16 = a := ⟨_, rfl⟩
  rw [ha16] at p16 q16
  clear h16
  obtain ⟨p4, q4⟩ := fl_f h4
  obtain ⟨a4, ha4⟩ : ∃ a, bits .and .i64 f 4 = a := ⟨_, rfl⟩
  rw [ha4] at p4 q4
  clear h4
  obtain ⟨p1, q1⟩ := fl_f h1
  obtain ⟨a1, ha1⟩ : ∃ a, bits .and .i64 f 1 = a := ⟨_, rfl⟩
  rw [ha1] at p1 q1
  clear h1
  have bel := Below.refl lo w
  go_enter Try.func17, Try.ntmps17
  have R10 := Sle.zcell en HX.out 6 _ rfl
  have R16 := Sle.zcell en HX.out 6 _ rfl
  have R55 := Sle.zcell en HX.out 6 _ rfl
  have R77 := Sle.zcell en HX.out 6 _ rfl
  have R96 := Sle.zcell en HX.out 6 _ rfl
  go_wp2_with fail
  clear R10 R16 R55 R77 R96
  exact bodyPost_end (results_none rfl _ _ _) rfl ⟨rfl, (by first | exact own | (have h_ := own; rw [List.set_set] at h_; exact h_) | (rw [set_self HX.out]; exact own)), grw⟩
set_option linter.unusedVariables false in
set_option linter.unusedSimpArgs false in
set_option maxRecDepth 100000 in
set_option maxHeartbeats 16000000 in
theorem fol3_r {lo gE n c i : Nat} {l : List Cn} {o p f : Int} {ad : Ad4} {b d : Bool} (w : World) (hlo : lo ≤ w.heap.size) (hown : w.ownsRow lo 51 8 (.slice (some ⟨gE, 0, none⟩) n c) n (l.flatMap cnE)) (hx : l[i]? = some ⟨o, ad, p, 3, d⟩) (h4 : fl f 4 = true)  : Calls Try.prog 17 #[.pointer (some ⟨gE, i * 8, none⟩), .bool b, .int .i64 f] w fun e w' => e = .returned (.tuple #[]) ∧ w'.ownsRow lo 51 8 (.slice (some ⟨gE, 0, none⟩) n c) n ((l.set i ⟨o, ad, p, 6, d⟩).flatMap cnE) ∧ w.grownBy w' (some gE) := by
  have own := hown
  clear hown
  have HLO := Lib.hid hlo
  have HLL := Lib.hid (row_len (by decide) cnE_len own)
  have en := (owk_sle (by decide) cnE_len own).1
  have HX := Lib.hid hx
  have hin_ : i < n := by have h1_ := (List.getElem?_eq_some_iff.1 hx).1; have h2_ := HLL.out; omega
  have i0 : (0 : Int) ≤ i := by omega
  have i1 : (i : Int) < n := by omega
  have grw := World.grownBy.refl w (some gE)
  clear hx hin_
  obtain ⟨p4, q4⟩ := fl_t h4
  obtain ⟨a4, ha4⟩ : ∃ a, bits .and .i64 f 4 = a := ⟨_, rfl⟩
  rw [ha4] at p4 q4
  clear h4
  have bel := Below.refl lo w
  go_enter Try.func17, Try.ntmps17
  have R10 := Sle.zcell en HX.out 6 _ rfl
  have R16 := Sle.zcell en HX.out 6 _ rfl
  go_wp2_with (first | ((with_reducible show wpList _ _ _ (⟨none, Op.store _ (.tmp 36) _, _, _, _, _⟩ :: _) _ _); refine wpList_store_el rfl 3 (.tmp 36) (.const (.int .i64 6)) rfl gE i 6 (⟨o, ad, p, 3, d⟩) (⟨o, ad, p, 6, d⟩) rfl [.int .i64 6] rfl (by decide) cnE_len own HX.out (Nat.le_of_ble_eq_true rfl) rfl (by kernel_rfl) (by rfl) ?_; intro w1 own_ gw; replace bel := bel.trans (row_bel gw own (Nat.le_trans hlo bel.size)); replace grw := grw.trans gw; clear own; have own := own_; clear own_ gw; replace en := (owk_sle (by decide) cnE_len own).1))
  try clear R10
  try clear R16
  exact bodyPost_end (results_none rfl _ _ _) rfl ⟨rfl, (by first | exact own | (have h_ := own; rw [List.set_set] at h_; exact h_) | (rw [set_self HX.out]; exact own)), grw⟩
set_option linter.unusedVariables false in
set_option linter.unusedSimpArgs false in
set_option maxRecDepth 100000 in
set_option maxHeartbeats 16000000 in
theorem fol3_f {lo gE n c i : Nat} {l : List Cn} {o p f : Int} {ad : Ad4} {b d : Bool} (w : World) (hlo : lo ≤ w.heap.size) (hown : w.ownsRow lo 51 8 (.slice (some ⟨gE, 0, none⟩) n c) n (l.flatMap cnE)) (hx : l[i]? = some ⟨o, ad, p, 3, d⟩) (h4 : fl f 4 = false) (h1 : fl f 1 = true)  : Calls Try.prog 17 #[.pointer (some ⟨gE, i * 8, none⟩), .bool b, .int .i64 f] w fun e w' => e = .returned (.tuple #[]) ∧ w'.ownsRow lo 51 8 (.slice (some ⟨gE, 0, none⟩) n c) n ((l.set i ⟨o, ad, p, 4, b⟩).flatMap cnE) ∧ w.grownBy w' (some gE) := by
  have own := hown
  clear hown
  have HLO := Lib.hid hlo
  have HLL := Lib.hid (row_len (by decide) cnE_len own)
  have en := (owk_sle (by decide) cnE_len own).1
  have HX := Lib.hid hx
  have hin_ : i < n := by have h1_ := (List.getElem?_eq_some_iff.1 hx).1; have h2_ := HLL.out; omega
  have i0 : (0 : Int) ≤ i := by omega
  have i1 : (i : Int) < n := by omega
  have grw := World.grownBy.refl w (some gE)
  clear hx hin_
  obtain ⟨p4, q4⟩ := fl_f h4
  obtain ⟨a4, ha4⟩ : ∃ a, bits .and .i64 f 4 = a := ⟨_, rfl⟩
  rw [ha4] at p4 q4
  clear h4
  obtain ⟨p1, q1⟩ := fl_t h1
  obtain ⟨a1, ha1⟩ : ∃ a, bits .and .i64 f 1 = a := ⟨_, rfl⟩
  rw [ha1] at p1 q1
  clear h1
  have bel := Below.refl lo w
  go_enter Try.func17, Try.ntmps17
  have R10 := Sle.zcell en HX.out 6 _ rfl
  have R16 := Sle.zcell en HX.out 6 _ rfl
  have R45 := Sle.zcell en HX.out 6 _ rfl
  go_wp2_with fail
  clear R10 R16 R45
  have HLO_ := Nat.le_trans HLO.out bel.size
  with_reducible refine (enter_any (x := ⟨o, ad, p, 3, d⟩) 4 b _ HLO_ own HX.out).mono ?_
  rintro e w1 ⟨rfl, own_, gw⟩
  replace bel := bel.trans (row_bel gw own (Nat.le_trans hlo bel.size))
  replace grw := grw.trans gw
  clear own
  have own := own_
  clear own_ gw
  replace en := (owk_sle (by decide) cnE_len own).1
  clear HLO_
  go_wp2_with fail
  exact bodyPost_end (results_none rfl _ _ _) rfl ⟨rfl, (by first | exact own | (have h_ := own; rw [List.set_set] at h_; exact h_) | (rw [set_self HX.out]; exact own)), grw⟩
set_option linter.unusedVariables false in
set_option linter.unusedSimpArgs false in
set_option maxRecDepth 100000 in
set_option maxHeartbeats 16000000 in
theorem fol3_n {lo gE n c i : Nat} {l : List Cn} {o p f : Int} {ad : Ad4} {b d : Bool} (w : World) (hlo : lo ≤ w.heap.size) (hown : w.ownsRow lo 51 8 (.slice (some ⟨gE, 0, none⟩) n c) n (l.flatMap cnE)) (hx : l[i]? = some ⟨o, ad, p, 3, d⟩) (h4 : fl f 4 = false) (h1 : fl f 1 = false)  : Calls Try.prog 17 #[.pointer (some ⟨gE, i * 8, none⟩), .bool b, .int .i64 f] w fun e w' => e = .returned (.tuple #[]) ∧ w'.ownsRow lo 51 8 (.slice (some ⟨gE, 0, none⟩) n c) n ((l.set i ⟨o, ad, p, 3, d⟩).flatMap cnE) ∧ w.grownBy w' (some gE) := by
  have own := hown
  clear hown
  have HLO := Lib.hid hlo
  have HLL := Lib.hid (row_len (by decide) cnE_len own)
  have en := (owk_sle (by decide) cnE_len own).1
  have HX := Lib.hid hx
  have hin_ : i < n := by have h1_ := (List.getElem?_eq_some_iff.1 hx).1; have h2_ := HLL.out; omega
  have i0 : (0 : Int) ≤ i := by omega
  have i1 : (i : Int) < n := by omega
  have grw := World.grownBy.refl w (some gE)
  clear hx hin_
  obtain ⟨p4, q4⟩ := fl_f h4
  obtain ⟨a4, ha4⟩ : ∃ a, bits .and .i64 f 4 = a := ⟨_, rfl⟩
  rw [ha4] at p4 q4
  clear h4
  obtain ⟨p1, q1⟩ := fl_f h1
  obtain ⟨a1, ha1⟩ : ∃ a, bits .and .i64 f 1 = a := ⟨_, rfl⟩
  rw [ha1] at p1 q1
  clear h1
  have bel := Below.refl lo w
  go_enter Try.func17, Try.ntmps17
  have R10 := Sle.zcell en HX.out 6 _ rfl
  have R16 := Sle.zcell en HX.out 6 _ rfl
  have R55 := Sle.zcell en HX.out 6 _ rfl
  have R77 := Sle.zcell en HX.out 6 _ rfl
  have R96 := Sle.zcell en HX.out 6 _ rfl
  go_wp2_with fail
  clear R10 R16 R55 R77 R96
  exact bodyPost_end (results_none rfl _ _ _) rfl ⟨rfl, (by first | exact own | (have h_ := own; rw [List.set_set] at h_; exact h_) | (rw [set_self HX.out]; exact own)), grw⟩
set_option linter.unusedVariables false in
set_option linter.unusedSimpArgs false in
set_option maxRecDepth 100000 in
set_option maxHeartbeats 16000000 in
theorem fol4_r {lo gE n c i : Nat} {l : List Cn} {o p f : Int} {ad : Ad4} {b d : Bool} (w : World) (hlo : lo ≤ w.heap.size) (hown : w.ownsRow lo 51 8 (.slice (some ⟨gE, 0, none⟩) n c) n (l.flatMap cnE)) (hx : l[i]? = some ⟨o, ad, p, 4, d⟩) (h4 : fl f 4 = true)  : Calls Try.prog 17 #[.pointer (some ⟨gE, i * 8, none⟩), .bool b, .int .i64 f] w fun e w' => e = .returned (.tuple #[]) ∧ w'.ownsRow lo 51 8 (.slice (some ⟨gE, 0, none⟩) n c) n ((l.set i ⟨o, ad, p, 6, d⟩).flatMap cnE) ∧ w.grownBy w' (some gE) := by
  have own := hown
  clear hown
  have HLO := Lib.hid hlo
  have HLL := Lib.hid (row_len (by decide) cnE_len own)
  have en := (owk_sle (by decide) cnE_len own).1
  have HX := Lib.hid hx
  have hin_ : i < n := by have h1_ := (List.getElem?_eq_some_iff.1 hx).1; have h2_ := HLL.out; omega
  have i0 : (0 : Int) ≤ i := by omega
  have i1 : (i : Int) < n := by omega
  have grw := World.grownBy.refl w (some gE)
  clear hx hin_
  obtain ⟨p4, q4⟩ := fl_t h4
  obtain ⟨a4, ha4⟩ : ∃ a, bits .and .i64 f 4 = a := ⟨_, rfl⟩
  rw [ha4] at p4 q4
  clear h4
  have bel := Below.refl lo w
  go_enter Try.func17, Try.ntmps17
  have R10 := Sle.zcell en HX.out 6 _ rfl
  have R16 := Sle.zcell en HX.out 6 _ rfl
  go_wp2_with (first | ((with_reducible show wpList _ _ _ (⟨none, Op.store _ (.tmp 36) _, _, _, _, _⟩ :: _) _ _); refine wpList_store_el rfl 3 (.tmp 36) (.const (.int .i64 6)) rfl gE i 6 (⟨o, ad, p, 4, d⟩) (⟨o, ad, p, 6, d⟩) rfl [.int .i64 6] rfl (by decide) cnE_len own HX.out (Nat.le_of_ble_eq_true rfl) rfl (by kernel_rfl) (by rfl) ?_; intro w1 own_ gw; replace bel := bel.trans (row_bel gw own (Nat.le_trans hlo bel.size)); replace grw := grw.trans gw; clear own; have own := own_; clear own_ gw; replace en := (owk_sle (by decide) cnE_len own).1))
  try clear R10
  try clear R16
  exact bodyPost_end (results_none rfl _ _ _) rfl ⟨rfl, (by first | exact own | (have h_ := own; rw [List.set_set] at h_; exact h_) | (rw [set_self HX.out]; exact own)), grw⟩
set_option linter.unusedVariables false in
set_option linter.unusedSimpArgs false in
set_option maxRecDepth 100000 in
set_option maxHeartbeats 16000000 in
theorem fol4_y {lo gE n c i : Nat} {l : List Cn} {o p f : Int} {ad : Ad4} {b d : Bool} (w : World) (hlo : lo ≤ w.heap.size) (hown : w.ownsRow lo 51 8 (.slice (some ⟨gE, 0, none⟩) n c) n (l.flatMap cnE)) (hx : l[i]? = some ⟨o, ad, p, 4, d⟩) (h4 : fl f 4 = false) (h1 : fl f 1 = true) (hbd : (b != d) = true)  : Calls Try.prog 17 #[.pointer (some ⟨gE, i * 8, none⟩), .bool b, .int .i64 f] w fun e w' => e = .returned (.tuple #[]) ∧ w'.ownsRow lo 51 8 (.slice (some ⟨gE, 0, none⟩) n c) n ((l.set i ⟨o, ad, p, 5, d⟩).flatMap cnE) ∧ w.grownBy w' (some gE) := by
  have own := hown
  clear hown
  have HLO := Lib.hid hlo
  have HLL := Lib.hid (row_len (by decide) cnE_len own)
  have en := (owk_sle (by decide) cnE_len own).1
  have HX := Lib.hid hx
  have hin_ : i < n := by have h1_ := (List.getElem?_eq_some_iff.1 hx).1; have h2_ := HLL.out; omega
  have i0 : (0 : Int) ≤ i := by omega
  have i1 : (i : Int) < n := by omega
  have grw := World.grownBy.refl w (some gE)
  clear hx hin_
  obtain ⟨p4, q4⟩ := fl_f h4
  obtain ⟨a4, ha4⟩ : ∃ a, bits .and .i64 f 4 = a := ⟨_, rfl⟩
  rw [ha4] at p4 q4
  clear h4
  obtain ⟨p1, q1⟩ := fl_t h1
  obtain ⟨a1, ha1⟩ : ∃ a, bits .and .i64 f 1 = a := ⟨_, rfl⟩
  rw [ha1] at p1 q1
  clear h1
  have hbe : (b == d) = false := by cases b <;> cases d <;> first | rfl | cases hbd
  have bel := Below.refl lo w
  go_enter Try.func17, Try.ntmps17
  have R10 := Sle.zcell en HX.out 6 _ rfl
  have R16 := Sle.zcell en HX.out 6 _ rfl
  have R45 := Sle.zcell en HX.out 6 _ rfl
  have R55 := Sle.zcell en HX.out 6 _ rfl
  have R77 := Sle.zcell en HX.out 6 _ rfl
  have R96 := Sle.zcell en HX.out 6 _ rfl
  have R108 := Sle.zcell en HX.out 7 _ rfl
  go_wp2_with (first | ((with_reducible show wpList _ _ _ (⟨none, Op.store _ (.tmp 113) _, _, _, _, _⟩ :: _) _ _); refine wpList_store_el rfl 3 (.tmp 113) (.const (.int .i64 5)) rfl gE i 6 (⟨o, ad, p, 4, d⟩) (⟨o, ad, p, 5, d⟩) rfl [.int .i64 5] rfl (by decide) cnE_len own HX.out (Nat.le_of_ble_eq_true rfl) rfl (by kernel_rfl) (by rfl) ?_; intro w1 own_ gw; replace bel := bel.trans (row_bel gw own (Nat.le_trans hlo bel.size)); replace grw := grw.trans gw; clear own; have own := own_; clear own_ gw; replace en := (owk_sle (by decide) cnE_len own).1))
  try clear R10
  try clear R16
  try clear R45
  try clear R55
  try clear R77
  try clear R96
  try clear R108
  exact bodyPost_end (results_none rfl _ _ _) rfl ⟨rfl, (by first | exact own | (have h_ := own; rw [List.set_set] at h_; exact h_) | (rw [set_self HX.out]; exact own)), grw⟩
set_option linter.unusedVariables false in
set_option linter.unusedSimpArgs false in
set_option maxRecDepth 100000 in
set_option maxHeartbeats 16000000 in
theorem fol4_d {lo gE n c i : Nat} {l : List Cn} {o p f : Int} {ad : Ad4} {b d : Bool} (w : World) (hlo : lo ≤ w.heap.size) (hown : w.ownsRow lo 51 8 (.slice (some ⟨gE, 0, none⟩) n c) n (l.flatMap cnE)) (hx : l[i]? = some ⟨o, ad, p, 4, d⟩) (h4 : fl f 4 = false) (h1 : fl f 1 = true) (hbd : (b != d) = false)  : Calls Try.prog 17 #[.pointer (some ⟨gE, i * 8, none⟩), .bool b, .int .i64 f] w fun e w' => e = .returned (.tuple #[]) ∧ w'.ownsRow lo 51 8 (.slice (some ⟨gE, 0, none⟩) n c) n ((l.set i ⟨o, ad, p, 4, d⟩).flatMap cnE) ∧ w.grownBy w' (some gE) := by
  have own := hown
  clear hown
  have HLO := Lib.hid hlo
  have HLL := Lib.hid (row_len (by decide) cnE_len own)
  have en := (owk_sle (by decide) cnE_len own).1
  have HX := Lib.hid hx
  have hin_ : i < n := by have h1_ := (List.getElem?_eq_some_iff.1 hx).1; have h2_ := HLL.out; omega
  have i0 : (0 : Int) ≤ i := by omega
  have i1 : (i : Int) < n := by omega
  have grw := World.grownBy.refl w (some gE)
  clear hx hin_
  obtain ⟨p4, q4⟩ := fl_f h4
  obtain ⟨a4, ha4⟩ : ∃ a, bits .and .i64 f 4 = a := ⟨_, rfl⟩
  rw [ha4] at p4 q4
  clear h4
  obtain ⟨p1, q1⟩ := fl_t h1
  obtain ⟨a1, ha1⟩ : ∃ a, bits .and .i64 f 1 = a := ⟨_, rfl⟩
  rw [ha1] at p1 q1
  clear h1
  have hbe : (b == d) = true := by cases b <;> cases d <;> first | rfl | cases hbd
  have bel := Below.refl lo w
  go_enter Try.func17, Try.ntmps17
  have R10 := Sle.zcell en HX.out 6 _ rfl
  have R16 := Sle.zcell en HX.out 6 _ rfl
  have R45 := Sle.zcell en HX.out 6 _ rfl
  have R55 := Sle.zcell en HX.out 6 _ rfl
  have R77 := Sle.zcell en HX.out 6 _ rfl
  have R96 := Sle.zcell en HX.out 6 _ rfl
  have R108 := Sle.zcell en HX.out 7 _ rfl
  go_wp2_with fail
  clear R10 R16 R45 R55 R77 R96 R108
  exact bodyPost_end (results_none rfl _ _ _) rfl ⟨rfl, (by first | exact own | (have h_ := own; rw [List.set_set] at h_; exact h_) | (rw [set_self HX.out]; exact own)), grw⟩
set_option linter.unusedVariables false in
set_option linter.unusedSimpArgs false in
set_option maxRecDepth 100000 in
set_option maxHeartbeats 16000000 in
theorem fol4_n {lo gE n c i : Nat} {l : List Cn} {o p f : Int} {ad : Ad4} {b d : Bool} (w : World) (hlo : lo ≤ w.heap.size) (hown : w.ownsRow lo 51 8 (.slice (some ⟨gE, 0, none⟩) n c) n (l.flatMap cnE)) (hx : l[i]? = some ⟨o, ad, p, 4, d⟩) (h4 : fl f 4 = false) (h1 : fl f 1 = false)  : Calls Try.prog 17 #[.pointer (some ⟨gE, i * 8, none⟩), .bool b, .int .i64 f] w fun e w' => e = .returned (.tuple #[]) ∧ w'.ownsRow lo 51 8 (.slice (some ⟨gE, 0, none⟩) n c) n ((l.set i ⟨o, ad, p, 4, d⟩).flatMap cnE) ∧ w.grownBy w' (some gE) := by
  have own := hown
  clear hown
  have HLO := Lib.hid hlo
  have HLL := Lib.hid (row_len (by decide) cnE_len own)
  have en := (owk_sle (by decide) cnE_len own).1
  have HX := Lib.hid hx
  have hin_ : i < n := by have h1_ := (List.getElem?_eq_some_iff.1 hx).1; have h2_ := HLL.out; omega
  have i0 : (0 : Int) ≤ i := by omega
  have i1 : (i : Int) < n := by omega
  have grw := World.grownBy.refl w (some gE)
  clear hx hin_
  obtain ⟨p4, q4⟩ := fl_f h4
  obtain ⟨a4, ha4⟩ : ∃ a, bits .and .i64 f 4 = a := ⟨_, rfl⟩
  rw [ha4] at p4 q4
  clear h4
  obtain ⟨p1, q1⟩ := fl_f h1
  obtain ⟨a1, ha1⟩ : ∃ a, bits .and .i64 f 1 = a := ⟨_, rfl⟩
  rw [ha1] at p1 q1
  clear h1
  have bel := Below.refl lo w
  go_enter Try.func17, Try.ntmps17
  have R10 := Sle.zcell en HX.out 6 _ rfl
  have R16 := Sle.zcell en HX.out 6 _ rfl
  have R55 := Sle.zcell en HX.out 6 _ rfl
  have R77 := Sle.zcell en HX.out 6 _ rfl
  have R96 := Sle.zcell en HX.out 6 _ rfl
  go_wp2_with fail
  clear R10 R16 R55 R77 R96
  exact bodyPost_end (results_none rfl _ _ _) rfl ⟨rfl, (by first | exact own | (have h_ := own; rw [List.set_set] at h_; exact h_) | (rw [set_self HX.out]; exact own)), grw⟩
set_option linter.unusedVariables false in
set_option linter.unusedSimpArgs false in
set_option maxRecDepth 100000 in
set_option maxHeartbeats 16000000 in
theorem fol5_r {lo gE n c i : Nat} {l : List Cn} {o p f : Int} {ad : Ad4} {b d : Bool} (w : World) (hlo : lo ≤ w.heap.size) (hown : w.ownsRow lo 51 8 (.slice (some ⟨gE, 0, none⟩) n c) n (l.flatMap cnE)) (hx : l[i]? = some ⟨o, ad, p, 5, d⟩) (h4 : fl f 4 = true)  : Calls Try.prog 17 #[.pointer (some ⟨gE, i * 8, none⟩), .bool b, .int .i64 f] w fun e w' => e = .returned (.tuple #[]) ∧ w'.ownsRow lo 51 8 (.slice (some ⟨gE, 0, none⟩) n c) n ((l.set i ⟨o, ad, p, 6, d⟩).flatMap cnE) ∧ w.grownBy w' (some gE) := by
  have own := hown
  clear hown
  have HLO := Lib.hid hlo
  have HLL := Lib.hid (row_len (by decide) cnE_len own)
  have en := (owk_sle (by decide) cnE_len own).1
  have HX := Lib.hid hx
  have hin_ : i < n := by have h1_ := (List.getElem?_eq_some_iff.1 hx).1; have h2_ := HLL.out; omega
  have i0 : (0 : Int) ≤ i := by omega
  have i1 : (i : Int) < n := by omega
  have grw := World.grownBy.refl w (some gE)
  clear hx hin_
  obtain ⟨p4, q4⟩ := fl_t h4
  obtain ⟨a4, ha4⟩ : ∃ a, bits .and .i64 f 4 = a := ⟨_, rfl⟩
  rw [ha4] at p4 q4
  clear h4
  have bel := Below.refl lo w
  go_enter Try.func17, Try.ntmps17
  have R10 := Sle.zcell en HX.out 6 _ rfl
  have R16 := Sle.zcell en HX.out 6 _ rfl
  go_wp2_with (first | ((with_reducible show wpList _ _ _ (⟨none, Op.store _ (.tmp 36) _, _, _, _, _⟩ :: _) _ _); refine wpList_store_el rfl 3 (.tmp 36) (.const (.int .i64 6)) rfl gE i 6 (⟨o, ad, p, 5, d⟩) (⟨o, ad, p, 6, d⟩) rfl [.int .i64 6] rfl (by decide) cnE_len own HX.out (Nat.le_of_ble_eq_true rfl) rfl (by kernel_rfl) (by rfl) ?_; intro w1 own_ gw; replace bel := bel.trans (row_bel gw own (Nat.le_trans hlo bel.size)); replace grw := grw.trans gw; clear own; have own := own_; clear own_ gw; replace en := (owk_sle (by decide) cnE_len own).1))
  try clear R10
  try clear R16
  exact bodyPost_end (results_none rfl _ _ _) rfl ⟨rfl, (by first | exact own | (have h_ := own; rw [List.set_set] at h_; exact h_) | (rw [set_self HX.out]; exact own)), grw⟩
set_option linter.unusedVariables false in
set_option linter.unusedSimpArgs false in
set_option maxRecDepth 100000 in
set_option maxHeartbeats 16000000 in
theorem fol5_1 {lo gE n c i : Nat} {l : List Cn} {o p f : Int} {ad : Ad4} {b d : Bool} (w : World) (hlo : lo ≤ w.heap.size) (hown : w.ownsRow lo 51 8 (.slice (some ⟨gE, 0, none⟩) n c) n (l.flatMap cnE)) (hx : l[i]? = some ⟨o, ad, p, 5, d⟩) (h4 : fl f 4 = false) (h1 : fl f 1 = true)  : Calls Try.prog 17 #[.pointer (some ⟨gE, i * 8, none⟩), .bool b, .int .i64 f] w fun e w' => e = .returned (.tuple #[]) ∧ w'.ownsRow lo 51 8 (.slice (some ⟨gE, 0, none⟩) n c) n ((l.set i ⟨o, ad, p, 5, d⟩).flatMap cnE) ∧ w.grownBy w' (some gE) := by
  have own := hown
  clear hown
  have HLO := Lib.hid hlo
  have HLL := Lib.hid (row_len (by decide) cnE_len own)
  have en := (owk_sle (by decide) cnE_len own).1
  have HX := Lib.hid hx
  have hin_ : i < n := by have h1_ := (List.getElem?_eq_some_iff.1 hx).1; have h2_ := HLL.out; omega
  have i0 : (0 : Int) ≤ i := by omega
  have i1 : (i : Int) < n := by omega
  have grw := World.grownBy.refl w (some gE)
  clear hx hin_
  obtain ⟨p4, q4⟩ := fl_f h4
  obtain ⟨a4, ha4⟩ : ∃ a, bits .and .i64 f 4 = a := ⟨_, rfl⟩
  rw [ha4] at p4 q4
  clear h4
  obtain ⟨p1, q1⟩ := fl_t h1
  obtain ⟨a1, ha1⟩ : ∃ a, bits .and .i64 f 1 = a := ⟨_, rfl⟩
  rw [ha1] at p1 q1
  clear h1
  have bel := Below.refl lo w
  go_enter Try.func17, Try.ntmps17
  have R10 := Sle.zcell en HX.out 6 _ rfl
  have R16 := Sle.zcell en HX.out 6 _ rfl
  have R45 := Sle.zcell en HX.out 6 _ rfl
  have R55 := Sle.zcell en HX.out 6 _ rfl
  have R77 := Sle.zcell en HX.out 6 _ rfl
  have R96 := Sle.zcell en HX.out 6 _ rfl
  go_wp2_with fail
  clear R10 R16 R45 R55 R77 R96
  exact bodyPost_end (results_none rfl _ _ _) rfl ⟨rfl, (by first | exact own | (have h_ := own; rw [List.set_set] at h_; exact h_) | (rw [set_self HX.out]; exact own)), grw⟩
set_option linter.unusedVariables false in
set_option linter.unusedSimpArgs false in
set_option maxRecDepth 100000 in
set_option maxHeartbeats 16000000 in
theorem fol5_0 {lo gE n c i : Nat} {l : List Cn} {o p f : Int} {ad : Ad4} {b d : Bool} (w : World) (hlo : lo ≤ w.heap.size) (hown : w.ownsRow lo 51 8 (.slice (some ⟨gE, 0, none⟩) n c) n (l.flatMap cnE)) (hx : l[i]? = some ⟨o, ad, p, 5, d⟩) (h4 : fl f 4 = false) (h1 : fl f 1 = false)  : Calls Try.prog 17 #[.pointer (some ⟨gE, i * 8, none⟩), .bool b, .int .i64 f] w fun e w' => e = .returned (.tuple #[]) ∧ w'.ownsRow lo 51 8 (.slice (some ⟨gE, 0, none⟩) n c) n ((l.set i ⟨o, ad, p, 5, d⟩).flatMap cnE) ∧ w.grownBy w' (some gE) := by
  have own := hown
  clear hown
  have HLO := Lib.hid hlo
  have HLL := Lib.hid (row_len (by decide) cnE_len own)
  have en := (owk_sle (by decide) cnE_len own).1
  have HX := Lib.hid hx
  have hin_ : i < n := by have h1_ := (List.getElem?_eq_some_iff.1 hx).1; have h2_ := HLL.out; omega
  have i0 : (0 : Int) ≤ i := by omega
  have i1 : (i : Int) < n := by omega
  have grw := World.grownBy.refl w (some gE)
  clear hx hin_
  obtain ⟨p4, q4⟩ := fl_f h4
  obtain ⟨a4, ha4⟩ : ∃ a, bits .and .i64 f 4 = a := ⟨_, rfl⟩
  rw [ha4] at p4 q4
  clear h4
  obtain ⟨p1, q1⟩ := fl_f h1
  obtain ⟨a1, ha1⟩ : ∃ a, bits .and .i64 f 1 = a := ⟨_, rfl⟩
  rw [ha1] at p1 q1
  clear h1
  have bel := Below.refl lo w
  go_enter Try.func17, Try.ntmps17
  have R10 := Sle.zcell en HX.out 6 _ rfl
  have R16 := Sle.zcell en HX.out 6 _ rfl
  have R55 := Sle.zcell en HX.out 6 _ rfl
  have R77 := Sle.zcell en HX.out 6 _ rfl
  have R96 := Sle.zcell en HX.out 6 _ rfl
  go_wp2_with fail
  clear R10 R16 R55 R77 R96
  exact bodyPost_end (results_none rfl _ _ _) rfl ⟨rfl, (by first | exact own | (have h_ := own; rw [List.set_set] at h_; exact h_) | (rw [set_self HX.out]; exact own)), grw⟩
set_option linter.unusedVariables false in
set_option linter.unusedSimpArgs false in
set_option maxRecDepth 100000 in
set_option maxHeartbeats 16000000 in
theorem fol6_1 {lo gE n c i : Nat} {l : List Cn} {o p f : Int} {ad : Ad4} {b d : Bool} (w : World) (hlo : lo ≤ w.heap.size) (hown : w.ownsRow lo 51 8 (.slice (some ⟨gE, 0, none⟩) n c) n (l.flatMap cnE)) (hx : l[i]? = some ⟨o, ad, p, 6, d⟩) (h2 : fl f 2 = true) (h20 : fl f 20 = false)  : Calls Try.prog 17 #[.pointer (some ⟨gE, i * 8, none⟩), .bool b, .int .i64 f] w fun e w' => e = .returned (.tuple #[]) ∧ w'.ownsRow lo 51 8 (.slice (some ⟨gE, 0, none⟩) n c) n ((l.set i ⟨o, ad, p, 1, b⟩).flatMap cnE) ∧ w.grownBy w' (some gE) := by
  have own := hown
  clear hown
  have HLO := Lib.hid hlo
  have HLL := Lib.hid (row_len (by decide) cnE_len own)
  have en := (owk_sle (by decide) cnE_len own).1
  have HX := Lib.hid hx
  have hin_ : i < n := by have h1_ := (List.getElem?_eq_some_iff.1 hx).1; have h2_ := HLL.out; omega
  have i0 : (0 : Int) ≤ i := by omega
  have i1 : (i : Int) < n := by omega
  have grw := World.grownBy.refl w (some gE)
  clear hx hin_
  obtain ⟨p2, q2⟩ := fl_t h2
  obtain ⟨a2, ha2⟩ : ∃ a, bits .and .i64 f 2 = a := ⟨_, rfl⟩
  rw [ha2] at p2 q2
  clear h2
  obtain ⟨p20, q20⟩ := fl_f h20
  obtain ⟨a20, ha20⟩ : ∃ a, bits .and .i64 f 20 = a := ⟨_, rfl⟩
  rw [ha20] at p20 q20
  clear h20
  have bel := Below.refl lo w
  go_enter Try.func17, Try.ntmps17
  have R10 := Sle.zcell en HX.out 6 _ rfl
  have R16 := Sle.zcell en HX.out 6 _ rfl
  go_wp2_with fail
  clear R10 R16
  have HLO_ := Nat.le_trans HLO.out bel.size
  with_reducible refine (enter_any (x := ⟨o, ad, p, 6, d⟩) 1 b _ HLO_ own HX.out).mono ?_
  rintro e w1 ⟨rfl, own_, gw⟩
  replace bel := bel.trans (row_bel gw own (Nat.le_trans hlo bel.size))
  replace grw := grw.trans gw
  clear own
  have own := own_
  clear own_ gw
  replace en := (owk_sle (by decide) cnE_len own).1
  clear HLO_
  go_wp2_with fail
  exact bodyPost_end (results_none rfl _ _ _) rfl ⟨rfl, (by first | exact own | (have h_ := own; rw [List.set_set] at h_; exact h_) | (rw [set_self HX.out]; exact own)), grw⟩
set_option linter.unusedVariables false in
set_option linter.unusedSimpArgs false in
set_option maxRecDepth 100000 in
set_option maxHeartbeats 16000000 in
theorem fol6_2 {lo gE n c i : Nat} {l : List Cn} {o p f : Int} {ad : Ad4} {b d : Bool} (w : World) (hlo : lo ≤ w.heap.size) (hown : w.ownsRow lo 51 8 (.slice (some ⟨gE, 0, none⟩) n c) n (l.flatMap cnE)) (hx : l[i]? = some ⟨o, ad, p, 6, d⟩) (h2 : fl f 2 = true) (h20 : fl f 20 = true)  : Calls Try.prog 17 #[.pointer (some ⟨gE, i * 8, none⟩), .bool b, .int .i64 f] w fun e w' => e = .returned (.tuple #[]) ∧ w'.ownsRow lo 51 8 (.slice (some ⟨gE, 0, none⟩) n c) n ((l.set i ⟨o, ad, p, 6, d⟩).flatMap cnE) ∧ w.grownBy w' (some gE) := by
  have own := hown
  clear hown
  have HLO := Lib.hid hlo
  have HLL := Lib.hid (row_len (by decide) cnE_len own)
  have en := (owk_sle (by decide) cnE_len own).1
  have HX := Lib.hid hx
  have hin_ : i < n := by have h1_ := (List.getElem?_eq_some_iff.1 hx).1; have h2_ := HLL.out; omega
  have i0 : (0 : Int) ≤ i := by omega
  have i1 : (i : Int) < n := by omega
  have grw := World.grownBy.refl w (some gE)
  clear hx hin_
  obtain ⟨p2, q2⟩ := fl_t h2
  obtain ⟨a2, ha2⟩ : ∃ a, bits .and .i64 f 2 = a := ⟨_, rfl⟩
  rw [ha2] at p2 q2
  clear h2
  obtain ⟨p20, q20⟩ := fl_t h20
  obtain ⟨a20, ha20⟩ : ∃ a, bits .and .i64 f 20 = a := ⟨_, rfl⟩
  rw [ha20] at p20 q20
  clear h20
  have bel := Below.refl lo w
  go_enter Try.func17, Try.ntmps17
  have R10 := Sle.zcell en HX.out 6 _ rfl
  have R16 := Sle.zcell en HX.out 6 _ rfl
  go_wp2_with fail
  clear R10 R16
  exact bodyPost_end (results_none rfl _ _ _) rfl ⟨rfl, (by first | exact own | (have h_ := own; rw [List.set_set] at h_; exact h_) | (rw [set_self HX.out]; exact own)), grw⟩
set_option linter.unusedVariables false in
set_option linter.unusedSimpArgs false in
set_option maxRecDepth 100000 in
set_option maxHeartbeats 16000000 in
theorem fol6_3 {lo gE n c i : Nat} {l : List Cn} {o p f : Int} {ad : Ad4} {b d : Bool} (w : World) (hlo : lo ≤ w.heap.size) (hown : w.ownsRow lo 51 8 (.slice (some ⟨gE, 0, none⟩) n c) n (l.flatMap cnE)) (hx : l[i]? = some ⟨o, ad, p, 6, d⟩) (h2 : fl f 2 = false)  : Calls Try.prog 17 #[.pointer (some ⟨gE, i * 8, none⟩), .bool b, .int .i64 f] w fun e w' => e = .returned (.tuple #[]) ∧ w'.ownsRow lo 51 8 (.slice (some ⟨gE, 0, none⟩) n c) n ((l.set i ⟨o, ad, p, 6, d⟩).flatMap cnE) ∧ w.grownBy w' (some gE) := by
  have own := hown
  clear hown
  have HLO := Lib.hid hlo
  have HLL := Lib.hid (row_len (by decide) cnE_len own)
  have en := (owk_sle (by decide) cnE_len own).1
  have HX := Lib.hid hx
  have hin_ : i < n := by have h1_ := (List.getElem?_eq_some_iff.1 hx).1; have h2_ := HLL.out; omega
  have i0 : (0 : Int) ≤ i := by omega
  have i1 : (i : Int) < n := by omega
  have grw := World.grownBy.refl w (some gE)
  clear hx hin_
  obtain ⟨p2, q2⟩ := fl_f h2
  obtain ⟨a2, ha2⟩ : ∃ a, bits .and .i64 f 2 = a := ⟨_, rfl⟩
  rw [ha2] at p2 q2
  clear h2
  have bel := Below.refl lo w
  go_enter Try.func17, Try.ntmps17
  have R10 := Sle.zcell en HX.out 6 _ rfl
  have R16 := Sle.zcell en HX.out 6 _ rfl
  go_wp2_with fail
  clear R10 R16
  exact bodyPost_end (results_none rfl _ _ _) rfl ⟨rfl, (by first | exact own | (have h_ := own; rw [List.set_set] at h_; exact h_) | (rw [set_self HX.out]; exact own)), grw⟩
theorem follow_el {lo gE n c i : Nat} {l : List Cn} {x y : Cn} (b : Bool) (f : Int) (w : World) (hlo : lo ≤ w.heap.size) (hown : w.ownsRow lo 51 8 (.slice (some ⟨gE, 0, none⟩) n c) n (l.flatMap cnE)) (hx : l[i]? = some x) (hs : x.okp) (hy : fol x b f = y) : Calls Try.prog 17 #[.pointer (some ⟨gE, i * 8, none⟩), .bool b, .int .i64 f] w fun e w' => e = .returned (.tuple #[]) ∧ w'.ownsRow lo 51 8 (.slice (some ⟨gE, 0, none⟩) n c) n ((l.set i y).flatMap cnE) ∧ w.grownBy w' (some gE) := by
  subst hy
  obtain ⟨o, ad, p, s, d⟩ := x
  obtain ⟨s0, s6⟩ := hs
  dsimp only at s0 s6
  have hc : s = 0 ∨ s = 1 ∨ s = 2 ∨ s = 3 ∨ s = 4 ∨ s = 5 ∨ s = 6 := by omega
  clear s0 s6
  rcases hc with rfl | rfl | rfl | rfl | rfl | rfl | rfl
  · rcases h2 : fl f 2 with _ | _
    · rw [show fol ⟨o, ad, p, 0, d⟩ b f = ⟨o, ad, p, 0, d⟩ by simp [fol, h2]]
      exact fol0_3 w hlo hown hx h2
    · rcases h20 : fl f 20 with _ | _
      · rw [show fol ⟨o, ad, p, 0, d⟩ b f = ⟨o, ad, p, 1, b⟩ by simp [fol, h2, h20]]
        exact fol0_1 w hlo hown hx h2 h20
      · rw [show fol ⟨o, ad, p, 0, d⟩ b f = ⟨o, ad, p, 0, d⟩ by simp [fol, h2, h20]]
        exact fol0_2 w hlo hown hx h2 h20
  · rcases h4 : fl f 4 with _ | _
    · rcases h1 : fl f 1 with _ | _
      · rcases h2 : fl f 2 with _ | _
        · rw [show fol ⟨o, ad, p, 1, d⟩ b f = ⟨o, ad, p, 1, d⟩ by simp [fol, h4, h1, h2]]
          exact fol1_n w hlo hown hx h2 h4 h1
        · rcases hbd : (b != d) with _ | _
          · rw [show fol ⟨o, ad, p, 1, d⟩ b f = ⟨o, ad, p, 1, d⟩ by simp [fol, h4, h1, h2, hbd]]
            exact fol1_d w hlo hown hx h2 h4 h1 hbd
          · rw [show fol ⟨o, ad, p, 1, d⟩ b f = ⟨o, ad, p, 2, d⟩ by simp [fol, h4, h1, h2, hbd]]
            exact fol1_y w hlo hown hx h2 h4 h1 hbd
      · rw [show fol ⟨o, ad, p, 1, d⟩ b f = ⟨o, ad, p, 4, b⟩ by simp [fol, h4, h1]]
        exact fol1_f w hlo hown hx h4 h1
    · rw [show fol ⟨o, ad, p, 1, d⟩ b f = ⟨o, ad, p, 6, d⟩ by simp [fol, h4]]
      exact fol1_r w hlo hown hx h4
  · rcases h4 : fl f 4 with _ | _
    · rcases h1 : fl f 1 with _ | _
      · rcases h16 : fl f 16 with _ | _
        · rw [show fol ⟨o, ad, p, 2, d⟩ b f = ⟨o, ad, p, 2, d⟩ by simp [fol, h4, h1, h16]]
          exact fol2_n w hlo hown hx h16 h4 h1
        · rcases h2 : fl f 2 with _ | _
          · rw [show fol ⟨o, ad, p, 2, d⟩ b f = ⟨o, ad, p, 3, d⟩ by simp [fol, h4, h1, h16, h2]]
            exact fol2_y w hlo hown hx h16 h2 h4 h1
          · rw [show fol ⟨o, ad, p, 2, d⟩ b f = ⟨o, ad, p, 2, d⟩ by simp [fol, h4, h1, h16, h2]]
            exact fol2_s w hlo hown hx h16 h2 h4 h1
      · rw [show fol ⟨o, ad, p, 2, d⟩ b f = ⟨o, ad, p, 4, b⟩ by simp [fol, h4, h1]]
        exact fol2_f w hlo hown hx h4 h1
    · rw [show fol ⟨o, ad, p, 2, d⟩ b f = ⟨o, ad, p, 6, d⟩ by simp [fol, h4]]
      exact fol2_r w hlo hown hx h4
  · rcases h4 : fl f 4 with _ | _
    · rcases h1 : fl f 1 with _ | _
      · rw [show fol ⟨o, ad, p, 3, d⟩ b f = ⟨o, ad, p, 3, d⟩ by simp [fol, h4, h1]]
        exact fol3_n w hlo hown hx h4 h1
      · rw [show fol ⟨o, ad, p, 3, d⟩ b f = ⟨o, ad, p, 4, b⟩ by simp [fol, h4, h1]]
        exact fol3_f w hlo hown hx h4 h1
    · rw [show fol ⟨o, ad, p, 3, d⟩ b f = ⟨o, ad, p, 6, d⟩ by simp [fol, h4]]
      exact fol3_r w hlo hown hx h4
  · rcases h4 : fl f 4 with _ | _
    · rcases h1 : fl f 1 with _ | _
      · rw [show fol ⟨o, ad, p, 4, d⟩ b f = ⟨o, ad, p, 4, d⟩ by simp [fol, h4, h1]]
        exact fol4_n w hlo hown hx h4 h1
      · rcases hbd : (b != d) with _ | _
        · rw [show fol ⟨o, ad, p, 4, d⟩ b f = ⟨o, ad, p, 4, d⟩ by simp [fol, h4, h1, hbd]]
          exact fol4_d w hlo hown hx h4 h1 hbd
        · rw [show fol ⟨o, ad, p, 4, d⟩ b f = ⟨o, ad, p, 5, d⟩ by simp [fol, h4, h1, hbd]]
          exact fol4_y w hlo hown hx h4 h1 hbd
    · rw [show fol ⟨o, ad, p, 4, d⟩ b f = ⟨o, ad, p, 6, d⟩ by simp [fol, h4]]
      exact fol4_r w hlo hown hx h4
  · rcases h4 : fl f 4 with _ | _
    · rcases h1 : fl f 1 with _ | _
      · rw [show fol ⟨o, ad, p, 5, d⟩ b f = ⟨o, ad, p, 5, d⟩ by simp [fol, h4, h1]]
        exact fol5_0 w hlo hown hx h4 h1
      · rw [show fol ⟨o, ad, p, 5, d⟩ b f = ⟨o, ad, p, 5, d⟩ by simp [fol, h4, h1]]
        exact fol5_1 w hlo hown hx h4 h1
    · rw [show fol ⟨o, ad, p, 5, d⟩ b f = ⟨o, ad, p, 6, d⟩ by simp [fol, h4]]
      exact fol5_r w hlo hown hx h4
  · rcases h2 : fl f 2 with _ | _
    · rw [show fol ⟨o, ad, p, 6, d⟩ b f = ⟨o, ad, p, 6, d⟩ by simp [fol, h2]]
      exact fol6_3 w hlo hown hx h2
    · rcases h20 : fl f 20 with _ | _
      · rw [show fol ⟨o, ad, p, 6, d⟩ b f = ⟨o, ad, p, 1, b⟩ by simp [fol, h2, h20]]
        exact fol6_1 w hlo hown hx h2 h20
      · rw [show fol ⟨o, ad, p, 6, d⟩ b f = ⟨o, ad, p, 6, d⟩ by simp [fol, h2, h20]]
        exact fol6_2 w hlo hown hx h2 h20
theorem follow_box {g : Nat} {x y : Cn} (b : Bool) (f : Int) (w : World) (h : w.heap[g]? = some (.cells #[.int .i64 x.o, .int .u8 (x.ad.a.toNat : Int), .int .u8 (x.ad.b.toNat : Int), .int .u8 (x.ad.c.toNat : Int), .int .u8 (x.ad.d.toNat : Int), .int .i64 x.p, .int .i64 x.s, .bool x.d] 51 (0, 0))) (hs : x.okp) (hy : fol x b f = y) : Calls Try.prog 17 #[.pointer (some ⟨g, 0, none⟩), .bool b, .int .i64 f] w fun e w' => e = .returned (.tuple #[]) ∧ w'.heap[g]? = some (.cells #[.int .i64 y.o, .int .u8 (y.ad.a.toNat : Int), .int .u8 (y.ad.b.toNat : Int), .int .u8 (y.ad.c.toNat : Int), .int .u8 (y.ad.d.toNat : Int), .int .i64 y.p, .int .i64 y.s, .bool y.d] 51 (0, 0)) ∧ w.grownBy w' (some g) := by
  have hg := hlt h
  refine (follow_el (lo := 0) (i := 0) b f w (Nat.zero_le _) (box_row h (Nat.zero_le _)) rfl hs hy).mono ?_
  rintro e w' ⟨rfl, h1, h2⟩
  exact ⟨rfl, row_box h1, h2⟩
end Go.Proofs.Ytjfkeocdojjpgaa
