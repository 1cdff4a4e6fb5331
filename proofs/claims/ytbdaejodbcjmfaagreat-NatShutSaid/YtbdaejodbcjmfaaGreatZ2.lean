/- Texts put together: Na4, Tcl, Rd3, Tc1. -/
import Derived.Test.YtbdaejodbcjmfaaGreatQ1
import Derived.Test.YtbdaejodbcjmfaaGreatQ2
import Derived.Test.YtbdaejodbcjmfaaGreatQ3
import Derived.Test.YtbdaejodbcjmfaaGreatQ4
import Derived.Test.YtbdaejodbcjmfaaGreatQ5
import Derived.Test.YtbdaejodbcjmfaaGreatQ6
import Derived.Test.YtbdaejodbcjmfaaGreatQ7
import Derived.Test.YtbdaejodbcjmfaaGreatQ8
import Derived.Test.YtbdaejodbcjmfaaGreatQ9
import Derived.Test.YtbdaejodbcjmfaaGreatQ10
import Derived.Test.YtbdaejodbcjmfaaGreatQ11
import Derived.Test.YtbdaejodbcjmfaaGreatQ12
import Derived.Test.YtbdaejodbcjmfaaGreatQ13
import Derived.Test.YtbdaejodbcjmfaaGreatZ1
import Derived.Deep.CutRange
import Derived.Deep.RegionHeld3
namespace Go.Proofs.YtbdaejodbcjmfaaGreat
open Go.RowKit
open Go.RowKit

/-- How many bytes the header of the inner packet has, if there is one. -/
def inH (l : List UInt8) : Option Nat :=
  if l.length < 20 then none else if (l.getD 0 0).toNat / 16 ≠ 4 then none else if hlen (l.getD 0 0) < 20 then none else if l.length < hlen (l.getD 0 0) + 4 then none else if ck (l.take (hlen (l.getD 0 0))) ≠ 0 then none else some (hlen (l.getD 0 0))
theorem hlen_le (x : UInt8) : hlen x ≤ 60 := by unfold hlen; omega
set_option linter.unusedVariables false in
set_option linter.unusedVariables false in
set_option linter.unusedSimpArgs false in
set_option maxRecDepth 100000 in
set_option maxHeartbeats 16000000 in
theorem inner_1 {A : Option Addr} {n c : Nat} {l : List UInt8} (w : World) (h1 : n < 20) : Calls Tryz.prog 106 #[.slice A n c] w fun e w' => e = .returned (.tuple #[.agg #[.slice none 0 0, .int .i64 0], .bool false]) ∧ Below w.heap.size w w' := by
  have t1 : (n : Int) < 20 := by omega
  clear h1
  have bel := Below.refl w.heap.size w
  go_enter Tryz.func106, Tryz.ntmps106
  go_wp2_with (first | ((with_reducible show wpList _ _ _ (⟨some 2, _, _, _, _, _⟩ :: _) _ _); refine wpList_new_a rfl 160 rfl #[.slice none 0 0, .int .i64 0] (by kernel_rfl) ?_; intro g2 w1 ge hh bb; have orB := Nat.le_trans bel.size ge; replace bel := bel.trans (bb.mono bel.size); have hrB := hh; clear hh ge bb) | ((with_reducible show wpList _ _ _ (⟨none, Op.store _ (.tmp 2) _, _, _, _, _⟩ :: _) _ _); refine wpList_store_blk rfl 160 (.tmp 2) (.tmp 15) rfl g2 rfl _ rfl _ 160 hrB (by rfl) (by kernel_rfl) (by kernel_rfl) ?_; intro w2 hq gr; replace bel := below_grown bel gr orB bel.size; clear hrB; have hrB := hq; clear hq gr))
  exact bodyPost_ret (results_cell_tmp_row rfl _ _ _ _ _ _ _ rfl hrB Tryz.underlying160 rfl (by kernel_rfl) (.bool false) rfl) rfl ⟨rfl, bel⟩
set_option linter.unusedVariables false in
set_option linter.unusedVariables false in
set_option linter.unusedSimpArgs false in
set_option maxRecDepth 100000 in
set_option maxHeartbeats 16000000 in
theorem inner_2 {gB oB : Nat} {n c : Nat} {l : List UInt8} (w : World) (lb : Sl w (some ⟨gB, oB, none⟩) n c l) (hm : n ≤ 100000) (h1 : 20 ≤ n) (h2 : (l.getD 0 0).toNat / 16 ≠ 4) : Calls Tryz.prog 106 #[.slice (some ⟨gB, oB, none⟩) n c] w fun e w' => e = .returned (.tuple #[.agg #[.slice none 0 0, .int .i64 0], .bool false]) ∧ Below w.heap.size w w' := by
  obtain ⟨x, hx⟩ : ∃ x, l[0]? = some x := ⟨_, List.getElem?_eq_getElem (by have h1_ := lb.1; omega)⟩
  have hxd : l.getD 0 0 = x := by rw [List.getD_eq_getElem?_getD, hx]; rfl
  rw [hxd] at h2
  have HX := Lib.hid hx
  clear hx hxd
  have x0 : (0 : Int) ≤ x.toNat := by omega
  have x1 : (x.toNat : Int) < 256 := by have := x.toNat_lt; omega
  have e1 : ((x.toNat : Int) / 16 == 4) = false := by rw [beq_eq_false_iff_ne]; omega
  have e2 : ((x.toNat : Int) / 16 != 4) = true := by rw [bne_iff_ne]; omega
  have t1 : decide ((n : Int) < 20) = false := decide_eq_false (by omega)
  have n0 : (0 : Int) < n := by omega
  clear h1 h2
  have bel := Below.refl w.heap.size w
  go_enter Tryz.func106, Tryz.ntmps106
  go_wp2_with (first | ((with_reducible show wpList _ _ _ (⟨some 2, _, _, _, _, _⟩ :: _) _ _); refine wpList_new_a rfl 160 rfl #[.slice none 0 0, .int .i64 0] (by kernel_rfl) ?_; intro g2 w1 ge hh bb; have av_lb_rB := lb.av_new ge; have orB := Nat.le_trans bel.size ge; replace lb := lb.below bb; replace bel := bel.trans (bb.mono bel.size); have hrB := hh; clear hh ge bb; have R11 := (by have h_ := sl_at lb (j := 0) HX.out; rw [Nat.add_zero] at h_; exact h_)) | ((with_reducible show wpList _ _ _ (⟨none, Op.store _ (.tmp 2) _, _, _, _, _⟩ :: _) _ _); refine wpList_store_blk rfl 160 (.tmp 2) (.tmp 15) rfl g2 rfl _ rfl _ 160 hrB (by rfl) (by kernel_rfl) (by kernel_rfl) ?_; intro w2 hq gr; replace lb := lb.away av_lb_rB gr; replace bel := below_grown bel gr orB bel.size; clear hrB; have hrB := hq; clear hq gr))
  try clear R11
  exact bodyPost_ret (results_cell_tmp_row rfl _ _ _ _ _ _ _ rfl hrB Tryz.underlying160 rfl (by kernel_rfl) (.bool false) rfl) rfl ⟨rfl, bel⟩
set_option linter.unusedVariables false in
set_option linter.unusedVariables false in
set_option linter.unusedSimpArgs false in
set_option maxRecDepth 100000 in
set_option maxHeartbeats 16000000 in
theorem inner_3 {gB oB h : Nat} {n c : Nat} {l : List UInt8} (w : World) (lb : Sl w (some ⟨gB, oB, none⟩) n c l) (hm : n ≤ 100000) (h1 : 20 ≤ n) (h2 : (l.getD 0 0).toNat / 16 = 4) (hh : hlen (l.getD 0 0) = h) (h3 : h < 20) : Calls Tryz.prog 106 #[.slice (some ⟨gB, oB, none⟩) n c] w fun e w' => e = .returned (.tuple #[.agg #[.slice none 0 0, .int .i64 0], .bool false]) ∧ Below w.heap.size w w' := by
  obtain ⟨x, hx⟩ : ∃ x, l[0]? = some x := ⟨_, List.getElem?_eq_getElem (by have h1_ := lb.1; omega)⟩
  have hxd : l.getD 0 0 = x := by rw [List.getD_eq_getElem?_getD, hx]; rfl
  rw [hxd] at h2 hh
  have HX := Lib.hid hx
  clear hx hxd
  have x0 : (0 : Int) ≤ x.toNat := by omega
  have x1 : (x.toNat : Int) < 256 := by have := x.toNat_lt; omega
  have e1 : ((x.toNat : Int) / 16 == 4) = true := by rw [beq_iff_eq]; omega
  have e2 : ((x.toNat : Int) / 16 != 4) = false := by rw [bne_eq_false_iff_eq]; omega
  have t1 : decide ((n : Int) < 20) = false := decide_eq_false (by omega)
  have n0 : (0 : Int) < n := by omega
  have ew : (x.toNat : Int) % 16 * 4 = (h : Int) := by rw [← hh]; unfold hlen; omega
  have ew2 : (x.toNat : Int) / 1 % 16 * 4 = (h : Int) := by rw [← hh]; unfold hlen; omega
  have h60 : (h : Int) ≤ 60 := by have := hlen_le x; omega
  have h00 : (0 : Int) ≤ h := by omega
  have eh4 : IntKind.i64.wrap ((h : Int) + 4) = (h : Int) + 4 := IntWalk.i64_in _ (by omega)
  have t2 : (h : Int) < 20 := by omega
  clear h1 h2 h3 hh
  have bel := Below.refl w.heap.size w
  go_enter Tryz.func106, Tryz.ntmps106
  go_wp2_with (first | ((with_reducible show wpList _ _ _ (⟨some 2, _, _, _, _, _⟩ :: _) _ _); refine wpList_new_a rfl 160 rfl #[.slice none 0 0, .int .i64 0] (by kernel_rfl) ?_; intro g2 w1 ge hh bb; have av_lb_rB := lb.av_new ge; have orB := Nat.le_trans bel.size ge; replace lb := lb.below bb; replace bel := bel.trans (bb.mono bel.size); have hrB := hh; clear hh ge bb; have R11 := (by have h_ := sl_at lb (j := 0) HX.out; rw [Nat.add_zero] at h_; exact h_); have R18 := (by have h_ := sl_at lb (j := 0) HX.out; rw [Nat.add_zero] at h_; exact h_)) | ((with_reducible show wpList _ _ _ (⟨none, Op.store _ (.tmp 2) _, _, _, _, _⟩ :: _) _ _); refine wpList_store_blk rfl 160 (.tmp 2) (.tmp 38) rfl g2 rfl _ rfl _ 160 hrB (by rfl) (by kernel_rfl) (by kernel_rfl) ?_; intro w2 hq gr; replace lb := lb.away av_lb_rB gr; replace bel := below_grown bel gr orB bel.size; clear hrB; have hrB := hq; clear hq gr))
  try clear R11
  try clear R18
  exact bodyPost_ret (results_cell_tmp_row rfl _ _ _ _ _ _ _ rfl hrB Tryz.underlying160 rfl (by kernel_rfl) (.bool false) rfl) rfl ⟨rfl, bel⟩
set_option linter.unusedVariables false in
set_option linter.unusedVariables false in
set_option linter.unusedSimpArgs false in
set_option maxRecDepth 100000 in
set_option maxHeartbeats 16000000 in
theorem inner_4 {gB oB h : Nat} {n c : Nat} {l : List UInt8} (w : World) (lb : Sl w (some ⟨gB, oB, none⟩) n c l) (hm : n ≤ 100000) (h1 : 20 ≤ n) (h2 : (l.getD 0 0).toNat / 16 = 4) (hh : hlen (l.getD 0 0) = h) (h3 : 20 ≤ h) (h4 : n < h + 4) : Calls Tryz.prog 106 #[.slice (some ⟨gB, oB, none⟩) n c] w fun e w' => e = .returned (.tuple #[.agg #[.slice none 0 0, .int .i64 0], .bool false]) ∧ Below w.heap.size w w' := by
  obtain ⟨x, hx⟩ : ∃ x, l[0]? = some x := ⟨_, List.getElem?_eq_getElem (by have h1_ := lb.1; omega)⟩
  have hxd : l.getD 0 0 = x := by rw [List.getD_eq_getElem?_getD, hx]; rfl
  rw [hxd] at h2 hh
  have HX := Lib.hid hx
  clear hx hxd
  have x0 : (0 : Int) ≤ x.toNat := by omega
  have x1 : (x.toNat : Int) < 256 := by have := x.toNat_lt; omega
  have e1 : ((x.toNat : Int) / 16 == 4) = true := by rw [beq_iff_eq]; omega
  have e2 : ((x.toNat : Int) / 16 != 4) = false := by rw [bne_eq_false_iff_eq]; omega
  have t1 : decide ((n : Int) < 20) = false := decide_eq_false (by omega)
  have n0 : (0 : Int) < n := by omega
  have ew : (x.toNat : Int) % 16 * 4 = (h : Int) := by rw [← hh]; unfold hlen; omega
  have ew2 : (x.toNat : Int) / 1 % 16 * 4 = (h : Int) := by rw [← hh]; unfold hlen; omega
  have h60 : (h : Int) ≤ 60 := by have := hlen_le x; omega
  have h00 : (0 : Int) ≤ h := by omega
  have eh4 : IntKind.i64.wrap ((h : Int) + 4) = (h : Int) + 4 := IntWalk.i64_in _ (by omega)
  have t2 : decide ((h : Int) < 20) = false := decide_eq_false (by omega)
  have t3 : (n : Int) < (h : Int) + 4 := by omega
  clear h1 h2 h3 h4 hh
  have bel := Below.refl w.heap.size w
  go_enter Tryz.func106, Tryz.ntmps106
  go_wp2_with (first | ((with_reducible show wpList _ _ _ (⟨some 2, _, _, _, _, _⟩ :: _) _ _); refine wpList_new_a rfl 160 rfl #[.slice none 0 0, .int .i64 0] (by kernel_rfl) ?_; intro g2 w1 ge hh bb; have av_lb_rB := lb.av_new ge; have orB := Nat.le_trans bel.size ge; replace lb := lb.below bb; replace bel := bel.trans (bb.mono bel.size); have hrB := hh; clear hh ge bb; have R11 := (by have h_ := sl_at lb (j := 0) HX.out; rw [Nat.add_zero] at h_; exact h_); have R18 := (by have h_ := sl_at lb (j := 0) HX.out; rw [Nat.add_zero] at h_; exact h_)) | ((with_reducible show wpList _ _ _ (⟨none, Op.store _ (.tmp 2) _, _, _, _, _⟩ :: _) _ _); refine wpList_store_blk rfl 160 (.tmp 2) (.tmp 38) rfl g2 rfl _ rfl _ 160 hrB (by rfl) (by kernel_rfl) (by kernel_rfl) ?_; intro w2 hq gr; replace lb := lb.away av_lb_rB gr; replace bel := below_grown bel gr orB bel.size; clear hrB; have hrB := hq; clear hq gr))
  try clear R11
  try clear R18
  exact bodyPost_ret (results_cell_tmp_row rfl _ _ _ _ _ _ _ rfl hrB Tryz.underlying160 rfl (by kernel_rfl) (.bool false) rfl) rfl ⟨rfl, bel⟩
set_option linter.unusedVariables false in
set_option linter.unusedVariables false in
set_option linter.unusedSimpArgs false in
set_option maxRecDepth 100000 in
set_option maxHeartbeats 16000000 in
theorem inner_5 {gB oB h : Nat} {n c : Nat} {l : List UInt8} (w : World) (lb : Sl w (some ⟨gB, oB, none⟩) n c l) (hm : n ≤ 100000) (h1 : 20 ≤ n) (h2 : (l.getD 0 0).toNat / 16 = 4) (hh : hlen (l.getD 0 0) = h) (h3 : 20 ≤ h) (h4 : h + 4 ≤ n) (h5 : ck (l.take h) ≠ 0) : Calls Tryz.prog 106 #[.slice (some ⟨gB, oB, none⟩) n c] w fun e w' => e = .returned (.tuple #[.agg #[.slice none 0 0, .int .i64 0], .bool false]) ∧ Below w.heap.size w w' := by
  obtain ⟨x, hx⟩ : ∃ x, l[0]? = some x := ⟨_, List.getElem?_eq_getElem (by have h1_ := lb.1; omega)⟩
  have hxd : l.getD 0 0 = x := by rw [List.getD_eq_getElem?_getD, hx]; rfl
  rw [hxd] at h2 hh
  have HX := Lib.hid hx
  clear hx hxd
  have x0 : (0 : Int) ≤ x.toNat := by omega
  have x1 : (x.toNat : Int) < 256 := by have := x.toNat_lt; omega
  have e1 : ((x.toNat : Int) / 16 == 4) = true := by rw [beq_iff_eq]; omega
  have e2 : ((x.toNat : Int) / 16 != 4) = false := by rw [bne_eq_false_iff_eq]; omega
  have t1 : decide ((n : Int) < 20) = false := decide_eq_false (by omega)
  have n0 : (0 : Int) < n := by omega
  have ew : (x.toNat : Int) % 16 * 4 = (h : Int) := by rw [← hh]; unfold hlen; omega
  have ew2 : (x.toNat : Int) / 1 % 16 * 4 = (h : Int) := by rw [← hh]; unfold hlen; omega
  have h60 : (h : Int) ≤ 60 := by have := hlen_le x; omega
  have h00 : (0 : Int) ≤ h := by omega
  have eh4 : IntKind.i64.wrap ((h : Int) + 4) = (h : Int) + 4 := IntWalk.i64_in _ (by omega)
  have t2 : decide ((h : Int) < 20) = false := decide_eq_false (by omega)
  have t3 : decide ((n : Int) < (h : Int) + 4) = false := decide_eq_false (by omega)
  have HH4 := Lib.hid h4
  have HM := Lib.hid hm
  have HCK : Hid (decide (ck (l.take h) = 0) = false) := Lib.hid (decide_eq_false h5)
  clear h1 h2 h3 h4 h5 hh hm
  have bel := Below.refl w.heap.size w
  go_enter Tryz.func106, Tryz.ntmps106
  go_wp2_with (first | ((with_reducible show wpList _ _ _ (⟨some 2, _, _, _, _, _⟩ :: _) _ _); refine wpList_new_a rfl 160 rfl #[.slice none 0 0, .int .i64 0] (by kernel_rfl) ?_; intro g2 w1 ge hh bb; have av_lb_rB := lb.av_new ge; have orB := Nat.le_trans bel.size ge; replace lb := lb.below bb; replace bel := bel.trans (bb.mono bel.size); have hrB := hh; clear hh ge bb; have R11 := (by have h_ := sl_at lb (j := 0) HX.out; rw [Nat.add_zero] at h_; exact h_); have R18 := (by have h_ := sl_at lb (j := 0) HX.out; rw [Nat.add_zero] at h_; exact h_); obtain ⟨A34, c34, r34, f34, u34⟩ := piece_front lb (k := h) (by have := HH4.out; omega); have fr8 := f34 _ lb; have av_fr8_rB := av_lb_rB.sub u34; clear f34 u34))
  try clear R11
  try clear R18
  with_reducible refine (fitsd _ _ _ _ _ fr8).mono ?_
  rintro e w2 ⟨rfl, b2⟩
  replace hrB := blk_u hrB b2
  replace lb := lb.below b2
  replace fr8 := fr8.below b2
  replace bel := bel.trans (b2.mono bel.size)
  clear b2
  rw [HCK.out]
  go_wp2_with (first | ((with_reducible show wpList _ _ _ (⟨none, Op.store _ (.tmp 2) _, _, _, _, _⟩ :: _) _ _); refine wpList_store_blk rfl 160 (.tmp 2) (.tmp 38) rfl g2 rfl _ rfl _ 160 hrB (by rfl) (by kernel_rfl) (by kernel_rfl) ?_; intro w3 hq gr; replace lb := lb.away av_lb_rB gr; replace fr8 := fr8.away av_fr8_rB gr; replace bel := below_grown bel gr orB bel.size; clear hrB; have hrB := hq; clear hq gr))
  exact bodyPost_ret (results_cell_tmp_row rfl _ _ _ _ _ _ _ rfl hrB Tryz.underlying160 rfl (by kernel_rfl) (.bool false) rfl) rfl ⟨rfl, bel⟩
set_option linter.unusedVariables false in
set_option linter.unusedVariables false in
set_option linter.unusedSimpArgs false in
set_option maxRecDepth 100000 in
set_option maxHeartbeats 16000000 in
theorem inner_y {gB oB h : Nat} {n c : Nat} {l : List UInt8} (w : World) (lb : Sl w (some ⟨gB, oB, none⟩) n c l) (hm : n ≤ 100000) (h1 : 20 ≤ n) (h2 : (l.getD 0 0).toNat / 16 = 4) (hh : hlen (l.getD 0 0) = h) (h3 : 20 ≤ h) (h4 : h + 4 ≤ n) (h5 : ck (l.take h) = 0) : Calls Tryz.prog 106 #[.slice (some ⟨gB, oB, none⟩) n c] w fun e w' => e = .returned (.tuple #[.agg #[.slice (some ⟨gB, oB, none⟩) n c, .int .i64 (h : Int)], .bool true]) ∧ Below w.heap.size w w' := by
  obtain ⟨x, hx⟩ : ∃ x, l[0]? = some x := ⟨_, List.getElem?_eq_getElem (by have h1_ := lb.1; omega)⟩
  have hxd : l.getD 0 0 = x := by rw [List.getD_eq_getElem?_getD, hx]; rfl
  rw [hxd] at h2 hh
  have HX := Lib.hid hx
  clear hx hxd
  have x0 : (0 : Int) ≤ x.toNat := by omega
  have x1 : (x.toNat : Int) < 256 := by have := x.toNat_lt; omega
  have e1 : ((x.toNat : Int) / 16 == 4) = true := by rw [beq_iff_eq]; omega
  have e2 : ((x.toNat : Int) / 16 != 4) = false := by rw [bne_eq_false_iff_eq]; omega
  have t1 : decide ((n : Int) < 20) = false := decide_eq_false (by omega)
  have n0 : (0 : Int) < n := by omega
  have ew : (x.toNat : Int) % 16 * 4 = (h : Int) := by rw [← hh]; unfold hlen; omega
  have ew2 : (x.toNat : Int) / 1 % 16 * 4 = (h : Int) := by rw [← hh]; unfold hlen; omega
  have h60 : (h : Int) ≤ 60 := by have := hlen_le x; omega
  have h00 : (0 : Int) ≤ h := by omega
  have eh4 : IntKind.i64.wrap ((h : Int) + 4) = (h : Int) + 4 := IntWalk.i64_in _ (by omega)
  have t2 : decide ((h : Int) < 20) = false := decide_eq_false (by omega)
  have t3 : decide ((n : Int) < (h : Int) + 4) = false := decide_eq_false (by omega)
  have HH4 := Lib.hid h4
  have HM := Lib.hid hm
  have HCK : Hid (decide (ck (l.take h) = 0) = true) := Lib.hid (decide_eq_true h5)
  clear h1 h2 h3 h4 h5 hh hm
  have bel := Below.refl w.heap.size w
  go_enter Tryz.func106, Tryz.ntmps106
  go_wp2_with (first | ((with_reducible show wpList _ _ _ (⟨some 2, _, _, _, _, _⟩ :: _) _ _); refine wpList_new_a rfl 160 rfl #[.slice none 0 0, .int .i64 0] (by kernel_rfl) ?_; intro g2 w1 ge hh bb; have av_lb_rB := lb.av_new ge; have orB := Nat.le_trans bel.size ge; replace lb := lb.below bb; replace bel := bel.trans (bb.mono bel.size); have hrB := hh; clear hh ge bb; have R11 := (by have h_ := sl_at lb (j := 0) HX.out; rw [Nat.add_zero] at h_; exact h_); have R18 := (by have h_ := sl_at lb (j := 0) HX.out; rw [Nat.add_zero] at h_; exact h_); obtain ⟨A34, c34, r34, f34, u34⟩ := piece_front lb (k := h) (by have := HH4.out; omega); have fr8 := f34 _ lb; have av_fr8_rB := av_lb_rB.sub u34; clear f34 u34))
  try clear R11
  try clear R18
  with_reducible refine (fitsd _ _ _ _ _ fr8).mono ?_
  rintro e w2 ⟨rfl, b2⟩
  replace hrB := blk_u hrB b2
  replace lb := lb.below b2
  replace fr8 := fr8.below b2
  replace bel := bel.trans (b2.mono bel.size)
  clear b2
  rw [HCK.out]
  go_wp2_with (first | ((with_reducible show wpList _ _ _ (⟨none, Op.store _ (.tmp 2) _, _, _, _, _⟩ :: _) _ _); refine wpList_store_blk rfl 160 (.tmp 2) (.tmp 41) rfl g2 rfl _ rfl _ 160 hrB (by rfl) (by kernel_rfl) (by kernel_rfl) ?_; intro w3 hq gr; replace lb := lb.away av_lb_rB gr; replace fr8 := fr8.away av_fr8_rB gr; replace bel := below_grown bel gr orB bel.size; clear hrB; have hrB := hq; clear hq gr))
  exact bodyPost_ret (results_cell_tmp_row rfl _ _ _ _ _ _ _ rfl hrB Tryz.underlying160 rfl (by kernel_rfl) (.bool true) rfl) rfl ⟨rfl, bel⟩
set_option linter.unusedVariables false in
set_option linter.unusedVariables false in
set_option linter.unusedSimpArgs false in
set_option maxRecDepth 100000 in
set_option maxHeartbeats 16000000 in
theorem inproto {gB oB n c h : Nat} {l : List UInt8} {x : UInt8} (w : World) (lb : Sl w (some ⟨gB, oB, none⟩) n c l) (hx : l[9]? = some x) : Calls Tryz.prog 131 #[.agg #[.slice (some ⟨gB, oB, none⟩) n c, .int .i64 (h : Int)]] w fun e w' => e = .returned (.int .i64 (x.toNat : Int)) ∧ Below w.heap.size w w' := by
  have HX := Lib.hid hx
  have n9 : (9 : Int) < n := by have h1_ := (List.getElem?_eq_some_iff.1 hx).1; have h2_ := lb.1; omega
  have x0 : (0 : Int) ≤ x.toNat := by omega
  have x1 : (x.toNat : Int) < 256 := by have := x.toNat_lt; omega
  clear hx
  have bel := Below.refl w.heap.size w
  go_enter Tryz.func131, Tryz.ntmps131
  go_wp2_with (first | ((with_reducible show wpList _ _ _ (⟨some 1, _, _, _, _, _⟩ :: _) _ _); refine wpList_box_n rfl 160 (.tmp 0) rfl #[.slice (some ⟨gB, oB, none⟩) n c, .int .i64 (h : Int)] rfl ?_; intro g1 w1 ge lt hh bb; have av_lb_iB := lb.av_new ge; have oiB := Nat.le_trans bel.size ge; replace lb := lb.below bb; replace bel := bel.trans (bb.mono bel.size); have hiB := hh; clear hh lt ge bb; have R4 := cell_lit hiB 0 _ rfl; have R6 := sl_at lb (j := 9) HX.out))
  try clear R4
  try clear R6
  go_ret
  exact ⟨rfl, bel⟩
def knB (p : Int) : Bool := (p == 17) || ((p == 6) || (p == 1))
set_option linter.unusedVariables false in
set_option linter.unusedVariables false in
set_option linter.unusedSimpArgs false in
set_option maxRecDepth 100000 in
set_option maxHeartbeats 16000000 in
theorem iskn_a {p : Int} (w : World) (e17 : (p == 17) = true) : Calls Tryz.prog 130 #[.int .i64 p] w fun e w' => e = .returned (.bool true) ∧ w = w' := by
  skip
  skip
  go_enter Tryz.func130, Tryz.ntmps130
  go_wp2_with fail
  go_ret
  exact ⟨rfl, rfl⟩
set_option linter.unusedVariables false in
set_option linter.unusedVariables false in
set_option linter.unusedSimpArgs false in
set_option maxRecDepth 100000 in
set_option maxHeartbeats 16000000 in
theorem iskn_b {p : Int} (w : World) (e17 : (p == 17) = false) (e6 : (p == 6) = true) : Calls Tryz.prog 130 #[.int .i64 p] w fun e w' => e = .returned (.bool true) ∧ w = w' := by
  skip
  skip
  go_enter Tryz.func130, Tryz.ntmps130
  go_wp2_with fail
  go_ret
  exact ⟨rfl, rfl⟩
set_option linter.unusedVariables false in
set_option linter.unusedVariables false in
set_option linter.unusedSimpArgs false in
set_option maxRecDepth 100000 in
set_option maxHeartbeats 16000000 in
theorem iskn_c {p : Int} (w : World) (e17 : (p == 17) = false) (e6 : (p == 6) = false) (e1 : (p == 1) = true) : Calls Tryz.prog 130 #[.int .i64 p] w fun e w' => e = .returned (.bool true) ∧ w = w' := by
  skip
  skip
  go_enter Tryz.func130, Tryz.ntmps130
  go_wp2_with fail
  go_ret
  exact ⟨rfl, rfl⟩
set_option linter.unusedVariables false in
set_option linter.unusedVariables false in
set_option linter.unusedSimpArgs false in
set_option maxRecDepth 100000 in
set_option maxHeartbeats 16000000 in
theorem iskn_d {p : Int} (w : World) (e17 : (p == 17) = false) (e6 : (p == 6) = false) (e1 : (p == 1) = false) : Calls Tryz.prog 130 #[.int .i64 p] w fun e w' => e = .returned (.bool false) ∧ w = w' := by
  skip
  skip
  go_enter Tryz.func130, Tryz.ntmps130
  go_wp2_with fail
  go_ret
  exact ⟨rfl, rfl⟩
theorem iskn_any (p : Int) (w : World) : Calls Tryz.prog 130 #[.int .i64 p] w fun e w' => e = .returned (.bool (knB p)) ∧ w = w' := by
  unfold knB
  rcases h1 : (p == 17) with _ | _
  · rcases h2 : (p == 6) with _ | _
    · rcases h3 : (p == 1) with _ | _
      · exact iskn_d w h1 h2 h3
      · exact iskn_c w h1 h2 h3
    · exact iskn_b w h1 h2
  · exact iskn_a w h1
set_option linter.unusedVariables false in
set_option linter.unusedVariables false in
set_option linter.unusedSimpArgs false in
set_option maxRecDepth 100000 in
set_option maxHeartbeats 16000000 in
theorem insender (w : World) : Calls Tryz.prog 108 #[] w fun e w' => e = .returned (.agg #[.int .i64 12, .int .i64 0]) ∧ Below w.heap.size w w' := by
  have bel := Below.refl w.heap.size w
  go_enter Tryz.func108, Tryz.ntmps108
  go_wp2_with (first | ((with_reducible show wpList _ _ _ (⟨some 0, _, _, _, _, _⟩ :: _) _ _); refine wpList_new_a rfl 168 rfl #[.int .i64 0, .int .i64 0] (by kernel_rfl) ?_; intro g0 w1 ge hh bb; have orB := Nat.le_trans bel.size ge; replace bel := bel.trans (bb.mono bel.size); have hrB := hh; clear hh ge bb) | ((with_reducible show wpList _ _ _ (⟨none, Op.store _ (.tmp 0) _, _, _, _, _⟩ :: _) _ _); refine wpList_store_blk rfl 168 (.tmp 0) (.tmp 1) rfl g0 rfl _ rfl _ 168 hrB (by rfl) (by kernel_rfl) (by kernel_rfl) ?_; intro w2 hq gr; replace bel := below_grown bel gr orB bel.size; clear hrB; have hrB := hq; clear hq gr))
  exact bodyPost_ret (results_cell_row' rfl _ _ _ _ _ _ _ rfl hrB Tryz.underlying168 rfl (by kernel_rfl)) rfl ⟨rfl, bel⟩
set_option linter.unusedVariables false in
set_option linter.unusedVariables false in
set_option linter.unusedSimpArgs false in
set_option maxRecDepth 100000 in
set_option maxHeartbeats 16000000 in
theorem inport_i {gB oB n c h : Nat} {l : List UInt8} {x : UInt8} (w : World) (lb : Sl w (some ⟨gB, oB, none⟩) n c l) (hx : l[9]? = some x) (h60 : h ≤ 60) (h1 : x.toNat = 1) : Calls Tryz.prog 132 #[.agg #[.slice (some ⟨gB, oB, none⟩) n c, .int .i64 (h : Int)], .agg #[.int .i64 12, .int .i64 0]] w fun e w' => e = .returned (.int .i64 ((h : Int) + 4)) ∧ Below w.heap.size w w' := by
  have hx1 : ((x.toNat : Int) == 1) = true := by rw [beq_iff_eq]; omega
  clear h1
  have eh4 : IntKind.i64.wrap ((h : Int) + 4) = (h : Int) + 4 := IntWalk.i64_in _ (by omega)
  have eh0 : IntKind.i64.wrap (h : Int) = (h : Int) := IntWalk.i64_in _ (by omega)
  have HX := Lib.hid hx
  clear hx
  have bel := Below.refl w.heap.size w
  go_enter Tryz.func132, Tryz.ntmps132
  go_wp2_with (first | ((with_reducible show wpList _ _ _ (⟨some 2, _, _, _, _, _⟩ :: _) _ _); refine wpList_box_n rfl 160 (.tmp 0) rfl #[.slice (some ⟨gB, oB, none⟩) n c, .int .i64 (h : Int)] rfl ?_; intro g2 w1 ge lt hh bb; have av_lb_iB := lb.av_new ge; have oiB := Nat.le_trans bel.size ge; replace lb := lb.below bb; replace bel := bel.trans (bb.mono bel.size); have hiB := hh; clear hh lt ge bb) | ((with_reducible show wpList _ _ _ (⟨some 3, _, _, _, _, _⟩ :: _) _ _); refine wpList_box_n rfl 168 (.tmp 1) rfl #[.int .i64 12, .int .i64 0] rfl ?_; intro g3 w2 ge lt hh bb; have d_iB_eB := ne_new (hlt hiB) ge; have av_lb_eB := lb.av_new ge; have oeB := Nat.le_trans bel.size ge; replace hiB := blk_u hiB bb; replace lb := lb.below bb; replace bel := bel.trans (bb.mono bel.size); have heB := hh; clear hh lt ge bb; have R5 := Lib.hid (range_lit hiB 0 2 [.slice (some ⟨gB, oB, none⟩) n c, .int .i64 (h : Int)] rfl)) | ((with_reducible show wpList _ _ _ (⟨some 5, _, _, _, _, _⟩ :: _) _ _); refine wpList_load_rng 160 (.tmp 2) rfl (by kernel_rfl) _ _ rfl _ R5.out _ Tryz.underlying160 rfl (by kernel_rfl) ?_))
  try clear R5
  with_reducible refine (inproto _ lb HX.out).mono ?_
  rintro e w3 ⟨rfl, b3⟩
  replace hiB := blk_u hiB b3
  replace heB := blk_u heB b3
  replace lb := lb.below b3
  replace bel := bel.trans (b3.mono bel.size)
  clear b3
  have R9 := cell_lit hiB 1 _ rfl
  go_wp2_with fail
  clear R9
  go_ret
  exact ⟨rfl, bel⟩
set_option linter.unusedVariables false in
set_option linter.unusedVariables false in
set_option linter.unusedSimpArgs false in
set_option maxRecDepth 100000 in
set_option maxHeartbeats 16000000 in
theorem inport_o {gB oB n c h : Nat} {l : List UInt8} {x : UInt8} (w : World) (lb : Sl w (some ⟨gB, oB, none⟩) n c l) (hx : l[9]? = some x) (h60 : h ≤ 60) (h1 : x.toNat ≠ 1) : Calls Tryz.prog 132 #[.agg #[.slice (some ⟨gB, oB, none⟩) n c, .int .i64 (h : Int)], .agg #[.int .i64 12, .int .i64 0]] w fun e w' => e = .returned (.int .i64 (h : Int)) ∧ Below w.heap.size w w' := by
  have hx1 : ((x.toNat : Int) == 1) = false := by rw [beq_eq_false_iff_ne]; omega
  clear h1
  have eh4 : IntKind.i64.wrap ((h : Int) + 4) = (h : Int) + 4 := IntWalk.i64_in _ (by omega)
  have eh0 : IntKind.i64.wrap (h : Int) = (h : Int) := IntWalk.i64_in _ (by omega)
  have HX := Lib.hid hx
  clear hx
  have bel := Below.refl w.heap.size w
  go_enter Tryz.func132, Tryz.ntmps132
  go_wp2_with (first | ((with_reducible show wpList _ _ _ (⟨some 2, _, _, _, _, _⟩ :: _) _ _); refine wpList_box_n rfl 160 (.tmp 0) rfl #[.slice (some ⟨gB, oB, none⟩) n c, .int .i64 (h : Int)] rfl ?_; intro g2 w1 ge lt hh bb; have av_lb_iB := lb.av_new ge; have oiB := Nat.le_trans bel.size ge; replace lb := lb.below bb; replace bel := bel.trans (bb.mono bel.size); have hiB := hh; clear hh lt ge bb) | ((with_reducible show wpList _ _ _ (⟨some 3, _, _, _, _, _⟩ :: _) _ _); refine wpList_box_n rfl 168 (.tmp 1) rfl #[.int .i64 12, .int .i64 0] rfl ?_; intro g3 w2 ge lt hh bb; have d_iB_eB := ne_new (hlt hiB) ge; have av_lb_eB := lb.av_new ge; have oeB := Nat.le_trans bel.size ge; replace hiB := blk_u hiB bb; replace lb := lb.below bb; replace bel := bel.trans (bb.mono bel.size); have heB := hh; clear hh lt ge bb; have R5 := Lib.hid (range_lit hiB 0 2 [.slice (some ⟨gB, oB, none⟩) n c, .int .i64 (h : Int)] rfl)) | ((with_reducible show wpList _ _ _ (⟨some 5, _, _, _, _, _⟩ :: _) _ _); refine wpList_load_rng 160 (.tmp 2) rfl (by kernel_rfl) _ _ rfl _ R5.out _ Tryz.underlying160 rfl (by kernel_rfl) ?_))
  try clear R5
  with_reducible refine (inproto _ lb HX.out).mono ?_
  rintro e w3 ⟨rfl, b3⟩
  replace hiB := blk_u hiB b3
  replace heB := blk_u heB b3
  replace lb := lb.below b3
  replace bel := bel.trans (b3.mono bel.size)
  clear b3
  have R12 := cell_lit hiB 1 _ rfl
  have R14 := cell_lit heB 1 _ rfl
  go_wp2_with fail
  clear R12 R14
  go_ret
  exact ⟨rfl, bel⟩
set_option linter.unusedVariables false in
set_option linter.unusedVariables false in
set_option linter.unusedSimpArgs false in
set_option maxRecDepth 100000 in
set_option maxHeartbeats 16000000 in
theorem inaddr {y0 y1 y2 y3 : UInt8} {gB oB n c h : Nat} {l : List UInt8} (w : World) (lb : Sl w (some ⟨gB, oB, none⟩) n c l) (hn : 16 ≤ n) (hy : (l.drop 12).take 4 = [y0, y1, y2, y3]) : Calls Tryz.prog 129 #[.agg #[.slice (some ⟨gB, oB, none⟩) n c, .int .i64 (h : Int)], .agg #[.int .i64 12, .int .i64 0]] w fun e w' => e = .returned (.agg #[.int .u8 (y0.toNat : Int), .int .u8 (y1.toNat : Int), .int .u8 (y2.toNat : Int), .int .u8 (y3.toNat : Int)]) ∧ Below w.heap.size w w' := by
  have HN12 : Hid (16 ≤ n) := Lib.hid hn
  have HY := Lib.hid hy
  have n12 : (12 : Int) ≤ n := by omega
  clear hn hy
  have bel := Below.refl w.heap.size w
  go_enter Tryz.func129, Tryz.ntmps129
  go_wp2_with (first | ((with_reducible show wpList _ _ _ (⟨some 2, _, _, _, _, _⟩ :: _) _ _); refine wpList_box_n rfl 160 (.tmp 0) rfl #[.slice (some ⟨gB, oB, none⟩) n c, .int .i64 (h : Int)] rfl ?_; intro g2 w1 ge lt hh bb; have av_lb_iB := lb.av_new ge; have oiB := Nat.le_trans bel.size ge; replace lb := lb.below bb; replace bel := bel.trans (bb.mono bel.size); have hiB := hh; clear hh lt ge bb) | ((with_reducible show wpList _ _ _ (⟨some 3, _, _, _, _, _⟩ :: _) _ _); refine wpList_box_n rfl 168 (.tmp 1) rfl #[.int .i64 12, .int .i64 0] rfl ?_; intro g3 w2 ge lt hh bb; have d_iB_eB := ne_new (hlt hiB) ge; have av_lb_eB := lb.av_new ge; have oeB := Nat.le_trans bel.size ge; replace hiB := blk_u hiB bb; replace lb := lb.below bb; replace bel := bel.trans (bb.mono bel.size); have heB := hh; clear hh lt ge bb) | ((with_reducible show wpList _ _ _ (⟨some 4, _, _, _, _, _⟩ :: _) _ _); refine wpList_new_a rfl 35 rfl #[.int .u8 0, .int .u8 0, .int .u8 0, .int .u8 0] (by kernel_rfl) ?_; intro g4 w3 ge hh bb; have d_iB_rB := ne_new (hlt hiB) ge; have d_eB_rB := ne_new (hlt heB) ge; have av_lb_rB := lb.av_new ge; have orB := Nat.le_trans bel.size ge; replace hiB := blk_u hiB bb; replace heB := blk_u heB bb; replace lb := lb.below bb; replace bel := bel.trans (bb.mono bel.size); have hrB := hh; clear hh ge bb) | ((with_reducible show wpList _ _ _ (⟨some 5, _, _, _, _, _⟩ :: _) _ _); refine wpList_new_a rfl 35 rfl #[.int .u8 0, .int .u8 0, .int .u8 0, .int .u8 0] (by kernel_rfl) ?_; intro g5 w4 ge hh bb; have d_iB_aB := ne_new (hlt hiB) ge; have d_eB_aB := ne_new (hlt heB) ge; have d_rB_aB := ne_new (hlt hrB) ge; have av_lb_aB := lb.av_new ge; have oaB := Nat.le_trans bel.size ge; replace hiB := blk_u hiB bb; replace heB := blk_u heB bb; replace hrB := blk_u hrB bb; replace lb := lb.below bb; replace bel := bel.trans (bb.mono bel.size); have haB := hh; clear hh ge bb))
  replace bel := bel.drew
  replace hiB : w4.drew.heap[g2]? = _ := hiB
  replace heB : w4.drew.heap[g3]? = _ := heB
  replace hrB : w4.drew.heap[g4]? = _ := hrB
  replace haB : w4.drew.heap[g5]? = _ := haB
  replace lb := lb.drew
  refine wp_region_held_drew (S := fun W => W.heap[g2]? = some (.cells #[.slice (some ⟨gB, oB, none⟩) n c, .int .i64 (h : Int)] 160 (0, 0)) ∧ W.heap[g3]? = some (.cells #[.int .i64 12, .int .i64 0] 168 (0, 0))) (by kernel_rfl) ⟨hiB, heB⟩ (fun hH => ?_)
  generalize w4.drew = w5 at bel hiB heB hrB haB lb hH ⊢
  refine wpAnyH_take (i := 0) (v := ?_) rfl (by kernel_rfl) (by kernel_rfl) (by kernel_rfl) (fun _ _ _ h => h) (Or.inl ⟨by rfl, ?_⟩) hH ?_
  rotate_left
  · ((intro W hW; clear hW; go_simp) <;> with_reducible rfl)
  simp only [Act.put, List.getElem_toArray, List.getElem_cons_zero, List.setIfInBounds_toArray, List.set_cons_zero, List.set_cons_succ]
  refine wpAnyH_take (i := 1) (v := ?_) rfl (by kernel_rfl) (by kernel_rfl) (by kernel_rfl) (fun _ _ _ h => h) (Or.inl ⟨by rfl, ?_⟩) hH ?_
  rotate_left
  · ((intro W hW; clear hW; go_simp) <;> with_reducible rfl)
  simp only [sq3, sq4]
  refine wpAnyH_take (i := 2) (v := ?_) rfl (by kernel_rfl) (by kernel_rfl) (by kernel_rfl) (fun _ _ _ h => h) (Or.inl ⟨by rfl, ?_⟩) hH ?_
  rotate_left
  · ((intro W hW; have hk := cell_lit (hW.1) 0 _ rfl; clear hW; go_simp) <;> with_reducible rfl)
  simp only [sq3, sq4]
  refine wpAnyH_take (i := 3) (v := ?_) rfl (by kernel_rfl) (by kernel_rfl) (by kernel_rfl) (fun _ _ _ h => h) (Or.inl ⟨by rfl, ?_⟩) hH ?_
  rotate_left
  · ((intro W hW; clear hW; go_simp) <;> with_reducible rfl)
  simp only [sq3, sq4]
  refine wpAnyH_take (i := 4) (v := ?_) rfl (by kernel_rfl) (by kernel_rfl) (by kernel_rfl) (fun _ _ _ h => h) (Or.inl ⟨by rfl, ?_⟩) hH ?_
  rotate_left
  · ((intro W hW; have hk := cell_lit (hW.2) 0 _ rfl; clear hW; go_simp) <;> with_reducible rfl)
  simp only [sq3, sq4]
  obtain ⟨A11, c11, r11, f11, u11⟩ := piece_back lb (k := 12) (by have := HN12.out; omega)
  replace r11 : ∀ W, (Instr.slice 36 (.slice (some ⟨gB, oB, none⟩) n c) (some (.int .i64 12)) none none).run Tryz.prog W = .ok (.slice A11 (n - 12) c11) W := r11
  have bk := f11 _ lb
  have av_bk_iB := av_lb_iB.sub u11
  have av_bk_eB := av_lb_eB.sub u11
  have av_bk_rB := av_lb_rB.sub u11
  have av_bk_aB := av_lb_aB.sub u11
  clear f11 u11
  have HB4 := bk.take (k := 4) (by have := HN12.out; omega)
  rw [HY.out] at HB4
  refine wpAnyH_take (i := 5) (v := ?_) rfl (by kernel_rfl) (by kernel_rfl) (by kernel_rfl) (fun _ _ _ h => h) (Or.inl ⟨by rfl, ?_⟩) hH ?_
  rotate_left
  · ((intro W hW; clear hW; go_simp) <;> with_reducible rfl)
  simp only [sq3, sq4]
  refine wpAnyH_ready (rs := [6]) (by kernel_rfl) (by simp) ?_
  refine AllReadyH.cons (o := _) rfl (fun K hK => ?_) AllReadyH.nil
  simp only [sq3]
  rw [if_pos (by rfl)]
  refine wp_copy_min (.tmp 6) (.tmp 11) 36 36 rfl 5 Tryz.underlying36 (by kernel_rfl) g5 0 4 4 (n - 12) c11 4 A11 [y0, y1, y2, y3] [.int .u8 0, .int .u8 0, .int .u8 0, .int .u8 0] [.int .u8 (y0.toNat : Int), .int .u8 (y1.toNat : Int), .int .u8 (y2.toNat : Int), .int .u8 (y3.toNat : Int)] 35 rfl rfl haB (by simp) HB4 (by have := HN12.out; show 4 = min (n - 12) 4; omega) (by decide) rfl ?_
  intro w6 hq gr_
  clear HB4
  clear bk
  replace lb := lb.away av_lb_aB gr_
  replace hiB := blk_a hiB gr_ d_iB_aB
  replace heB := blk_a heB gr_ d_eB_aB
  replace hrB := blk_a hrB gr_ d_rB_aB
  replace bel := below_grown bel gr_ oaB bel.size
  clear haB
  have haB := hq
  clear hq gr_
  refine hK.out _ _ ⟨hiB, heB⟩ (fun hH7 => ?_)
  clear hK K
  simp only [sq4]
  refine wpAnyH_done (by kernel_rfl) ?_ _
  have R13 := Lib.hid (range_lit haB 0 4 [.int .u8 (y0.toNat : Int), .int .u8 (y1.toNat : Int), .int .u8 (y2.toNat : Int), .int .u8 (y3.toNat : Int)] rfl)
  go_wp2_with (first | ((with_reducible show wpList _ _ _ (⟨some 13, _, _, _, _, _⟩ :: _) _ _); refine wpList_load_rng 35 (.tmp 5) rfl (by kernel_rfl) _ _ rfl _ R13.out _ Tryz.underlying35 rfl (by kernel_rfl) ?_) | ((with_reducible show wpList _ _ _ (⟨none, Op.store _ (.tmp 4) _, _, _, _, _⟩ :: _) _ _); refine wpList_store_blk rfl 35 (.tmp 4) (.tmp 13) rfl g4 rfl _ rfl _ 35 hrB (by rfl) (by kernel_rfl) (by kernel_rfl) ?_; intro w8 hq gr; replace lb := lb.away av_lb_rB gr; replace hiB := blk_a hiB gr d_iB_rB; replace heB := blk_a heB gr d_eB_rB; replace haB := blk_a haB gr (ne_symm d_rB_aB); replace bel := below_grown bel gr orB bel.size; clear hrB; have hrB := hq; clear hq gr))
  try clear R13
  exact bodyPost_ret (results_cell_row' rfl _ _ _ _ _ _ _ rfl hrB Tryz.underlying35 rfl (by kernel_rfl)) rfl ⟨rfl, bel⟩
theorem inport_any {x : UInt8} {at_ : Nat} {gB oB n c h : Nat} {l : List UInt8} (w : World) (lb : Sl w (some ⟨gB, oB, none⟩) n c l) (hx : l[9]? = some x) (h60 : h ≤ 60) (ha : (if x.toNat = 1 then h + 4 else h) = at_) : Calls Tryz.prog 132 #[.agg #[.slice (some ⟨gB, oB, none⟩) n c, .int .i64 (h : Int)], .agg #[.int .i64 12, .int .i64 0]] w fun e w' => e = .returned (.int .i64 (at_ : Int)) ∧ Below w.heap.size w w' := by
  by_cases h1 : x.toNat = 1
  · rw [if_pos h1] at ha
    subst ha
    refine (inport_i w lb hx h60 h1).mono ?_
    rintro e w' ⟨rfl, b⟩
    exact ⟨rfl, b⟩
  · rw [if_neg h1] at ha
    subst ha
    exact inport_o w lb hx h60 h1
set_option linter.unusedVariables false in
set_option linter.unusedVariables false in
set_option linter.unusedSimpArgs false in
set_option maxRecDepth 100000 in
set_option maxHeartbeats 16000000 in
theorem inflow_a {x y0 y1 y2 y3 c0 c1 c2 c3 : UInt8} {gB oB n c h : Nat} {l : List UInt8} (w : World) (lb : Sl w (some ⟨gB, oB, none⟩) n c l) (hx : l[9]? = some x) (hn : 16 ≤ n) (hy : (l.drop 12).take 4 = [y0, y1, y2, y3]) (hne : (⟨y0, y1, y2, y3⟩ : Ad4).eqB ⟨c0, c1, c2, c3⟩ = false) : Calls Tryz.prog 107 #[.agg #[.slice (some ⟨gB, oB, none⟩) n c, .int .i64 (h : Int)], .agg #[.int .i64 12, .int .i64 0], .agg #[.int .u8 (c0.toNat : Int), .int .u8 (c1.toNat : Int), .int .u8 (c2.toNat : Int), .int .u8 (c3.toNat : Int)]] w fun e w' => e = .returned (.tuple #[.agg #[.int .i64 0, .int .u8 0, .int .u8 0, .int .u8 0, .int .u8 0, .int .i64 0], .int .i64 11]) ∧ Below w.heap.size w w' := by
  have hab : ∀ W, (binOp .neq 35 (.agg #[.int .u8 (y0.toNat : Int), .int .u8 (y1.toNat : Int), .int .u8 (y2.toNat : Int), .int .u8 (y3.toNat : Int)]) (.agg #[.int .u8 (c0.toNat : Int), .int .u8 (c1.toNat : Int), .int .u8 (c2.toNat : Int), .int .u8 (c3.toNat : Int)])).run Tryz.prog W = .ok (.bool true) W := fun W => by have h_ := nea_b ⟨y0, y1, y2, y3⟩ ⟨c0, c1, c2, c3⟩ W; rw [hne] at h_; exact h_
  clear hne
  have HX := Lib.hid hx
  have HN16 := Lib.hid hn
  have HY := Lib.hid hy
  clear hx hn hy
  have bel := Below.refl w.heap.size w
  go_enter Tryz.func107, Tryz.ntmps107
  go_wp2_with (first | ((with_reducible show wpList _ _ _ (⟨some 3, _, _, _, _, _⟩ :: _) _ _); refine wpList_box_n rfl 160 (.tmp 0) rfl #[.slice (some ⟨gB, oB, none⟩) n c, .int .i64 (h : Int)] rfl ?_; intro g3 w1 ge lt hh bb; have av_lb_iB := lb.av_new ge; have oiB := Nat.le_trans bel.size ge; replace lb := lb.below bb; replace bel := bel.trans (bb.mono bel.size); have hiB := hh; clear hh lt ge bb) | ((with_reducible show wpList _ _ _ (⟨some 4, _, _, _, _, _⟩ :: _) _ _); refine wpList_box_n rfl 168 (.tmp 1) rfl #[.int .i64 12, .int .i64 0] rfl ?_; intro g4 w2 ge lt hh bb; have d_iB_eB := ne_new (hlt hiB) ge; have av_lb_eB := lb.av_new ge; have oeB := Nat.le_trans bel.size ge; replace hiB := blk_u hiB bb; replace lb := lb.below bb; replace bel := bel.trans (bb.mono bel.size); have heB := hh; clear hh lt ge bb) | ((with_reducible show wpList _ _ _ (⟨some 5, _, _, _, _, _⟩ :: _) _ _); refine wpList_box_n rfl 35 (.tmp 2) rfl #[.int .u8 (c0.toNat : Int), .int .u8 (c1.toNat : Int), .int .u8 (c2.toNat : Int), .int .u8 (c3.toNat : Int)] rfl ?_; intro g5 w3 ge lt hh bb; have d_iB_aB := ne_new (hlt hiB) ge; have d_eB_aB := ne_new (hlt heB) ge; have av_lb_aB := lb.av_new ge; have oaB := Nat.le_trans bel.size ge; replace hiB := blk_u hiB bb; replace heB := blk_u heB bb; replace lb := lb.below bb; replace bel := bel.trans (bb.mono bel.size); have haB := hh; clear hh lt ge bb) | ((with_reducible show wpList _ _ _ (⟨some 6, _, _, _, _, _⟩ :: _) _ _); refine wpList_new_a rfl 164 rfl #[.int .i64 0, .int .u8 0, .int .u8 0, .int .u8 0, .int .u8 0, .int .i64 0] (by kernel_rfl) ?_; intro g6 w4 ge hh bb; have d_iB_rB := ne_new (hlt hiB) ge; have d_eB_rB := ne_new (hlt heB) ge; have d_aB_rB := ne_new (hlt haB) ge; have av_lb_rB := lb.av_new ge; have orB := Nat.le_trans bel.size ge; replace hiB := blk_u hiB bb; replace heB := blk_u heB bb; replace haB := blk_u haB bb; replace lb := lb.below bb; replace bel := bel.trans (bb.mono bel.size); have hrB := hh; clear hh ge bb))
  replace bel := bel.drew
  replace hiB : w4.drew.heap[g3]? = _ := hiB
  replace heB : w4.drew.heap[g4]? = _ := heB
  replace haB : w4.drew.heap[g5]? = _ := haB
  replace hrB : w4.drew.heap[g6]? = _ := hrB
  replace lb := lb.drew
  refine wp_region_held_drew (S := fun W => W.heap[g3]? = some (.cells #[.slice (some ⟨gB, oB, none⟩) n c, .int .i64 (h : Int)] 160 (0, 0)) ∧ W.heap[g4]? = some (.cells #[.int .i64 12, .int .i64 0] 168 (0, 0)) ∧ W.heap[g5]? = some (.cells #[.int .u8 (c0.toNat : Int), .int .u8 (c1.toNat : Int), .int .u8 (c2.toNat : Int), .int .u8 (c3.toNat : Int)] 35 (0, 0))) (by kernel_rfl) ⟨hiB, heB, haB⟩ (fun hH => ?_)
  generalize w4.drew = w5 at bel hiB heB haB hrB lb hH ⊢
  refine wpAnyH_take (i := 0) (v := .agg #[.slice (some ⟨gB, oB, none⟩) n c, .int .i64 (h : Int)]) rfl (by kernel_rfl) (by kernel_rfl) (by kernel_rfl) (fun _ _ _ h => h) (yieldsIf_load_part (by kernel_rfl) 160 _ rfl g3 0 2 rfl _ 160 (0, 0) (fun W hW => hW.1) _ rfl _ Tryz.underlying160 rfl (by kernel_rfl)) hH ?_
  simp only [Act.put, List.getElem_toArray, List.getElem_cons_zero, List.setIfInBounds_toArray, List.set_cons_zero, List.set_cons_succ]
  refine wpAnyH_take (i := 1) (v := .agg #[.int .i64 12, .int .i64 0]) rfl (by kernel_rfl) (by kernel_rfl) (by kernel_rfl) (fun _ _ _ h => h) (yieldsIf_load_part (by kernel_rfl) 168 _ rfl g4 0 2 rfl _ 168 (0, 0) (fun W hW => hW.2.1) _ rfl _ Tryz.underlying168 rfl (by kernel_rfl)) hH ?_
  simp only [sq3, sq4]
  refine wpAnyH_take (i := 3) (v := .agg #[.int .u8 (c0.toNat : Int), .int .u8 (c1.toNat : Int), .int .u8 (c2.toNat : Int), .int .u8 (c3.toNat : Int)]) rfl (by kernel_rfl) (by kernel_rfl) (by kernel_rfl) (fun _ _ _ h => h) (yieldsIf_load_part (by kernel_rfl) 35 _ rfl g5 0 4 rfl _ 35 (0, 0) (fun W hW => hW.2.2) _ rfl _ Tryz.underlying35 rfl (by kernel_rfl)) hH ?_
  simp only [sq3, sq4]
  refine wpAnyH_ready (rs := [2]) (by kernel_rfl) (by simp) ?_
  refine AllReadyH.cons (o := _) rfl (fun K hK => ?_) AllReadyH.nil
  simp only [sq3]
  go_simp
  with_reducible refine (inaddr _ lb HN16.out HY.out).mono ?_
  rintro e w6 ⟨rfl, b6⟩
  dsimp only
  replace hiB := blk_u hiB b6
  replace heB := blk_u heB b6
  replace haB := blk_u haB b6
  replace hrB := blk_u hrB b6
  replace lb := lb.below b6
  replace bel := bel.trans (b6.mono bel.size)
  clear b6
  refine hK.out _ _ ⟨hiB, heB, haB⟩ (fun hH7 => ?_)
  clear hK K
  refine wpAnyH_take (i := 4) (v := ?_) rfl (by kernel_rfl) (by kernel_rfl) (by kernel_rfl) (fun _ _ _ h => h) (Or.inl ⟨by rfl, ?_⟩) hH7 ?_
  rotate_left
  · ((intro W hW; clear hW; go_simp) <;> with_reducible rfl)
  simp only [sq3, sq4]
  refine wpAnyH_take (i := 5) (v := ?_) rfl (by kernel_rfl) (by kernel_rfl) (by kernel_rfl) (fun _ _ _ h => h) (Or.inl ⟨by rfl, ?_⟩) hH7 ?_
  rotate_left
  · ((intro W hW; clear hW; go_simp) <;> with_reducible rfl)
  simp only [sq3, sq4]
  refine wpAnyH_take (i := 6) (v := undef) rfl (by kernel_rfl) (by kernel_rfl) (by kernel_rfl) (fun _ _ _ h => h) (Or.inr ⟨by rfl, rfl⟩) hH7 ?_
  simp only [sq3, sq4]
  refine wpAnyH_take (i := 7) (v := undef) rfl (by kernel_rfl) (by kernel_rfl) (by kernel_rfl) (fun _ _ _ h => h) (Or.inr ⟨by rfl, rfl⟩) hH7 ?_
  simp only [sq3, sq4]
  refine wpAnyH_take (i := 8) (v := undef) rfl (by kernel_rfl) (by kernel_rfl) (by kernel_rfl) (fun _ _ _ h => h) (Or.inr ⟨by rfl, rfl⟩) hH7 ?_
  simp only [sq3, sq4]
  refine wpAnyH_take (i := 9) (v := undef) rfl (by kernel_rfl) (by kernel_rfl) (by kernel_rfl) (fun _ _ _ h => h) (Or.inr ⟨by rfl, rfl⟩) hH7 ?_
  simp only [sq3, sq4]
  refine wpAnyH_take (i := 10) (v := ?_) rfl (by kernel_rfl) (by kernel_rfl) (by kernel_rfl) (fun _ _ _ h => h) (Or.inl ⟨by rfl, ?_⟩) hH7 ?_
  rotate_left
  · ((intro W hW; clear hW; go_simp) <;> with_reducible rfl)
  simp only [sq3, sq4]
  refine wpAnyH_done (by kernel_rfl) ?_ _
  go_wp2_with (first | ((with_reducible show wpList _ _ _ (⟨none, Op.store _ (.tmp 6) _, _, _, _, _⟩ :: _) _ _); refine wpList_store_blk rfl 164 (.tmp 6) (.tmp 21) rfl g6 rfl _ rfl _ 164 hrB (by rfl) (by kernel_rfl) (by kernel_rfl) ?_; intro w8 hq gr; replace lb := lb.away av_lb_rB gr; replace hiB := blk_a hiB gr d_iB_rB; replace heB := blk_a heB gr d_eB_rB; replace haB := blk_a haB gr d_aB_rB; replace bel := below_grown bel gr orB bel.size; clear hrB; have hrB := hq; clear hq gr))
  exact bodyPost_ret (results_cell_tmp_row rfl _ _ _ _ _ _ _ rfl hrB Tryz.underlying164 rfl (by kernel_rfl) (.int .i64 11) rfl) rfl ⟨rfl, bel⟩
set_option linter.unusedVariables false in
set_option linter.unusedVariables false in
set_option linter.unusedSimpArgs false in
set_option maxRecDepth 100000 in
set_option maxHeartbeats 16000000 in
theorem inflow_b {x y0 y1 y2 y3 : UInt8} {gB oB n c h : Nat} {l : List UInt8} (w : World) (lb : Sl w (some ⟨gB, oB, none⟩) n c l) (hx : l[9]? = some x) (hn : 16 ≤ n) (hy : (l.drop 12).take 4 = [y0, y1, y2, y3]) (hk : knB (x.toNat : Int) = false) : Calls Tryz.prog 107 #[.agg #[.slice (some ⟨gB, oB, none⟩) n c, .int .i64 (h : Int)], .agg #[.int .i64 12, .int .i64 0], .agg #[.int .u8 (y0.toNat : Int), .int .u8 (y1.toNat : Int), .int .u8 (y2.toNat : Int), .int .u8 (y3.toNat : Int)]] w fun e w' => e = .returned (.tuple #[.agg #[.int .i64 0, .int .u8 0, .int .u8 0, .int .u8 0, .int .u8 0, .int .i64 0], .int .i64 11]) ∧ Below w.heap.size w w' := by
  have hab : ∀ W, (binOp .neq 35 (.agg #[.int .u8 (y0.toNat : Int), .int .u8 (y1.toNat : Int), .int .u8 (y2.toNat : Int), .int .u8 (y3.toNat : Int)]) (.agg #[.int .u8 (y0.toNat : Int), .int .u8 (y1.toNat : Int), .int .u8 (y2.toNat : Int), .int .u8 (y3.toNat : Int)])).run Tryz.prog W = .ok (.bool false) W := fun W => by have h_ := nea_b ⟨y0, y1, y2, y3⟩ ⟨y0, y1, y2, y3⟩ W; rw [Ad4.eqB_self] at h_; exact h_
  have HX := Lib.hid hx
  have HN16 := Lib.hid hn
  have HY := Lib.hid hy
  clear hx hn hy
  have HK := Lib.hid hk
  clear hk
  have bel := Below.refl w.heap.size w
  go_enter Tryz.func107, Tryz.ntmps107
  go_wp2_with (first | ((with_reducible show wpList _ _ _ (⟨some 3, _, _, _, _, _⟩ :: _) _ _); refine wpList_box_n rfl 160 (.tmp 0) rfl #[.slice (some ⟨gB, oB, none⟩) n c, .int .i64 (h : Int)] rfl ?_; intro g3 w1 ge lt hh bb; have av_lb_iB := lb.av_new ge; have oiB := Nat.le_trans bel.size ge; replace lb := lb.below bb; replace bel := bel.trans (bb.mono bel.size); have hiB := hh; clear hh lt ge bb) | ((with_reducible show wpList _ _ _ (⟨some 4, _, _, _, _, _⟩ :: _) _ _); refine wpList_box_n rfl 168 (.tmp 1) rfl #[.int .i64 12, .int .i64 0] rfl ?_; intro g4 w2 ge lt hh bb; have d_iB_eB := ne_new (hlt hiB) ge; have av_lb_eB := lb.av_new ge; have oeB := Nat.le_trans bel.size ge; replace hiB := blk_u hiB bb; replace lb := lb.below bb; replace bel := bel.trans (bb.mono bel.size); have heB := hh; clear hh lt ge bb) | ((with_reducible show wpList _ _ _ (⟨some 5, _, _, _, _, _⟩ :: _) _ _); refine wpList_box_n rfl 35 (.tmp 2) rfl #[.int .u8 (y0.toNat : Int), .int .u8 (y1.toNat : Int), .int .u8 (y2.toNat : Int), .int .u8 (y3.toNat : Int)] rfl ?_; intro g5 w3 ge lt hh bb; have d_iB_aB := ne_new (hlt hiB) ge; have d_eB_aB := ne_new (hlt heB) ge; have av_lb_aB := lb.av_new ge; have oaB := Nat.le_trans bel.size ge; replace hiB := blk_u hiB bb; replace heB := blk_u heB bb; replace lb := lb.below bb; replace bel := bel.trans (bb.mono bel.size); have haB := hh; clear hh lt ge bb) | ((with_reducible show wpList _ _ _ (⟨some 6, _, _, _, _, _⟩ :: _) _ _); refine wpList_new_a rfl 164 rfl #[.int .i64 0, .int .u8 0, .int .u8 0, .int .u8 0, .int .u8 0, .int .i64 0] (by kernel_rfl) ?_; intro g6 w4 ge hh bb; have d_iB_rB := ne_new (hlt hiB) ge; have d_eB_rB := ne_new (hlt heB) ge; have d_aB_rB := ne_new (hlt haB) ge; have av_lb_rB := lb.av_new ge; have orB := Nat.le_trans bel.size ge; replace hiB := blk_u hiB bb; replace heB := blk_u heB bb; replace haB := blk_u haB bb; replace lb := lb.below bb; replace bel := bel.trans (bb.mono bel.size); have hrB := hh; clear hh ge bb))
  replace bel := bel.drew
  replace hiB : w4.drew.heap[g3]? = _ := hiB
  replace heB : w4.drew.heap[g4]? = _ := heB
  replace haB : w4.drew.heap[g5]? = _ := haB
  replace hrB : w4.drew.heap[g6]? = _ := hrB
  replace lb := lb.drew
  refine wp_region_held_drew (S := fun W => W.heap[g3]? = some (.cells #[.slice (some ⟨gB, oB, none⟩) n c, .int .i64 (h : Int)] 160 (0, 0)) ∧ W.heap[g4]? = some (.cells #[.int .i64 12, .int .i64 0] 168 (0, 0)) ∧ W.heap[g5]? = some (.cells #[.int .u8 (y0.toNat : Int), .int .u8 (y1.toNat : Int), .int .u8 (y2.toNat : Int), .int .u8 (y3.toNat : Int)] 35 (0, 0))) (by kernel_rfl) ⟨hiB, heB, haB⟩ (fun hH => ?_)
  generalize w4.drew = w5 at bel hiB heB haB hrB lb hH ⊢
  refine wpAnyH_take (i := 0) (v := .agg #[.slice (some ⟨gB, oB, none⟩) n c, .int .i64 (h : Int)]) rfl (by kernel_rfl) (by kernel_rfl) (by kernel_rfl) (fun _ _ _ h => h) (yieldsIf_load_part (by kernel_rfl) 160 _ rfl g3 0 2 rfl _ 160 (0, 0) (fun W hW => hW.1) _ rfl _ Tryz.underlying160 rfl (by kernel_rfl)) hH ?_
  simp only [Act.put, List.getElem_toArray, List.getElem_cons_zero, List.setIfInBounds_toArray, List.set_cons_zero, List.set_cons_succ]
  refine wpAnyH_take (i := 1) (v := .agg #[.int .i64 12, .int .i64 0]) rfl (by kernel_rfl) (by kernel_rfl) (by kernel_rfl) (fun _ _ _ h => h) (yieldsIf_load_part (by kernel_rfl) 168 _ rfl g4 0 2 rfl _ 168 (0, 0) (fun W hW => hW.2.1) _ rfl _ Tryz.underlying168 rfl (by kernel_rfl)) hH ?_
  simp only [sq3, sq4]
  refine wpAnyH_take (i := 3) (v := .agg #[.int .u8 (y0.toNat : Int), .int .u8 (y1.toNat : Int), .int .u8 (y2.toNat : Int), .int .u8 (y3.toNat : Int)]) rfl (by kernel_rfl) (by kernel_rfl) (by kernel_rfl) (fun _ _ _ h => h) (yieldsIf_load_part (by kernel_rfl) 35 _ rfl g5 0 4 rfl _ 35 (0, 0) (fun W hW => hW.2.2) _ rfl _ Tryz.underlying35 rfl (by kernel_rfl)) hH ?_
  simp only [sq3, sq4]
  refine wpAnyH_ready (rs := [2]) (by kernel_rfl) (by simp) ?_
  refine AllReadyH.cons (o := _) rfl (fun K hK => ?_) AllReadyH.nil
  simp only [sq3]
  go_simp
  with_reducible refine (inaddr _ lb HN16.out HY.out).mono ?_
  rintro e w6 ⟨rfl, b6⟩
  dsimp only
  replace hiB := blk_u hiB b6
  replace heB := blk_u heB b6
  replace haB := blk_u haB b6
  replace hrB := blk_u hrB b6
  replace lb := lb.below b6
  replace bel := bel.trans (b6.mono bel.size)
  clear b6
  refine hK.out _ _ ⟨hiB, heB, haB⟩ (fun hH7 => ?_)
  clear hK K
  refine wpAnyH_take (i := 4) (v := ?_) rfl (by kernel_rfl) (by kernel_rfl) (by kernel_rfl) (fun _ _ _ h => h) (Or.inl ⟨by rfl, ?_⟩) hH7 ?_
  rotate_left
  · ((intro W hW; clear hW; go_simp) <;> with_reducible rfl)
  simp only [sq3, sq4]
  refine wpAnyH_take (i := 5) (v := ?_) rfl (by kernel_rfl) (by kernel_rfl) (by kernel_rfl) (fun _ _ _ h => h) (Or.inl ⟨by rfl, ?_⟩) hH7 ?_
  rotate_left
  · ((intro W hW; clear hW; go_simp) <;> with_reducible rfl)
  simp only [sq3, sq4]
  refine wpAnyH_take (i := 6) (v := .agg #[.slice (some ⟨gB, oB, none⟩) n c, .int .i64 (h : Int)]) rfl (by kernel_rfl) (by kernel_rfl) (by kernel_rfl) (fun _ _ _ h => h) (yieldsIf_load_part (by kernel_rfl) 160 _ rfl g3 0 2 rfl _ 160 (0, 0) (fun W hW => hW.1) _ rfl _ Tryz.underlying160 rfl (by kernel_rfl)) hH7 ?_
  simp only [sq3, sq4]
  refine wpAnyH_ready (rs := [7]) (by kernel_rfl) (by simp) ?_
  refine AllReadyH.cons (o := _) rfl (fun K hK => ?_) AllReadyH.nil
  simp only [sq3]
  go_simp
  with_reducible refine (inproto _ lb HX.out).mono ?_
  rintro e w8 ⟨rfl, b8⟩
  dsimp only
  replace hiB := blk_u hiB b8
  replace heB := blk_u heB b8
  replace haB := blk_u haB b8
  replace hrB := blk_u hrB b8
  replace lb := lb.below b8
  replace bel := bel.trans (b8.mono bel.size)
  clear b8
  refine hK.out _ _ ⟨hiB, heB, haB⟩ (fun hH9 => ?_)
  clear hK K
  refine wpAnyH_ready (rs := [8]) (by kernel_rfl) (by simp) ?_
  refine AllReadyH.cons (o := _) rfl (fun K hK => ?_) AllReadyH.nil
  simp only [sq3]
  go_simp
  with_reducible refine (iskn_any _ _).mono ?_
  rintro e _ ⟨rfl, rfl⟩
  dsimp only
  rw [HK.out]
  refine hK.out _ _ ⟨hiB, heB, haB⟩ (fun hH10 => ?_)
  clear hK K
  refine wpAnyH_take (i := 9) (v := ?_) rfl (by kernel_rfl) (by kernel_rfl) (by kernel_rfl) (fun _ _ _ h => h) (Or.inl ⟨by rfl, ?_⟩) hH10 ?_
  rotate_left
  · ((intro W hW; clear hW; go_simp) <;> with_reducible rfl)
  simp only [sq3, sq4]
  refine wpAnyH_take (i := 10) (v := ?_) rfl (by kernel_rfl) (by kernel_rfl) (by kernel_rfl) (fun _ _ _ h => h) (Or.inl ⟨by rfl, ?_⟩) hH10 ?_
  rotate_left
  · ((intro W hW; clear hW; go_simp) <;> with_reducible rfl)
  simp only [sq3, sq4]
  refine wpAnyH_done (by kernel_rfl) ?_ _
  go_wp2_with (first | ((with_reducible show wpList _ _ _ (⟨none, Op.store _ (.tmp 6) _, _, _, _, _⟩ :: _) _ _); refine wpList_store_blk rfl 164 (.tmp 6) (.tmp 21) rfl g6 rfl _ rfl _ 164 hrB (by rfl) (by kernel_rfl) (by kernel_rfl) ?_; intro w11 hq gr; replace lb := lb.away av_lb_rB gr; replace hiB := blk_a hiB gr d_iB_rB; replace heB := blk_a heB gr d_eB_rB; replace haB := blk_a haB gr d_aB_rB; replace bel := below_grown bel gr orB bel.size; clear hrB; have hrB := hq; clear hq gr))
  exact bodyPost_ret (results_cell_tmp_row rfl _ _ _ _ _ _ _ rfl hrB Tryz.underlying164 rfl (by kernel_rfl) (.int .i64 11) rfl) rfl ⟨rfl, bel⟩
set_option linter.unusedVariables false in
set_option linter.unusedVariables false in
set_option linter.unusedSimpArgs false in
set_option maxRecDepth 100000 in
set_option maxHeartbeats 16000000 in
theorem inflow_c {x y0 y1 y2 y3 : UInt8} {gB oB n c h at_ : Nat} {l : List UInt8} (w : World) (lb : Sl w (some ⟨gB, oB, none⟩) n c l) (hx : l[9]? = some x) (hn : 16 ≤ n) (hy : (l.drop 12).take 4 = [y0, y1, y2, y3]) (hk : knB (x.toNat : Int) = true) (h60 : h ≤ 60) (ha : (if x.toNat = 1 then h + 4 else h) = at_) (hs : n < at_ + 2) : Calls Tryz.prog 107 #[.agg #[.slice (some ⟨gB, oB, none⟩) n c, .int .i64 (h : Int)], .agg #[.int .i64 12, .int .i64 0], .agg #[.int .u8 (y0.toNat : Int), .int .u8 (y1.toNat : Int), .int .u8 (y2.toNat : Int), .int .u8 (y3.toNat : Int)]] w fun e w' => e = .returned (.tuple #[.agg #[.int .i64 0, .int .u8 0, .int .u8 0, .int .u8 0, .int .u8 0, .int .i64 0], .int .i64 4]) ∧ Below w.heap.size w w' := by
  have hab : ∀ W, (binOp .neq 35 (.agg #[.int .u8 (y0.toNat : Int), .int .u8 (y1.toNat : Int), .int .u8 (y2.toNat : Int), .int .u8 (y3.toNat : Int)]) (.agg #[.int .u8 (y0.toNat : Int), .int .u8 (y1.toNat : Int), .int .u8 (y2.toNat : Int), .int .u8 (y3.toNat : Int)])).run Tryz.prog W = .ok (.bool false) W := fun W => by have h_ := nea_b ⟨y0, y1, y2, y3⟩ ⟨y0, y1, y2, y3⟩ W; rw [Ad4.eqB_self] at h_; exact h_
  have HX := Lib.hid hx
  have HN16 := Lib.hid hn
  have HY := Lib.hid hy
  clear hx hn hy
  have HK := Lib.hid hk
  clear hk
  have H60 := Lib.hid h60
  have HAT := Lib.hid ha
  have a64 : (at_ : Int) ≤ 64 := by rw [← ha]; split <;> omega
  have a0 : (0 : Int) ≤ at_ := by omega
  have ew2 : IntKind.i64.wrap ((at_ : Int) + 2) = (at_ : Int) + 2 := IntWalk.i64_in _ (by omega)
  have t3 : (n : Int) < (at_ : Int) + 2 := by omega
  clear hs h60 ha
  have bel := Below.refl w.heap.size w
  go_enter Tryz.func107, Tryz.ntmps107
  go_wp2_with (first | ((with_reducible show wpList _ _ _ (⟨some 3, _, _, _, _, _⟩ :: _) _ _); refine wpList_box_n rfl 160 (.tmp 0) rfl #[.slice (some ⟨gB, oB, none⟩) n c, .int .i64 (h : Int)] rfl ?_; intro g3 w1 ge lt hh bb; have av_lb_iB := lb.av_new ge; have oiB := Nat.le_trans bel.size ge; replace lb := lb.below bb; replace bel := bel.trans (bb.mono bel.size); have hiB := hh; clear hh lt ge bb) | ((with_reducible show wpList _ _ _ (⟨some 4, _, _, _, _, _⟩ :: _) _ _); refine wpList_box_n rfl 168 (.tmp 1) rfl #[.int .i64 12, .int .i64 0] rfl ?_; intro g4 w2 ge lt hh bb; have d_iB_eB := ne_new (hlt hiB) ge; have av_lb_eB := lb.av_new ge; have oeB := Nat.le_trans bel.size ge; replace hiB := blk_u hiB bb; replace lb := lb.below bb; replace bel := bel.trans (bb.mono bel.size); have heB := hh; clear hh lt ge bb) | ((with_reducible show wpList _ _ _ (⟨some 5, _, _, _, _, _⟩ :: _) _ _); refine wpList_box_n rfl 35 (.tmp 2) rfl #[.int .u8 (y0.toNat : Int), .int .u8 (y1.toNat : Int), .int .u8 (y2.toNat : Int), .int .u8 (y3.toNat : Int)] rfl ?_; intro g5 w3 ge lt hh bb; have d_iB_aB := ne_new (hlt hiB) ge; have d_eB_aB := ne_new (hlt heB) ge; have av_lb_aB := lb.av_new ge; have oaB := Nat.le_trans bel.size ge; replace hiB := blk_u hiB bb; replace heB := blk_u heB bb; replace lb := lb.below bb; replace bel := bel.trans (bb.mono bel.size); have haB := hh; clear hh lt ge bb) | ((with_reducible show wpList _ _ _ (⟨some 6, _, _, _, _, _⟩ :: _) _ _); refine wpList_new_a rfl 164 rfl #[.int .i64 0, .int .u8 0, .int .u8 0, .int .u8 0, .int .u8 0, .int .i64 0] (by kernel_rfl) ?_; intro g6 w4 ge hh bb; have d_iB_rB := ne_new (hlt hiB) ge; have d_eB_rB := ne_new (hlt heB) ge; have d_aB_rB := ne_new (hlt haB) ge; have av_lb_rB := lb.av_new ge; have orB := Nat.le_trans bel.size ge; replace hiB := blk_u hiB bb; replace heB := blk_u heB bb; replace haB := blk_u haB bb; replace lb := lb.below bb; replace bel := bel.trans (bb.mono bel.size); have hrB := hh; clear hh ge bb))
  replace bel := bel.drew
  replace hiB : w4.drew.heap[g3]? = _ := hiB
  replace heB : w4.drew.heap[g4]? = _ := heB
  replace haB : w4.drew.heap[g5]? = _ := haB
  replace hrB : w4.drew.heap[g6]? = _ := hrB
  replace lb := lb.drew
  refine wp_region_held_drew (S := fun W => W.heap[g3]? = some (.cells #[.slice (some ⟨gB, oB, none⟩) n c, .int .i64 (h : Int)] 160 (0, 0)) ∧ W.heap[g4]? = some (.cells #[.int .i64 12, .int .i64 0] 168 (0, 0)) ∧ W.heap[g5]? = some (.cells #[.int .u8 (y0.toNat : Int), .int .u8 (y1.toNat : Int), .int .u8 (y2.toNat : Int), .int .u8 (y3.toNat : Int)] 35 (0, 0))) (by kernel_rfl) ⟨hiB, heB, haB⟩ (fun hH => ?_)
  generalize w4.drew = w5 at bel hiB heB haB hrB lb hH ⊢
  refine wpAnyH_take (i := 0) (v := .agg #[.slice (some ⟨gB, oB, none⟩) n c, .int .i64 (h : Int)]) rfl (by kernel_rfl) (by kernel_rfl) (by kernel_rfl) (fun _ _ _ h => h) (yieldsIf_load_part (by kernel_rfl) 160 _ rfl g3 0 2 rfl _ 160 (0, 0) (fun W hW => hW.1) _ rfl _ Tryz.underlying160 rfl (by kernel_rfl)) hH ?_
  simp only [Act.put, List.getElem_toArray, List.getElem_cons_zero, List.setIfInBounds_toArray, List.set_cons_zero, List.set_cons_succ]
  refine wpAnyH_take (i := 1) (v := .agg #[.int .i64 12, .int .i64 0]) rfl (by kernel_rfl) (by kernel_rfl) (by kernel_rfl) (fun _ _ _ h => h) (yieldsIf_load_part (by kernel_rfl) 168 _ rfl g4 0 2 rfl _ 168 (0, 0) (fun W hW => hW.2.1) _ rfl _ Tryz.underlying168 rfl (by kernel_rfl)) hH ?_
  simp only [sq3, sq4]
  refine wpAnyH_take (i := 3) (v := .agg #[.int .u8 (y0.toNat : Int), .int .u8 (y1.toNat : Int), .int .u8 (y2.toNat : Int), .int .u8 (y3.toNat : Int)]) rfl (by kernel_rfl) (by kernel_rfl) (by kernel_rfl) (fun _ _ _ h => h) (yieldsIf_load_part (by kernel_rfl) 35 _ rfl g5 0 4 rfl _ 35 (0, 0) (fun W hW => hW.2.2) _ rfl _ Tryz.underlying35 rfl (by kernel_rfl)) hH ?_
  simp only [sq3, sq4]
  refine wpAnyH_ready (rs := [2]) (by kernel_rfl) (by simp) ?_
  refine AllReadyH.cons (o := _) rfl (fun K hK => ?_) AllReadyH.nil
  simp only [sq3]
  go_simp
  with_reducible refine (inaddr _ lb HN16.out HY.out).mono ?_
  rintro e w6 ⟨rfl, b6⟩
  dsimp only
  replace hiB := blk_u hiB b6
  replace heB := blk_u heB b6
  replace haB := blk_u haB b6
  replace hrB := blk_u hrB b6
  replace lb := lb.below b6
  replace bel := bel.trans (b6.mono bel.size)
  clear b6
  refine hK.out _ _ ⟨hiB, heB, haB⟩ (fun hH7 => ?_)
  clear hK K
  refine wpAnyH_take (i := 4) (v := ?_) rfl (by kernel_rfl) (by kernel_rfl) (by kernel_rfl) (fun _ _ _ h => h) (Or.inl ⟨by rfl, ?_⟩) hH7 ?_
  rotate_left
  · ((intro W hW; clear hW; go_simp) <;> with_reducible rfl)
  simp only [sq3, sq4]
  refine wpAnyH_take (i := 5) (v := ?_) rfl (by kernel_rfl) (by kernel_rfl) (by kernel_rfl) (fun _ _ _ h => h) (Or.inl ⟨by rfl, ?_⟩) hH7 ?_
  rotate_left
  · ((intro W hW; clear hW; go_simp) <;> with_reducible rfl)
  simp only [sq3, sq4]
  refine wpAnyH_take (i := 6) (v := .agg #[.slice (some ⟨gB, oB, none⟩) n c, .int .i64 (h : Int)]) rfl (by kernel_rfl) (by kernel_rfl) (by kernel_rfl) (fun _ _ _ h => h) (yieldsIf_load_part (by kernel_rfl) 160 _ rfl g3 0 2 rfl _ 160 (0, 0) (fun W hW => hW.1) _ rfl _ Tryz.underlying160 rfl (by kernel_rfl)) hH7 ?_
  simp only [sq3, sq4]
  refine wpAnyH_ready (rs := [7]) (by kernel_rfl) (by simp) ?_
  refine AllReadyH.cons (o := _) rfl (fun K hK => ?_) AllReadyH.nil
  simp only [sq3]
  go_simp
  with_reducible refine (inproto _ lb HX.out).mono ?_
  rintro e w8 ⟨rfl, b8⟩
  dsimp only
  replace hiB := blk_u hiB b8
  replace heB := blk_u heB b8
  replace haB := blk_u haB b8
  replace hrB := blk_u hrB b8
  replace lb := lb.below b8
  replace bel := bel.trans (b8.mono bel.size)
  clear b8
  refine hK.out _ _ ⟨hiB, heB, haB⟩ (fun hH9 => ?_)
  clear hK K
  refine wpAnyH_ready (rs := [8]) (by kernel_rfl) (by simp) ?_
  refine AllReadyH.cons (o := _) rfl (fun K hK => ?_) AllReadyH.nil
  simp only [sq3]
  go_simp
  with_reducible refine (iskn_any _ _).mono ?_
  rintro e _ ⟨rfl, rfl⟩
  dsimp only
  rw [HK.out]
  refine hK.out _ _ ⟨hiB, heB, haB⟩ (fun hH10 => ?_)
  clear hK K
  refine wpAnyH_take (i := 9) (v := ?_) rfl (by kernel_rfl) (by kernel_rfl) (by kernel_rfl) (fun _ _ _ h => h) (Or.inl ⟨by rfl, ?_⟩) hH10 ?_
  rotate_left
  · ((intro W hW; clear hW; go_simp) <;> with_reducible rfl)
  simp only [sq3, sq4]
  refine wpAnyH_take (i := 10) (v := ?_) rfl (by kernel_rfl) (by kernel_rfl) (by kernel_rfl) (fun _ _ _ h => h) (Or.inl ⟨by rfl, ?_⟩) hH10 ?_
  rotate_left
  · ((intro W hW; clear hW; go_simp) <;> with_reducible rfl)
  simp only [sq3, sq4]
  refine wpAnyH_done (by kernel_rfl) ?_ _
  have R22 := Lib.hid (range_lit hiB 0 2 [.slice (some ⟨gB, oB, none⟩) n c, .int .i64 (h : Int)] rfl)
  go_wp2_with (first | ((with_reducible show wpList _ _ _ (⟨some 22, _, _, _, _, _⟩ :: _) _ _); refine wpList_load_rng 160 (.tmp 3) rfl (by kernel_rfl) _ _ rfl _ R22.out _ Tryz.underlying160 rfl (by kernel_rfl) ?_; have R23 := Lib.hid (range_lit heB 0 2 [.int .i64 12, .int .i64 0] rfl)) | ((with_reducible show wpList _ _ _ (⟨some 23, _, _, _, _, _⟩ :: _) _ _); refine wpList_load_rng 168 (.tmp 4) rfl (by kernel_rfl) _ _ rfl _ R23.out _ Tryz.underlying168 rfl (by kernel_rfl) ?_))
  try clear R22
  try clear R23
  with_reducible refine (inport_any _ lb HX.out H60.out HAT.out).mono ?_
  rintro e w11 ⟨rfl, b11⟩
  replace hiB := blk_u hiB b11
  replace heB := blk_u heB b11
  replace haB := blk_u haB b11
  replace hrB := blk_u hrB b11
  replace lb := lb.below b11
  replace bel := bel.trans (b11.mono bel.size)
  clear b11
  have R26 := cell_lit hiB 0 _ rfl
  go_wp2_with (first | ((with_reducible show wpList _ _ _ (⟨none, Op.store _ (.tmp 6) _, _, _, _, _⟩ :: _) _ _); refine wpList_store_blk rfl 164 (.tmp 6) (.tmp 31) rfl g6 rfl _ rfl _ 164 hrB (by rfl) (by kernel_rfl) (by kernel_rfl) ?_; intro w12 hq gr; replace lb := lb.away av_lb_rB gr; replace hiB := blk_a hiB gr d_iB_rB; replace heB := blk_a heB gr d_eB_rB; replace haB := blk_a haB gr d_aB_rB; replace bel := below_grown bel gr orB bel.size; clear hrB; have hrB := hq; clear hq gr))
  try clear R26
  exact bodyPost_ret (results_cell_tmp_row rfl _ _ _ _ _ _ _ rfl hrB Tryz.underlying164 rfl (by kernel_rfl) (.int .i64 4) rfl) rfl ⟨rfl, bel⟩
set_option linter.unusedVariables false in
set_option linter.unusedVariables false in
set_option linter.unusedSimpArgs false in
set_option maxRecDepth 100000 in
set_option maxHeartbeats 16000000 in
theorem inflow_y {p0 p1 x y0 y1 y2 y3 : UInt8} {gB oB n c h at_ : Nat} {l : List UInt8} (w : World) (lb : Sl w (some ⟨gB, oB, none⟩) n c l) (hx : l[9]? = some x) (hn : 16 ≤ n) (hy : (l.drop 12).take 4 = [y0, y1, y2, y3]) (hk : knB (x.toNat : Int) = true) (h60 : h ≤ 60) (ha : (if x.toNat = 1 then h + 4 else h) = at_) (hs : at_ + 2 ≤ n) (hp : (l.drop at_).take 2 = [p0, p1]) : Calls Tryz.prog 107 #[.agg #[.slice (some ⟨gB, oB, none⟩) n c, .int .i64 (h : Int)], .agg #[.int .i64 12, .int .i64 0], .agg #[.int .u8 (y0.toNat : Int), .int .u8 (y1.toNat : Int), .int .u8 (y2.toNat : Int), .int .u8 (y3.toNat : Int)]] w fun e w' => e = .returned (.tuple #[.agg #[.int .i64 (x.toNat : Int), .int .u8 (y0.toNat : Int), .int .u8 (y1.toNat : Int), .int .u8 (y2.toNat : Int), .int .u8 (y3.toNat : Int), .int .i64 ((be [p0, p1] : Nat) : Int)], .int .i64 0]) ∧ Below w.heap.size w w' := by
  have hab : ∀ W, (binOp .neq 35 (.agg #[.int .u8 (y0.toNat : Int), .int .u8 (y1.toNat : Int), .int .u8 (y2.toNat : Int), .int .u8 (y3.toNat : Int)]) (.agg #[.int .u8 (y0.toNat : Int), .int .u8 (y1.toNat : Int), .int .u8 (y2.toNat : Int), .int .u8 (y3.toNat : Int)])).run Tryz.prog W = .ok (.bool false) W := fun W => by have h_ := nea_b ⟨y0, y1, y2, y3⟩ ⟨y0, y1, y2, y3⟩ W; rw [Ad4.eqB_self] at h_; exact h_
  have HX := Lib.hid hx
  have HN16 := Lib.hid hn
  have HY := Lib.hid hy
  clear hx hn hy
  have HK := Lib.hid hk
  clear hk
  have H60 := Lib.hid h60
  have HAT := Lib.hid ha
  have a64 : (at_ : Int) ≤ 64 := by rw [← ha]; split <;> omega
  have a0 : (0 : Int) ≤ at_ := by omega
  have ew2 : IntKind.i64.wrap ((at_ : Int) + 2) = (at_ : Int) + 2 := IntWalk.i64_in _ (by omega)
  have t3 : decide ((n : Int) < (at_ : Int) + 2) = false := decide_eq_false (by omega)
  have HS2 := Lib.hid hs
  have HP2 := Lib.hid hp
  clear hs h60 ha hp
  have bel := Below.refl w.heap.size w
  go_enter Tryz.func107, Tryz.ntmps107
  go_wp2_with (first | ((with_reducible show wpList _ _ _ (⟨some 3, _, _, _, _, _⟩ :: _) _ _); refine wpList_box_n rfl 160 (.tmp 0) rfl #[.slice (some ⟨gB, oB, none⟩) n c, .int .i64 (h : Int)] rfl ?_; intro g3 w1 ge lt hh bb; have av_lb_iB := lb.av_new ge; have oiB := Nat.le_trans bel.size ge; replace lb := lb.below bb; replace bel := bel.trans (bb.mono bel.size); have hiB := hh; clear hh lt ge bb) | ((with_reducible show wpList _ _ _ (⟨some 4, _, _, _, _, _⟩ :: _) _ _); refine wpList_box_n rfl 168 (.tmp 1) rfl #[.int .i64 12, .int .i64 0] rfl ?_; intro g4 w2 ge lt hh bb; have d_iB_eB := ne_new (hlt hiB) ge; have av_lb_eB := lb.av_new ge; have oeB := Nat.le_trans bel.size ge; replace hiB := blk_u hiB bb; replace lb := lb.below bb; replace bel := bel.trans (bb.mono bel.size); have heB := hh; clear hh lt ge bb) | ((with_reducible show wpList _ _ _ (⟨some 5, _, _, _, _, _⟩ :: _) _ _); refine wpList_box_n rfl 35 (.tmp 2) rfl #[.int .u8 (y0.toNat : Int), .int .u8 (y1.toNat : Int), .int .u8 (y2.toNat : Int), .int .u8 (y3.toNat : Int)] rfl ?_; intro g5 w3 ge lt hh bb; have d_iB_aB := ne_new (hlt hiB) ge; have d_eB_aB := ne_new (hlt heB) ge; have av_lb_aB := lb.av_new ge; have oaB := Nat.le_trans bel.size ge; replace hiB := blk_u hiB bb; replace heB := blk_u heB bb; replace lb := lb.below bb; replace bel := bel.trans (bb.mono bel.size); have haB := hh; clear hh lt ge bb) | ((with_reducible show wpList _ _ _ (⟨some 6, _, _, _, _, _⟩ :: _) _ _); refine wpList_new_a rfl 164 rfl #[.int .i64 0, .int .u8 0, .int .u8 0, .int .u8 0, .int .u8 0, .int .i64 0] (by kernel_rfl) ?_; intro g6 w4 ge hh bb; have d_iB_rB := ne_new (hlt hiB) ge; have d_eB_rB := ne_new (hlt heB) ge; have d_aB_rB := ne_new (hlt haB) ge; have av_lb_rB := lb.av_new ge; have orB := Nat.le_trans bel.size ge; replace hiB := blk_u hiB bb; replace heB := blk_u heB bb; replace haB := blk_u haB bb; replace lb := lb.below bb; replace bel := bel.trans (bb.mono bel.size); have hrB := hh; clear hh ge bb))
  replace bel := bel.drew
  replace hiB : w4.drew.heap[g3]? = _ := hiB
  replace heB : w4.drew.heap[g4]? = _ := heB
  replace haB : w4.drew.heap[g5]? = _ := haB
  replace hrB : w4.drew.heap[g6]? = _ := hrB
  replace lb := lb.drew
  refine wp_region_held_drew (S := fun W => W.heap[g3]? = some (.cells #[.slice (some ⟨gB, oB, none⟩) n c, .int .i64 (h : Int)] 160 (0, 0)) ∧ W.heap[g4]? = some (.cells #[.int .i64 12, .int .i64 0] 168 (0, 0)) ∧ W.heap[g5]? = some (.cells #[.int .u8 (y0.toNat : Int), .int .u8 (y1.toNat : Int), .int .u8 (y2.toNat : Int), .int .u8 (y3.toNat : Int)] 35 (0, 0))) (by kernel_rfl) ⟨hiB, heB, haB⟩ (fun hH => ?_)
  generalize w4.drew = w5 at bel hiB heB haB hrB lb hH ⊢
  refine wpAnyH_take (i := 0) (v := .agg #[.slice (some ⟨gB, oB, none⟩) n c, .int .i64 (h : Int)]) rfl (by kernel_rfl) (by kernel_rfl) (by kernel_rfl) (fun _ _ _ h => h) (yieldsIf_load_part (by kernel_rfl) 160 _ rfl g3 0 2 rfl _ 160 (0, 0) (fun W hW => hW.1) _ rfl _ Tryz.underlying160 rfl (by kernel_rfl)) hH ?_
  simp only [Act.put, List.getElem_toArray, List.getElem_cons_zero, List.setIfInBounds_toArray, List.set_cons_zero, List.set_cons_succ]
  refine wpAnyH_take (i := 1) (v := .agg #[.int .i64 12, .int .i64 0]) rfl (by kernel_rfl) (by kernel_rfl) (by kernel_rfl) (fun _ _ _ h => h) (yieldsIf_load_part (by kernel_rfl) 168 _ rfl g4 0 2 rfl _ 168 (0, 0) (fun W hW => hW.2.1) _ rfl _ Tryz.underlying168 rfl (by kernel_rfl)) hH ?_
  simp only [sq3, sq4]
  refine wpAnyH_take (i := 3) (v := .agg #[.int .u8 (y0.toNat : Int), .int .u8 (y1.toNat : Int), .int .u8 (y2.toNat : Int), .int .u8 (y3.toNat : Int)]) rfl (by kernel_rfl) (by kernel_rfl) (by kernel_rfl) (fun _ _ _ h => h) (yieldsIf_load_part (by kernel_rfl) 35 _ rfl g5 0 4 rfl _ 35 (0, 0) (fun W hW => hW.2.2) _ rfl _ Tryz.underlying35 rfl (by kernel_rfl)) hH ?_
  simp only [sq3, sq4]
  refine wpAnyH_ready (rs := [2]) (by kernel_rfl) (by simp) ?_
  refine AllReadyH.cons (o := _) rfl (fun K hK => ?_) AllReadyH.nil
  simp only [sq3]
  go_simp
  with_reducible refine (inaddr _ lb HN16.out HY.out).mono ?_
  rintro e w6 ⟨rfl, b6⟩
  dsimp only
  replace hiB := blk_u hiB b6
  replace heB := blk_u heB b6
  replace haB := blk_u haB b6
  replace hrB := blk_u hrB b6
  replace lb := lb.below b6
  replace bel := bel.trans (b6.mono bel.size)
  clear b6
  refine hK.out _ _ ⟨hiB, heB, haB⟩ (fun hH7 => ?_)
  clear hK K
  refine wpAnyH_take (i := 4) (v := ?_) rfl (by kernel_rfl) (by kernel_rfl) (by kernel_rfl) (fun _ _ _ h => h) (Or.inl ⟨by rfl, ?_⟩) hH7 ?_
  rotate_left
  · ((intro W hW; clear hW; go_simp) <;> with_reducible rfl)
  simp only [sq3, sq4]
  refine wpAnyH_take (i := 5) (v := ?_) rfl (by kernel_rfl) (by kernel_rfl) (by kernel_rfl) (fun _ _ _ h => h) (Or.inl ⟨by rfl, ?_⟩) hH7 ?_
  rotate_left
  · ((intro W hW; clear hW; go_simp) <;> with_reducible rfl)
  simp only [sq3, sq4]
  refine wpAnyH_take (i := 6) (v := .agg #[.slice (some ⟨gB, oB, none⟩) n c, .int .i64 (h : Int)]) rfl (by kernel_rfl) (by kernel_rfl) (by kernel_rfl) (fun _ _ _ h => h) (yieldsIf_load_part (by kernel_rfl) 160 _ rfl g3 0 2 rfl _ 160 (0, 0) (fun W hW => hW.1) _ rfl _ Tryz.underlying160 rfl (by kernel_rfl)) hH7 ?_
  simp only [sq3, sq4]
  refine wpAnyH_ready (rs := [7]) (by kernel_rfl) (by simp) ?_
  refine AllReadyH.cons (o := _) rfl (fun K hK => ?_) AllReadyH.nil
  simp only [sq3]
  go_simp
  with_reducible refine (inproto _ lb HX.out).mono ?_
  rintro e w8 ⟨rfl, b8⟩
  dsimp only
  replace hiB := blk_u hiB b8
  replace heB := blk_u heB b8
  replace haB := blk_u haB b8
  replace hrB := blk_u hrB b8
  replace lb := lb.below b8
  replace bel := bel.trans (b8.mono bel.size)
  clear b8
  refine hK.out _ _ ⟨hiB, heB, haB⟩ (fun hH9 => ?_)
  clear hK K
  refine wpAnyH_ready (rs := [8]) (by kernel_rfl) (by simp) ?_
  refine AllReadyH.cons (o := _) rfl (fun K hK => ?_) AllReadyH.nil
  simp only [sq3]
  go_simp
  with_reducible refine (iskn_any _ _).mono ?_
  rintro e _ ⟨rfl, rfl⟩
  dsimp only
  rw [HK.out]
  refine hK.out _ _ ⟨hiB, heB, haB⟩ (fun hH10 => ?_)
  clear hK K
  refine wpAnyH_take (i := 9) (v := ?_) rfl (by kernel_rfl) (by kernel_rfl) (by kernel_rfl) (fun _ _ _ h => h) (Or.inl ⟨by rfl, ?_⟩) hH10 ?_
  rotate_left
  · ((intro W hW; clear hW; go_simp) <;> with_reducible rfl)
  simp only [sq3, sq4]
  refine wpAnyH_take (i := 10) (v := ?_) rfl (by kernel_rfl) (by kernel_rfl) (by kernel_rfl) (fun _ _ _ h => h) (Or.inl ⟨by rfl, ?_⟩) hH10 ?_
  rotate_left
  · ((intro W hW; clear hW; go_simp) <;> with_reducible rfl)
  simp only [sq3, sq4]
  refine wpAnyH_done (by kernel_rfl) ?_ _
  have R22 := Lib.hid (range_lit hiB 0 2 [.slice (some ⟨gB, oB, none⟩) n c, .int .i64 (h : Int)] rfl)
  go_wp2_with (first | ((with_reducible show wpList _ _ _ (⟨some 22, _, _, _, _, _⟩ :: _) _ _); refine wpList_load_rng 160 (.tmp 3) rfl (by kernel_rfl) _ _ rfl _ R22.out _ Tryz.underlying160 rfl (by kernel_rfl) ?_; have R23 := Lib.hid (range_lit heB 0 2 [.int .i64 12, .int .i64 0] rfl)) | ((with_reducible show wpList _ _ _ (⟨some 23, _, _, _, _, _⟩ :: _) _ _); refine wpList_load_rng 168 (.tmp 4) rfl (by kernel_rfl) _ _ rfl _ R23.out _ Tryz.underlying168 rfl (by kernel_rfl) ?_))
  try clear R22
  try clear R23
  with_reducible refine (inport_any _ lb HX.out H60.out HAT.out).mono ?_
  rintro e w11 ⟨rfl, b11⟩
  replace hiB := blk_u hiB b11
  replace heB := blk_u heB b11
  replace haB := blk_u haB b11
  replace hrB := blk_u hrB b11
  replace lb := lb.below b11
  replace bel := bel.trans (b11.mono bel.size)
  clear b11
  have R26 := cell_lit hiB 0 _ rfl
  have R33 := cell_lit hiB 0 _ rfl
  obtain ⟨A37, c37, r37, f37, u37⟩ := piece_mid lb (p := at_) (k := 2) (by have := HS2.out; omega)
  replace r37 : ∀ W, (Instr.slice 36 (.slice (some ⟨gB, oB, none⟩) n c) (some (.int .i64 at_)) (some (.int .i64 ((at_ : Int) + 2))) none).run Tryz.prog W = .ok (.slice A37 2 c37) W := r37
  have mp : Sl w11 A37 2 c37 ([p0, p1]) := (by have h_ := f37 _ lb; rw [HP2.out] at h_; exact h_)
  have av_mp_iB := av_lb_iB.sub u37
  have av_mp_eB := av_lb_eB.sub u37
  have av_mp_aB := av_lb_aB.sub u37
  have av_mp_rB := av_lb_rB.sub u37
  clear f37 u37
  go_wp2_with fail
  clear R26 R33
  with_reducible refine (rd_read _ _ _ _ _ mp (by decide)).mono ?_
  rintro e w12 ⟨gr, Ar11, cr11, rfl, ge, hh, rest, frr, avr, b12⟩
  have av_rest_iB := frr.av (hlt hiB)
  have av_rest_eB := frr.av (hlt heB)
  have av_rest_aB := frr.av (hlt haB)
  have av_rest_rB := frr.av (hlt hrB)
  have d_iB_r := ne_new (hlt hiB) ge
  have d_eB_r := ne_new (hlt heB) ge
  have d_aB_r := ne_new (hlt haB) ge
  have d_rB_r := ne_new (hlt hrB) ge
  have av_lb_r := lb.av_new ge
  have av_mp_r := mp.av_new ge
  have or := Nat.le_trans bel.size ge
  replace hiB := blk_u hiB b12
  replace heB := blk_u heB b12
  replace haB := blk_u haB b12
  replace hrB := blk_u hrB b12
  replace lb := lb.below b12
  replace mp := mp.below b12
  replace bel := bel.trans (b12.mono bel.size)
  have hr := hh
  clear hh ge b12
  replace rest : Sl w12 (Ar11) (2) (cr11) ([p0, p1]) := rest
  go_wp2_with fail
  with_reducible refine (rd_u16c _ _ _ _ _ _ _ _ _ hr rest).mono ?_
  rintro e w13 ⟨A12, n12, c12, rfl, hq, sq, uq, b13⟩
  replace lb := lb.away av_lb_r b13
  replace mp := mp.away av_mp_r b13
  replace hiB := blk_a hiB b13 d_iB_r
  replace heB := blk_a heB b13 d_eB_r
  replace haB := blk_a haB b13 d_aB_r
  replace hrB := blk_a hrB b13 d_rB_r
  replace bel := below_grown bel b13 or bel.size
  clear b13
  clear hr rest
  have hr := hq
  have rest := sq
  clear hq sq
  have av12_rest_iB := av_rest_iB.sub uq
  have av12_rest_eB := av_rest_eB.sub uq
  have av12_rest_aB := av_rest_aB.sub uq
  have av12_rest_rB := av_rest_rB.sub uq
  have av12_rest_r := avr.sub uq
  clear uq
  go_wp2_with fail
  replace bel := bel.drew
  replace hiB : w13.drew.heap[g3]? = _ := hiB
  replace heB : w13.drew.heap[g4]? = _ := heB
  replace haB : w13.drew.heap[g5]? = _ := haB
  replace hrB : w13.drew.heap[g6]? = _ := hrB
  replace hr : w13.drew.heap[gr]? = _ := hr
  replace lb := lb.drew
  replace mp := mp.drew
  replace rest := rest.drew
  refine wp_region_held_drew (S := fun W => W.heap[g3]? = some (.cells #[.slice (some ⟨gB, oB, none⟩) n c, .int .i64 (h : Int)] 160 (0, 0)) ∧ W.heap[g5]? = some (.cells #[.int .u8 (y0.toNat : Int), .int .u8 (y1.toNat : Int), .int .u8 (y2.toNat : Int), .int .u8 (y3.toNat : Int)] 35 (0, 0))) (by kernel_rfl) ⟨hiB, haB⟩ (fun hH => ?_)
  generalize w13.drew = w14 at bel hiB heB haB hrB hr lb mp rest hH ⊢
  refine wpAnyH_take (i := 0) (v := .agg #[.slice (some ⟨gB, oB, none⟩) n c, .int .i64 (h : Int)]) rfl (by kernel_rfl) (by kernel_rfl) (by kernel_rfl) (fun _ _ _ h => h) (yieldsIf_load_part (by kernel_rfl) 160 _ rfl g3 0 2 rfl _ 160 (0, 0) (fun W hW => hW.1) _ rfl _ Tryz.underlying160 rfl (by kernel_rfl)) hH ?_
  simp only [Act.put, List.getElem_toArray, List.getElem_cons_zero, List.setIfInBounds_toArray, List.set_cons_zero, List.set_cons_succ]
  refine wpAnyH_take (i := 2) (v := .agg #[.int .u8 (y0.toNat : Int), .int .u8 (y1.toNat : Int), .int .u8 (y2.toNat : Int), .int .u8 (y3.toNat : Int)]) rfl (by kernel_rfl) (by kernel_rfl) (by kernel_rfl) (fun _ _ _ h => h) (yieldsIf_load_part (by kernel_rfl) 35 _ rfl g5 0 4 rfl _ 35 (0, 0) (fun W hW => hW.2) _ rfl _ Tryz.underlying35 rfl (by kernel_rfl)) hH ?_
  simp only [sq3, sq4]
  refine wpAnyH_take (i := 3) (v := ?_) rfl (by kernel_rfl) (by kernel_rfl) (by kernel_rfl) (fun _ _ _ h => h) (Or.inl ⟨by rfl, ?_⟩) hH ?_
  rotate_left
  · ((intro W hW; clear hW; go_simp) <;> with_reducible rfl)
  simp only [sq3, sq4]
  refine wpAnyH_ready (rs := [1]) (by kernel_rfl) (by simp) ?_
  refine AllReadyH.cons (o := _) rfl (fun K hK => ?_) AllReadyH.nil
  simp only [sq3]
  go_simp
  with_reducible refine (inproto _ lb HX.out).mono ?_
  rintro e w15 ⟨rfl, b15⟩
  dsimp only
  replace hiB := blk_u hiB b15
  replace heB := blk_u heB b15
  replace haB := blk_u haB b15
  replace hrB := blk_u hrB b15
  replace hr := blk_u hr b15
  replace lb := lb.below b15
  replace mp := mp.below b15
  replace rest := rest.below b15
  replace bel := bel.trans (b15.mono bel.size)
  clear b15
  refine hK.out _ _ ⟨hiB, haB⟩ (fun hH16 => ?_)
  clear hK K
  refine wpAnyH_take (i := 4) (v := ?_) rfl (by kernel_rfl) (by kernel_rfl) (by kernel_rfl) (fun _ _ _ h => h) (Or.inl ⟨by rfl, ?_⟩) hH16 ?_
  rotate_left
  · ((intro W hW; clear hW; go_simp) <;> with_reducible rfl)
  simp only [sq3, sq4]
  refine wpAnyH_ready (rs := [5]) (by kernel_rfl) (by simp) ?_
  refine AllReadyH.cons (o := _) rfl (fun K hK => ?_) AllReadyH.nil
  simp only [sq3]
  rw [if_pos (by rfl)]
  refine wp_store_blk 164 (.tmp 6) (.tmp 44) rfl g6 rfl _ rfl _ 164 hrB (by rfl) (by kernel_rfl) (by kernel_rfl) ?_
  intro w17 hq gr
  replace lb := lb.away av_lb_rB gr
  replace mp := mp.away av_mp_rB gr
  replace rest := rest.away av12_rest_rB gr
  replace hiB := blk_a hiB gr d_iB_rB
  replace heB := blk_a heB gr d_eB_rB
  replace haB := blk_a haB gr d_aB_rB
  replace hr := blk_a hr gr (ne_symm d_rB_r)
  replace bel := below_grown bel gr orB bel.size
  clear hrB
  have hrB := hq
  clear hq gr
  refine hK.out _ _ ⟨hiB, haB⟩ (fun hH18 => ?_)
  clear hK K
  simp only [Act.put]
  refine wpAnyH_take (i := 6) (v := ?_) rfl (by kernel_rfl) (by kernel_rfl) (by kernel_rfl) (fun _ _ _ h => h) (Or.inl ⟨by rfl, ?_⟩) hH18 ?_
  rotate_left
  · ((intro W hW; clear hW; go_simp) <;> with_reducible rfl)
  simp only [sq3, sq4]
  refine wpAnyH_done (by kernel_rfl) ?_ _
  go_wp2_with fail
  exact bodyPost_ret (results_cell_tmp_row rfl _ _ _ _ _ _ _ rfl hrB Tryz.underlying164 rfl (by kernel_rfl) (.int .i64 0) rfl) rfl ⟨rfl, bel⟩
open Go.RowKit

/-- The length of the header that byte 12 tells. -/
def tcH (b : List UInt8) : Nat := (b.getD 12 0).toNat / 16 * 4
/-- The error of Get. -/
def tcErr (fl pt pr : Int) (a0 a1 a2 a3 a4 a5 a6 a7 : UInt8) (b : List UInt8) : Int :=
  if pr ≠ 6 then 1 else if ¬ (pt = 0 ∧ fl % 2 = 0) then 10 else if b.length < 20 then 3 else if tcH b < 20 then 4 else if b.length < tcH b then 3
  else if ck (l4Ps a0 a1 a2 a3 a4 a5 a6 a7 pr (b.length : Int) ++ b) ≠ 0 then 5 else 0
/-- A segment in lists: its numbers, its options, its body; an error. -/
abbrev SgL := List Int × (List UInt8 × List UInt8) × Int
def sgNone (er : Int) : SgL := ([0, 0, 0, 0, 0, 0, 0], ([], []), er)
def tcGet (fl pt pr : Int) (a0 a1 a2 a3 a4 a5 a6 a7 : UInt8) (b : List UInt8) : SgL :=
  if tcErr fl pt pr a0 a1 a2 a3 a4 a5 a6 a7 b ≠ 0 then sgNone (tcErr fl pt pr a0 a1 a2 a3 a4 a5 a6 a7 b)
  else ([(be (b.take 2) : Nat), (be ((b.drop 2).take 2) : Nat), (be ((b.drop 4).take 4) : Nat), (be ((b.drop 8).take 4) : Nat), ((b.getD 13 0).toNat % 64 : Nat), (be ((b.drop 14).take 2) : Nat), (be ((b.drop 18).take 2) : Nat)], ((b.drop 20).take (tcH b - 20), b.drop (tcH b)), 0)
/-- What Get answers. -/
def SgPost (R : SgL) (w : World) (e : Ending) (w' : World) : Prop :=
  ∃ (f0 f1 f2 f3 f4 f5 f6 : Int) (lq lb : List UInt8) (Aq Ab : Option Addr) (cq cb : Nat) (er : Int), e = .returned (.tuple #[.agg #[.int .i64 f0, .int .i64 f1, .int .u32 f2, .int .u32 f3, .int .i64 f4, .int .i64 f5, .int .i64 f6, .slice Aq lq.length cq, .slice Ab lb.length cb], .int .i64 er]) ∧ Sl w' Aq lq.length cq lq ∧ Sl w' Ab lb.length cb lb ∧ Fr w.heap.size Aq lq.length ∧ Fr w.heap.size Ab lb.length ∧ Below w.heap.size w w' ∧ ([f0, f1, f2, f3, f4, f5, f6], (lq, lb), er) = R
theorem SgPost.none {er : Int} {R : SgL} {w w' : World} (h : sgNone er = R) (b : Below w.heap.size w w') : SgPost R w (.returned (.tuple #[.agg #[.int .i64 0, .int .i64 0, .int .u32 0, .int .u32 0, .int .i64 0, .int .i64 0, .int .i64 0, .slice Option.none 0 0, .slice Option.none 0 0], .int .i64 er])) w' :=
  ⟨0, 0, 0, 0, 0, 0, 0, [], [], Option.none, Option.none, 0, 0, er, rfl, Sl.nil _, Sl.nil _, fun h => absurd h (by simp), fun h => absurd h (by simp), b, h⟩
theorem tc_err {fl pt pr : Int} {a0 a1 a2 a3 a4 a5 a6 a7 : UInt8} {b : List UInt8} {er : Int} (e : tcErr fl pt pr a0 a1 a2 a3 a4 a5 a6 a7 b = er) (h : er ≠ 0) : tcGet fl pt pr a0 a1 a2 a3 a4 a5 a6 a7 b = sgNone er := by
  unfold tcGet
  rw [if_pos (by rw [e]; exact h), e]
theorem tc_at {fl pt : Int} {a0 a1 a2 a3 a4 a5 a6 a7 : UInt8} {h0 h1 h2 h3 h4 h5 h6 h7 h8 h9 h10 h11 h12 h13 h14 h15 h16 h17 h18 h19 : UInt8} {r : List UInt8} {hd : Nat} (hh : h12.toNat / 16 * 4 = hd) (hw : (decide (pt = 0) && decide (fl % 2 = 0)) = true) : tcErr fl pt 6 a0 a1 a2 a3 a4 a5 a6 a7 (h0 :: h1 :: h2 :: h3 :: h4 :: h5 :: h6 :: h7 :: h8 :: h9 :: h10 :: h11 :: h12 :: h13 :: h14 :: h15 :: h16 :: h17 :: h18 :: h19 :: r) =
    if hd < 20 then 4 else if (h0 :: h1 :: h2 :: h3 :: h4 :: h5 :: h6 :: h7 :: h8 :: h9 :: h10 :: h11 :: h12 :: h13 :: h14 :: h15 :: h16 :: h17 :: h18 :: h19 :: r).length < hd then 3 else if ck (l4Ps a0 a1 a2 a3 a4 a5 a6 a7 6 ((h0 :: h1 :: h2 :: h3 :: h4 :: h5 :: h6 :: h7 :: h8 :: h9 :: h10 :: h11 :: h12 :: h13 :: h14 :: h15 :: h16 :: h17 :: h18 :: h19 :: r).length : Int) ++ (h0 :: h1 :: h2 :: h3 :: h4 :: h5 :: h6 :: h7 :: h8 :: h9 :: h10 :: h11 :: h12 :: h13 :: h14 :: h15 :: h16 :: h17 :: h18 :: h19 :: r)) ≠ 0 then 5 else 0 := by
  subst hh
  unfold tcErr
  rw [if_neg (by decide), if_neg (by simpa using hw), if_neg (by simp)]
  rfl
theorem tc_ok {fl pt pr : Int} {a0 a1 a2 a3 a4 a5 a6 a7 : UInt8} {h0 h1 h2 h3 h4 h5 h6 h7 h8 h9 h10 h11 h12 h13 h14 h15 h16 h17 h18 h19 : UInt8} {r : List UInt8} {hd k : Nat} (e : tcErr fl pt pr a0 a1 a2 a3 a4 a5 a6 a7 (h0 :: h1 :: h2 :: h3 :: h4 :: h5 :: h6 :: h7 :: h8 :: h9 :: h10 :: h11 :: h12 :: h13 :: h14 :: h15 :: h16 :: h17 :: h18 :: h19 :: r) = 0) (hh : h12.toNat / 16 * 4 = hd) (hk : hd = k + 20) : tcGet fl pt pr a0 a1 a2 a3 a4 a5 a6 a7 (h0 :: h1 :: h2 :: h3 :: h4 :: h5 :: h6 :: h7 :: h8 :: h9 :: h10 :: h11 :: h12 :: h13 :: h14 :: h15 :: h16 :: h17 :: h18 :: h19 :: r) = ([((be [h0, h1] : Nat) : Int), ((be [h2, h3] : Nat) : Int), ((be [h4, h5, h6, h7] : Nat) : Int), ((be [h8, h9, h10, h11] : Nat) : Int), ((h13.toNat % 64 : Nat) : Int), ((be [h14, h15] : Nat) : Int), ((be [h18, h19] : Nat) : Int)], (r.take k, r.drop k), 0) := by
  unfold tcGet
  rw [if_neg (by rw [e]; decide)]
  have e1 : tcH (h0 :: h1 :: h2 :: h3 :: h4 :: h5 :: h6 :: h7 :: h8 :: h9 :: h10 :: h11 :: h12 :: h13 :: h14 :: h15 :: h16 :: h17 :: h18 :: h19 :: r) - 20 = k := by
    show h12.toNat / 16 * 4 - 20 = k
    omega
  have e2 : tcH (h0 :: h1 :: h2 :: h3 :: h4 :: h5 :: h6 :: h7 :: h8 :: h9 :: h10 :: h11 :: h12 :: h13 :: h14 :: h15 :: h16 :: h17 :: h18 :: h19 :: r) = k + 20 := by
    show h12.toNat / 16 * 4 = k + 20
    omega
  rw [e1, e2]
  have e3 : (h0 :: h1 :: h2 :: h3 :: h4 :: h5 :: h6 :: h7 :: h8 :: h9 :: h10 :: h11 :: h12 :: h13 :: h14 :: h15 :: h16 :: h17 :: h18 :: h19 :: r).drop (k + 20) = r.drop k := rfl
  rw [e3]
  rfl
open Go.RowKit

/-- The shorter rest lies in A's block, whatever it is. -/
theorem rd_out {w : World} {T : TypeId} {A : Option Addr} {n g : Nat} {s : Bool} {l : List UInt8} (hl : l.length = 0) (h : Rd w T g l s) : ∃ A' n' c', w.heap[g]? = some (.cells #[.slice A' n' c', .bool s] T (0, 0)) ∧ Sl w A' n' c' l ∧ Sub A' n' A n := by
  obtain ⟨A', n', c', h1, h2⟩ := h
  exact ⟨A', n', c', h1, h2, fun h0 => absurd h2.1 (by omega)⟩
theorem rd_u8e (g : Nat) (A : Option Addr) (n c : Nat) (l : List UInt8) (s : Bool) (w : World) (h : w.heap[g]? = some (.cells #[.slice A n c, .bool s] 134 (0, 0))) (hs : Sl w A n c l) :
    Calls Tryz.prog 42 #[.pointer (some ⟨g, 0, none⟩)] w fun e w' => ∃ A' n' c', ∃ (x : Nat) (s' : Bool), Hid (s' = (s || decide (l.length < 1))) ∧ (x : Int) < 256 ∧ e = .returned (.int .i64 x) ∧ w'.heap[g]? = some (.cells #[.slice A' n' c', .bool s'] 134 (0, 0)) ∧ Sl w' A' n' c' (l.drop 1) ∧ Sub A' n' A n ∧ w.grownBy w' (some g) := by
  rcases l with _ | ⟨x, r⟩
  · refine (u8_no g [] s w ⟨A, n, c, h, hs⟩ (by simp)).mono ?_
    rintro e w' ⟨rfl, h1, h3⟩
    obtain ⟨A', n', c', h4, h5, h6⟩ := rd_out (A := A) (n := n) rfl h1
    exact ⟨A', n', c', 0, true, Lib.hid (by simp), by decide, rfl, h4, h5, h6, h3⟩
  · refine (u8_q1 g _ x r s w (ro_in h hs)).mono ?_
    rintro e w' ⟨rfl, h1, h3⟩
    obtain ⟨A', n', c', h4, h5, h6⟩ := ro_out (n := n) (by have := hs.1; simp at this; omega) h1
    exact ⟨A', n', c', x.toNat, s, Lib.hid (by simp), by have := x.toNat_lt; omega, rfl, h4, h5, h6, h3⟩
theorem rd_u32e (g : Nat) (A : Option Addr) (n c : Nat) (l : List UInt8) (s : Bool) (w : World) (h : w.heap[g]? = some (.cells #[.slice A n c, .bool s] 134 (0, 0))) (hs : Sl w A n c l) :
    Calls Tryz.prog 44 #[.pointer (some ⟨g, 0, none⟩)] w fun e w' => ∃ A' n' c', ∃ (x : Nat) (s' : Bool), Hid (s' = (s || decide (l.length < 4))) ∧ e = .returned (.int .u32 x) ∧ w'.heap[g]? = some (.cells #[.slice A' n' c', .bool s'] 134 (0, 0)) ∧ Sl w' A' n' c' (l.drop 4) ∧ Sub A' n' A n ∧ w.grownBy w' (some g) := by
  by_cases hk : l.length < 4
  · refine (u32_no g l s w ⟨A, n, c, h, hs⟩ hk).mono ?_
    rintro e w' ⟨rfl, h1, h3⟩
    have hd : l.drop 4 = [] := List.drop_eq_nil_of_le (by omega)
    rw [hd]
    obtain ⟨A', n', c', h4, h5, h6⟩ := rd_out (A := A) (n := n) rfl h1
    exact ⟨A', n', c', 0, true, Lib.hid (by simp [hk]), rfl, h4, h5, h6, h3⟩
  · refine (u32_yes_q g _ l s w (ro_in h hs) (by omega)).mono ?_
    rintro e w' ⟨rfl, h1, h3⟩
    obtain ⟨A', n', c', h4, h5, h6⟩ := ro_out (n := n) (by rw [List.length_drop]; have := hs.1; omega) h1
    exact ⟨A', n', c', _, s, Lib.hid (by simp [hk]), rfl, h4, h5, h6, h3⟩
/-- Bytes(k): there are not as many. -/
theorem rd_bytes_no (k : Nat) (g : Nat) (A : Option Addr) (n c : Nat) (l : List UInt8) (s : Bool) (w : World) (h : w.heap[g]? = some (.cells #[.slice A n c, .bool s] 134 (0, 0))) (hs : Sl w A n c l) (hk : l.length < k) :
    Calls Tryz.prog 47 #[.pointer (some ⟨g, 0, none⟩), .int .i64 (k : Int)] w fun e w' => ∃ Ab cb A' n' c', e = .returned (.slice Ab 0 cb) ∧ w'.heap[g]? = some (.cells #[.slice A' n' c', .bool true] 134 (0, 0)) ∧ Sl w' A' n' c' [] ∧ Sub A' n' A n ∧ w.grownBy w' (some g) := by
  refine (bytes_no g l s k w ⟨A, n, c, h, hs⟩ (by omega)).mono ?_
  rintro e w' ⟨Ab, cb, rfl, h0, h1, h3⟩
  obtain ⟨A', n', c', h4, h5, h6⟩ := rd_out (A := A) (n := n) rfl h1
  exact ⟨Ab, cb, A', n', c', rfl, h4, h5, h6, h3⟩
theorem i64_and63 (n : Int) : bits .and .i64 n 63 = n % 64 := by
  have hm : (BitVec.ofInt 64 63).toNat = 2 ^ 6 - 1 := by decide
  have key : (BitVec.ofInt 64 n &&& BitVec.ofInt 64 63).toNat = (n % ((2 ^ 64 : Nat) : Int)).toNat % 2 ^ 6 := by
    rw [BitVec.toNat_and, BitVec.toNat_ofInt, hm, Nat.and_two_pow_sub_one_eq_mod]
  show IntKind.i64.wrap ((BitVec.ofInt 64 n &&& BitVec.ofInt 64 63).toNat : Nat) = n % 64
  rw [key, IntKind.wrap_i64]
  omega
open Go.RowKit

set_option maxRecDepth 100000 in
set_option maxHeartbeats 16000000 in
theorem tcfits_any (tos id fl pt ttl pr : Int) (a0 a1 a2 a3 a4 a5 a6 a7 : UInt8) (So Sb : Option Addr) (no co nb cb : Nat) (lb : List UInt8) (w : World) (hb : Sl w Sb nb cb lb) (hm : nb ≤ 100000) : Calls Tryz.prog 100 #[.agg #[.int .i64 tos, .int .i64 id, .int .i64 fl, .int .i64 pt, .int .i64 ttl, .int .i64 pr, .int .u8 (a0.toNat : Int), .int .u8 (a1.toNat : Int), .int .u8 (a2.toNat : Int), .int .u8 (a3.toNat : Int), .int .u8 (a4.toNat : Int), .int .u8 (a5.toNat : Int), .int .u8 (a6.toNat : Int), .int .u8 (a7.toNat : Int), .slice So no co, .slice Sb nb cb]] w fun e w' => e = .returned (.bool (decide (ck (l4Ps a0 a1 a2 a3 a4 a5 a6 a7 pr (nb : Int) ++ lb) = 0))) ∧ Below w.heap.size w w' := by
  obtain ⟨ii, hii, hz0, hz1, hz2⟩ := info_parts Tryz.info5
  have n2 : (nb : Int) ≤ 100000 := by omega
  have bel := Below.refl w.heap.size w
  go_enter Tryz.func100, Tryz.ntmps100
  go_wp2_with (first | ((with_reducible show wpList _ _ _ (⟨some 1, _, _, _, _, _⟩ :: _) _ _); refine wpList_box_n rfl 38 (.tmp 0) rfl #[.int .i64 tos, .int .i64 id, .int .i64 fl, .int .i64 pt, .int .i64 ttl, .int .i64 pr, .int .u8 (a0.toNat : Int), .int .u8 (a1.toNat : Int), .int .u8 (a2.toNat : Int), .int .u8 (a3.toNat : Int), .int .u8 (a4.toNat : Int), .int .u8 (a5.toNat : Int), .int .u8 (a6.toNat : Int), .int .u8 (a7.toNat : Int), .slice So no co, .slice Sb nb cb] rfl ?_; intro g1 w1 ge lt hh bb; have av_hb_p := hb.av_new ge; have op := Nat.le_trans bel.size ge; replace hb := hb.below bb; replace bel := bel.trans (bb.mono bel.size); have hp := hh; clear hh lt ge bb))
  replace bel := bel.drew
  replace hp : w1.drew.heap[g1]? = _ := hp
  replace hb := hb.drew
  refine wp_region_held_drew (S := fun W => W.heap[g1]? = some (.cells #[.int .i64 tos, .int .i64 id, .int .i64 fl, .int .i64 pt, .int .i64 ttl, .int .i64 pr, .int .u8 (a0.toNat : Int), .int .u8 (a1.toNat : Int), .int .u8 (a2.toNat : Int), .int .u8 (a3.toNat : Int), .int .u8 (a4.toNat : Int), .int .u8 (a5.toNat : Int), .int .u8 (a6.toNat : Int), .int .u8 (a7.toNat : Int), .slice So no co, .slice Sb nb cb] 38 (0, 0))) (by kernel_rfl) hp (fun hH => ?_)
  generalize w1.drew = w2 at bel hp hb hH ⊢
  refine wpAnyH_take (i := 0) (v := .agg #[.int .i64 tos, .int .i64 id, .int .i64 fl, .int .i64 pt, .int .i64 ttl, .int .i64 pr, .int .u8 (a0.toNat : Int), .int .u8 (a1.toNat : Int), .int .u8 (a2.toNat : Int), .int .u8 (a3.toNat : Int), .int .u8 (a4.toNat : Int), .int .u8 (a5.toNat : Int), .int .u8 (a6.toNat : Int), .int .u8 (a7.toNat : Int), .slice So no co, .slice Sb nb cb]) rfl (by kernel_rfl) (by kernel_rfl) (by kernel_rfl) (fun _ _ _ h => h) (yieldsIf_load_part (by kernel_rfl) 38 _ rfl g1 0 16 rfl _ 38 (0, 0) (fun W hW => hW) _ rfl _ Tryz.underlying38 rfl (by kernel_rfl)) hH ?_
  simp only [Act.put, List.getElem_toArray, List.getElem_cons_zero, List.setIfInBounds_toArray, List.set_cons_zero, List.set_cons_succ]
  refine wpAnyH_take (i := 1) (v := ?_) rfl (by kernel_rfl) (by kernel_rfl) (by kernel_rfl) (fun _ _ _ h => h) (Or.inl ⟨by rfl, ?_⟩) hH ?_
  rotate_left
  · ((intro W hW; clear hW; go_simp) <;> with_reducible rfl)
  simp only [sq3, sq4]
  refine wpAnyH_take (i := 2) (v := ?_) rfl (by kernel_rfl) (by kernel_rfl) (by kernel_rfl) (fun _ _ _ h => h) (Or.inl ⟨by rfl, ?_⟩) hH ?_
  rotate_left
  · ((intro W hW; have hk := cell_lit (hW) 15 _ rfl; clear hW; go_simp) <;> with_reducible rfl)
  simp only [sq3, sq4]
  refine wpAnyH_take (i := 3) (v := ?_) rfl (by kernel_rfl) (by kernel_rfl) (by kernel_rfl) (fun _ _ _ h => h) (Or.inl ⟨by rfl, ?_⟩) hH ?_
  rotate_left
  · ((intro W hW; clear hW; go_simp) <;> with_reducible rfl)
  simp only [sq3, sq4]
  refine wpAnyH_take (i := 5) (v := ?_) rfl (by kernel_rfl) (by kernel_rfl) (by kernel_rfl) (fun _ _ _ h => h) (Or.inl ⟨by rfl, ?_⟩) hH ?_
  rotate_left
  · ((intro W hW; clear hW; go_simp) <;> with_reducible rfl)
  simp only [sq3, sq4]
  refine wpAnyH_take (i := 6) (v := ?_) rfl (by kernel_rfl) (by kernel_rfl) (by kernel_rfl) (fun _ _ _ h => h) (Or.inl ⟨by rfl, ?_⟩) hH ?_
  rotate_left
  · ((intro W hW; have hk := cell_lit (hW) 15 _ rfl; clear hW; go_simp) <;> with_reducible rfl)
  simp only [sq3, sq4]
  refine wpAnyH_ready (rs := [4]) (by kernel_rfl) (by simp) ?_
  refine AllReadyH.cons (o := _) rfl (fun K hK => ?_) AllReadyH.nil
  simp only [sq3]
  go_simp
  with_reducible refine (ippseudo_o _ _ _ _ _ _ _ _ _ _ _ _ _ _ _ _ _ _ _ _ _ _).mono ?_
  rintro e w3 ⟨v, rfl, psw, b3⟩
  dsimp only
  have y_ps_p := Lib.hid (hlt hp)
  have bl_hb_ps := hb.bl_new
  have pslo := bel.size
  have lz_ps := b3.size
  replace hp := blk_u hp b3
  replace hb := hb.below b3
  replace bel := bel.trans (b3.mono bel.size)
  clear b3
  obtain ⟨Aps, cps, rfl⟩ := own_val psw
  have ps := (own_sl psw).1
  have fr_ps := (own_sl psw).2
  have av_ps_p := fr_ps.av y_ps_p.out
  refine hK.out _ _ hp (fun hH4 => ?_)
  clear hK K
  refine wpAnyH_ready (rs := [7]) (by kernel_rfl) (by simp) ?_
  refine AllReadyH.cons (o := _) rfl (fun K hK => ?_) AllReadyH.nil
  simp only [sq3]
  rw [if_pos (by rfl)]
  refine wp_append_bb (.tmp 7) (.tmp 9) 36 rfl (w2.heap.size) 5 ii (.int .u8 0) Tryz.underlying36 hii hz0 hz1 hz2 rfl _ (12) (l4Ps a0 a1 a2 a3 a4 a5 a6 a7 pr (nb : Int)) rfl psw (Sb) (nb) (cb) (lb) rfl hb (by have := hm; omega) lz_ps ?_
  intro v10 w5 own_ bb
  replace hb := hb.under bl_hb_ps bb
  replace hp := blk_under hp bb y_ps_p.out
  replace bel := bel.trans (bb.mono pslo)
  have lz_s12 := Nat.le_trans lz_ps bb.size
  clear bb
  clear ps psw lz_ps
  replace own_ : w5.ownsRow (w2.heap.size) 5 1 v10 (12 + nb) ((l4Ps a0 a1 a2 a3 a4 a5 a6 a7 pr (nb : Int) ++ lb : List UInt8).map u8v) := own_
  obtain ⟨A10, c10, rfl⟩ := own_val own_
  have s12w := own_
  have s12 := (own_sl own_).1
  have fr_s12 := (own_sl own_).2
  clear own_
  have av_s12_p := fr_s12.av y_ps_p.out
  refine hK.out _ _ hp (fun hH6 => ?_)
  clear hK K
  simp only [sq4]
  refine wpAnyH_ready (rs := [8]) (by kernel_rfl) (by simp) ?_
  refine AllReadyH.cons (o := _) rfl (fun K hK => ?_) AllReadyH.nil
  simp only [sq3]
  go_simp
  with_reducible refine (fitsd _ _ _ _ _ s12).mono ?_
  rintro e w7 ⟨rfl, b7⟩
  dsimp only
  replace hp := blk_u hp b7
  replace hb := hb.below b7
  replace s12 := s12.below b7
  replace s12w := own_under s12w b7
  replace lz_s12 := Nat.le_trans lz_s12 b7.size
  replace bel := bel.trans (b7.mono bel.size)
  clear b7
  refine hK.out _ _ hp (fun hH8 => ?_)
  clear hK K
  refine wpAnyH_take (i := 9) (v := ?_) rfl (by kernel_rfl) (by kernel_rfl) (by kernel_rfl) (fun _ _ _ h => h) (Or.inl ⟨by rfl, ?_⟩) hH8 ?_
  rotate_left
  · ((intro W hW; clear hW; go_simp) <;> with_reducible rfl)
  simp only [sq3, sq4]
  refine wpAnyH_done (by kernel_rfl) ?_ _
  go_wp2_with fail
  go_ret
  exact ⟨rfl, bel⟩
end Go.Proofs.YtbdaejodbcjmfaaGreat
