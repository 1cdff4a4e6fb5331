/- The walks of SumAdds, SumKnown and SumSays. -/
import Derived.Test.YtbmngljendanlaaSumr
namespace Go.Proofs.Ytbmngljendanlaa
open Go.RowKit

theorem sumAdds_walk (a b c : Int) (w : World) :
    Calls Try.prog 9 #[.int .i64 a, .int .i64 b, .int .i64 c] w fun e w' => e = .returned (.bool true) ∧ Below w.heap.size w w' := by
  have e1 : Hid (addI b a = addI a b) := Lib.hid (addI_comm b a)
  have e2 : Hid (addI (addI a b) c = addI a (addI b c)) := Lib.hid (addI_assoc a b c)
  have e3 : Hid (addI a 0 = a % 65536) := Lib.hid (addI_zero a)
  have e4 := i64_and65535 a
  go_enter Try.func9, Try.ntmps9
  go_wp2_with fail
  refine (awake_any _).mono ?_
  rintro e w1 ⟨rfl, bel1⟩
  go_wp2_with fail
  refine (add_any _ _ _).mono ?_
  rintro e w2 ⟨rfl, rfl⟩
  go_wp2_with fail
  refine (add_any _ _ _).mono ?_
  rintro e w2 ⟨rfl, rfl⟩
  rw [e1.out]
  go_wp2_with fail
  refine (add_any _ _ _).mono ?_
  rintro e w2 ⟨rfl, rfl⟩
  go_wp2_with fail
  refine (add_any _ _ _).mono ?_
  rintro e w2 ⟨rfl, rfl⟩
  rw [e2.out]
  go_wp2_with fail
  refine (add_any _ _ _).mono ?_
  rintro e w2 ⟨rfl, rfl⟩
  go_wp2_with fail
  refine (add_any _ _ _).mono ?_
  rintro e w2 ⟨rfl, rfl⟩
  go_wp2_with fail
  refine (add_any _ _ _).mono ?_
  rintro e w2 ⟨rfl, rfl⟩
  rw [e3.out]
  go_wp2
  go_ret
  exact ⟨rfl, bel1⟩

theorem made1 (x : UInt8) (w : World) (k : Nat) (h : w.heap.size = k) : Sl (w.alloc (.cells #[.int .u8 x.toNat] 5)) (some ⟨k, 0, none⟩) 1 1 [x] := h ▸ Sl.made w 5 [x] (by simp [maxLen])
theorem made_12 (w : World) (k : Nat) (h : w.heap.size = k) : Sl (w.alloc (.cells #[.int .u8 1, .int .u8 2] 5)) (some ⟨k, 0, none⟩) 2 2 [1, 2] := h ▸ Sl.made w 5 [1, 2] (by simp [maxLen])
theorem made_255 (w : World) (k : Nat) (h : w.heap.size = k) : Sl (w.alloc (.cells #[.int .u8 255, .int .u8 255] 5)) (some ⟨k, 0, none⟩) 2 2 [255, 255] := h ▸ Sl.made w 5 [255, 255] (by simp [maxLen])

theorem sumKnown_walk (w : World) : Calls Try.prog 3 #[] w fun e w' => e = .returned (.bool true) ∧ Below w.heap.size w w' := by
  have k0 : Hid (ck [] = 65535) := Lib.hid (by decide +kernel)
  have k1 : Hid (ck [1] = 65279) := Lib.hid (by decide +kernel)
  have k2 : Hid (ck ([[1], [2]] : List (List UInt8)).flatten = ck [1, 2]) := Lib.hid (by decide +kernel)
  have k3 : ck [255, 255] = 0 := by decide +kernel
  have fy := Lib.hid fun W A n c (h : Sl W A n c [255, 255]) => fits_yes A n c _ W h k3
  clear k3
  go_enter Try.func3, Try.ntmps3
  go_wp2_with fail
  refine (awake_any _).mono ?_
  rintro e w1 ⟨rfl, bel1⟩
  go_wp2_with fail
  refine (of_any none 0 0 [] _ (Sl.nil _)).mono ?_
  rintro e w2 ⟨rfl, bel2⟩
  rw [k0.out]
  have bel2a := bel1.trans (bel2.mono bel1.size)
  clear bel1 bel2
  have h3 := made1 1 w2 _ rfl
  have bel3 := bel2a.alloc bel2a.size (.cells #[.int .u8 1] 5)
  go_wp2_with fail
  refine (of_any _ 1 1 [1] _ h3).mono ?_
  rintro e w4 ⟨rfl, bel4⟩
  rw [k1.out]
  have bel4a := bel3.trans (bel4.mono bel3.size)
  clear bel2a bel3 bel4 h3
  have h5 := made1 1 w4 _ rfl
  have g5 := (Below.refl w4.heap.size w4).alloc (Nat.le_refl _) (.cells #[.int .u8 1] 5)
  have bel5 := bel4a.alloc bel4a.size (.cells #[.int .u8 1] 5)
  have h6 := made1 2 (w4.alloc (.cells #[.int .u8 1] 5)) (w4.heap.size + 1) (by simp)
  have g6 := (Below.refl _ (w4.alloc (.cells #[.int .u8 1] 5))).alloc (Nat.le_refl _) (.cells #[.int .u8 2] 5)
  have bel6 := bel5.alloc bel5.size (.cells #[.int .u8 2] 5)
  have h7 := Sls.two (h5.below g6) h6
  have bel7 := bel6.alloc bel6.size (.cells #[.slice (some ⟨w4.heap.size, 0, none⟩) 1 1, .slice (some ⟨w4.heap.size + 1, 0, none⟩) 1 1] 24)
  have hz6 : ((w4.alloc (.cells #[.int .u8 1] 5)).alloc (.cells #[.int .u8 2] 5)).heap.size = w4.heap.size + 1 + 1 := by simp
  rw [hz6] at h7
  clear h5 g5 bel5 h6 g6 bel6 bel4a hz6
  go_wp2_with fail
  with_reducible refine (many_any _ 2 2 _ _ (by unfold maxLen; omega) h7).mono ?_
  rintro e w8 ⟨rfl, rfl⟩
  rw [k2.out]
  have h8 := made_12 (((w4.alloc (.cells #[.int .u8 1] 5)).alloc (.cells #[.int .u8 2] 5)).alloc (.cells #[.slice (some ⟨w4.heap.size, 0, none⟩) 1 1, .slice (some ⟨w4.heap.size + 1, 0, none⟩) 1 1] 24)) (w4.heap.size + 1 + 1 + 1) (by simp)
  have bel8 := bel7.alloc bel7.size (.cells #[.int .u8 1, .int .u8 2] 5)
  clear h7 bel7
  go_wp2_with fail
  with_reducible refine (of_any _ 2 2 [1, 2] _ h8).mono ?_
  rintro e w9 ⟨rfl, bel9⟩
  have bel9a := bel8.trans (bel9.mono bel8.size)
  clear h8 bel8 bel9
  have g9 := (bel9a.alloc bel9a.size (.cells #[.int .u8 1] 5)).alloc (by have := bel9a.size; simp; omega) (.cells #[.int .u8 2] 5)
  clear bel9a
  go_wp2_with fail
  with_reducible refine (turn_off 5 _ _ 1 1 1 1 _ (by omega) (by omega) (by omega)).mono ?_
  rintro e w10 ⟨rfl, rfl⟩
  have h11 := made_255 ((w9.alloc (.cells #[.int .u8 1] 5)).alloc (.cells #[.int .u8 2] 5)) (w9.heap.size + 1 + 1) (by simp)
  have bel11 := g9.alloc g9.size (.cells #[.int .u8 255, .int .u8 255] 5)
  clear g9
  go_wp2_with fail
  with_reducible refine (fy.out _ _ _ _ h11).mono ?_
  rintro e w12 ⟨rfl, bel12⟩
  have bel12a := bel11.trans (bel12.mono bel11.size)
  go_wp2
  go_ret
  exact ⟨rfl, bel12a⟩

end Go.Proofs.Ytbmngljendanlaa
