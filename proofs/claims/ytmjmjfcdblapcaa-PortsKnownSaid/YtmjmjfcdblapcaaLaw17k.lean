/- PortsKnown. -/
import Derived.Test.YtmjmjfcdblapcaaLaw17
import Derived.Test.YtmjmjfcdblapcaaPtj
namespace Go.Proofs.Ytmjmjfcdblapcaa
open Go.RowKit

theorem apk_below {gt : Nat} {w w' : World} {v : Value} (h : ApV gt w v) (b : Below w.heap.size w w') : ApV gt w' v := fun g hg => (h g hg).below b
theorem apk_drew {gt : Nat} {w : World} {v : Value} (h : ApV gt w v) : ApV gt w.drew v := h
theorem apk_grown {gt r : Nat} {w w' : World} {v : Value} (h : ApV gt w v) (hr : r ≠ gt) (g : w.grownBy w' (some r)) : ApV gt w' v := fun q hq => (h q hq).grown hr g
theorem Sle.zlit {α : Type} {f : α → List Value} {k : Nat} {w : World} {g n c i : Nat} {l : List α} {x : α} (h : Sle f k w (some ⟨g, 0, none⟩) n c l) (hx : l[i]? = some x) (a : Nat) (v : Value) (hv : (f x)[a]? = some v) (q : Nat) (hq : i * k + a = q) : w.cell? ⟨g, q, none⟩ = some v := by
  have := h.zcell hx a v hv
  rwa [hq] at this
def kP1 : Mp := ⟨6, 80, atA 5, 8080, 2, 60⟩
def kP2 : Mp := ⟨6, 80, atA 5, 8080, 2, 90⟩
def kP3 : Mp := ⟨17, 80, atA 5, 80, 4, 0⟩
def kT0 : Ts := ⟨40000, 2, 0, [], []⟩
def kT1 : Ts := ⟨40000, 2, 0, [kP1], []⟩
def kT2 : Ts := ⟨40000, 2, 0, [kP2], []⟩
def kT3 : Ts := ⟨40000, 2, 0, [kP2, kP3], []⟩
def kT4 : Ts := ⟨40000, 2, 90, [kP3], []⟩
def kT5 : Ts := ⟨40000, 2, 90, [], []⟩
theorem kq_1 {lo gt : Nat} (w : World) (hT : Tp lo gt w kT0) : Calls Try.prog 12 #[.pointer (some ⟨gt, 0, none⟩), .agg #[.int .i64 6, .int .i64 80, .int .u8 ((atA 5).a.toNat : Int), .int .u8 ((atA 5).b.toNat : Int), .int .u8 ((atA 5).c.toNat : Int), .int .u8 ((atA 5).d.toNat : Int), .int .i64 8080, .int .i64 2, .int .i64 60], .int .i64 0] w fun e w' => e = .returned (.int .i64 0) ∧ Tp lo gt w' kT1 ∧ Fap gt w w' ∧ Below lo w w' := pt_new (s1 := kT0) (s2 := kT1) w hT (by kernel_rfl) (by kernel_rfl) (by kernel_rfl) (by kernel_rfl) (by decide) (by kernel_rfl)
theorem kq_2 {lo gt : Nat} (w : World) (hT : Tp lo gt w kT1) : Calls Try.prog 12 #[.pointer (some ⟨gt, 0, none⟩), .agg #[.int .i64 6, .int .i64 80, .int .u8 ((atA 6).a.toNat : Int), .int .u8 ((atA 6).b.toNat : Int), .int .u8 ((atA 6).c.toNat : Int), .int .u8 ((atA 6).d.toNat : Int), .int .i64 8080, .int .i64 2, .int .i64 60], .int .i64 0] w fun e w' => e = .returned (.int .i64 8) ∧ Tp lo gt w' kT1 ∧ Fap gt w w' ∧ Below lo w w' := pt_tak (s1 := kT1) (i := 0) w hT (by kernel_rfl) (by kernel_rfl) (by kernel_rfl) (by kernel_rfl) (by kernel_rfl) rfl (by kernel_rfl)
theorem kq_3 {lo gt : Nat} (w : World) (hT : Tp lo gt w kT1) : Calls Try.prog 12 #[.pointer (some ⟨gt, 0, none⟩), .agg #[.int .i64 6, .int .i64 80, .int .u8 ((atA 5).a.toNat : Int), .int .u8 ((atA 5).b.toNat : Int), .int .u8 ((atA 5).c.toNat : Int), .int .u8 ((atA 5).d.toNat : Int), .int .i64 8080, .int .i64 2, .int .i64 90], .int .i64 0] w fun e w' => e = .returned (.int .i64 0) ∧ Tp lo gt w' kT2 ∧ Fap gt w w' ∧ Below lo w w' := pt_ext (s1 := kT1) (s2 := kT2) (i := 0) w hT (by kernel_rfl) (by kernel_rfl) (by kernel_rfl) (by kernel_rfl) (by kernel_rfl) rfl (by kernel_rfl) rfl
theorem kq_4 {lo gt : Nat} (w : World) (hT : Tp lo gt w kT2) : Calls Try.prog 12 #[.pointer (some ⟨gt, 0, none⟩), .agg #[.int .i64 17, .int .i64 80, .int .u8 ((atA 5).a.toNat : Int), .int .u8 ((atA 5).b.toNat : Int), .int .u8 ((atA 5).c.toNat : Int), .int .u8 ((atA 5).d.toNat : Int), .int .i64 80, .int .i64 4, .int .i64 0], .int .i64 0] w fun e w' => e = .returned (.int .i64 0) ∧ Tp lo gt w' kT3 ∧ Fap gt w w' ∧ Below lo w w' := pt_new (s1 := kT2) (s2 := kT3) w hT (by kernel_rfl) (by kernel_rfl) (by kernel_rfl) (by kernel_rfl) (by decide) (by kernel_rfl)
theorem kq_5 {lo gt : Nat} (w : World) (hT : Tp lo gt w kT3) : Calls Try.prog 12 #[.pointer (some ⟨gt, 0, none⟩), .agg #[.int .i64 17, .int .i64 81, .int .u8 ((atA 5).a.toNat : Int), .int .u8 ((atA 5).b.toNat : Int), .int .u8 ((atA 5).c.toNat : Int), .int .u8 ((atA 5).d.toNat : Int), .int .i64 80, .int .i64 4, .int .i64 0], .int .i64 0] w fun e w' => e = .returned (.int .i64 7) ∧ Tp lo gt w' kT3 ∧ Fap gt w w' ∧ Below lo w w' := pt_full (s1 := kT3) w hT (by kernel_rfl) (by kernel_rfl) (by kernel_rfl) (by kernel_rfl) (by decide)
theorem kq_6 {lo gt : Nat} (w : World) (hT : Tp lo gt w kT3) : Calls Try.prog 13 #[.pointer (some ⟨gt, 0, none⟩), .agg #[.int .i64 17, .int .u8 ((atA 9).a.toNat : Int), .int .u8 ((atA 9).b.toNat : Int), .int .u8 ((atA 9).c.toNat : Int), .int .u8 ((atA 9).d.toNat : Int), .int .i64 9], .int .i64 0, .int .i64 60] w fun e w' => e = .returned (.tuple #[.agg #[.int .i64 0, .int .i64 0, .int .u8 0, .int .u8 0, .int .u8 0, .int .u8 0, .int .i64 0, .int .i64 0, .int .i64 0], .int .i64 7]) ∧ Tp lo gt w' kT3 ∧ Fap gt w w' ∧ Below lo w w' := mk_full (s1 := kT3) (un := 60) w hT (by kernel_rfl) (by kernel_rfl) (by kernel_rfl) rfl (by kernel_rfl) (by decide)
theorem kq_8 {lo gt : Nat} (w : World) (hT : Tp lo gt w kT4) : Calls Try.prog 15 #[.pointer (some ⟨gt, 0, none⟩), .agg #[.int .u8 ((atA 5).a.toNat : Int), .int .u8 ((atA 5).b.toNat : Int), .int .u8 ((atA 5).c.toNat : Int), .int .u8 ((atA 5).d.toNat : Int)], .int .i64 4] w fun e w' => e = .returned (.int .i64 0) ∧ Tp lo gt w' kT4 ∧ Fap gt w w' ∧ Below lo w w' := by
  have h := tpurge (r := 0) (a := atA 5) (kp := 4) w (show Tp lo gt w ⟨40000, 2, 90, [kP3], []⟩ from hT) (by kernel_rfl)
  rw [show [kP3].filter (fun e => !purB (atA 5) 4 e) = [kP3] by kernel_rfl] at h
  exact h
theorem kq_9 {lo gt : Nat} (w : World) (hT : Tp lo gt w kT4) : Calls Try.prog 12 #[.pointer (some ⟨gt, 0, none⟩), .agg #[.int .i64 6, .int .i64 80, .int .u8 ((atA 5).a.toNat : Int), .int .u8 ((atA 5).b.toNat : Int), .int .u8 ((atA 5).c.toNat : Int), .int .u8 ((atA 5).d.toNat : Int), .int .i64 1, .int .i64 1, .int .i64 99], .int .i64 90] w fun e w' => e = .returned (.int .i64 1) ∧ Tp lo gt w' kT4 ∧ Fap gt w w' ∧ Below lo w w' := pt_arg (s1 := kT4) w hT (by kernel_rfl) (by kernel_rfl)
theorem kq_10 {lo gt : Nat} (w : World) (hT : Tp lo gt w kT4) : Calls Try.prog 16 #[.pointer (some ⟨gt, 0, none⟩), .int .i64 17, .int .i64 80, .int .i64 2] w fun e w' => e = .returned (.bool false) ∧ Tp lo gt w' kT4 ∧ Fap gt w w' ∧ Below lo w w' := tdrop_no (i := 0) (x := kP3) w (show Tp lo gt w ⟨40000, 2, 90, [kP3], []⟩ from hT) (by unfold okP; omega) (by kernel_rfl) (by kernel_rfl) rfl (by kernel_rfl) (by kernel_rfl)
theorem kq_11 {lo gt : Nat} (w : World) (hT : Tp lo gt w kT4) : Calls Try.prog 16 #[.pointer (some ⟨gt, 0, none⟩), .int .i64 17, .int .i64 80, .int .i64 4] w fun e w' => e = .returned (.bool true) ∧ Tp lo gt w' kT5 ∧ Fap gt w w' ∧ Below lo w w' := tdrop_yes (i := 0) (x := kP3) w (show Tp lo gt w ⟨40000, 2, 90, [kP3], []⟩ from hT) (by unfold okP; omega) (by kernel_rfl) (by kernel_rfl) rfl (by kernel_rfl)
theorem kq_12 {lo gt : Nat} (w : World) (hT : Tp lo gt w kT5) : Calls Try.prog 17 #[.pointer (some ⟨gt, 0, none⟩), .int .i64 90] w fun e w' => e = .returned (.int .i64 0) ∧ Tp lo gt w' kT5 ∧ Fap gt w w' ∧ Below lo w w' := len_is (s1 := kT5) w hT (by kernel_rfl) rfl
set_option linter.unusedVariables false in
set_option linter.unusedSimpArgs false in
set_option maxRecDepth 100000 in
set_option maxHeartbeats 16000000 in
theorem portsKnown_walk (w : World) : Calls Try.prog 3 #[] w fun e w' => e = .returned (.bool true) ∧ Below w.heap.size w w' := by
  have bel := Below.refl w.heap.size w
  go_enter Try.func3, Try.ntmps3
  go_wp2_with fail
  with_reducible refine (awake_any _).mono ?_
  rintro e w1 ⟨rfl, b1⟩
  replace bel := bel.trans (b1.mono bel.size)
  clear b1
  go_wp2_with fail
  with_reducible refine (tnew_lo (lw := 1023) (rm := 10) _ (by decide)).mono ?_
  rintro e w2 ⟨rfl, b2⟩
  replace bel := bel.trans (b2.mono bel.size)
  clear b2
  go_wp2_with fail
  with_reducible refine (tnew_hi (lw := 40000) (rm := 129) _ (by decide) (by decide) (by decide) (by decide)).mono ?_
  rintro e w3 ⟨rfl, b3⟩
  replace bel := bel.trans (b3.mono bel.size)
  clear b3
  go_wp2_with fail
  have HLO_ := bel.size
  with_reducible refine (tnew_any (lw := 40000) (rm := 2) _ (by decide) (by decide) (by decide) (by decide)).mono ?_
  rintro e w4 ⟨gt, rfl, hT, b4⟩
  replace bel := bel.trans (b4.mono bel.size)
  clear b4
  replace hT : Tp w.heap.size gt w4 kT0 := hT.lo_mono HLO_
  clear HLO_
  go_wp2_with fail
  with_reducible refine (at_k 5 _).mono ?_
  rintro e w5 ⟨rfl, b5⟩
  replace hT := hT.below b5
  replace bel := bel.trans (b5.mono bel.size)
  clear b5
  go_wp2_with (first | ((with_reducible show wpList _ _ _ (⟨some 7, _, _, _, _, _⟩ :: _) _ _); refine wpList_new_a rfl 31 rfl #[.int .i64 0, .int .i64 0, .int .u8 0, .int .u8 0, .int .u8 0, .int .u8 0, .int .i64 0, .int .i64 0, .int .i64 0] (by kernel_rfl) ?_; intro g7 w6 ge hh bb; have ap_mB := hT.ap ge; have omB := Nat.le_trans bel.size ge; replace hT := hT.below bb; replace ap_mB := ap_mB.below bb; replace bel := bel.trans (bb.mono bel.size); have hmB := hh; clear hh ge bb) | ((with_reducible show wpList _ _ _ (⟨none, Op.store _ (.tmp 7) _, _, _, _, _⟩ :: _) _ _); refine wpList_store_blk rfl 31 (.tmp 7) (.tmp 32) rfl g7 rfl _ rfl _ 31 hmB (by rfl) (by kernel_rfl) (by kernel_rfl) ?_; intro w7 hq gr; replace hT := hT.away ap_mB gr hmB; replace ap_mB := ap_mB.grown ap_mB.1 gr; replace bel := below_grown bel gr omB bel.size; clear hmB; have hmB := hq; clear hq gr; have R34 := Lib.hid (range_lit hmB 0 9 [.int .i64 6, .int .i64 80, .int .u8 ((atA 5).a.toNat : Int), .int .u8 ((atA 5).b.toNat : Int), .int .u8 ((atA 5).c.toNat : Int), .int .u8 ((atA 5).d.toNat : Int), .int .i64 8080, .int .i64 2, .int .i64 60] rfl)) | ((with_reducible show wpList _ _ _ (⟨some 34, _, _, _, _, _⟩ :: _) _ _); refine wpList_load_rng 31 (.tmp 7) rfl (by kernel_rfl) _ _ rfl _ R34.out _ Try.underlying31 rfl (by kernel_rfl) ?_))
  try clear R34
  with_reducible refine (kq_1 _ hT).mono ?_
  rintro e w8 ⟨rfl, hT_, f_, bb⟩
  have x_ := f_ _ _ _ _ hmB ap_mB
  replace hmB := x_.1
  replace ap_mB := x_.2
  clear x_
  clear hT
  have hT := hT_
  replace bel := bel.trans bb
  clear bb f_ hT_
  go_wp2_with fail
  with_reducible refine (at_k 6 _).mono ?_
  rintro e w9 ⟨rfl, b9⟩
  replace hmB := blk_u hmB b9
  replace hT := hT.below b9
  replace ap_mB := ap_mB.below b9
  replace bel := bel.trans (b9.mono bel.size)
  clear b9
  go_wp2_with fail
  with_reducible refine (kq_2 _ hT).mono ?_
  rintro e w10 ⟨rfl, hT_, f_, bb⟩
  have x_ := f_ _ _ _ _ hmB ap_mB
  replace hmB := x_.1
  replace ap_mB := x_.2
  clear x_
  clear hT
  have hT := hT_
  replace bel := bel.trans bb
  clear bb f_ hT_
  go_wp2_with (first | ((with_reducible show wpList _ _ _ (⟨none, Op.store _ (.tmp 40) _, _, _, _, _⟩ :: _) _ _); refine wpList_store_part rfl 2 (.tmp 40) (.const (.int .i64 90)) rfl g7 8 rfl [.int .i64 90] rfl [.int .i64 6, .int .i64 80, .int .u8 ((atA 5).a.toNat : Int), .int .u8 ((atA 5).b.toNat : Int), .int .u8 ((atA 5).c.toNat : Int), .int .u8 ((atA 5).d.toNat : Int), .int .i64 8080, .int .i64 2, .int .i64 60] 31 hmB (by simp) [.int .i64 6, .int .i64 80, .int .u8 ((atA 5).a.toNat : Int), .int .u8 ((atA 5).b.toNat : Int), .int .u8 ((atA 5).c.toNat : Int), .int .u8 ((atA 5).d.toNat : Int), .int .i64 8080, .int .i64 2, .int .i64 90] rfl (by kernel_rfl) (by rfl) ?_; intro w11 hq gr; replace hT := hT.away ap_mB gr hmB; replace ap_mB := ap_mB.grown ap_mB.1 gr; replace bel := below_grown bel gr omB bel.size; clear hmB; have hmB := hq; clear hq gr; have R42 := Lib.hid (range_lit hmB 0 9 [.int .i64 6, .int .i64 80, .int .u8 ((atA 5).a.toNat : Int), .int .u8 ((atA 5).b.toNat : Int), .int .u8 ((atA 5).c.toNat : Int), .int .u8 ((atA 5).d.toNat : Int), .int .i64 8080, .int .i64 2, .int .i64 90] rfl)) | ((with_reducible show wpList _ _ _ (⟨some 42, _, _, _, _, _⟩ :: _) _ _); refine wpList_load_rng 31 (.tmp 7) rfl (by kernel_rfl) _ _ rfl _ R42.out _ Try.underlying31 rfl (by kernel_rfl) ?_))
  try clear R42
  with_reducible refine (kq_3 _ hT).mono ?_
  rintro e w12 ⟨rfl, hT_, f_, bb⟩
  have x_ := f_ _ _ _ _ hmB ap_mB
  replace hmB := x_.1
  replace ap_mB := x_.2
  clear x_
  clear hT
  have hT := hT_
  replace bel := bel.trans bb
  clear bb f_ hT_
  go_wp2_with fail
  with_reducible refine (at_k 5 _).mono ?_
  rintro e w13 ⟨rfl, b13⟩
  replace hmB := blk_u hmB b13
  replace hT := hT.below b13
  replace ap_mB := ap_mB.below b13
  replace bel := bel.trans (b13.mono bel.size)
  clear b13
  go_wp2_with fail
  with_reducible refine (kq_4 _ hT).mono ?_
  rintro e w14 ⟨rfl, hT_, f_, bb⟩
  have x_ := f_ _ _ _ _ hmB ap_mB
  replace hmB := x_.1
  replace ap_mB := x_.2
  clear x_
  clear hT
  have hT := hT_
  replace bel := bel.trans bb
  clear bb f_ hT_
  go_wp2_with fail
  with_reducible refine (at_k 5 _).mono ?_
  rintro e w15 ⟨rfl, b15⟩
  replace hmB := blk_u hmB b15
  replace hT := hT.below b15
  replace ap_mB := ap_mB.below b15
  replace bel := bel.trans (b15.mono bel.size)
  clear b15
  go_wp2_with fail
  with_reducible refine (kq_5 _ hT).mono ?_
  rintro e w16 ⟨rfl, hT_, f_, bb⟩
  have x_ := f_ _ _ _ _ hmB ap_mB
  replace hmB := x_.1
  replace ap_mB := x_.2
  clear x_
  clear hT
  have hT := hT_
  replace bel := bel.trans bb
  clear bb f_ hT_
  go_wp2_with fail
  with_reducible refine (at_k 9 _).mono ?_
  rintro e w17 ⟨rfl, b17⟩
  replace hmB := blk_u hmB b17
  replace hT := hT.below b17
  replace ap_mB := ap_mB.below b17
  replace bel := bel.trans (b17.mono bel.size)
  clear b17
  go_wp2_with fail
  with_reducible refine (kq_6 _ hT).mono ?_
  rintro e w18 ⟨rfl, hT_, f_, bb⟩
  have x_ := f_ _ _ _ _ hmB ap_mB
  replace hmB := x_.1
  replace ap_mB := x_.2
  clear x_
  clear hT
  have hT := hT_
  replace bel := bel.trans bb
  clear bb f_ hT_
  go_wp2_with (first | ((with_reducible show wpList _ _ _ (⟨some 12, _, _, _, _, _⟩ :: _) _ _); refine wpList_new_a rfl 31 rfl #[.int .i64 0, .int .i64 0, .int .u8 0, .int .u8 0, .int .u8 0, .int .u8 0, .int .i64 0, .int .i64 0, .int .i64 0] (by kernel_rfl) ?_; intro g12 w19 ge hh bb; have ap_gB := hT.ap ge; have d_mB_gB := ne_new (hlt hmB) ge; have ogB := Nat.le_trans bel.size ge; replace hmB := blk_u hmB bb; replace hT := hT.below bb; replace ap_mB := ap_mB.below bb; replace ap_gB := ap_gB.below bb; replace bel := bel.trans (bb.mono bel.size); have hgB := hh; clear hh ge bb) | ((with_reducible show wpList _ _ _ (⟨none, Op.store _ (.tmp 12) _, _, _, _, _⟩ :: _) _ _); refine wpList_store_blk rfl 31 (.tmp 12) (.tmp 57) rfl g12 rfl _ rfl _ 31 hgB (by rfl) (by kernel_rfl) (by kernel_rfl) ?_; intro w20 hq gr; replace hmB := blk_a hmB gr d_mB_gB; replace hT := hT.away ap_gB gr hgB; replace ap_mB := ap_mB.grown ap_gB.1 gr; replace ap_gB := ap_gB.grown ap_gB.1 gr; replace bel := below_grown bel gr ogB bel.size; clear hgB; have hgB := hq; clear hq gr))
  have HSZ_ := bel.size
  with_reducible refine (ttick_one (lw := 40000) (rm := 2) (now := 90) (l := [kP3]) (m := kP2) _ _ hT (by kernel_rfl)).mono ?_
  rintro e w21 ⟨Ay, cy, rfl, yw, ya, hT_, f_, bb⟩
  have x_ := f_ _ _ _ _ hmB ap_mB
  replace hmB := x_.1
  replace ap_mB := x_.2
  clear x_
  have x_ := f_ _ _ _ _ hgB ap_gB
  replace hgB := x_.1
  replace ap_gB := x_.2
  clear x_
  clear hT
  have hT := hT_
  replace bel := bel.trans bb
  clear bb f_ hT_
  obtain ⟨gX, rfl, _⟩ := row_at yw (by decide)
  replace hT : Tp w.heap.size gt w21 kT4 := hT
  replace yw := owk_lo yw HSZ_
  clear HSZ_
  have xs := (owk_sle (l := [kP2]) (by decide) mpE_len yw).1
  go_wp2_with fail
  with_reducible refine (at_k 5 _).mono ?_
  rintro e w22 ⟨rfl, b22⟩
  replace hmB := blk_u hmB b22
  replace hgB := blk_u hgB b22
  replace xs := xs.below b22
  replace hT := hT.below b22
  replace ap_mB := ap_mB.below b22
  replace ap_gB := ap_gB.below b22
  replace yw := owk_under yw b22
  replace ya := apk_below ya b22
  replace bel := bel.trans (b22.mono bel.size)
  clear b22
  go_wp2_with fail
  with_reducible refine (kq_8 _ hT).mono ?_
  rintro e w23 ⟨rfl, hT_, f_, bb⟩
  have x_ := f_ _ _ _ _ hmB ap_mB
  replace hmB := x_.1
  replace ap_mB := x_.2
  clear x_
  have x_ := f_ _ _ _ _ hgB ap_gB
  replace hgB := x_.1
  replace ap_gB := x_.2
  clear x_
  have y_ := f_.own yw ya
  replace yw := y_.1
  replace ya := y_.2
  clear y_
  clear hT
  have hT := hT_
  replace bel := bel.trans bb
  clear bb f_ hT_
  replace xs := (owk_sle (l := [kP2]) (by decide) mpE_len yw).1
  go_wp2_with fail
  with_reducible refine (at_k 5 _).mono ?_
  rintro e w24 ⟨rfl, b24⟩
  replace hmB := blk_u hmB b24
  replace hgB := blk_u hgB b24
  replace xs := xs.below b24
  replace hT := hT.below b24
  replace ap_mB := ap_mB.below b24
  replace ap_gB := ap_gB.below b24
  replace yw := owk_under yw b24
  replace ya := apk_below ya b24
  replace bel := bel.trans (b24.mono bel.size)
  clear b24
  go_wp2_with fail
  with_reducible refine (kq_9 _ hT).mono ?_
  rintro e w25 ⟨rfl, hT_, f_, bb⟩
  have x_ := f_ _ _ _ _ hmB ap_mB
  replace hmB := x_.1
  replace ap_mB := x_.2
  clear x_
  have x_ := f_ _ _ _ _ hgB ap_gB
  replace hgB := x_.1
  replace ap_gB := x_.2
  clear x_
  have y_ := f_.own yw ya
  replace yw := y_.1
  replace ya := y_.2
  clear y_
  clear hT
  have hT := hT_
  replace bel := bel.trans bb
  clear bb f_ hT_
  replace xs := (owk_sle (l := [kP2]) (by decide) mpE_len yw).1
  have R103 := Sle.zlit xs (show [kP2][0]? = some kP2 from rfl) 8 _ rfl 8 rfl
  go_wp2_with fail
  clear R103
  with_reducible refine (kq_10 _ hT).mono ?_
  rintro e w26 ⟨rfl, hT_, f_, bb⟩
  have x_ := f_ _ _ _ _ hmB ap_mB
  replace hmB := x_.1
  replace ap_mB := x_.2
  clear x_
  have x_ := f_ _ _ _ _ hgB ap_gB
  replace hgB := x_.1
  replace ap_gB := x_.2
  clear x_
  have y_ := f_.own yw ya
  replace yw := y_.1
  replace ya := y_.2
  clear y_
  clear hT
  have hT := hT_
  replace bel := bel.trans bb
  clear bb f_ hT_
  replace xs := (owk_sle (l := [kP2]) (by decide) mpE_len yw).1
  go_wp2_with fail
  with_reducible refine (kq_11 _ hT).mono ?_
  rintro e w27 ⟨rfl, hT_, f_, bb⟩
  have x_ := f_ _ _ _ _ hmB ap_mB
  replace hmB := x_.1
  replace ap_mB := x_.2
  clear x_
  have x_ := f_ _ _ _ _ hgB ap_gB
  replace hgB := x_.1
  replace ap_gB := x_.2
  clear x_
  have y_ := f_.own yw ya
  replace yw := y_.1
  replace ya := y_.2
  clear y_
  clear hT
  have hT := hT_
  replace bel := bel.trans bb
  clear bb f_ hT_
  replace xs := (owk_sle (l := [kP2]) (by decide) mpE_len yw).1
  go_wp2_with fail
  with_reducible refine (kq_12 _ hT).mono ?_
  rintro e w28 ⟨rfl, hT_, f_, bb⟩
  have x_ := f_ _ _ _ _ hmB ap_mB
  replace hmB := x_.1
  replace ap_mB := x_.2
  clear x_
  have x_ := f_ _ _ _ _ hgB ap_gB
  replace hgB := x_.1
  replace ap_gB := x_.2
  clear x_
  have y_ := f_.own yw ya
  replace yw := y_.1
  replace ya := y_.2
  clear y_
  clear hT
  have hT := hT_
  replace bel := bel.trans bb
  clear bb f_ hT_
  replace xs := (owk_sle (l := [kP2]) (by decide) mpE_len yw).1
  go_wp2_with fail
  go_ret
  exact ⟨rfl, bel⟩
end Go.Proofs.Ytmjmjfcdblapcaa
