/- lease's Get. -/
import Derived.Test.YtjfboofnffghjaaLc4
namespace Go.Proofs.Ytjfboofnffghjaa
open Go.RowKit

set_option linter.unusedVariables false in
set_option linter.unusedSimpArgs false in
set_option maxRecDepth 100000 in
set_option maxHeartbeats 16000000 in
theorem lget_no_op {lo gc : Nat} {m0 m1 m2 m3 m4 m5 now st xid sent wait tries a0 a1 a2 a3 k0 k1 k2 k3 r0 r1 r2 r3 s0 s1 s2 s3 un t1 t2 : Int} {z1 z3 z4 z5 z6 z7 z8 y0 y1 y2 y3 z13 z14 z15 z16 z17 z18 z19 z20 h0 h1 h2 h3 h4 h5 : Int} {A : Option Addr} {n c : Nat} {t : Int} {zo x : Int} (w : World) (hT : Cl lo gc w #[.int .u8 m0, .int .u8 m1, .int .u8 m2, .int .u8 m3, .int .u8 m4, .int .u8 m5, .int .i64 now, .int .i64 st, .int .u32 xid, .int .i64 sent, .int .i64 wait, .int .i64 tries, .int .u8 a0, .int .u8 a1, .int .u8 a2, .int .u8 a3, .int .u8 k0, .int .u8 k1, .int .u8 k2, .int .u8 k3, .int .u8 r0, .int .u8 r1, .int .u8 r2, .int .u8 r3, .int .u8 s0, .int .u8 s1, .int .u8 s2, .int .u8 s3, .int .i64 un, .int .i64 t1, .int .i64 t2]) (ht0 : now ≤ t) (ht2 : t ≤ 1099511627776) (hs0 : (st != 0) = true) (hs3 : (st != 3) = true) (hop : (zo == 2) = false) : Calls Try.prog 13 #[.pointer (some ⟨gc, 0, none⟩), .agg #[.int .i64 zo, .int .i64 z1, .int .u32 x, .int .i64 z3, .int .i64 z4, .int .u8 z5, .int .u8 z6, .int .u8 z7, .int .u8 z8, .int .u8 y0, .int .u8 y1, .int .u8 y2, .int .u8 y3, .int .u8 z13, .int .u8 z14, .int .u8 z15, .int .u8 z16, .int .u8 z17, .int .u8 z18, .int .u8 z19, .int .u8 z20, .int .u8 h0, .int .u8 h1, .int .u8 h2, .int .u8 h3, .int .u8 h4, .int .u8 h5, .slice A n c], .int .i64 t] w fun e w' => e = .returned (.tuple #[.slice none 0 0, .bool false]) ∧ Cl lo gc w' #[.int .u8 m0, .int .u8 m1, .int .u8 m2, .int .u8 m3, .int .u8 m4, .int .u8 m5, .int .i64 t, .int .i64 st, .int .u32 xid, .int .i64 sent, .int .i64 wait, .int .i64 tries, .int .u8 a0, .int .u8 a1, .int .u8 a2, .int .u8 a3, .int .u8 k0, .int .u8 k1, .int .u8 k2, .int .u8 k3, .int .u8 r0, .int .u8 r1, .int .u8 r2, .int .u8 r3, .int .u8 s0, .int .u8 s1, .int .u8 s2, .int .u8 s3, .int .i64 un, .int .i64 t1, .int .i64 t2] ∧ Kt [51] w w' ∧ Below lo w w' := by
  obtain ⟨hcl, ocl⟩ := hT
  have hlo : lo ≤ w.heap.size := Nat.le_trans ocl (Nat.le_of_lt (hlt hcl))
  have kt := Kt.refl [51] w
  have bel := Below.refl lo w
  go_enter Try.func13, Try.ntmps13
  go_wp2_with (first | ((with_reducible show wpList _ _ _ (⟨some 4, _, _, _, _, _⟩ :: _) _ _); refine wpList_box_n rfl 37 (.tmp 1) rfl #[.int .i64 zo, .int .i64 z1, .int .u32 x, .int .i64 z3, .int .i64 z4, .int .u8 z5, .int .u8 z6, .int .u8 z7, .int .u8 z8, .int .u8 y0, .int .u8 y1, .int .u8 y2, .int .u8 y3, .int .u8 z13, .int .u8 z14, .int .u8 z15, .int .u8 z16, .int .u8 z17, .int .u8 z18, .int .u8 z19, .int .u8 z20, .int .u8 h0, .int .u8 h1, .int .u8 h2, .int .u8 h3, .int .u8 h4, .int .u8 h5, .slice A n c] rfl ?_; intro g4 w1 ge lt hh bb; have d_cl_mb := ne_new (hlt hcl) ge; have omb := Nat.le_trans (Nat.le_trans hlo bel.size) ge; have pmb := Nat.le_trans bel.size ge; replace hcl := blk_u hcl bb; replace kt := kt.trans (kt_below bb); replace bel := bel.trans (bb.mono (Nat.le_trans hlo bel.size)); have hmb := hh; clear hh lt ge bb))
  go_wp2_with fail
  have hT : Cl lo gc w1 _ := ⟨hcl, ocl⟩
  clear hcl
  with_reducible refine (ladv _ hT ht0 ht2).mono ?_
  rintro e w2 ⟨rfl, hT_, k_, bb⟩
  replace hmb := Kt.blk k_ hmb (by decide)
  replace kt := kt.trans k_
  clear hT
  have hT := hT_
  replace bel := bel.trans bb
  clear bb k_ hT_
  obtain ⟨hcl, _⟩ := hT
  have R13 := Lib.hid (range_lit hmb 0 28 [.int .i64 zo, .int .i64 z1, .int .u32 x, .int .i64 z3, .int .i64 z4, .int .u8 z5, .int .u8 z6, .int .u8 z7, .int .u8 z8, .int .u8 y0, .int .u8 y1, .int .u8 y2, .int .u8 y3, .int .u8 z13, .int .u8 z14, .int .u8 z15, .int .u8 z16, .int .u8 z17, .int .u8 z18, .int .u8 z19, .int .u8 z20, .int .u8 h0, .int .u8 h1, .int .u8 h2, .int .u8 h3, .int .u8 h4, .int .u8 h5, .slice A n c] rfl)
  go_wp2_with (first | ((with_reducible show wpList _ _ _ (⟨some 13, _, _, _, _, _⟩ :: _) _ _); refine wpList_load_rng 37 (.tmp 4) rfl (by kernel_rfl) _ _ rfl _ R13.out _ Try.underlying37 rfl (by kernel_rfl) ?_))
  try clear R13
  with_reducible refine (lexp_op (hs := []) (L := []) _ (cl_of hcl) hs0 hs3 hop).mono ?_
  rintro e w3 ⟨rfl, b3⟩
  replace hmb := blk_u hmb b3
  replace hcl := blk_u hcl b3
  replace kt := kt.trans (kt_below b3)
  replace bel := bel.trans (b3.mono (Nat.le_trans hlo bel.size))
  clear b3
  go_wp2_with fail
  exact bodyPost_ret (v := .tuple #[.slice none 0 0, .bool false]) (by simp [results, Try.results13, go_sem]) rfl ⟨rfl, ⟨hcl, ocl⟩, kt, bel⟩
set_option linter.unusedVariables false in
set_option linter.unusedSimpArgs false in
set_option maxRecDepth 100000 in
set_option maxHeartbeats 16000000 in
theorem lget_no_mac {lo gc : Nat} {m0 m1 m2 m3 m4 m5 now st xid sent wait tries a0 a1 a2 a3 k0 k1 k2 k3 r0 r1 r2 r3 s0 s1 s2 s3 un t1 t2 : Int} {z1 z3 z4 z5 z6 z7 z8 y0 y1 y2 y3 z13 z14 z15 z16 z17 z18 z19 z20 h0 h1 h2 h3 h4 h5 : Int} {A : Option Addr} {n c : Nat} {t : Int} {zo x : Int} (w : World) (hT : Cl lo gc w #[.int .u8 m0, .int .u8 m1, .int .u8 m2, .int .u8 m3, .int .u8 m4, .int .u8 m5, .int .i64 now, .int .i64 st, .int .u32 xid, .int .i64 sent, .int .i64 wait, .int .i64 tries, .int .u8 a0, .int .u8 a1, .int .u8 a2, .int .u8 a3, .int .u8 k0, .int .u8 k1, .int .u8 k2, .int .u8 k3, .int .u8 r0, .int .u8 r1, .int .u8 r2, .int .u8 r3, .int .u8 s0, .int .u8 s1, .int .u8 s2, .int .u8 s3, .int .i64 un, .int .i64 t1, .int .i64 t2]) (ht0 : now ≤ t) (ht2 : t ≤ 1099511627776) (hs0 : (st != 0) = true) (hs3 : (st != 3) = true) (hop : (zo == 2) = true) (hmac : ∀ W, (binOp .eql 26 (.agg #[.int .u8 h0, .int .u8 h1, .int .u8 h2, .int .u8 h3, .int .u8 h4, .int .u8 h5]) (.agg #[.int .u8 m0, .int .u8 m1, .int .u8 m2, .int .u8 m3, .int .u8 m4, .int .u8 m5])).run Try.prog W = .ok (.bool false) W) : Calls Try.prog 13 #[.pointer (some ⟨gc, 0, none⟩), .agg #[.int .i64 zo, .int .i64 z1, .int .u32 x, .int .i64 z3, .int .i64 z4, .int .u8 z5, .int .u8 z6, .int .u8 z7, .int .u8 z8, .int .u8 y0, .int .u8 y1, .int .u8 y2, .int .u8 y3, .int .u8 z13, .int .u8 z14, .int .u8 z15, .int .u8 z16, .int .u8 z17, .int .u8 z18, .int .u8 z19, .int .u8 z20, .int .u8 h0, .int .u8 h1, .int .u8 h2, .int .u8 h3, .int .u8 h4, .int .u8 h5, .slice A n c], .int .i64 t] w fun e w' => e = .returned (.tuple #[.slice none 0 0, .bool false]) ∧ Cl lo gc w' #[.int .u8 m0, .int .u8 m1, .int .u8 m2, .int .u8 m3, .int .u8 m4, .int .u8 m5, .int .i64 t, .int .i64 st, .int .u32 xid, .int .i64 sent, .int .i64 wait, .int .i64 tries, .int .u8 a0, .int .u8 a1, .int .u8 a2, .int .u8 a3, .int .u8 k0, .int .u8 k1, .int .u8 k2, .int .u8 k3, .int .u8 r0, .int .u8 r1, .int .u8 r2, .int .u8 r3, .int .u8 s0, .int .u8 s1, .int .u8 s2, .int .u8 s3, .int .i64 un, .int .i64 t1, .int .i64 t2] ∧ Kt [51] w w' ∧ Below lo w w' := by
  obtain ⟨hcl, ocl⟩ := hT
  have hlo : lo ≤ w.heap.size := Nat.le_trans ocl (Nat.le_of_lt (hlt hcl))
  have kt := Kt.refl [51] w
  have bel := Below.refl lo w
  go_enter Try.func13, Try.ntmps13
  go_wp2_with (first | ((with_reducible show wpList _ _ _ (⟨some 4, _, _, _, _, _⟩ :: _) _ _); refine wpList_box_n rfl 37 (.tmp 1) rfl #[.int .i64 zo, .int .i64 z1, .int .u32 x, .int .i64 z3, .int .i64 z4, .int .u8 z5, .int .u8 z6, .int .u8 z7, .int .u8 z8, .int .u8 y0, .int .u8 y1, .int .u8 y2, .int .u8 y3, .int .u8 z13, .int .u8 z14, .int .u8 z15, .int .u8 z16, .int .u8 z17, .int .u8 z18, .int .u8 z19, .int .u8 z20, .int .u8 h0, .int .u8 h1, .int .u8 h2, .int .u8 h3, .int .u8 h4, .int .u8 h5, .slice A n c] rfl ?_; intro g4 w1 ge lt hh bb; have d_cl_mb := ne_new (hlt hcl) ge; have omb := Nat.le_trans (Nat.le_trans hlo bel.size) ge; have pmb := Nat.le_trans bel.size ge; replace hcl := blk_u hcl bb; replace kt := kt.trans (kt_below bb); replace bel := bel.trans (bb.mono (Nat.le_trans hlo bel.size)); have hmb := hh; clear hh lt ge bb))
  go_wp2_with fail
  have hT : Cl lo gc w1 _ := ⟨hcl, ocl⟩
  clear hcl
  with_reducible refine (ladv _ hT ht0 ht2).mono ?_
  rintro e w2 ⟨rfl, hT_, k_, bb⟩
  replace hmb := Kt.blk k_ hmb (by decide)
  replace kt := kt.trans k_
  clear hT
  have hT := hT_
  replace bel := bel.trans bb
  clear bb k_ hT_
  obtain ⟨hcl, _⟩ := hT
  have R13 := Lib.hid (range_lit hmb 0 28 [.int .i64 zo, .int .i64 z1, .int .u32 x, .int .i64 z3, .int .i64 z4, .int .u8 z5, .int .u8 z6, .int .u8 z7, .int .u8 z8, .int .u8 y0, .int .u8 y1, .int .u8 y2, .int .u8 y3, .int .u8 z13, .int .u8 z14, .int .u8 z15, .int .u8 z16, .int .u8 z17, .int .u8 z18, .int .u8 z19, .int .u8 z20, .int .u8 h0, .int .u8 h1, .int .u8 h2, .int .u8 h3, .int .u8 h4, .int .u8 h5, .slice A n c] rfl)
  go_wp2_with (first | ((with_reducible show wpList _ _ _ (⟨some 13, _, _, _, _, _⟩ :: _) _ _); refine wpList_load_rng 37 (.tmp 4) rfl (by kernel_rfl) _ _ rfl _ R13.out _ Try.underlying37 rfl (by kernel_rfl) ?_))
  try clear R13
  with_reducible refine (lexp_mac (hs := []) (L := []) _ (cl_of hcl) hs0 hs3 hop hmac).mono ?_
  rintro e w3 ⟨rfl, b3⟩
  replace hmb := blk_u hmb b3
  replace hcl := blk_u hcl b3
  replace kt := kt.trans (kt_below b3)
  replace bel := bel.trans (b3.mono (Nat.le_trans hlo bel.size))
  clear b3
  go_wp2_with fail
  exact bodyPost_ret (v := .tuple #[.slice none 0 0, .bool false]) (by simp [results, Try.results13, go_sem]) rfl ⟨rfl, ⟨hcl, ocl⟩, kt, bel⟩
set_option linter.unusedVariables false in
set_option linter.unusedSimpArgs false in
set_option maxRecDepth 100000 in
set_option maxHeartbeats 16000000 in
theorem lget_no_xid {lo gc : Nat} {m0 m1 m2 m3 m4 m5 now st xid sent wait tries a0 a1 a2 a3 k0 k1 k2 k3 r0 r1 r2 r3 s0 s1 s2 s3 un t1 t2 : Int} {z1 z3 z4 z5 z6 z7 z8 y0 y1 y2 y3 z13 z14 z15 z16 z17 z18 z19 z20 h0 h1 h2 h3 h4 h5 : Int} {A : Option Addr} {n c : Nat} {t : Int} {zo x : Int} (w : World) (hT : Cl lo gc w #[.int .u8 m0, .int .u8 m1, .int .u8 m2, .int .u8 m3, .int .u8 m4, .int .u8 m5, .int .i64 now, .int .i64 st, .int .u32 xid, .int .i64 sent, .int .i64 wait, .int .i64 tries, .int .u8 a0, .int .u8 a1, .int .u8 a2, .int .u8 a3, .int .u8 k0, .int .u8 k1, .int .u8 k2, .int .u8 k3, .int .u8 r0, .int .u8 r1, .int .u8 r2, .int .u8 r3, .int .u8 s0, .int .u8 s1, .int .u8 s2, .int .u8 s3, .int .i64 un, .int .i64 t1, .int .i64 t2]) (ht0 : now ≤ t) (ht2 : t ≤ 1099511627776) (hs0 : (st != 0) = true) (hs3 : (st != 3) = true) (hop : (zo == 2) = true) (hmac : ∀ W, (binOp .eql 26 (.agg #[.int .u8 h0, .int .u8 h1, .int .u8 h2, .int .u8 h3, .int .u8 h4, .int .u8 h5]) (.agg #[.int .u8 m0, .int .u8 m1, .int .u8 m2, .int .u8 m3, .int .u8 m4, .int .u8 m5])).run Try.prog W = .ok (.bool true) W) (hx : (x == xid) = false) : Calls Try.prog 13 #[.pointer (some ⟨gc, 0, none⟩), .agg #[.int .i64 zo, .int .i64 z1, .int .u32 x, .int .i64 z3, .int .i64 z4, .int .u8 z5, .int .u8 z6, .int .u8 z7, .int .u8 z8, .int .u8 y0, .int .u8 y1, .int .u8 y2, .int .u8 y3, .int .u8 z13, .int .u8 z14, .int .u8 z15, .int .u8 z16, .int .u8 z17, .int .u8 z18, .int .u8 z19, .int .u8 z20, .int .u8 h0, .int .u8 h1, .int .u8 h2, .int .u8 h3, .int .u8 h4, .int .u8 h5, .slice A n c], .int .i64 t] w fun e w' => e = .returned (.tuple #[.slice none 0 0, .bool false]) ∧ Cl lo gc w' #[.int .u8 m0, .int .u8 m1, .int .u8 m2, .int .u8 m3, .int .u8 m4, .int .u8 m5, .int .i64 t, .int .i64 st, .int .u32 xid, .int .i64 sent, .int .i64 wait, .int .i64 tries, .int .u8 a0, .int .u8 a1, .int .u8 a2, .int .u8 a3, .int .u8 k0, .int .u8 k1, .int .u8 k2, .int .u8 k3, .int .u8 r0, .int .u8 r1, .int .u8 r2, .int .u8 r3, .int .u8 s0, .int .u8 s1, .int .u8 s2, .int .u8 s3, .int .i64 un, .int .i64 t1, .int .i64 t2] ∧ Kt [51] w w' ∧ Below lo w w' := by
  obtain ⟨hcl, ocl⟩ := hT
  have hlo : lo ≤ w.heap.size := Nat.le_trans ocl (Nat.le_of_lt (hlt hcl))
  have kt := Kt.refl [51] w
  have bel := Below.refl lo w
  go_enter Try.func13, Try.ntmps13
  go_wp2_with (first | ((with_reducible show wpList _ _ _ (⟨some 4, _, _, _, _, _⟩ :: _) _ _); refine wpList_box_n rfl 37 (.tmp 1) rfl #[.int .i64 zo, .int .i64 z1, .int .u32 x, .int .i64 z3, .int .i64 z4, .int .u8 z5, .int .u8 z6, .int .u8 z7, .int .u8 z8, .int .u8 y0, .int .u8 y1, .int .u8 y2, .int .u8 y3, .int .u8 z13, .int .u8 z14, .int .u8 z15, .int .u8 z16, .int .u8 z17, .int .u8 z18, .int .u8 z19, .int .u8 z20, .int .u8 h0, .int .u8 h1, .int .u8 h2, .int .u8 h3, .int .u8 h4, .int .u8 h5, .slice A n c] rfl ?_; intro g4 w1 ge lt hh bb; have d_cl_mb := ne_new (hlt hcl) ge; have omb := Nat.le_trans (Nat.le_trans hlo bel.size) ge; have pmb := Nat.le_trans bel.size ge; replace hcl := blk_u hcl bb; replace kt := kt.trans (kt_below bb); replace bel := bel.trans (bb.mono (Nat.le_trans hlo bel.size)); have hmb := hh; clear hh lt ge bb))
  go_wp2_with fail
  have hT : Cl lo gc w1 _ := ⟨hcl, ocl⟩
  clear hcl
  with_reducible refine (ladv _ hT ht0 ht2).mono ?_
  rintro e w2 ⟨rfl, hT_, k_, bb⟩
  replace hmb := Kt.blk k_ hmb (by decide)
  replace kt := kt.trans k_
  clear hT
  have hT := hT_
  replace bel := bel.trans bb
  clear bb k_ hT_
  obtain ⟨hcl, _⟩ := hT
  have R13 := Lib.hid (range_lit hmb 0 28 [.int .i64 zo, .int .i64 z1, .int .u32 x, .int .i64 z3, .int .i64 z4, .int .u8 z5, .int .u8 z6, .int .u8 z7, .int .u8 z8, .int .u8 y0, .int .u8 y1, .int .u8 y2, .int .u8 y3, .int .u8 z13, .int .u8 z14, .int .u8 z15, .int .u8 z16, .int .u8 z17, .int .u8 z18, .int .u8 z19, .int .u8 z20, .int .u8 h0, .int .u8 h1, .int .u8 h2, .int .u8 h3, .int .u8 h4, .int .u8 h5, .slice A n c] rfl)
  go_wp2_with (first | ((with_reducible show wpList _ _ _ (⟨some 13, _, _, _, _, _⟩ :: _) _ _); refine wpList_load_rng 37 (.tmp 4) rfl (by kernel_rfl) _ _ rfl _ R13.out _ Try.underlying37 rfl (by kernel_rfl) ?_))
  try clear R13
  with_reducible refine (lexp_xid (hs := []) (L := []) _ (cl_of hcl) hs0 hs3 hop hmac hx).mono ?_
  rintro e w3 ⟨rfl, b3⟩
  replace hmb := blk_u hmb b3
  replace hcl := blk_u hcl b3
  replace kt := kt.trans (kt_below b3)
  replace bel := bel.trans (b3.mono (Nat.le_trans hlo bel.size))
  clear b3
  go_wp2_with fail
  exact bodyPost_ret (v := .tuple #[.slice none 0 0, .bool false]) (by simp [results, Try.results13, go_sem]) rfl ⟨rfl, ⟨hcl, ocl⟩, kt, bel⟩
set_option linter.unusedVariables false in
set_option linter.unusedSimpArgs false in
set_option maxRecDepth 100000 in
set_option maxHeartbeats 16000000 in
theorem lget_off {lo gc : Nat} {m0 m1 m2 m3 m4 m5 now xid sent wait tries a0 a1 a2 a3 k0 k1 k2 k3 r0 r1 r2 r3 s0 s1 s2 s3 un t1 t2 : Int} {z1 z3 z4 z5 z6 z7 z8 y0 y1 y2 y3 z13 z14 z15 z16 z17 z18 z19 z20 h0 h1 h2 h3 h4 h5 : Int} {A : Option Addr} {n c : Nat} {hs : List Oh} {L : OptL} {t : Int} {e0 e1 e2 e3 : Int} (w : World) (hT : Cl lo gc w #[.int .u8 m0, .int .u8 m1, .int .u8 m2, .int .u8 m3, .int .u8 m4, .int .u8 m5, .int .i64 now, .int .i64 1, .int .u32 xid, .int .i64 sent, .int .i64 wait, .int .i64 tries, .int .u8 a0, .int .u8 a1, .int .u8 a2, .int .u8 a3, .int .u8 k0, .int .u8 k1, .int .u8 k2, .int .u8 k3, .int .u8 r0, .int .u8 r1, .int .u8 r2, .int .u8 r3, .int .u8 s0, .int .u8 s1, .int .u8 s2, .int .u8 s3, .int .i64 un, .int .i64 t1, .int .i64 t2]) (ht0 : now ≤ t) (ht2 : t ≤ 1099511627776) (hO : Opv w A n c hs L) (hmac : ∀ W, (binOp .eql 26 (.agg #[.int .u8 h0, .int .u8 h1, .int .u8 h2, .int .u8 h3, .int .u8 h4, .int .u8 h5]) (.agg #[.int .u8 m0, .int .u8 m1, .int .u8 m2, .int .u8 m3, .int .u8 m4, .int .u8 m5])).run Try.prog W = .ok (.bool true) W) (hty : (typeL L : Int) = 2) (h54 : I4 (findL L 54) e0 e1 e2 e3 true) (hy : ∀ W, (binOp .eql 34 (.agg #[.int .u8 y0, .int .u8 y1, .int .u8 y2, .int .u8 y3]) (.agg #[.int .u8 0, .int .u8 0, .int .u8 0, .int .u8 0])).run Try.prog W = .ok (.bool false) W) (hyb : By4 y0 y1 y2 y3) : Calls Try.prog 13 #[.pointer (some ⟨gc, 0, none⟩), .agg #[.int .i64 2, .int .i64 z1, .int .u32 xid, .int .i64 z3, .int .i64 z4, .int .u8 z5, .int .u8 z6, .int .u8 z7, .int .u8 z8, .int .u8 y0, .int .u8 y1, .int .u8 y2, .int .u8 y3, .int .u8 z13, .int .u8 z14, .int .u8 z15, .int .u8 z16, .int .u8 z17, .int .u8 z18, .int .u8 z19, .int .u8 z20, .int .u8 h0, .int .u8 h1, .int .u8 h2, .int .u8 h3, .int .u8 h4, .int .u8 h5, .slice A n c], .int .i64 t] w fun e w' => ∃ g, e = .returned (.tuple #[.slice (some ⟨g, 0, none⟩) 1 1, .bool false]) ∧ Ms w' g [.int .i64 1, .int .i64 0, .int .u32 xid, .int .i64 0, .int .i64 32768, .int .u8 0, .int .u8 0, .int .u8 0, .int .u8 0, .int .u8 0, .int .u8 0, .int .u8 0, .int .u8 0, .int .u8 0, .int .u8 0, .int .u8 0, .int .u8 0, .int .u8 0, .int .u8 0, .int .u8 0, .int .u8 0, .int .u8 m0, .int .u8 m1, .int .u8 m2, .int .u8 m3, .int .u8 m4, .int .u8 m5] 3 ∧ Cl lo gc w' #[.int .u8 m0, .int .u8 m1, .int .u8 m2, .int .u8 m3, .int .u8 m4, .int .u8 m5, .int .i64 t, .int .i64 2, .int .u32 xid, .int .i64 t, .int .i64 4, .int .i64 1, .int .u8 y0, .int .u8 y1, .int .u8 y2, .int .u8 y3, .int .u8 0, .int .u8 0, .int .u8 0, .int .u8 0, .int .u8 0, .int .u8 0, .int .u8 0, .int .u8 0, .int .u8 e0, .int .u8 e1, .int .u8 e2, .int .u8 e3, .int .i64 0, .int .i64 t1, .int .i64 t2] ∧ Kt [51] w w' ∧ Below lo w w' := by
  obtain ⟨hcl, ocl⟩ := hT
  have hlo : lo ≤ w.heap.size := Nat.le_trans ocl (Nat.le_of_lt (hlt hcl))
  have kt := Kt.refl [51] w
  have HYB := Lib.hid hyb
  clear hyb
  have H54 := Lib.hid h54
  clear h54
  have HTY := Lib.hid hty
  clear hty
  have bel := Below.refl lo w
  go_enter Try.func13, Try.ntmps13
  go_wp2_with (first | ((with_reducible show wpList _ _ _ (⟨some 4, _, _, _, _, _⟩ :: _) _ _); refine wpList_box_n rfl 37 (.tmp 1) rfl #[.int .i64 2, .int .i64 z1, .int .u32 xid, .int .i64 z3, .int .i64 z4, .int .u8 z5, .int .u8 z6, .int .u8 z7, .int .u8 z8, .int .u8 y0, .int .u8 y1, .int .u8 y2, .int .u8 y3, .int .u8 z13, .int .u8 z14, .int .u8 z15, .int .u8 z16, .int .u8 z17, .int .u8 z18, .int .u8 z19, .int .u8 z20, .int .u8 h0, .int .u8 h1, .int .u8 h2, .int .u8 h3, .int .u8 h4, .int .u8 h5, .slice A n c] rfl ?_; intro g4 w1 ge lt hh bb; have d_cl_mb := ne_new (hlt hcl) ge; have omb := Nat.le_trans (Nat.le_trans hlo bel.size) ge; have pmb := Nat.le_trans bel.size ge; have oa_mb := hO.oa ge; replace hcl := blk_u hcl bb; replace kt := kt.trans (kt_below bb); replace hO := hO.below bb; replace bel := bel.trans (bb.mono (Nat.le_trans hlo bel.size)); have hmb := hh; clear hh lt ge bb))
  go_wp2_with fail
  have hT : Cl lo gc w1 _ := ⟨hcl, ocl⟩
  clear hcl
  with_reducible refine (ladv _ hT ht0 ht2).mono ?_
  rintro e w2 ⟨rfl, hT_, k_, bb⟩
  replace hmb := Kt.blk k_ hmb (by decide)
  replace kt := kt.trans k_
  replace hO := hO.kt k_
  clear hT
  have hT := hT_
  replace bel := bel.trans bb
  clear bb k_ hT_
  obtain ⟨hcl, _⟩ := hT
  have R13 := Lib.hid (range_lit hmb 0 28 [.int .i64 2, .int .i64 z1, .int .u32 xid, .int .i64 z3, .int .i64 z4, .int .u8 z5, .int .u8 z6, .int .u8 z7, .int .u8 z8, .int .u8 y0, .int .u8 y1, .int .u8 y2, .int .u8 y3, .int .u8 z13, .int .u8 z14, .int .u8 z15, .int .u8 z16, .int .u8 z17, .int .u8 z18, .int .u8 z19, .int .u8 z20, .int .u8 h0, .int .u8 h1, .int .u8 h2, .int .u8 h3, .int .u8 h4, .int .u8 h5, .slice A n c] rfl)
  go_wp2_with (first | ((with_reducible show wpList _ _ _ (⟨some 13, _, _, _, _, _⟩ :: _) _ _); refine wpList_load_rng 37 (.tmp 4) rfl (by kernel_rfl) _ _ rfl _ R13.out _ Try.underlying37 rfl (by kernel_rfl) ?_))
  try clear R13
  with_reducible refine (lexp_yes (hs := []) (L := []) _ (cl_of hcl) (by decide) (by decide) (by decide) hmac (by simp)).mono ?_
  rintro e w3 ⟨rfl, b3⟩
  replace hmb := blk_u hmb b3
  replace hcl := blk_u hcl b3
  replace kt := kt.trans (kt_below b3)
  replace hO := hO.below b3
  replace bel := bel.trans (b3.mono (Nat.le_trans hlo bel.size))
  clear b3
  have R16 := Lib.hid (range_lit hmb 0 28 [.int .i64 2, .int .i64 z1, .int .u32 xid, .int .i64 z3, .int .i64 z4, .int .u8 z5, .int .u8 z6, .int .u8 z7, .int .u8 z8, .int .u8 y0, .int .u8 y1, .int .u8 y2, .int .u8 y3, .int .u8 z13, .int .u8 z14, .int .u8 z15, .int .u8 z16, .int .u8 z17, .int .u8 z18, .int .u8 z19, .int .u8 z20, .int .u8 h0, .int .u8 h1, .int .u8 h2, .int .u8 h3, .int .u8 h4, .int .u8 h5, .slice A n c] rfl)
  go_wp2_with (first | ((with_reducible show wpList _ _ _ (⟨some 16, _, _, _, _, _⟩ :: _) _ _); refine wpList_load_rng 37 (.tmp 4) rfl (by kernel_rfl) _ _ rfl _ R16.out _ Try.underlying37 rfl (by kernel_rfl) ?_))
  try clear R16
  with_reducible refine (ltype_a (k := 2) _ hO HTY.out).mono ?_
  rintro e w4 ⟨rfl, b4⟩
  replace hmb := blk_u hmb b4
  replace hcl := blk_u hcl b4
  replace kt := kt.trans (kt_below b4)
  replace hO := hO.below b4
  replace bel := bel.trans (b4.mono (Nat.le_trans hlo bel.size))
  clear b4
  have R22 := cell_lit hcl 7 _ rfl
  have R25 := Lib.hid (range_lit hmb 0 28 [.int .i64 2, .int .i64 z1, .int .u32 xid, .int .i64 z3, .int .i64 z4, .int .u8 z5, .int .u8 z6, .int .u8 z7, .int .u8 z8, .int .u8 y0, .int .u8 y1, .int .u8 y2, .int .u8 y3, .int .u8 z13, .int .u8 z14, .int .u8 z15, .int .u8 z16, .int .u8 z17, .int .u8 z18, .int .u8 z19, .int .u8 z20, .int .u8 h0, .int .u8 h1, .int .u8 h2, .int .u8 h3, .int .u8 h4, .int .u8 h5, .slice A n c] rfl)
  go_wp2_with (first | ((with_reducible show wpList _ _ _ (⟨some 25, _, _, _, _, _⟩ :: _) _ _); refine wpList_load_rng 37 (.tmp 4) rfl (by kernel_rfl) _ _ rfl _ R25.out _ Try.underlying37 rfl (by kernel_rfl) ?_))
  try clear R22
  try clear R25
  go_wp2_with fail
  have hT : Cl lo gc w4 _ := ⟨hcl, ocl⟩
  clear hcl
  with_reducible refine (lacc_yes _ hT hO HTY.out H54.out hy HYB.out).mono ?_
  rintro e w5 ⟨gm, rfl, hm, hT_, k_, bb⟩
  replace hmb := Kt.blk k_ hmb (by decide)
  replace kt := kt.trans k_
  replace hO := hO.kt k_
  clear hT
  have hT := hT_
  replace bel := bel.trans bb
  clear bb k_ hT_
  go_wp2_with fail
  exact bodyPost_ret (v := .tuple #[.slice (some ⟨gm, 0, none⟩) 1 1, .bool false]) (by simp [results, Try.results13, go_sem]) rfl ⟨_, rfl, hm, hT, kt, bel⟩
set_option linter.unusedVariables false in
set_option linter.unusedSimpArgs false in
set_option maxRecDepth 100000 in
set_option maxHeartbeats 16000000 in
theorem lget_offno {lo gc : Nat} {m0 m1 m2 m3 m4 m5 now xid sent wait tries a0 a1 a2 a3 k0 k1 k2 k3 r0 r1 r2 r3 s0 s1 s2 s3 un t1 t2 : Int} {z1 z3 z4 z5 z6 z7 z8 y0 y1 y2 y3 z13 z14 z15 z16 z17 z18 z19 z20 h0 h1 h2 h3 h4 h5 : Int} {A : Option Addr} {n c : Nat} {hs : List Oh} {L : OptL} {t : Int} {e0 e1 e2 e3 : Int} {k : Int} {b : Bool} (w : World) (hT : Cl lo gc w #[.int .u8 m0, .int .u8 m1, .int .u8 m2, .int .u8 m3, .int .u8 m4, .int .u8 m5, .int .i64 now, .int .i64 1, .int .u32 xid, .int .i64 sent, .int .i64 wait, .int .i64 tries, .int .u8 a0, .int .u8 a1, .int .u8 a2, .int .u8 a3, .int .u8 k0, .int .u8 k1, .int .u8 k2, .int .u8 k3, .int .u8 r0, .int .u8 r1, .int .u8 r2, .int .u8 r3, .int .u8 s0, .int .u8 s1, .int .u8 s2, .int .u8 s3, .int .i64 un, .int .i64 t1, .int .i64 t2]) (ht0 : now ≤ t) (ht2 : t ≤ 1099511627776) (hO : Opv w A n c hs L) (hmac : ∀ W, (binOp .eql 26 (.agg #[.int .u8 h0, .int .u8 h1, .int .u8 h2, .int .u8 h3, .int .u8 h4, .int .u8 h5]) (.agg #[.int .u8 m0, .int .u8 m1, .int .u8 m2, .int .u8 m3, .int .u8 m4, .int .u8 m5])).run Try.prog W = .ok (.bool true) W) (hty : (typeL L : Int) = k) (h54 : I4 (findL L 54) e0 e1 e2 e3 b) (hk : (k != 2) = true) : Calls Try.prog 13 #[.pointer (some ⟨gc, 0, none⟩), .agg #[.int .i64 2, .int .i64 z1, .int .u32 xid, .int .i64 z3, .int .i64 z4, .int .u8 z5, .int .u8 z6, .int .u8 z7, .int .u8 z8, .int .u8 y0, .int .u8 y1, .int .u8 y2, .int .u8 y3, .int .u8 z13, .int .u8 z14, .int .u8 z15, .int .u8 z16, .int .u8 z17, .int .u8 z18, .int .u8 z19, .int .u8 z20, .int .u8 h0, .int .u8 h1, .int .u8 h2, .int .u8 h3, .int .u8 h4, .int .u8 h5, .slice A n c], .int .i64 t] w fun e w' => e = .returned (.tuple #[.slice none 0 0, .bool false]) ∧ Cl lo gc w' #[.int .u8 m0, .int .u8 m1, .int .u8 m2, .int .u8 m3, .int .u8 m4, .int .u8 m5, .int .i64 t, .int .i64 1, .int .u32 xid, .int .i64 sent, .int .i64 wait, .int .i64 tries, .int .u8 a0, .int .u8 a1, .int .u8 a2, .int .u8 a3, .int .u8 k0, .int .u8 k1, .int .u8 k2, .int .u8 k3, .int .u8 r0, .int .u8 r1, .int .u8 r2, .int .u8 r3, .int .u8 s0, .int .u8 s1, .int .u8 s2, .int .u8 s3, .int .i64 un, .int .i64 t1, .int .i64 t2] ∧ Kt [51] w w' ∧ Below lo w w' := by
  obtain ⟨hcl, ocl⟩ := hT
  have hlo : lo ≤ w.heap.size := Nat.le_trans ocl (Nat.le_of_lt (hlt hcl))
  have kt := Kt.refl [51] w
  have H54 := Lib.hid h54
  clear h54
  have HTY := Lib.hid hty
  clear hty
  have bel := Below.refl lo w
  go_enter Try.func13, Try.ntmps13
  go_wp2_with (first | ((with_reducible show wpList _ _ _ (⟨some 4, _, _, _, _, _⟩ :: _) _ _); refine wpList_box_n rfl 37 (.tmp 1) rfl #[.int .i64 2, .int .i64 z1, .int .u32 xid, .int .i64 z3, .int .i64 z4, .int .u8 z5, .int .u8 z6, .int .u8 z7, .int .u8 z8, .int .u8 y0, .int .u8 y1, .int .u8 y2, .int .u8 y3, .int .u8 z13, .int .u8 z14, .int .u8 z15, .int .u8 z16, .int .u8 z17, .int .u8 z18, .int .u8 z19, .int .u8 z20, .int .u8 h0, .int .u8 h1, .int .u8 h2, .int .u8 h3, .int .u8 h4, .int .u8 h5, .slice A n c] rfl ?_; intro g4 w1 ge lt hh bb; have d_cl_mb := ne_new (hlt hcl) ge; have omb := Nat.le_trans (Nat.le_trans hlo bel.size) ge; have pmb := Nat.le_trans bel.size ge; have oa_mb := hO.oa ge; replace hcl := blk_u hcl bb; replace kt := kt.trans (kt_below bb); replace hO := hO.below bb; replace bel := bel.trans (bb.mono (Nat.le_trans hlo bel.size)); have hmb := hh; clear hh lt ge bb))
  go_wp2_with fail
  have hT : Cl lo gc w1 _ := ⟨hcl, ocl⟩
  clear hcl
  with_reducible refine (ladv _ hT ht0 ht2).mono ?_
  rintro e w2 ⟨rfl, hT_, k_, bb⟩
  replace hmb := Kt.blk k_ hmb (by decide)
  replace kt := kt.trans k_
  replace hO := hO.kt k_
  clear hT
  have hT := hT_
  replace bel := bel.trans bb
  clear bb k_ hT_
  obtain ⟨hcl, _⟩ := hT
  have R13 := Lib.hid (range_lit hmb 0 28 [.int .i64 2, .int .i64 z1, .int .u32 xid, .int .i64 z3, .int .i64 z4, .int .u8 z5, .int .u8 z6, .int .u8 z7, .int .u8 z8, .int .u8 y0, .int .u8 y1, .int .u8 y2, .int .u8 y3, .int .u8 z13, .int .u8 z14, .int .u8 z15, .int .u8 z16, .int .u8 z17, .int .u8 z18, .int .u8 z19, .int .u8 z20, .int .u8 h0, .int .u8 h1, .int .u8 h2, .int .u8 h3, .int .u8 h4, .int .u8 h5, .slice A n c] rfl)
  go_wp2_with (first | ((with_reducible show wpList _ _ _ (⟨some 13, _, _, _, _, _⟩ :: _) _ _); refine wpList_load_rng 37 (.tmp 4) rfl (by kernel_rfl) _ _ rfl _ R13.out _ Try.underlying37 rfl (by kernel_rfl) ?_))
  try clear R13
  with_reducible refine (lexp_yes (hs := []) (L := []) _ (cl_of hcl) (by decide) (by decide) (by decide) hmac (by simp)).mono ?_
  rintro e w3 ⟨rfl, b3⟩
  replace hmb := blk_u hmb b3
  replace hcl := blk_u hcl b3
  replace kt := kt.trans (kt_below b3)
  replace hO := hO.below b3
  replace bel := bel.trans (b3.mono (Nat.le_trans hlo bel.size))
  clear b3
  have R16 := Lib.hid (range_lit hmb 0 28 [.int .i64 2, .int .i64 z1, .int .u32 xid, .int .i64 z3, .int .i64 z4, .int .u8 z5, .int .u8 z6, .int .u8 z7, .int .u8 z8, .int .u8 y0, .int .u8 y1, .int .u8 y2, .int .u8 y3, .int .u8 z13, .int .u8 z14, .int .u8 z15, .int .u8 z16, .int .u8 z17, .int .u8 z18, .int .u8 z19, .int .u8 z20, .int .u8 h0, .int .u8 h1, .int .u8 h2, .int .u8 h3, .int .u8 h4, .int .u8 h5, .slice A n c] rfl)
  go_wp2_with (first | ((with_reducible show wpList _ _ _ (⟨some 16, _, _, _, _, _⟩ :: _) _ _); refine wpList_load_rng 37 (.tmp 4) rfl (by kernel_rfl) _ _ rfl _ R16.out _ Try.underlying37 rfl (by kernel_rfl) ?_))
  try clear R16
  with_reducible refine (ltype_a (k := k) _ hO HTY.out).mono ?_
  rintro e w4 ⟨rfl, b4⟩
  replace hmb := blk_u hmb b4
  replace hcl := blk_u hcl b4
  replace kt := kt.trans (kt_below b4)
  replace hO := hO.below b4
  replace bel := bel.trans (b4.mono (Nat.le_trans hlo bel.size))
  clear b4
  have R22 := cell_lit hcl 7 _ rfl
  have R25 := Lib.hid (range_lit hmb 0 28 [.int .i64 2, .int .i64 z1, .int .u32 xid, .int .i64 z3, .int .i64 z4, .int .u8 z5, .int .u8 z6, .int .u8 z7, .int .u8 z8, .int .u8 y0, .int .u8 y1, .int .u8 y2, .int .u8 y3, .int .u8 z13, .int .u8 z14, .int .u8 z15, .int .u8 z16, .int .u8 z17, .int .u8 z18, .int .u8 z19, .int .u8 z20, .int .u8 h0, .int .u8 h1, .int .u8 h2, .int .u8 h3, .int .u8 h4, .int .u8 h5, .slice A n c] rfl)
  go_wp2_with (first | ((with_reducible show wpList _ _ _ (⟨some 25, _, _, _, _, _⟩ :: _) _ _); refine wpList_load_rng 37 (.tmp 4) rfl (by kernel_rfl) _ _ rfl _ R25.out _ Try.underlying37 rfl (by kernel_rfl) ?_))
  try clear R22
  try clear R25
  go_wp2_with fail
  have hT : Cl lo gc w4 _ := ⟨hcl, ocl⟩
  clear hcl
  with_reducible refine (lacc_no _ hT hO HTY.out H54.out hk).mono ?_
  rintro e w5 ⟨rfl, hT_, k_, bb⟩
  replace hmb := Kt.blk k_ hmb (by decide)
  replace kt := kt.trans k_
  replace hO := hO.kt k_
  clear hT
  have hT := hT_
  replace bel := bel.trans bb
  clear bb k_ hT_
  obtain ⟨hcl, _⟩ := hT
  go_wp2_with fail
  exact bodyPost_ret (v := .tuple #[.slice none 0 0, .bool false]) (by simp [results, Try.results13, go_sem]) rfl ⟨rfl, ⟨hcl, ocl⟩, kt, bel⟩
set_option linter.unusedVariables false in
set_option linter.unusedSimpArgs false in
set_option maxRecDepth 100000 in
set_option maxHeartbeats 16000000 in
theorem lget_nak_2 {lo gc : Nat} {m0 m1 m2 m3 m4 m5 now xid sent wait tries a0 a1 a2 a3 k0 k1 k2 k3 r0 r1 r2 r3 s0 s1 s2 s3 un t1 t2 : Int} {z1 z3 z4 z5 z6 z7 z8 y0 y1 y2 y3 z13 z14 z15 z16 z17 z18 z19 z20 h0 h1 h2 h3 h4 h5 : Int} {A : Option Addr} {n c : Nat} {hs : List Oh} {L : OptL} {t : Int} {e0 e1 e2 e3 : Int} (w : World) (hT : Cl lo gc w #[.int .u8 m0, .int .u8 m1, .int .u8 m2, .int .u8 m3, .int .u8 m4, .int .u8 m5, .int .i64 now, .int .i64 2, .int .u32 xid, .int .i64 sent, .int .i64 wait, .int .i64 tries, .int .u8 a0, .int .u8 a1, .int .u8 a2, .int .u8 a3, .int .u8 k0, .int .u8 k1, .int .u8 k2, .int .u8 k3, .int .u8 r0, .int .u8 r1, .int .u8 r2, .int .u8 r3, .int .u8 s0, .int .u8 s1, .int .u8 s2, .int .u8 s3, .int .i64 un, .int .i64 t1, .int .i64 t2]) (ht0 : now ≤ t) (ht2 : t ≤ 1099511627776) (hO : Opv w A n c hs L) (hmac : ∀ W, (binOp .eql 26 (.agg #[.int .u8 h0, .int .u8 h1, .int .u8 h2, .int .u8 h3, .int .u8 h4, .int .u8 h5]) (.agg #[.int .u8 m0, .int .u8 m1, .int .u8 m2, .int .u8 m3, .int .u8 m4, .int .u8 m5])).run Try.prog W = .ok (.bool true) W) (hty : (typeL L : Int) = 6) (h54 : I4 (findL L 54) e0 e1 e2 e3 true) (hse : ∀ W, (binOp .neq 34 (.agg #[.int .u8 e0, .int .u8 e1, .int .u8 e2, .int .u8 e3]) (.agg #[.int .u8 s0, .int .u8 s1, .int .u8 s2, .int .u8 s3])).run Try.prog W = .ok (.bool false) W) : Calls Try.prog 13 #[.pointer (some ⟨gc, 0, none⟩), .agg #[.int .i64 2, .int .i64 z1, .int .u32 xid, .int .i64 z3, .int .i64 z4, .int .u8 z5, .int .u8 z6, .int .u8 z7, .int .u8 z8, .int .u8 y0, .int .u8 y1, .int .u8 y2, .int .u8 y3, .int .u8 z13, .int .u8 z14, .int .u8 z15, .int .u8 z16, .int .u8 z17, .int .u8 z18, .int .u8 z19, .int .u8 z20, .int .u8 h0, .int .u8 h1, .int .u8 h2, .int .u8 h3, .int .u8 h4, .int .u8 h5, .slice A n c], .int .i64 t] w fun e w' => e = .returned (.tuple #[.slice none 0 0, .bool false]) ∧ Cl lo gc w' #[.int .u8 m0, .int .u8 m1, .int .u8 m2, .int .u8 m3, .int .u8 m4, .int .u8 m5, .int .i64 t, .int .i64 0, .int .u32 xid, .int .i64 sent, .int .i64 wait, .int .i64 tries, .int .u8 0, .int .u8 0, .int .u8 0, .int .u8 0, .int .u8 0, .int .u8 0, .int .u8 0, .int .u8 0, .int .u8 0, .int .u8 0, .int .u8 0, .int .u8 0, .int .u8 0, .int .u8 0, .int .u8 0, .int .u8 0, .int .i64 0, .int .i64 t1, .int .i64 t2] ∧ Kt [51] w w' ∧ Below lo w w' := by
  obtain ⟨hcl, ocl⟩ := hT
  have hlo : lo ≤ w.heap.size := Nat.le_trans ocl (Nat.le_of_lt (hlt hcl))
  have kt := Kt.refl [51] w
  have H54 := Lib.hid h54
  clear h54
  have HTY := Lib.hid hty
  clear hty
  have bel := Below.refl lo w
  go_enter Try.func13, Try.ntmps13
  go_wp2_with (first | ((with_reducible show wpList _ _ _ (⟨some 4, _, _, _, _, _⟩ :: _) _ _); refine wpList_box_n rfl 37 (.tmp 1) rfl #[.int .i64 2, .int .i64 z1, .int .u32 xid, .int .i64 z3, .int .i64 z4, .int .u8 z5, .int .u8 z6, .int .u8 z7, .int .u8 z8, .int .u8 y0, .int .u8 y1, .int .u8 y2, .int .u8 y3, .int .u8 z13, .int .u8 z14, .int .u8 z15, .int .u8 z16, .int .u8 z17, .int .u8 z18, .int .u8 z19, .int .u8 z20, .int .u8 h0, .int .u8 h1, .int .u8 h2, .int .u8 h3, .int .u8 h4, .int .u8 h5, .slice A n c] rfl ?_; intro g4 w1 ge lt hh bb; have d_cl_mb := ne_new (hlt hcl) ge; have omb := Nat.le_trans (Nat.le_trans hlo bel.size) ge; have pmb := Nat.le_trans bel.size ge; have oa_mb := hO.oa ge; replace hcl := blk_u hcl bb; replace kt := kt.trans (kt_below bb); replace hO := hO.below bb; replace bel := bel.trans (bb.mono (Nat.le_trans hlo bel.size)); have hmb := hh; clear hh lt ge bb))
  go_wp2_with fail
  have hT : Cl lo gc w1 _ := ⟨hcl, ocl⟩
  clear hcl
  with_reducible refine (ladv _ hT ht0 ht2).mono ?_
  rintro e w2 ⟨rfl, hT_, k_, bb⟩
  replace hmb := Kt.blk k_ hmb (by decide)
  replace kt := kt.trans k_
  replace hO := hO.kt k_
  clear hT
  have hT := hT_
  replace bel := bel.trans bb
  clear bb k_ hT_
  obtain ⟨hcl, _⟩ := hT
  have R13 := Lib.hid (range_lit hmb 0 28 [.int .i64 2, .int .i64 z1, .int .u32 xid, .int .i64 z3, .int .i64 z4, .int .u8 z5, .int .u8 z6, .int .u8 z7, .int .u8 z8, .int .u8 y0, .int .u8 y1, .int .u8 y2, .int .u8 y3, .int .u8 z13, .int .u8 z14, .int .u8 z15, .int .u8 z16, .int .u8 z17, .int .u8 z18, .int .u8 z19, .int .u8 z20, .int .u8 h0, .int .u8 h1, .int .u8 h2, .int .u8 h3, .int .u8 h4, .int .u8 h5, .slice A n c] rfl)
  go_wp2_with (first | ((with_reducible show wpList _ _ _ (⟨some 13, _, _, _, _, _⟩ :: _) _ _); refine wpList_load_rng 37 (.tmp 4) rfl (by kernel_rfl) _ _ rfl _ R13.out _ Try.underlying37 rfl (by kernel_rfl) ?_))
  try clear R13
  with_reducible refine (lexp_yes (hs := []) (L := []) _ (cl_of hcl) (by decide) (by decide) (by decide) hmac (by simp)).mono ?_
  rintro e w3 ⟨rfl, b3⟩
  replace hmb := blk_u hmb b3
  replace hcl := blk_u hcl b3
  replace kt := kt.trans (kt_below b3)
  replace hO := hO.below b3
  replace bel := bel.trans (b3.mono (Nat.le_trans hlo bel.size))
  clear b3
  have R16 := Lib.hid (range_lit hmb 0 28 [.int .i64 2, .int .i64 z1, .int .u32 xid, .int .i64 z3, .int .i64 z4, .int .u8 z5, .int .u8 z6, .int .u8 z7, .int .u8 z8, .int .u8 y0, .int .u8 y1, .int .u8 y2, .int .u8 y3, .int .u8 z13, .int .u8 z14, .int .u8 z15, .int .u8 z16, .int .u8 z17, .int .u8 z18, .int .u8 z19, .int .u8 z20, .int .u8 h0, .int .u8 h1, .int .u8 h2, .int .u8 h3, .int .u8 h4, .int .u8 h5, .slice A n c] rfl)
  go_wp2_with (first | ((with_reducible show wpList _ _ _ (⟨some 16, _, _, _, _, _⟩ :: _) _ _); refine wpList_load_rng 37 (.tmp 4) rfl (by kernel_rfl) _ _ rfl _ R16.out _ Try.underlying37 rfl (by kernel_rfl) ?_))
  try clear R16
  with_reducible refine (ltype_a (k := 6) _ hO HTY.out).mono ?_
  rintro e w4 ⟨rfl, b4⟩
  replace hmb := blk_u hmb b4
  replace hcl := blk_u hcl b4
  replace kt := kt.trans (kt_below b4)
  replace hO := hO.below b4
  replace bel := bel.trans (b4.mono (Nat.le_trans hlo bel.size))
  clear b4
  have R22 := cell_lit hcl 7 _ rfl
  have R31 := Lib.hid (range_lit hmb 0 28 [.int .i64 2, .int .i64 z1, .int .u32 xid, .int .i64 z3, .int .i64 z4, .int .u8 z5, .int .u8 z6, .int .u8 z7, .int .u8 z8, .int .u8 y0, .int .u8 y1, .int .u8 y2, .int .u8 y3, .int .u8 z13, .int .u8 z14, .int .u8 z15, .int .u8 z16, .int .u8 z17, .int .u8 z18, .int .u8 z19, .int .u8 z20, .int .u8 h0, .int .u8 h1, .int .u8 h2, .int .u8 h3, .int .u8 h4, .int .u8 h5, .slice A n c] rfl)
  go_wp2_with (first | ((with_reducible show wpList _ _ _ (⟨some 31, _, _, _, _, _⟩ :: _) _ _); refine wpList_load_rng 37 (.tmp 4) rfl (by kernel_rfl) _ _ rfl _ R31.out _ Try.underlying37 rfl (by kernel_rfl) ?_))
  try clear R22
  try clear R31
  go_wp2_with fail
  have hT : Cl lo gc w4 _ := ⟨hcl, ocl⟩
  clear hcl
  with_reducible refine (lnak_2 _ hT hO H54.out hse).mono ?_
  rintro e w5 ⟨rfl, hT_, k_, bb⟩
  replace hmb := Kt.blk k_ hmb (by decide)
  replace kt := kt.trans k_
  replace hO := hO.kt k_
  clear hT
  have hT := hT_
  replace bel := bel.trans bb
  clear bb k_ hT_
  obtain ⟨hcl, _⟩ := hT
  go_wp2_with fail
  exact bodyPost_ret (v := .tuple #[.slice none 0 0, .bool false]) (by simp [results, Try.results13, go_sem]) rfl ⟨rfl, ⟨hcl, ocl⟩, kt, bel⟩
set_option linter.unusedVariables false in
set_option linter.unusedSimpArgs false in
set_option maxRecDepth 100000 in
set_option maxHeartbeats 16000000 in
theorem lget_nak_4 {lo gc : Nat} {m0 m1 m2 m3 m4 m5 now xid sent wait tries a0 a1 a2 a3 k0 k1 k2 k3 r0 r1 r2 r3 s0 s1 s2 s3 un t1 t2 : Int} {z1 z3 z4 z5 z6 z7 z8 y0 y1 y2 y3 z13 z14 z15 z16 z17 z18 z19 z20 h0 h1 h2 h3 h4 h5 : Int} {A : Option Addr} {n c : Nat} {hs : List Oh} {L : OptL} {t : Int} {e0 e1 e2 e3 : Int} {b : Bool} (w : World) (hT : Cl lo gc w #[.int .u8 m0, .int .u8 m1, .int .u8 m2, .int .u8 m3, .int .u8 m4, .int .u8 m5, .int .i64 now, .int .i64 4, .int .u32 xid, .int .i64 sent, .int .i64 wait, .int .i64 tries, .int .u8 a0, .int .u8 a1, .int .u8 a2, .int .u8 a3, .int .u8 k0, .int .u8 k1, .int .u8 k2, .int .u8 k3, .int .u8 r0, .int .u8 r1, .int .u8 r2, .int .u8 r3, .int .u8 s0, .int .u8 s1, .int .u8 s2, .int .u8 s3, .int .i64 un, .int .i64 t1, .int .i64 t2]) (ht0 : now ≤ t) (ht2 : t ≤ 1099511627776) (hO : Opv w A n c hs L) (hmac : ∀ W, (binOp .eql 26 (.agg #[.int .u8 h0, .int .u8 h1, .int .u8 h2, .int .u8 h3, .int .u8 h4, .int .u8 h5]) (.agg #[.int .u8 m0, .int .u8 m1, .int .u8 m2, .int .u8 m3, .int .u8 m4, .int .u8 m5])).run Try.prog W = .ok (.bool true) W) (hty : (typeL L : Int) = 6) (h54 : I4 (findL L 54) e0 e1 e2 e3 b) : Calls Try.prog 13 #[.pointer (some ⟨gc, 0, none⟩), .agg #[.int .i64 2, .int .i64 z1, .int .u32 xid, .int .i64 z3, .int .i64 z4, .int .u8 z5, .int .u8 z6, .int .u8 z7, .int .u8 z8, .int .u8 y0, .int .u8 y1, .int .u8 y2, .int .u8 y3, .int .u8 z13, .int .u8 z14, .int .u8 z15, .int .u8 z16, .int .u8 z17, .int .u8 z18, .int .u8 z19, .int .u8 z20, .int .u8 h0, .int .u8 h1, .int .u8 h2, .int .u8 h3, .int .u8 h4, .int .u8 h5, .slice A n c], .int .i64 t] w fun e w' => e = .returned (.tuple #[.slice none 0 0, .bool true]) ∧ Cl lo gc w' #[.int .u8 m0, .int .u8 m1, .int .u8 m2, .int .u8 m3, .int .u8 m4, .int .u8 m5, .int .i64 t, .int .i64 0, .int .u32 xid, .int .i64 sent, .int .i64 wait, .int .i64 tries, .int .u8 0, .int .u8 0, .int .u8 0, .int .u8 0, .int .u8 0, .int .u8 0, .int .u8 0, .int .u8 0, .int .u8 0, .int .u8 0, .int .u8 0, .int .u8 0, .int .u8 0, .int .u8 0, .int .u8 0, .int .u8 0, .int .i64 0, .int .i64 t1, .int .i64 t2] ∧ Kt [51] w w' ∧ Below lo w w' := by
  obtain ⟨hcl, ocl⟩ := hT
  have hlo : lo ≤ w.heap.size := Nat.le_trans ocl (Nat.le_of_lt (hlt hcl))
  have kt := Kt.refl [51] w
  have H54 := Lib.hid h54
  clear h54
  have HTY := Lib.hid hty
  clear hty
  have bel := Below.refl lo w
  go_enter Try.func13, Try.ntmps13
  go_wp2_with (first | ((with_reducible show wpList _ _ _ (⟨some 4, _, _, _, _, _⟩ :: _) _ _); refine wpList_box_n rfl 37 (.tmp 1) rfl #[.int .i64 2, .int .i64 z1, .int .u32 xid, .int .i64 z3, .int .i64 z4, .int .u8 z5, .int .u8 z6, .int .u8 z7, .int .u8 z8, .int .u8 y0, .int .u8 y1, .int .u8 y2, .int .u8 y3, .int .u8 z13, .int .u8 z14, .int .u8 z15, .int .u8 z16, .int .u8 z17, .int .u8 z18, .int .u8 z19, .int .u8 z20, .int .u8 h0, .int .u8 h1, .int .u8 h2, .int .u8 h3, .int .u8 h4, .int .u8 h5, .slice A n c] rfl ?_; intro g4 w1 ge lt hh bb; have d_cl_mb := ne_new (hlt hcl) ge; have omb := Nat.le_trans (Nat.le_trans hlo bel.size) ge; have pmb := Nat.le_trans bel.size ge; have oa_mb := hO.oa ge; replace hcl := blk_u hcl bb; replace kt := kt.trans (kt_below bb); replace hO := hO.below bb; replace bel := bel.trans (bb.mono (Nat.le_trans hlo bel.size)); have hmb := hh; clear hh lt ge bb))
  go_wp2_with fail
  have hT : Cl lo gc w1 _ := ⟨hcl, ocl⟩
  clear hcl
  with_reducible refine (ladv _ hT ht0 ht2).mono ?_
  rintro e w2 ⟨rfl, hT_, k_, bb⟩
  replace hmb := Kt.blk k_ hmb (by decide)
  replace kt := kt.trans k_
  replace hO := hO.kt k_
  clear hT
  have hT := hT_
  replace bel := bel.trans bb
  clear bb k_ hT_
  obtain ⟨hcl, _⟩ := hT
  have R13 := Lib.hid (range_lit hmb 0 28 [.int .i64 2, .int .i64 z1, .int .u32 xid, .int .i64 z3, .int .i64 z4, .int .u8 z5, .int .u8 z6, .int .u8 z7, .int .u8 z8, .int .u8 y0, .int .u8 y1, .int .u8 y2, .int .u8 y3, .int .u8 z13, .int .u8 z14, .int .u8 z15, .int .u8 z16, .int .u8 z17, .int .u8 z18, .int .u8 z19, .int .u8 z20, .int .u8 h0, .int .u8 h1, .int .u8 h2, .int .u8 h3, .int .u8 h4, .int .u8 h5, .slice A n c] rfl)
  go_wp2_with (first | ((with_reducible show wpList _ _ _ (⟨some 13, _, _, _, _, _⟩ :: _) _ _); refine wpList_load_rng 37 (.tmp 4) rfl (by kernel_rfl) _ _ rfl _ R13.out _ Try.underlying37 rfl (by kernel_rfl) ?_))
  try clear R13
  with_reducible refine (lexp_yes (hs := []) (L := []) _ (cl_of hcl) (by decide) (by decide) (by decide) hmac (by simp)).mono ?_
  rintro e w3 ⟨rfl, b3⟩
  replace hmb := blk_u hmb b3
  replace hcl := blk_u hcl b3
  replace kt := kt.trans (kt_below b3)
  replace hO := hO.below b3
  replace bel := bel.trans (b3.mono (Nat.le_trans hlo bel.size))
  clear b3
  have R16 := Lib.hid (range_lit hmb 0 28 [.int .i64 2, .int .i64 z1, .int .u32 xid, .int .i64 z3, .int .i64 z4, .int .u8 z5, .int .u8 z6, .int .u8 z7, .int .u8 z8, .int .u8 y0, .int .u8 y1, .int .u8 y2, .int .u8 y3, .int .u8 z13, .int .u8 z14, .int .u8 z15, .int .u8 z16, .int .u8 z17, .int .u8 z18, .int .u8 z19, .int .u8 z20, .int .u8 h0, .int .u8 h1, .int .u8 h2, .int .u8 h3, .int .u8 h4, .int .u8 h5, .slice A n c] rfl)
  go_wp2_with (first | ((with_reducible show wpList _ _ _ (⟨some 16, _, _, _, _, _⟩ :: _) _ _); refine wpList_load_rng 37 (.tmp 4) rfl (by kernel_rfl) _ _ rfl _ R16.out _ Try.underlying37 rfl (by kernel_rfl) ?_))
  try clear R16
  with_reducible refine (ltype_a (k := 6) _ hO HTY.out).mono ?_
  rintro e w4 ⟨rfl, b4⟩
  replace hmb := blk_u hmb b4
  replace hcl := blk_u hcl b4
  replace kt := kt.trans (kt_below b4)
  replace hO := hO.below b4
  replace bel := bel.trans (b4.mono (Nat.le_trans hlo bel.size))
  clear b4
  have R22 := cell_lit hcl 7 _ rfl
  have R31 := Lib.hid (range_lit hmb 0 28 [.int .i64 2, .int .i64 z1, .int .u32 xid, .int .i64 z3, .int .i64 z4, .int .u8 z5, .int .u8 z6, .int .u8 z7, .int .u8 z8, .int .u8 y0, .int .u8 y1, .int .u8 y2, .int .u8 y3, .int .u8 z13, .int .u8 z14, .int .u8 z15, .int .u8 z16, .int .u8 z17, .int .u8 z18, .int .u8 z19, .int .u8 z20, .int .u8 h0, .int .u8 h1, .int .u8 h2, .int .u8 h3, .int .u8 h4, .int .u8 h5, .slice A n c] rfl)
  go_wp2_with (first | ((with_reducible show wpList _ _ _ (⟨some 31, _, _, _, _, _⟩ :: _) _ _); refine wpList_load_rng 37 (.tmp 4) rfl (by kernel_rfl) _ _ rfl _ R31.out _ Try.underlying37 rfl (by kernel_rfl) ?_))
  try clear R22
  try clear R31
  go_wp2_with fail
  have hT : Cl lo gc w4 _ := ⟨hcl, ocl⟩
  clear hcl
  with_reducible refine (lnak_4 _ hT hO H54.out).mono ?_
  rintro e w5 ⟨rfl, hT_, k_, bb⟩
  replace hmb := Kt.blk k_ hmb (by decide)
  replace kt := kt.trans k_
  replace hO := hO.kt k_
  clear hT
  have hT := hT_
  replace bel := bel.trans bb
  clear bb k_ hT_
  obtain ⟨hcl, _⟩ := hT
  go_wp2_with fail
  exact bodyPost_ret (v := .tuple #[.slice none 0 0, .bool true]) (by simp [results, Try.results13, go_sem]) rfl ⟨rfl, ⟨hcl, ocl⟩, kt, bel⟩
set_option linter.unusedVariables false in
set_option linter.unusedSimpArgs false in
set_option maxRecDepth 100000 in
set_option maxHeartbeats 16000000 in
theorem lget_nak_5 {lo gc : Nat} {m0 m1 m2 m3 m4 m5 now xid sent wait tries a0 a1 a2 a3 k0 k1 k2 k3 r0 r1 r2 r3 s0 s1 s2 s3 un t1 t2 : Int} {z1 z3 z4 z5 z6 z7 z8 y0 y1 y2 y3 z13 z14 z15 z16 z17 z18 z19 z20 h0 h1 h2 h3 h4 h5 : Int} {A : Option Addr} {n c : Nat} {hs : List Oh} {L : OptL} {t : Int} {e0 e1 e2 e3 : Int} {b : Bool} (w : World) (hT : Cl lo gc w #[.int .u8 m0, .int .u8 m1, .int .u8 m2, .int .u8 m3, .int .u8 m4, .int .u8 m5, .int .i64 now, .int .i64 5, .int .u32 xid, .int .i64 sent, .int .i64 wait, .int .i64 tries, .int .u8 a0, .int .u8 a1, .int .u8 a2, .int .u8 a3, .int .u8 k0, .int .u8 k1, .int .u8 k2, .int .u8 k3, .int .u8 r0, .int .u8 r1, .int .u8 r2, .int .u8 r3, .int .u8 s0, .int .u8 s1, .int .u8 s2, .int .u8 s3, .int .i64 un, .int .i64 t1, .int .i64 t2]) (ht0 : now ≤ t) (ht2 : t ≤ 1099511627776) (hO : Opv w A n c hs L) (hmac : ∀ W, (binOp .eql 26 (.agg #[.int .u8 h0, .int .u8 h1, .int .u8 h2, .int .u8 h3, .int .u8 h4, .int .u8 h5]) (.agg #[.int .u8 m0, .int .u8 m1, .int .u8 m2, .int .u8 m3, .int .u8 m4, .int .u8 m5])).run Try.prog W = .ok (.bool true) W) (hty : (typeL L : Int) = 6) (h54 : I4 (findL L 54) e0 e1 e2 e3 b) : Calls Try.prog 13 #[.pointer (some ⟨gc, 0, none⟩), .agg #[.int .i64 2, .int .i64 z1, .int .u32 xid, .int .i64 z3, .int .i64 z4, .int .u8 z5, .int .u8 z6, .int .u8 z7, .int .u8 z8, .int .u8 y0, .int .u8 y1, .int .u8 y2, .int .u8 y3, .int .u8 z13, .int .u8 z14, .int .u8 z15, .int .u8 z16, .int .u8 z17, .int .u8 z18, .int .u8 z19, .int .u8 z20, .int .u8 h0, .int .u8 h1, .int .u8 h2, .int .u8 h3, .int .u8 h4, .int .u8 h5, .slice A n c], .int .i64 t] w fun e w' => e = .returned (.tuple #[.slice none 0 0, .bool true]) ∧ Cl lo gc w' #[.int .u8 m0, .int .u8 m1, .int .u8 m2, .int .u8 m3, .int .u8 m4, .int .u8 m5, .int .i64 t, .int .i64 0, .int .u32 xid, .int .i64 sent, .int .i64 wait, .int .i64 tries, .int .u8 0, .int .u8 0, .int .u8 0, .int .u8 0, .int .u8 0, .int .u8 0, .int .u8 0, .int .u8 0, .int .u8 0, .int .u8 0, .int .u8 0, .int .u8 0, .int .u8 0, .int .u8 0, .int .u8 0, .int .u8 0, .int .i64 0, .int .i64 t1, .int .i64 t2] ∧ Kt [51] w w' ∧ Below lo w w' := by
  obtain ⟨hcl, ocl⟩ := hT
  have hlo : lo ≤ w.heap.size := Nat.le_trans ocl (Nat.le_of_lt (hlt hcl))
  have kt := Kt.refl [51] w
  have H54 := Lib.hid h54
  clear h54
  have HTY := Lib.hid hty
  clear hty
  have bel := Below.refl lo w
  go_enter Try.func13, Try.ntmps13
  go_wp2_with (first | ((with_reducible show wpList _ _ _ (⟨some 4, _, _, _, _, _⟩ :: _) _ _); refine wpList_box_n rfl 37 (.tmp 1) rfl #[.int .i64 2, .int .i64 z1, .int .u32 xid, .int .i64 z3, .int .i64 z4, .int .u8 z5, .int .u8 z6, .int .u8 z7, .int .u8 z8, .int .u8 y0, .int .u8 y1, .int .u8 y2, .int .u8 y3, .int .u8 z13, .int .u8 z14, .int .u8 z15, .int .u8 z16, .int .u8 z17, .int .u8 z18, .int .u8 z19, .int .u8 z20, .int .u8 h0, .int .u8 h1, .int .u8 h2, .int .u8 h3, .int .u8 h4, .int .u8 h5, .slice A n c] rfl ?_; intro g4 w1 ge lt hh bb; have d_cl_mb := ne_new (hlt hcl) ge; have omb := Nat.le_trans (Nat.le_trans hlo bel.size) ge; have pmb := Nat.le_trans bel.size ge; have oa_mb := hO.oa ge; replace hcl := blk_u hcl bb; replace kt := kt.trans (kt_below bb); replace hO := hO.below bb; replace bel := bel.trans (bb.mono (Nat.le_trans hlo bel.size)); have hmb := hh; clear hh lt ge bb))
  go_wp2_with fail
  have hT : Cl lo gc w1 _ := ⟨hcl, ocl⟩
  clear hcl
  with_reducible refine (ladv _ hT ht0 ht2).mono ?_
  rintro e w2 ⟨rfl, hT_, k_, bb⟩
  replace hmb := Kt.blk k_ hmb (by decide)
  replace kt := kt.trans k_
  replace hO := hO.kt k_
  clear hT
  have hT := hT_
  replace bel := bel.trans bb
  clear bb k_ hT_
  obtain ⟨hcl, _⟩ := hT
  have R13 := Lib.hid (range_lit hmb 0 28 [.int .i64 2, .int .i64 z1, .int .u32 xid, .int .i64 z3, .int .i64 z4, .int .u8 z5, .int .u8 z6, .int .u8 z7, .int .u8 z8, .int .u8 y0, .int .u8 y1, .int .u8 y2, .int .u8 y3, .int .u8 z13, .int .u8 z14, .int .u8 z15, .int .u8 z16, .int .u8 z17, .int .u8 z18, .int .u8 z19, .int .u8 z20, .int .u8 h0, .int .u8 h1, .int .u8 h2, .int .u8 h3, .int .u8 h4, .int .u8 h5, .slice A n c] rfl)
  go_wp2_with (first | ((with_reducible show wpList _ _ _ (⟨some 13, _, _, _, _, _⟩ :: _) _ _); refine wpList_load_rng 37 (.tmp 4) rfl (by kernel_rfl) _ _ rfl _ R13.out _ Try.underlying37 rfl (by kernel_rfl) ?_))
  try clear R13
  with_reducible refine (lexp_yes (hs := []) (L := []) _ (cl_of hcl) (by decide) (by decide) (by decide) hmac (by simp)).mono ?_
  rintro e w3 ⟨rfl, b3⟩
  replace hmb := blk_u hmb b3
  replace hcl := blk_u hcl b3
  replace kt := kt.trans (kt_below b3)
  replace hO := hO.below b3
  replace bel := bel.trans (b3.mono (Nat.le_trans hlo bel.size))
  clear b3
  have R16 := Lib.hid (range_lit hmb 0 28 [.int .i64 2, .int .i64 z1, .int .u32 xid, .int .i64 z3, .int .i64 z4, .int .u8 z5, .int .u8 z6, .int .u8 z7, .int .u8 z8, .int .u8 y0, .int .u8 y1, .int .u8 y2, .int .u8 y3, .int .u8 z13, .int .u8 z14, .int .u8 z15, .int .u8 z16, .int .u8 z17, .int .u8 z18, .int .u8 z19, .int .u8 z20, .int .u8 h0, .int .u8 h1, .int .u8 h2, .int .u8 h3, .int .u8 h4, .int .u8 h5, .slice A n c] rfl)
  go_wp2_with (first | ((with_reducible show wpList _ _ _ (⟨some 16, _, _, _, _, _⟩ :: _) _ _); refine wpList_load_rng 37 (.tmp 4) rfl (by kernel_rfl) _ _ rfl _ R16.out _ Try.underlying37 rfl (by kernel_rfl) ?_))
  try clear R16
  with_reducible refine (ltype_a (k := 6) _ hO HTY.out).mono ?_
  rintro e w4 ⟨rfl, b4⟩
  replace hmb := blk_u hmb b4
  replace hcl := blk_u hcl b4
  replace kt := kt.trans (kt_below b4)
  replace hO := hO.below b4
  replace bel := bel.trans (b4.mono (Nat.le_trans hlo bel.size))
  clear b4
  have R22 := cell_lit hcl 7 _ rfl
  have R31 := Lib.hid (range_lit hmb 0 28 [.int .i64 2, .int .i64 z1, .int .u32 xid, .int .i64 z3, .int .i64 z4, .int .u8 z5, .int .u8 z6, .int .u8 z7, .int .u8 z8, .int .u8 y0, .int .u8 y1, .int .u8 y2, .int .u8 y3, .int .u8 z13, .int .u8 z14, .int .u8 z15, .int .u8 z16, .int .u8 z17, .int .u8 z18, .int .u8 z19, .int .u8 z20, .int .u8 h0, .int .u8 h1, .int .u8 h2, .int .u8 h3, .int .u8 h4, .int .u8 h5, .slice A n c] rfl)
  go_wp2_with (first | ((with_reducible show wpList _ _ _ (⟨some 31, _, _, _, _, _⟩ :: _) _ _); refine wpList_load_rng 37 (.tmp 4) rfl (by kernel_rfl) _ _ rfl _ R31.out _ Try.underlying37 rfl (by kernel_rfl) ?_))
  try clear R22
  try clear R31
  go_wp2_with fail
  have hT : Cl lo gc w4 _ := ⟨hcl, ocl⟩
  clear hcl
  with_reducible refine (lnak_5 _ hT hO H54.out).mono ?_
  rintro e w5 ⟨rfl, hT_, k_, bb⟩
  replace hmb := Kt.blk k_ hmb (by decide)
  replace kt := kt.trans k_
  replace hO := hO.kt k_
  clear hT
  have hT := hT_
  replace bel := bel.trans bb
  clear bb k_ hT_
  obtain ⟨hcl, _⟩ := hT
  go_wp2_with fail
  exact bodyPost_ret (v := .tuple #[.slice none 0 0, .bool true]) (by simp [results, Try.results13, go_sem]) rfl ⟨rfl, ⟨hcl, ocl⟩, kt, bel⟩
set_option linter.unusedVariables false in
set_option linter.unusedSimpArgs false in
set_option maxRecDepth 100000 in
set_option maxHeartbeats 16000000 in
theorem lget_ack_2 {lo gc : Nat} {m0 m1 m2 m3 m4 m5 now xid sent wait tries a0 a1 a2 a3 k0 k1 k2 k3 r0 r1 r2 r3 s0 s1 s2 s3 un t1 t2 : Int} {z1 z3 z4 z5 z6 z7 z8 y0 y1 y2 y3 z13 z14 z15 z16 z17 z18 z19 z20 h0 h1 h2 h3 h4 h5 : Int} {A : Option Addr} {n c : Nat} {hs : List Oh} {L : OptL} {t : Int} {e0 e1 e2 e3 : Int} {f0 f1 f2 f3 u0 u1 u2 u3 sc nu n1 n2 : Int} {bm : Bool} (w : World) (hT : Cl lo gc w #[.int .u8 m0, .int .u8 m1, .int .u8 m2, .int .u8 m3, .int .u8 m4, .int .u8 m5, .int .i64 now, .int .i64 2, .int .u32 xid, .int .i64 sent, .int .i64 wait, .int .i64 tries, .int .u8 a0, .int .u8 a1, .int .u8 a2, .int .u8 a3, .int .u8 k0, .int .u8 k1, .int .u8 k2, .int .u8 k3, .int .u8 r0, .int .u8 r1, .int .u8 r2, .int .u8 r3, .int .u8 s0, .int .u8 s1, .int .u8 s2, .int .u8 s3, .int .i64 un, .int .i64 t1, .int .i64 t2]) (ht0 : now ≤ t) (ht2 : t ≤ 1099511627776) (hO : Opv w A n c hs L) (hmac : ∀ W, (binOp .eql 26 (.agg #[.int .u8 h0, .int .u8 h1, .int .u8 h2, .int .u8 h3, .int .u8 h4, .int .u8 h5]) (.agg #[.int .u8 m0, .int .u8 m1, .int .u8 m2, .int .u8 m3, .int .u8 m4, .int .u8 m5])).run Try.prog W = .ok (.bool true) W) (hty : (typeL L : Int) = 5) (h54 : I4 (findL L 54) e0 e1 e2 e3 true) (hy : ∀ W, (binOp .eql 34 (.agg #[.int .u8 y0, .int .u8 y1, .int .u8 y2, .int .u8 y3]) (.agg #[.int .u8 0, .int .u8 0, .int .u8 0, .int .u8 0])).run Try.prog W = .ok (.bool false) W) (hse : ∀ W, (binOp .eql 34 (.agg #[.int .u8 e0, .int .u8 e1, .int .u8 e2, .int .u8 e3]) (.agg #[.int .u8 s0, .int .u8 s1, .int .u8 s2, .int .u8 s3])).run Try.prog W = .ok (.bool true) W) (hsc : I1 (findL L 51) sc true) (hs0 : 60 ≤ sc) (hs1 : sc ≤ 1000000000) (hm : I4 (findL L 1) f0 f1 f2 f3 bm) (hr : I4 (findL L 3) u0 u1 u2 u3 true) (hnu : IntKind.i64.wrap (t + sc) = nu) (hn1 : IntKind.i64.wrap (t + sc / 2) = n1) (hn2 : IntKind.i64.wrap (t + sc * 7 / 8) = n2) : Calls Try.prog 13 #[.pointer (some ⟨gc, 0, none⟩), .agg #[.int .i64 2, .int .i64 z1, .int .u32 xid, .int .i64 z3, .int .i64 z4, .int .u8 z5, .int .u8 z6, .int .u8 z7, .int .u8 z8, .int .u8 y0, .int .u8 y1, .int .u8 y2, .int .u8 y3, .int .u8 z13, .int .u8 z14, .int .u8 z15, .int .u8 z16, .int .u8 z17, .int .u8 z18, .int .u8 z19, .int .u8 z20, .int .u8 h0, .int .u8 h1, .int .u8 h2, .int .u8 h3, .int .u8 h4, .int .u8 h5, .slice A n c], .int .i64 t] w fun e w' => e = .returned (.tuple #[.slice none 0 0, .bool true]) ∧ Cl lo gc w' #[.int .u8 m0, .int .u8 m1, .int .u8 m2, .int .u8 m3, .int .u8 m4, .int .u8 m5, .int .i64 t, .int .i64 3, .int .u32 xid, .int .i64 sent, .int .i64 wait, .int .i64 tries, .int .u8 y0, .int .u8 y1, .int .u8 y2, .int .u8 y3, .int .u8 f0, .int .u8 f1, .int .u8 f2, .int .u8 f3, .int .u8 u0, .int .u8 u1, .int .u8 u2, .int .u8 u3, .int .u8 e0, .int .u8 e1, .int .u8 e2, .int .u8 e3, .int .i64 nu, .int .i64 n1, .int .i64 n2] ∧ Kt [51] w w' ∧ Below lo w w' := by
  obtain ⟨hcl, ocl⟩ := hT
  have hlo : lo ≤ w.heap.size := Nat.le_trans ocl (Nat.le_of_lt (hlt hcl))
  have kt := Kt.refl [51] w
  have H54 := Lib.hid h54
  clear h54
  have HTY := Lib.hid hty
  clear hty
  have HSC := Lib.hid hsc
  clear hsc
  have HS0 := Lib.hid hs0
  clear hs0
  have HS1 := Lib.hid hs1
  clear hs1
  have HM := Lib.hid hm
  clear hm
  have HR := Lib.hid hr
  clear hr
  have HNU := Lib.hid hnu
  clear hnu
  have HN1 := Lib.hid hn1
  clear hn1
  have HN2 := Lib.hid hn2
  clear hn2
  have bel := Below.refl lo w
  go_enter Try.func13, Try.ntmps13
  go_wp2_with (first | ((with_reducible show wpList _ _ _ (⟨some 4, _, _, _, _, _⟩ :: _) _ _); refine wpList_box_n rfl 37 (.tmp 1) rfl #[.int .i64 2, .int .i64 z1, .int .u32 xid, .int .i64 z3, .int .i64 z4, .int .u8 z5, .int .u8 z6, .int .u8 z7, .int .u8 z8, .int .u8 y0, .int .u8 y1, .int .u8 y2, .int .u8 y3, .int .u8 z13, .int .u8 z14, .int .u8 z15, .int .u8 z16, .int .u8 z17, .int .u8 z18, .int .u8 z19, .int .u8 z20, .int .u8 h0, .int .u8 h1, .int .u8 h2, .int .u8 h3, .int .u8 h4, .int .u8 h5, .slice A n c] rfl ?_; intro g4 w1 ge lt hh bb; have d_cl_mb := ne_new (hlt hcl) ge; have omb := Nat.le_trans (Nat.le_trans hlo bel.size) ge; have pmb := Nat.le_trans bel.size ge; have oa_mb := hO.oa ge; replace hcl := blk_u hcl bb; replace kt := kt.trans (kt_below bb); replace hO := hO.below bb; replace bel := bel.trans (bb.mono (Nat.le_trans hlo bel.size)); have hmb := hh; clear hh lt ge bb))
  go_wp2_with fail
  have hT : Cl lo gc w1 _ := ⟨hcl, ocl⟩
  clear hcl
  with_reducible refine (ladv _ hT ht0 ht2).mono ?_
  rintro e w2 ⟨rfl, hT_, k_, bb⟩
  replace hmb := Kt.blk k_ hmb (by decide)
  replace kt := kt.trans k_
  replace hO := hO.kt k_
  clear hT
  have hT := hT_
  replace bel := bel.trans bb
  clear bb k_ hT_
  obtain ⟨hcl, _⟩ := hT
  have R13 := Lib.hid (range_lit hmb 0 28 [.int .i64 2, .int .i64 z1, .int .u32 xid, .int .i64 z3, .int .i64 z4, .int .u8 z5, .int .u8 z6, .int .u8 z7, .int .u8 z8, .int .u8 y0, .int .u8 y1, .int .u8 y2, .int .u8 y3, .int .u8 z13, .int .u8 z14, .int .u8 z15, .int .u8 z16, .int .u8 z17, .int .u8 z18, .int .u8 z19, .int .u8 z20, .int .u8 h0, .int .u8 h1, .int .u8 h2, .int .u8 h3, .int .u8 h4, .int .u8 h5, .slice A n c] rfl)
  go_wp2_with (first | ((with_reducible show wpList _ _ _ (⟨some 13, _, _, _, _, _⟩ :: _) _ _); refine wpList_load_rng 37 (.tmp 4) rfl (by kernel_rfl) _ _ rfl _ R13.out _ Try.underlying37 rfl (by kernel_rfl) ?_))
  try clear R13
  with_reducible refine (lexp_yes (hs := []) (L := []) _ (cl_of hcl) (by decide) (by decide) (by decide) hmac (by simp)).mono ?_
  rintro e w3 ⟨rfl, b3⟩
  replace hmb := blk_u hmb b3
  replace hcl := blk_u hcl b3
  replace kt := kt.trans (kt_below b3)
  replace hO := hO.below b3
  replace bel := bel.trans (b3.mono (Nat.le_trans hlo bel.size))
  clear b3
  have R16 := Lib.hid (range_lit hmb 0 28 [.int .i64 2, .int .i64 z1, .int .u32 xid, .int .i64 z3, .int .i64 z4, .int .u8 z5, .int .u8 z6, .int .u8 z7, .int .u8 z8, .int .u8 y0, .int .u8 y1, .int .u8 y2, .int .u8 y3, .int .u8 z13, .int .u8 z14, .int .u8 z15, .int .u8 z16, .int .u8 z17, .int .u8 z18, .int .u8 z19, .int .u8 z20, .int .u8 h0, .int .u8 h1, .int .u8 h2, .int .u8 h3, .int .u8 h4, .int .u8 h5, .slice A n c] rfl)
  go_wp2_with (first | ((with_reducible show wpList _ _ _ (⟨some 16, _, _, _, _, _⟩ :: _) _ _); refine wpList_load_rng 37 (.tmp 4) rfl (by kernel_rfl) _ _ rfl _ R16.out _ Try.underlying37 rfl (by kernel_rfl) ?_))
  try clear R16
  with_reducible refine (ltype_a (k := 5) _ hO HTY.out).mono ?_
  rintro e w4 ⟨rfl, b4⟩
  replace hmb := blk_u hmb b4
  replace hcl := blk_u hcl b4
  replace kt := kt.trans (kt_below b4)
  replace hO := hO.below b4
  replace bel := bel.trans (b4.mono (Nat.le_trans hlo bel.size))
  clear b4
  have R22 := cell_lit hcl 7 _ rfl
  have R37 := Lib.hid (range_lit hmb 0 28 [.int .i64 2, .int .i64 z1, .int .u32 xid, .int .i64 z3, .int .i64 z4, .int .u8 z5, .int .u8 z6, .int .u8 z7, .int .u8 z8, .int .u8 y0, .int .u8 y1, .int .u8 y2, .int .u8 y3, .int .u8 z13, .int .u8 z14, .int .u8 z15, .int .u8 z16, .int .u8 z17, .int .u8 z18, .int .u8 z19, .int .u8 z20, .int .u8 h0, .int .u8 h1, .int .u8 h2, .int .u8 h3, .int .u8 h4, .int .u8 h5, .slice A n c] rfl)
  go_wp2_with (first | ((with_reducible show wpList _ _ _ (⟨some 37, _, _, _, _, _⟩ :: _) _ _); refine wpList_load_rng 37 (.tmp 4) rfl (by kernel_rfl) _ _ rfl _ R37.out _ Try.underlying37 rfl (by kernel_rfl) ?_))
  try clear R22
  try clear R37
  go_wp2_with fail
  have hT : Cl lo gc w4 _ := ⟨hcl, ocl⟩
  clear hcl
  with_reducible refine (lbind_2 _ hT hO H54.out hy hse HSC.out HS0.out HS1.out HM.out HR.out HNU.out HN1.out HN2.out).mono ?_
  rintro e w5 ⟨rfl, hT_, k_, bb⟩
  replace hmb := Kt.blk k_ hmb (by decide)
  replace kt := kt.trans k_
  replace hO := hO.kt k_
  clear hT
  have hT := hT_
  replace bel := bel.trans bb
  clear bb k_ hT_
  obtain ⟨hcl, _⟩ := hT
  go_wp2_with fail
  exact bodyPost_ret (v := .tuple #[.slice none 0 0, .bool true]) (by simp [results, Try.results13, go_sem]) rfl ⟨rfl, ⟨hcl, ocl⟩, kt, bel⟩
set_option linter.unusedVariables false in
set_option linter.unusedSimpArgs false in
set_option maxRecDepth 100000 in
set_option maxHeartbeats 16000000 in
theorem lget_ack_4 {lo gc : Nat} {m0 m1 m2 m3 m4 m5 now xid sent wait tries a0 a1 a2 a3 k0 k1 k2 k3 r0 r1 r2 r3 s0 s1 s2 s3 un t1 t2 : Int} {z1 z3 z4 z5 z6 z7 z8 y0 y1 y2 y3 z13 z14 z15 z16 z17 z18 z19 z20 h0 h1 h2 h3 h4 h5 : Int} {A : Option Addr} {n c : Nat} {hs : List Oh} {L : OptL} {t : Int} {e0 e1 e2 e3 : Int} {f0 f1 f2 f3 u0 u1 u2 u3 sc nu n1 n2 : Int} {bm : Bool} (w : World) (hT : Cl lo gc w #[.int .u8 m0, .int .u8 m1, .int .u8 m2, .int .u8 m3, .int .u8 m4, .int .u8 m5, .int .i64 now, .int .i64 4, .int .u32 xid, .int .i64 sent, .int .i64 wait, .int .i64 tries, .int .u8 a0, .int .u8 a1, .int .u8 a2, .int .u8 a3, .int .u8 k0, .int .u8 k1, .int .u8 k2, .int .u8 k3, .int .u8 r0, .int .u8 r1, .int .u8 r2, .int .u8 r3, .int .u8 s0, .int .u8 s1, .int .u8 s2, .int .u8 s3, .int .i64 un, .int .i64 t1, .int .i64 t2]) (ht0 : now ≤ t) (ht2 : t ≤ 1099511627776) (hO : Opv w A n c hs L) (hmac : ∀ W, (binOp .eql 26 (.agg #[.int .u8 h0, .int .u8 h1, .int .u8 h2, .int .u8 h3, .int .u8 h4, .int .u8 h5]) (.agg #[.int .u8 m0, .int .u8 m1, .int .u8 m2, .int .u8 m3, .int .u8 m4, .int .u8 m5])).run Try.prog W = .ok (.bool true) W) (hty : (typeL L : Int) = 5) (h54 : I4 (findL L 54) e0 e1 e2 e3 true) (hy : ∀ W, (binOp .eql 34 (.agg #[.int .u8 y0, .int .u8 y1, .int .u8 y2, .int .u8 y3]) (.agg #[.int .u8 0, .int .u8 0, .int .u8 0, .int .u8 0])).run Try.prog W = .ok (.bool false) W) (hse : ∀ W, (binOp .eql 34 (.agg #[.int .u8 e0, .int .u8 e1, .int .u8 e2, .int .u8 e3]) (.agg #[.int .u8 s0, .int .u8 s1, .int .u8 s2, .int .u8 s3])).run Try.prog W = .ok (.bool true) W) (hya : ∀ W, (binOp .neq 34 (.agg #[.int .u8 y0, .int .u8 y1, .int .u8 y2, .int .u8 y3]) (.agg #[.int .u8 a0, .int .u8 a1, .int .u8 a2, .int .u8 a3])).run Try.prog W = .ok (.bool false) W) (hsc : I1 (findL L 51) sc true) (hs0 : 60 ≤ sc) (hs1 : sc ≤ 1000000000) (hm : I4 (findL L 1) f0 f1 f2 f3 bm) (hr : I4 (findL L 3) u0 u1 u2 u3 true) (hnu : IntKind.i64.wrap (t + sc) = nu) (hn1 : IntKind.i64.wrap (t + sc / 2) = n1) (hn2 : IntKind.i64.wrap (t + sc * 7 / 8) = n2) : Calls Try.prog 13 #[.pointer (some ⟨gc, 0, none⟩), .agg #[.int .i64 2, .int .i64 z1, .int .u32 xid, .int .i64 z3, .int .i64 z4, .int .u8 z5, .int .u8 z6, .int .u8 z7, .int .u8 z8, .int .u8 y0, .int .u8 y1, .int .u8 y2, .int .u8 y3, .int .u8 z13, .int .u8 z14, .int .u8 z15, .int .u8 z16, .int .u8 z17, .int .u8 z18, .int .u8 z19, .int .u8 z20, .int .u8 h0, .int .u8 h1, .int .u8 h2, .int .u8 h3, .int .u8 h4, .int .u8 h5, .slice A n c], .int .i64 t] w fun e w' => e = .returned (.tuple #[.slice none 0 0, .bool false]) ∧ Cl lo gc w' #[.int .u8 m0, .int .u8 m1, .int .u8 m2, .int .u8 m3, .int .u8 m4, .int .u8 m5, .int .i64 t, .int .i64 3, .int .u32 xid, .int .i64 sent, .int .i64 wait, .int .i64 tries, .int .u8 y0, .int .u8 y1, .int .u8 y2, .int .u8 y3, .int .u8 f0, .int .u8 f1, .int .u8 f2, .int .u8 f3, .int .u8 u0, .int .u8 u1, .int .u8 u2, .int .u8 u3, .int .u8 e0, .int .u8 e1, .int .u8 e2, .int .u8 e3, .int .i64 nu, .int .i64 n1, .int .i64 n2] ∧ Kt [51] w w' ∧ Below lo w w' := by
  obtain ⟨hcl, ocl⟩ := hT
  have hlo : lo ≤ w.heap.size := Nat.le_trans ocl (Nat.le_of_lt (hlt hcl))
  have kt := Kt.refl [51] w
  have H54 := Lib.hid h54
  clear h54
  have HTY := Lib.hid hty
  clear hty
  have HSC := Lib.hid hsc
  clear hsc
  have HS0 := Lib.hid hs0
  clear hs0
  have HS1 := Lib.hid hs1
  clear hs1
  have HM := Lib.hid hm
  clear hm
  have HR := Lib.hid hr
  clear hr
  have HNU := Lib.hid hnu
  clear hnu
  have HN1 := Lib.hid hn1
  clear hn1
  have HN2 := Lib.hid hn2
  clear hn2
  have bel := Below.refl lo w
  go_enter Try.func13, Try.ntmps13
  go_wp2_with (first | ((with_reducible show wpList _ _ _ (⟨some 4, _, _, _, _, _⟩ :: _) _ _); refine wpList_box_n rfl 37 (.tmp 1) rfl #[.int .i64 2, .int .i64 z1, .int .u32 xid, .int .i64 z3, .int .i64 z4, .int .u8 z5, .int .u8 z6, .int .u8 z7, .int .u8 z8, .int .u8 y0, .int .u8 y1, .int .u8 y2, .int .u8 y3, .int .u8 z13, .int .u8 z14, .int .u8 z15, .int .u8 z16, .int .u8 z17, .int .u8 z18, .int .u8 z19, .int .u8 z20, .int .u8 h0, .int .u8 h1, .int .u8 h2, .int .u8 h3, .int .u8 h4, .int .u8 h5, .slice A n c] rfl ?_; intro g4 w1 ge lt hh bb; have d_cl_mb := ne_new (hlt hcl) ge; have omb := Nat.le_trans (Nat.le_trans hlo bel.size) ge; have pmb := Nat.le_trans bel.size ge; have oa_mb := hO.oa ge; replace hcl := blk_u hcl bb; replace kt := kt.trans (kt_below bb); replace hO := hO.below bb; replace bel := bel.trans (bb.mono (Nat.le_trans hlo bel.size)); have hmb := hh; clear hh lt ge bb))
  go_wp2_with fail
  have hT : Cl lo gc w1 _ := ⟨hcl, ocl⟩
  clear hcl
  with_reducible refine (ladv _ hT ht0 ht2).mono ?_
  rintro e w2 ⟨rfl, hT_, k_, bb⟩
  replace hmb := Kt.blk k_ hmb (by decide)
  replace kt := kt.trans k_
  replace hO := hO.kt k_
  clear hT
  have hT := hT_
  replace bel := bel.trans bb
  clear bb k_ hT_
  obtain ⟨hcl, _⟩ := hT
  have R13 := Lib.hid (range_lit hmb 0 28 [.int .i64 2, .int .i64 z1, .int .u32 xid, .int .i64 z3, .int .i64 z4, .int .u8 z5, .int .u8 z6, .int .u8 z7, .int .u8 z8, .int .u8 y0, .int .u8 y1, .int .u8 y2, .int .u8 y3, .int .u8 z13, .int .u8 z14, .int .u8 z15, .int .u8 z16, .int .u8 z17, .int .u8 z18, .int .u8 z19, .int .u8 z20, .int .u8 h0, .int .u8 h1, .int .u8 h2, .int .u8 h3, .int .u8 h4, .int .u8 h5, .slice A n c] rfl)
  go_wp2_with (first | ((with_reducible show wpList _ _ _ (⟨some 13, _, _, _, _, _⟩ :: _) _ _); refine wpList_load_rng 37 (.tmp 4) rfl (by kernel_rfl) _ _ rfl _ R13.out _ Try.underlying37 rfl (by kernel_rfl) ?_))
  try clear R13
  with_reducible refine (lexp_yes (hs := []) (L := []) _ (cl_of hcl) (by decide) (by decide) (by decide) hmac (by simp)).mono ?_
  rintro e w3 ⟨rfl, b3⟩
  replace hmb := blk_u hmb b3
  replace hcl := blk_u hcl b3
  replace kt := kt.trans (kt_below b3)
  replace hO := hO.below b3
  replace bel := bel.trans (b3.mono (Nat.le_trans hlo bel.size))
  clear b3
  have R16 := Lib.hid (range_lit hmb 0 28 [.int .i64 2, .int .i64 z1, .int .u32 xid, .int .i64 z3, .int .i64 z4, .int .u8 z5, .int .u8 z6, .int .u8 z7, .int .u8 z8, .int .u8 y0, .int .u8 y1, .int .u8 y2, .int .u8 y3, .int .u8 z13, .int .u8 z14, .int .u8 z15, .int .u8 z16, .int .u8 z17, .int .u8 z18, .int .u8 z19, .int .u8 z20, .int .u8 h0, .int .u8 h1, .int .u8 h2, .int .u8 h3, .int .u8 h4, .int .u8 h5, .slice A n c] rfl)
  go_wp2_with (first | ((with_reducible show wpList _ _ _ (⟨some 16, _, _, _, _, _⟩ :: _) _ _); refine wpList_load_rng 37 (.tmp 4) rfl (by kernel_rfl) _ _ rfl _ R16.out _ Try.underlying37 rfl (by kernel_rfl) ?_))
  try clear R16
  with_reducible refine (ltype_a (k := 5) _ hO HTY.out).mono ?_
  rintro e w4 ⟨rfl, b4⟩
  replace hmb := blk_u hmb b4
  replace hcl := blk_u hcl b4
  replace kt := kt.trans (kt_below b4)
  replace hO := hO.below b4
  replace bel := bel.trans (b4.mono (Nat.le_trans hlo bel.size))
  clear b4
  have R22 := cell_lit hcl 7 _ rfl
  have R37 := Lib.hid (range_lit hmb 0 28 [.int .i64 2, .int .i64 z1, .int .u32 xid, .int .i64 z3, .int .i64 z4, .int .u8 z5, .int .u8 z6, .int .u8 z7, .int .u8 z8, .int .u8 y0, .int .u8 y1, .int .u8 y2, .int .u8 y3, .int .u8 z13, .int .u8 z14, .int .u8 z15, .int .u8 z16, .int .u8 z17, .int .u8 z18, .int .u8 z19, .int .u8 z20, .int .u8 h0, .int .u8 h1, .int .u8 h2, .int .u8 h3, .int .u8 h4, .int .u8 h5, .slice A n c] rfl)
  go_wp2_with (first | ((with_reducible show wpList _ _ _ (⟨some 37, _, _, _, _, _⟩ :: _) _ _); refine wpList_load_rng 37 (.tmp 4) rfl (by kernel_rfl) _ _ rfl _ R37.out _ Try.underlying37 rfl (by kernel_rfl) ?_))
  try clear R22
  try clear R37
  go_wp2_with fail
  have hT : Cl lo gc w4 _ := ⟨hcl, ocl⟩
  clear hcl
  with_reducible refine (lbind_4 _ hT hO H54.out hy hse hya HSC.out HS0.out HS1.out HM.out HR.out HNU.out HN1.out HN2.out).mono ?_
  rintro e w5 ⟨rfl, hT_, k_, bb⟩
  replace hmb := Kt.blk k_ hmb (by decide)
  replace kt := kt.trans k_
  replace hO := hO.kt k_
  clear hT
  have hT := hT_
  replace bel := bel.trans bb
  clear bb k_ hT_
  obtain ⟨hcl, _⟩ := hT
  go_wp2_with fail
  exact bodyPost_ret (v := .tuple #[.slice none 0 0, .bool false]) (by simp [results, Try.results13, go_sem]) rfl ⟨rfl, ⟨hcl, ocl⟩, kt, bel⟩
set_option linter.unusedVariables false in
set_option linter.unusedSimpArgs false in
set_option maxRecDepth 100000 in
set_option maxHeartbeats 16000000 in
theorem lget_ack_5 {lo gc : Nat} {m0 m1 m2 m3 m4 m5 now xid sent wait tries a0 a1 a2 a3 k0 k1 k2 k3 r0 r1 r2 r3 s0 s1 s2 s3 un t1 t2 : Int} {z1 z3 z4 z5 z6 z7 z8 y0 y1 y2 y3 z13 z14 z15 z16 z17 z18 z19 z20 h0 h1 h2 h3 h4 h5 : Int} {A : Option Addr} {n c : Nat} {hs : List Oh} {L : OptL} {t : Int} {e0 e1 e2 e3 : Int} {f0 f1 f2 f3 u0 u1 u2 u3 sc nu n1 n2 : Int} {bm : Bool} (w : World) (hT : Cl lo gc w #[.int .u8 m0, .int .u8 m1, .int .u8 m2, .int .u8 m3, .int .u8 m4, .int .u8 m5, .int .i64 now, .int .i64 5, .int .u32 xid, .int .i64 sent, .int .i64 wait, .int .i64 tries, .int .u8 a0, .int .u8 a1, .int .u8 a2, .int .u8 a3, .int .u8 k0, .int .u8 k1, .int .u8 k2, .int .u8 k3, .int .u8 r0, .int .u8 r1, .int .u8 r2, .int .u8 r3, .int .u8 s0, .int .u8 s1, .int .u8 s2, .int .u8 s3, .int .i64 un, .int .i64 t1, .int .i64 t2]) (ht0 : now ≤ t) (ht2 : t ≤ 1099511627776) (hO : Opv w A n c hs L) (hmac : ∀ W, (binOp .eql 26 (.agg #[.int .u8 h0, .int .u8 h1, .int .u8 h2, .int .u8 h3, .int .u8 h4, .int .u8 h5]) (.agg #[.int .u8 m0, .int .u8 m1, .int .u8 m2, .int .u8 m3, .int .u8 m4, .int .u8 m5])).run Try.prog W = .ok (.bool true) W) (hty : (typeL L : Int) = 5) (h54 : I4 (findL L 54) e0 e1 e2 e3 true) (hy : ∀ W, (binOp .eql 34 (.agg #[.int .u8 y0, .int .u8 y1, .int .u8 y2, .int .u8 y3]) (.agg #[.int .u8 0, .int .u8 0, .int .u8 0, .int .u8 0])).run Try.prog W = .ok (.bool false) W) (hya : ∀ W, (binOp .neq 34 (.agg #[.int .u8 y0, .int .u8 y1, .int .u8 y2, .int .u8 y3]) (.agg #[.int .u8 a0, .int .u8 a1, .int .u8 a2, .int .u8 a3])).run Try.prog W = .ok (.bool false) W) (hsc : I1 (findL L 51) sc true) (hs0 : 60 ≤ sc) (hs1 : sc ≤ 1000000000) (hm : I4 (findL L 1) f0 f1 f2 f3 bm) (hr : I4 (findL L 3) u0 u1 u2 u3 true) (hnu : IntKind.i64.wrap (t + sc) = nu) (hn1 : IntKind.i64.wrap (t + sc / 2) = n1) (hn2 : IntKind.i64.wrap (t + sc * 7 / 8) = n2) : Calls Try.prog 13 #[.pointer (some ⟨gc, 0, none⟩), .agg #[.int .i64 2, .int .i64 z1, .int .u32 xid, .int .i64 z3, .int .i64 z4, .int .u8 z5, .int .u8 z6, .int .u8 z7, .int .u8 z8, .int .u8 y0, .int .u8 y1, .int .u8 y2, .int .u8 y3, .int .u8 z13, .int .u8 z14, .int .u8 z15, .int .u8 z16, .int .u8 z17, .int .u8 z18, .int .u8 z19, .int .u8 z20, .int .u8 h0, .int .u8 h1, .int .u8 h2, .int .u8 h3, .int .u8 h4, .int .u8 h5, .slice A n c], .int .i64 t] w fun e w' => e = .returned (.tuple #[.slice none 0 0, .bool false]) ∧ Cl lo gc w' #[.int .u8 m0, .int .u8 m1, .int .u8 m2, .int .u8 m3, .int .u8 m4, .int .u8 m5, .int .i64 t, .int .i64 3, .int .u32 xid, .int .i64 sent, .int .i64 wait, .int .i64 tries, .int .u8 y0, .int .u8 y1, .int .u8 y2, .int .u8 y3, .int .u8 f0, .int .u8 f1, .int .u8 f2, .int .u8 f3, .int .u8 u0, .int .u8 u1, .int .u8 u2, .int .u8 u3, .int .u8 e0, .int .u8 e1, .int .u8 e2, .int .u8 e3, .int .i64 nu, .int .i64 n1, .int .i64 n2] ∧ Kt [51] w w' ∧ Below lo w w' := by
  obtain ⟨hcl, ocl⟩ := hT
  have hlo : lo ≤ w.heap.size := Nat.le_trans ocl (Nat.le_of_lt (hlt hcl))
  have kt := Kt.refl [51] w
  have H54 := Lib.hid h54
  clear h54
  have HTY := Lib.hid hty
  clear hty
  have HSC := Lib.hid hsc
  clear hsc
  have HS0 := Lib.hid hs0
  clear hs0
  have HS1 := Lib.hid hs1
  clear hs1
  have HM := Lib.hid hm
  clear hm
  have HR := Lib.hid hr
  clear hr
  have HNU := Lib.hid hnu
  clear hnu
  have HN1 := Lib.hid hn1
  clear hn1
  have HN2 := Lib.hid hn2
  clear hn2
  have bel := Below.refl lo w
  go_enter Try.func13, Try.ntmps13
  go_wp2_with (first | ((with_reducible show wpList _ _ _ (⟨some 4, _, _, _, _, _⟩ :: _) _ _); refine wpList_box_n rfl 37 (.tmp 1) rfl #[.int .i64 2, .int .i64 z1, .int .u32 xid, .int .i64 z3, .int .i64 z4, .int .u8 z5, .int .u8 z6, .int .u8 z7, .int .u8 z8, .int .u8 y0, .int .u8 y1, .int .u8 y2, .int .u8 y3, .int .u8 z13, .int .u8 z14, .int .u8 z15, .int .u8 z16, .int .u8 z17, .int .u8 z18, .int .u8 z19, .int .u8 z20, .int .u8 h0, .int .u8 h1, .int .u8 h2, .int .u8 h3, .int .u8 h4, .int .u8 h5, .slice A n c] rfl ?_; intro g4 w1 ge lt hh bb; have d_cl_mb := ne_new (hlt hcl) ge; have omb := Nat.le_trans (Nat.le_trans hlo bel.size) ge; have pmb := Nat.le_trans bel.size ge; have oa_mb := hO.oa ge; replace hcl := blk_u hcl bb; replace kt := kt.trans (kt_below bb); replace hO := hO.below bb; replace bel := bel.trans (bb.mono (Nat.le_trans hlo bel.size)); have hmb := hh; clear hh lt ge bb))
  go_wp2_with fail
  have hT : Cl lo gc w1 _ := ⟨hcl, ocl⟩
  clear hcl
  with_reducible refine (ladv _ hT ht0 ht2).mono ?_
  rintro e w2 ⟨rfl, hT_, k_, bb⟩
  replace hmb := Kt.blk k_ hmb (by decide)
  replace kt := kt.trans k_
  replace hO := hO.kt k_
  clear hT
  have hT := hT_
  replace bel := bel.trans bb
  clear bb k_ hT_
  obtain ⟨hcl, _⟩ := hT
  have R13 := Lib.hid (range_lit hmb 0 28 [.int .i64 2, .int .i64 z1, .int .u32 xid, .int .i64 z3, .int .i64 z4, .int .u8 z5, .int .u8 z6, .int .u8 z7, .int .u8 z8, .int .u8 y0, .int .u8 y1, .int .u8 y2, .int .u8 y3, .int .u8 z13, .int .u8 z14, .int .u8 z15, .int .u8 z16, .int .u8 z17, .int .u8 z18, .int .u8 z19, .int .u8 z20, .int .u8 h0, .int .u8 h1, .int .u8 h2, .int .u8 h3, .int .u8 h4, .int .u8 h5, .slice A n c] rfl)
  go_wp2_with (first | ((with_reducible show wpList _ _ _ (⟨some 13, _, _, _, _, _⟩ :: _) _ _); refine wpList_load_rng 37 (.tmp 4) rfl (by kernel_rfl) _ _ rfl _ R13.out _ Try.underlying37 rfl (by kernel_rfl) ?_))
  try clear R13
  with_reducible refine (lexp_yes (hs := []) (L := []) _ (cl_of hcl) (by decide) (by decide) (by decide) hmac (by simp)).mono ?_
  rintro e w3 ⟨rfl, b3⟩
  replace hmb := blk_u hmb b3
  replace hcl := blk_u hcl b3
  replace kt := kt.trans (kt_below b3)
  replace hO := hO.below b3
  replace bel := bel.trans (b3.mono (Nat.le_trans hlo bel.size))
  clear b3
  have R16 := Lib.hid (range_lit hmb 0 28 [.int .i64 2, .int .i64 z1, .int .u32 xid, .int .i64 z3, .int .i64 z4, .int .u8 z5, .int .u8 z6, .int .u8 z7, .int .u8 z8, .int .u8 y0, .int .u8 y1, .int .u8 y2, .int .u8 y3, .int .u8 z13, .int .u8 z14, .int .u8 z15, .int .u8 z16, .int .u8 z17, .int .u8 z18, .int .u8 z19, .int .u8 z20, .int .u8 h0, .int .u8 h1, .int .u8 h2, .int .u8 h3, .int .u8 h4, .int .u8 h5, .slice A n c] rfl)
  go_wp2_with (first | ((with_reducible show wpList _ _ _ (⟨some 16, _, _, _, _, _⟩ :: _) _ _); refine wpList_load_rng 37 (.tmp 4) rfl (by kernel_rfl) _ _ rfl _ R16.out _ Try.underlying37 rfl (by kernel_rfl) ?_))
  try clear R16
  with_reducible refine (ltype_a (k := 5) _ hO HTY.out).mono ?_
  rintro e w4 ⟨rfl, b4⟩
  replace hmb := blk_u hmb b4
  replace hcl := blk_u hcl b4
  replace kt := kt.trans (kt_below b4)
  replace hO := hO.below b4
  replace bel := bel.trans (b4.mono (Nat.le_trans hlo bel.size))
  clear b4
  have R22 := cell_lit hcl 7 _ rfl
  have R37 := Lib.hid (range_lit hmb 0 28 [.int .i64 2, .int .i64 z1, .int .u32 xid, .int .i64 z3, .int .i64 z4, .int .u8 z5, .int .u8 z6, .int .u8 z7, .int .u8 z8, .int .u8 y0, .int .u8 y1, .int .u8 y2, .int .u8 y3, .int .u8 z13, .int .u8 z14, .int .u8 z15, .int .u8 z16, .int .u8 z17, .int .u8 z18, .int .u8 z19, .int .u8 z20, .int .u8 h0, .int .u8 h1, .int .u8 h2, .int .u8 h3, .int .u8 h4, .int .u8 h5, .slice A n c] rfl)
  go_wp2_with (first | ((with_reducible show wpList _ _ _ (⟨some 37, _, _, _, _, _⟩ :: _) _ _); refine wpList_load_rng 37 (.tmp 4) rfl (by kernel_rfl) _ _ rfl _ R37.out _ Try.underlying37 rfl (by kernel_rfl) ?_))
  try clear R22
  try clear R37
  go_wp2_with fail
  have hT : Cl lo gc w4 _ := ⟨hcl, ocl⟩
  clear hcl
  with_reducible refine (lbind_5 _ hT hO H54.out hy hya HSC.out HS0.out HS1.out HM.out HR.out HNU.out HN1.out HN2.out).mono ?_
  rintro e w5 ⟨rfl, hT_, k_, bb⟩
  replace hmb := Kt.blk k_ hmb (by decide)
  replace kt := kt.trans k_
  replace hO := hO.kt k_
  clear hT
  have hT := hT_
  replace bel := bel.trans bb
  clear bb k_ hT_
  obtain ⟨hcl, _⟩ := hT
  go_wp2_with fail
  exact bodyPost_ret (v := .tuple #[.slice none 0 0, .bool false]) (by simp [results, Try.results13, go_sem]) rfl ⟨rfl, ⟨hcl, ocl⟩, kt, bel⟩
end Go.Proofs.Ytjfboofnffghjaa
