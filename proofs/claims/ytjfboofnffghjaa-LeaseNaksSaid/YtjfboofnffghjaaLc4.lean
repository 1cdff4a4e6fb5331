/- lease's accept, giveUp, bind. -/
import Derived.Test.YtjfboofnffghjaaLc2
namespace Go.Proofs.Ytjfboofnffghjaa
open Go.RowKit

theorem wpList_min {P : Program} {w : World} {ops : Array Oper} {rest : List Oper} {o : Oper} {a : Act} {Q : Exit → Act → World → Prop} (hgd : o.guard = none) (s x : Operand) (t tn : TypeId)
    (ho : o.op = .call { callee := .builtin .min, args := #[s, x], argTypes := #[t, tn] }) (k : IntKind) (i j m : Int) (hs : a.eval s = .int k i) (hx : a.eval x = .int k j) (hm : (if j < i then j else i) = m)
    (h : wpList P ops Q rest (a.put o.dst (.int k m)) w) : wpList P ops Q (o :: rest) a w := by
  subst hm
  refine wpList_wanted (by simp [Region.wanted, hgd]) fun K hK => ?_
  have hr : (Builtin.min_ #[t, tn] o.type #[.int k i, .int k j]).run P w = .ok (.int k (if j < i then j else i)) w := by
    simp [Builtin.min_, Builtin.min2]
  unfold Oper.wp execOp
  simp only [ho, resolve, invoke, builtin, Sem.run_bind, Sem.run_pure, Result.andThen_ok, List.map_toArray, List.map_cons, List.map_nil, hs, hx, hr]
  exact hK _ _ h
theorem i4_first {o : Option (List UInt8)} {x0 x1 x2 x3 : Int} (h : I4 o x0 x1 x2 x3 true) : ∃ b0 b1 b2 b3 : UInt8, o.getD [] = [b0, b1, b2, b3] ∧ (b0.toNat : Int) = x0 ∧ (b1.toNat : Int) = x1 ∧ (b2.toNat : Int) = x2 ∧ (b3.toNat : Int) = x3 := by
  obtain ⟨h1, h2⟩ := h
  unfold fourL at h1 h2
  split at h2
  · rename_i hl
    rw [if_pos hl] at h1
    obtain ⟨b0, b1, b2, b3, e⟩ := list_four hl
    rw [e] at h1
    simp only [List.map_cons, List.map_nil, List.cons.injEq, and_true] at h1
    exact ⟨b0, b1, b2, b3, e, h1.1, h1.2.1, h1.2.2.1, h1.2.2.2⟩
  · simp at h2
theorem lfirst_i {A : Option Addr} {n c : Nat} {hs : List Oh} {L : OptL} {code x0 x1 x2 x3 : Int} (w : World) (hO : Opv w A n c hs L) (hf : I4 (findL L code) x0 x1 x2 x3 true) : Calls Try.prog 37 #[.slice A n c, .int .i64 code] w fun e w' => e = .returned (.agg #[.int .u8 x0, .int .u8 x1, .int .u8 x2, .int .u8 x3]) ∧ Below w.heap.size w w' := by
  obtain ⟨b0, b1, b2, b3, e, h0, h1, h2, h3⟩ := i4_first hf
  subst h0; subst h1; subst h2; subst h3
  exact lfirst_b w hO e
set_option linter.unusedVariables false in
set_option linter.unusedSimpArgs false in
set_option maxRecDepth 100000 in
set_option maxHeartbeats 16000000 in
theorem lacc_yes {lo gc : Nat} {m0 m1 m2 m3 m4 m5 now xid sent wait tries a0 a1 a2 a3 k0 k1 k2 k3 r0 r1 r2 r3 s0 s1 s2 s3 un t1 t2 : Int} {z1 z3 z4 z5 z6 z7 z8 y0 y1 y2 y3 z13 z14 z15 z16 z17 z18 z19 z20 h0 h1 h2 h3 h4 h5 : Int} {A : Option Addr} {n c : Nat} {hs : List Oh} {L : OptL} {e0 e1 e2 e3 : Int} (w : World) (hT : Cl lo gc w #[.int .u8 m0, .int .u8 m1, .int .u8 m2, .int .u8 m3, .int .u8 m4, .int .u8 m5, .int .i64 now, .int .i64 1, .int .u32 xid, .int .i64 sent, .int .i64 wait, .int .i64 tries, .int .u8 a0, .int .u8 a1, .int .u8 a2, .int .u8 a3, .int .u8 k0, .int .u8 k1, .int .u8 k2, .int .u8 k3, .int .u8 r0, .int .u8 r1, .int .u8 r2, .int .u8 r3, .int .u8 s0, .int .u8 s1, .int .u8 s2, .int .u8 s3, .int .i64 un, .int .i64 t1, .int .i64 t2]) (hO : Opv w A n c hs L) (hty : (typeL L : Int) = 2) (h54 : I4 (findL L 54) e0 e1 e2 e3 true) (hy : ∀ W, (binOp .eql 34 (.agg #[.int .u8 y0, .int .u8 y1, .int .u8 y2, .int .u8 y3]) (.agg #[.int .u8 0, .int .u8 0, .int .u8 0, .int .u8 0])).run Try.prog W = .ok (.bool false) W) (hyb : By4 y0 y1 y2 y3) : Calls Try.prog 28 #[.pointer (some ⟨gc, 0, none⟩), .agg #[.int .i64 2, .int .i64 z1, .int .u32 xid, .int .i64 z3, .int .i64 z4, .int .u8 z5, .int .u8 z6, .int .u8 z7, .int .u8 z8, .int .u8 y0, .int .u8 y1, .int .u8 y2, .int .u8 y3, .int .u8 z13, .int .u8 z14, .int .u8 z15, .int .u8 z16, .int .u8 z17, .int .u8 z18, .int .u8 z19, .int .u8 z20, .int .u8 h0, .int .u8 h1, .int .u8 h2, .int .u8 h3, .int .u8 h4, .int .u8 h5, .slice A n c]] w fun e w' => ∃ g, e = .returned (.slice (some ⟨g, 0, none⟩) 1 1) ∧ Ms w' g [.int .i64 1, .int .i64 0, .int .u32 xid, .int .i64 0, .int .i64 32768, .int .u8 0, .int .u8 0, .int .u8 0, .int .u8 0, .int .u8 0, .int .u8 0, .int .u8 0, .int .u8 0, .int .u8 0, .int .u8 0, .int .u8 0, .int .u8 0, .int .u8 0, .int .u8 0, .int .u8 0, .int .u8 0, .int .u8 m0, .int .u8 m1, .int .u8 m2, .int .u8 m3, .int .u8 m4, .int .u8 m5] 3 ∧ Cl lo gc w' #[.int .u8 m0, .int .u8 m1, .int .u8 m2, .int .u8 m3, .int .u8 m4, .int .u8 m5, .int .i64 now, .int .i64 2, .int .u32 xid, .int .i64 now, .int .i64 4, .int .i64 1, .int .u8 y0, .int .u8 y1, .int .u8 y2, .int .u8 y3, .int .u8 0, .int .u8 0, .int .u8 0, .int .u8 0, .int .u8 0, .int .u8 0, .int .u8 0, .int .u8 0, .int .u8 e0, .int .u8 e1, .int .u8 e2, .int .u8 e3, .int .i64 0, .int .i64 t1, .int .i64 t2] ∧ Kt [51] w w' ∧ Below lo w w' := by
  obtain ⟨hcl, ocl⟩ := hT
  have hlo : lo ≤ w.heap.size := Nat.le_trans ocl (Nat.le_of_lt (hlt hcl))
  have kt := Kt.refl [51] w
  have HYB := Lib.hid hyb
  clear hyb
  have H54 := Lib.hid h54
  clear h54
  have HTY := Lib.hid hty
  clear hty
  have bel := Below.refl lo w
  go_enter Try.func28, Try.ntmps28
  go_wp2_with (first | ((with_reducible show wpList _ _ _ (⟨some 3, _, _, _, _, _⟩ :: _) _ _); refine wpList_box_n rfl 37 (.tmp 1) rfl #[.int .i64 2, .int .i64 z1, .int .u32 xid, .int .i64 z3, .int .i64 z4, .int .u8 z5, .int .u8 z6, .int .u8 z7, .int .u8 z8, .int .u8 y0, .int .u8 y1, .int .u8 y2, .int .u8 y3, .int .u8 z13, .int .u8 z14, .int .u8 z15, .int .u8 z16, .int .u8 z17, .int .u8 z18, .int .u8 z19, .int .u8 z20, .int .u8 h0, .int .u8 h1, .int .u8 h2, .int .u8 h3, .int .u8 h4, .int .u8 h5, .slice A n c] rfl ?_; intro g3 w1 ge lt hh bb; have d_cl_mb := ne_new (hlt hcl) ge; have omb := Nat.le_trans (Nat.le_trans hlo bel.size) ge; have pmb := Nat.le_trans bel.size ge; have oa_mb := hO.oa ge; replace hcl := blk_u hcl bb; replace kt := kt.trans (kt_below bb); replace hO := hO.below bb; replace bel := bel.trans (bb.mono (Nat.le_trans hlo bel.size)); have hmb := hh; clear hh lt ge bb; have R9 := cell_lit hmb 27 _ rfl))
  try clear R9
  with_reducible refine (oaddr_i (b := true) _ hO H54.out).mono ?_
  rintro e w2 ⟨rfl, b2⟩
  replace hcl := blk_u hcl b2
  replace hmb := blk_u hmb b2
  replace kt := kt.trans (kt_below b2)
  replace hO := hO.below b2
  replace bel := bel.trans (b2.mono (Nat.le_trans hlo bel.size))
  clear b2
  go_wp2_with (first | ((with_reducible show wpList _ _ _ (⟨some 5, _, _, _, _, _⟩ :: _) _ _); refine wpList_new_a rfl 34 rfl #[.int .u8 0, .int .u8 0, .int .u8 0, .int .u8 0] (by kernel_rfl) ?_; intro g5 w3 ge hh bb; have d_cl_sb := ne_new (hlt hcl) ge; have d_mb_sb := ne_new (hlt hmb) ge; have osb := Nat.le_trans (Nat.le_trans hlo bel.size) ge; have psb := Nat.le_trans bel.size ge; have oa_sb := hO.oa ge; replace hcl := blk_u hcl bb; replace hmb := blk_u hmb bb; replace kt := kt.trans (kt_below bb); replace hO := hO.below bb; replace bel := bel.trans (bb.mono (Nat.le_trans hlo bel.size)); have hsb := hh; clear hh ge bb) | ((with_reducible show wpList _ _ _ (⟨none, Op.store _ (.tmp 5) _, _, _, _, _⟩ :: _) _ _); refine wpList_store_blk rfl 34 (.tmp 5) (.tmp 11) rfl g5 rfl _ rfl _ 34 hsb (by rfl) (by kernel_rfl) (by kernel_rfl) ?_; intro w4 hq gr; replace hcl := blk_a hcl gr d_cl_sb; replace hmb := blk_a hmb gr d_mb_sb; replace kt := kt.newer gr psb bel.size; replace hO := hO.away oa_sb gr; replace bel := below_grown bel gr osb (Nat.le_trans hlo bel.size); clear hsb; have hsb := hq; clear hq gr; have R13 := Lib.hid (range_lit hmb 0 28 [.int .i64 2, .int .i64 z1, .int .u32 xid, .int .i64 z3, .int .i64 z4, .int .u8 z5, .int .u8 z6, .int .u8 z7, .int .u8 z8, .int .u8 y0, .int .u8 y1, .int .u8 y2, .int .u8 y3, .int .u8 z13, .int .u8 z14, .int .u8 z15, .int .u8 z16, .int .u8 z17, .int .u8 z18, .int .u8 z19, .int .u8 z20, .int .u8 h0, .int .u8 h1, .int .u8 h2, .int .u8 h3, .int .u8 h4, .int .u8 h5, .slice A n c] rfl)) | ((with_reducible show wpList _ _ _ (⟨some 13, _, _, _, _, _⟩ :: _) _ _); refine wpList_load_rng 37 (.tmp 3) rfl (by kernel_rfl) _ _ rfl _ R13.out _ Try.underlying37 rfl (by kernel_rfl) ?_))
  try clear R13
  with_reducible refine (ltype_a (k := 2) _ hO HTY.out).mono ?_
  rintro e w5 ⟨rfl, b5⟩
  replace hcl := blk_u hcl b5
  replace hmb := blk_u hmb b5
  replace hsb := blk_u hsb b5
  replace kt := kt.trans (kt_below b5)
  replace hO := hO.below b5
  replace bel := bel.trans (b5.mono (Nat.le_trans hlo bel.size))
  clear b5
  have R18 := Lib.hid (range_lit hmb 9 4 [.int .u8 y0, .int .u8 y1, .int .u8 y2, .int .u8 y3] rfl)
  go_wp2_with (first | ((with_reducible show wpList _ _ _ (⟨some 18, _, _, _, _, _⟩ :: _) _ _); refine wpList_load_rng 34 (.tmp 17) rfl (by kernel_rfl) _ _ rfl _ R18.out _ Try.underlying34 rfl (by kernel_rfl) ?_))
  try clear R18
  with_reducible refine (lnone (b := false) _ hy).mono ?_
  rintro e w6 ⟨rfl, b6⟩
  replace hcl := blk_u hcl b6
  replace hmb := blk_u hmb b6
  replace hsb := blk_u hsb b6
  replace kt := kt.trans (kt_below b6)
  replace hO := hO.below b6
  replace bel := bel.trans (b6.mono (Nat.le_trans hlo bel.size))
  clear b6
  have R27 := Lib.hid (range_lit hmb 9 4 [.int .u8 y0, .int .u8 y1, .int .u8 y2, .int .u8 y3] rfl)
  go_wp2_with (first | ((with_reducible show wpList _ _ _ (⟨some 27, _, _, _, _, _⟩ :: _) _ _); refine wpList_load_rng 34 (.tmp 26) rfl (by kernel_rfl) _ _ rfl _ R27.out _ Try.underlying34 rfl (by kernel_rfl) ?_; have R28 := Lib.hid (range_lit hsb 0 4 [.int .u8 e0, .int .u8 e1, .int .u8 e2, .int .u8 e3] rfl)) | ((with_reducible show wpList _ _ _ (⟨some 28, _, _, _, _, _⟩ :: _) _ _); refine wpList_load_rng 34 (.tmp 5) rfl (by kernel_rfl) _ _ rfl _ R28.out _ Try.underlying34 rfl (by kernel_rfl) ?_) | ((with_reducible show wpList _ _ _ (⟨none, Op.store _ (.tmp 31) _, _, _, _, _⟩ :: _) _ _); refine wpList_store_part rfl 41 (.tmp 31) (.tmp 29) rfl gc 12 rfl [.int .u8 y0, .int .u8 y1, .int .u8 y2, .int .u8 y3, .int .u8 0, .int .u8 0, .int .u8 0, .int .u8 0, .int .u8 0, .int .u8 0, .int .u8 0, .int .u8 0, .int .u8 e0, .int .u8 e1, .int .u8 e2, .int .u8 e3, .int .i64 0] rfl [.int .u8 m0, .int .u8 m1, .int .u8 m2, .int .u8 m3, .int .u8 m4, .int .u8 m5, .int .i64 now, .int .i64 1, .int .u32 xid, .int .i64 sent, .int .i64 wait, .int .i64 tries, .int .u8 a0, .int .u8 a1, .int .u8 a2, .int .u8 a3, .int .u8 k0, .int .u8 k1, .int .u8 k2, .int .u8 k3, .int .u8 r0, .int .u8 r1, .int .u8 r2, .int .u8 r3, .int .u8 s0, .int .u8 s1, .int .u8 s2, .int .u8 s3, .int .i64 un, .int .i64 t1, .int .i64 t2] 51 hcl (by simp) [.int .u8 m0, .int .u8 m1, .int .u8 m2, .int .u8 m3, .int .u8 m4, .int .u8 m5, .int .i64 now, .int .i64 1, .int .u32 xid, .int .i64 sent, .int .i64 wait, .int .i64 tries, .int .u8 y0, .int .u8 y1, .int .u8 y2, .int .u8 y3, .int .u8 0, .int .u8 0, .int .u8 0, .int .u8 0, .int .u8 0, .int .u8 0, .int .u8 0, .int .u8 0, .int .u8 e0, .int .u8 e1, .int .u8 e2, .int .u8 e3, .int .i64 0, .int .i64 t1, .int .i64 t2] rfl (by kernel_rfl) (by rfl) ?_; intro w7 hq gr; replace hmb := blk_a hmb gr (ne_symm d_cl_mb); replace hsb := blk_a hsb gr (ne_symm d_cl_sb); replace kt := kt.trans (kt_grown gr hcl (by simp)); replace hO := hO.kt (kt_grown gr hcl (by simp)); replace bel := below_grown bel gr ocl (Nat.le_trans hlo bel.size); clear hcl; have hcl := hq; clear hq gr))
  try clear R27
  try clear R28
  go_wp2_with fail
  have hT : Cl lo gc w7 _ := ⟨hcl, ocl⟩
  clear hcl
  with_reducible refine (lbegin_2 _ hT HYB.out H54.out.by4).mono ?_
  rintro e w8 ⟨gm, rfl, hm, hT_, k_, bb⟩
  replace hmb := Kt.blk k_ hmb (by decide)
  replace hsb := Kt.blk k_ hsb (by decide)
  replace kt := kt.trans k_
  replace hO := hO.kt k_
  clear hT
  have hT := hT_
  replace bel := bel.trans bb
  clear bb k_ hT_
  go_wp2_with fail
  go_ret
  exact ⟨_, rfl, hm, hT, kt, bel⟩
set_option linter.unusedVariables false in
set_option linter.unusedSimpArgs false in
set_option maxRecDepth 100000 in
set_option maxHeartbeats 16000000 in
theorem lacc_no {lo gc : Nat} {m0 m1 m2 m3 m4 m5 now xid sent wait tries a0 a1 a2 a3 k0 k1 k2 k3 r0 r1 r2 r3 s0 s1 s2 s3 un t1 t2 : Int} {z1 z3 z4 z5 z6 z7 z8 y0 y1 y2 y3 z13 z14 z15 z16 z17 z18 z19 z20 h0 h1 h2 h3 h4 h5 : Int} {A : Option Addr} {n c : Nat} {hs : List Oh} {L : OptL} {e0 e1 e2 e3 : Int} {k : Int} {b : Bool} (w : World) (hT : Cl lo gc w #[.int .u8 m0, .int .u8 m1, .int .u8 m2, .int .u8 m3, .int .u8 m4, .int .u8 m5, .int .i64 now, .int .i64 1, .int .u32 xid, .int .i64 sent, .int .i64 wait, .int .i64 tries, .int .u8 a0, .int .u8 a1, .int .u8 a2, .int .u8 a3, .int .u8 k0, .int .u8 k1, .int .u8 k2, .int .u8 k3, .int .u8 r0, .int .u8 r1, .int .u8 r2, .int .u8 r3, .int .u8 s0, .int .u8 s1, .int .u8 s2, .int .u8 s3, .int .i64 un, .int .i64 t1, .int .i64 t2]) (hO : Opv w A n c hs L) (hty : (typeL L : Int) = k) (h54 : I4 (findL L 54) e0 e1 e2 e3 b) (hk : (k != 2) = true) : Calls Try.prog 28 #[.pointer (some ⟨gc, 0, none⟩), .agg #[.int .i64 2, .int .i64 z1, .int .u32 xid, .int .i64 z3, .int .i64 z4, .int .u8 z5, .int .u8 z6, .int .u8 z7, .int .u8 z8, .int .u8 y0, .int .u8 y1, .int .u8 y2, .int .u8 y3, .int .u8 z13, .int .u8 z14, .int .u8 z15, .int .u8 z16, .int .u8 z17, .int .u8 z18, .int .u8 z19, .int .u8 z20, .int .u8 h0, .int .u8 h1, .int .u8 h2, .int .u8 h3, .int .u8 h4, .int .u8 h5, .slice A n c]] w fun e w' => e = .returned (.slice none 0 0) ∧ Cl lo gc w' #[.int .u8 m0, .int .u8 m1, .int .u8 m2, .int .u8 m3, .int .u8 m4, .int .u8 m5, .int .i64 now, .int .i64 1, .int .u32 xid, .int .i64 sent, .int .i64 wait, .int .i64 tries, .int .u8 a0, .int .u8 a1, .int .u8 a2, .int .u8 a3, .int .u8 k0, .int .u8 k1, .int .u8 k2, .int .u8 k3, .int .u8 r0, .int .u8 r1, .int .u8 r2, .int .u8 r3, .int .u8 s0, .int .u8 s1, .int .u8 s2, .int .u8 s3, .int .i64 un, .int .i64 t1, .int .i64 t2] ∧ Kt [51] w w' ∧ Below lo w w' := by
  obtain ⟨hcl, ocl⟩ := hT
  have hlo : lo ≤ w.heap.size := Nat.le_trans ocl (Nat.le_of_lt (hlt hcl))
  have kt := Kt.refl [51] w
  have H54 := Lib.hid h54
  clear h54
  have HTY := Lib.hid hty
  clear hty
  have bel := Below.refl lo w
  go_enter Try.func28, Try.ntmps28
  go_wp2_with (first | ((with_reducible show wpList _ _ _ (⟨some 3, _, _, _, _, _⟩ :: _) _ _); refine wpList_box_n rfl 37 (.tmp 1) rfl #[.int .i64 2, .int .i64 z1, .int .u32 xid, .int .i64 z3, .int .i64 z4, .int .u8 z5, .int .u8 z6, .int .u8 z7, .int .u8 z8, .int .u8 y0, .int .u8 y1, .int .u8 y2, .int .u8 y3, .int .u8 z13, .int .u8 z14, .int .u8 z15, .int .u8 z16, .int .u8 z17, .int .u8 z18, .int .u8 z19, .int .u8 z20, .int .u8 h0, .int .u8 h1, .int .u8 h2, .int .u8 h3, .int .u8 h4, .int .u8 h5, .slice A n c] rfl ?_; intro g3 w1 ge lt hh bb; have d_cl_mb := ne_new (hlt hcl) ge; have omb := Nat.le_trans (Nat.le_trans hlo bel.size) ge; have pmb := Nat.le_trans bel.size ge; have oa_mb := hO.oa ge; replace hcl := blk_u hcl bb; replace kt := kt.trans (kt_below bb); replace hO := hO.below bb; replace bel := bel.trans (bb.mono (Nat.le_trans hlo bel.size)); have hmb := hh; clear hh lt ge bb; have R9 := cell_lit hmb 27 _ rfl))
  try clear R9
  with_reducible refine (oaddr_i (b := b) _ hO H54.out).mono ?_
  rintro e w2 ⟨rfl, b2⟩
  replace hcl := blk_u hcl b2
  replace hmb := blk_u hmb b2
  replace kt := kt.trans (kt_below b2)
  replace hO := hO.below b2
  replace bel := bel.trans (b2.mono (Nat.le_trans hlo bel.size))
  clear b2
  go_wp2_with (first | ((with_reducible show wpList _ _ _ (⟨some 5, _, _, _, _, _⟩ :: _) _ _); refine wpList_new_a rfl 34 rfl #[.int .u8 0, .int .u8 0, .int .u8 0, .int .u8 0] (by kernel_rfl) ?_; intro g5 w3 ge hh bb; have d_cl_sb := ne_new (hlt hcl) ge; have d_mb_sb := ne_new (hlt hmb) ge; have osb := Nat.le_trans (Nat.le_trans hlo bel.size) ge; have psb := Nat.le_trans bel.size ge; have oa_sb := hO.oa ge; replace hcl := blk_u hcl bb; replace hmb := blk_u hmb bb; replace kt := kt.trans (kt_below bb); replace hO := hO.below bb; replace bel := bel.trans (bb.mono (Nat.le_trans hlo bel.size)); have hsb := hh; clear hh ge bb) | ((with_reducible show wpList _ _ _ (⟨none, Op.store _ (.tmp 5) _, _, _, _, _⟩ :: _) _ _); refine wpList_store_blk rfl 34 (.tmp 5) (.tmp 11) rfl g5 rfl _ rfl _ 34 hsb (by rfl) (by kernel_rfl) (by kernel_rfl) ?_; intro w4 hq gr; replace hcl := blk_a hcl gr d_cl_sb; replace hmb := blk_a hmb gr d_mb_sb; replace kt := kt.newer gr psb bel.size; replace hO := hO.away oa_sb gr; replace bel := below_grown bel gr osb (Nat.le_trans hlo bel.size); clear hsb; have hsb := hq; clear hq gr; have R13 := Lib.hid (range_lit hmb 0 28 [.int .i64 2, .int .i64 z1, .int .u32 xid, .int .i64 z3, .int .i64 z4, .int .u8 z5, .int .u8 z6, .int .u8 z7, .int .u8 z8, .int .u8 y0, .int .u8 y1, .int .u8 y2, .int .u8 y3, .int .u8 z13, .int .u8 z14, .int .u8 z15, .int .u8 z16, .int .u8 z17, .int .u8 z18, .int .u8 z19, .int .u8 z20, .int .u8 h0, .int .u8 h1, .int .u8 h2, .int .u8 h3, .int .u8 h4, .int .u8 h5, .slice A n c] rfl)) | ((with_reducible show wpList _ _ _ (⟨some 13, _, _, _, _, _⟩ :: _) _ _); refine wpList_load_rng 37 (.tmp 3) rfl (by kernel_rfl) _ _ rfl _ R13.out _ Try.underlying37 rfl (by kernel_rfl) ?_))
  try clear R13
  with_reducible refine (ltype_a (k := k) _ hO HTY.out).mono ?_
  rintro e w5 ⟨rfl, b5⟩
  replace hcl := blk_u hcl b5
  replace hmb := blk_u hmb b5
  replace hsb := blk_u hsb b5
  replace kt := kt.trans (kt_below b5)
  replace hO := hO.below b5
  replace bel := bel.trans (b5.mono (Nat.le_trans hlo bel.size))
  clear b5
  go_wp2_with fail
  go_ret
  exact ⟨rfl, ⟨hcl, ocl⟩, kt, bel⟩
set_option linter.unusedVariables false in
set_option linter.unusedSimpArgs false in
set_option maxRecDepth 100000 in
set_option maxHeartbeats 16000000 in
theorem lnak_2 {lo gc : Nat} {m0 m1 m2 m3 m4 m5 now xid sent wait tries a0 a1 a2 a3 k0 k1 k2 k3 r0 r1 r2 r3 s0 s1 s2 s3 un t1 t2 : Int} {z1 z3 z4 z5 z6 z7 z8 y0 y1 y2 y3 z13 z14 z15 z16 z17 z18 z19 z20 h0 h1 h2 h3 h4 h5 : Int} {A : Option Addr} {n c : Nat} {hs : List Oh} {L : OptL} {e0 e1 e2 e3 : Int} (w : World) (hT : Cl lo gc w #[.int .u8 m0, .int .u8 m1, .int .u8 m2, .int .u8 m3, .int .u8 m4, .int .u8 m5, .int .i64 now, .int .i64 2, .int .u32 xid, .int .i64 sent, .int .i64 wait, .int .i64 tries, .int .u8 a0, .int .u8 a1, .int .u8 a2, .int .u8 a3, .int .u8 k0, .int .u8 k1, .int .u8 k2, .int .u8 k3, .int .u8 r0, .int .u8 r1, .int .u8 r2, .int .u8 r3, .int .u8 s0, .int .u8 s1, .int .u8 s2, .int .u8 s3, .int .i64 un, .int .i64 t1, .int .i64 t2]) (hO : Opv w A n c hs L) (h54 : I4 (findL L 54) e0 e1 e2 e3 true) (hse : ∀ W, (binOp .neq 34 (.agg #[.int .u8 e0, .int .u8 e1, .int .u8 e2, .int .u8 e3]) (.agg #[.int .u8 s0, .int .u8 s1, .int .u8 s2, .int .u8 s3])).run Try.prog W = .ok (.bool false) W) : Calls Try.prog 29 #[.pointer (some ⟨gc, 0, none⟩), .agg #[.int .i64 2, .int .i64 z1, .int .u32 xid, .int .i64 z3, .int .i64 z4, .int .u8 z5, .int .u8 z6, .int .u8 z7, .int .u8 z8, .int .u8 y0, .int .u8 y1, .int .u8 y2, .int .u8 y3, .int .u8 z13, .int .u8 z14, .int .u8 z15, .int .u8 z16, .int .u8 z17, .int .u8 z18, .int .u8 z19, .int .u8 z20, .int .u8 h0, .int .u8 h1, .int .u8 h2, .int .u8 h3, .int .u8 h4, .int .u8 h5, .slice A n c]] w fun e w' => e = .returned (.bool false) ∧ Cl lo gc w' #[.int .u8 m0, .int .u8 m1, .int .u8 m2, .int .u8 m3, .int .u8 m4, .int .u8 m5, .int .i64 now, .int .i64 0, .int .u32 xid, .int .i64 sent, .int .i64 wait, .int .i64 tries, .int .u8 0, .int .u8 0, .int .u8 0, .int .u8 0, .int .u8 0, .int .u8 0, .int .u8 0, .int .u8 0, .int .u8 0, .int .u8 0, .int .u8 0, .int .u8 0, .int .u8 0, .int .u8 0, .int .u8 0, .int .u8 0, .int .i64 0, .int .i64 t1, .int .i64 t2] ∧ Kt [51] w w' ∧ Below lo w w' := by
  obtain ⟨hcl, ocl⟩ := hT
  have hlo : lo ≤ w.heap.size := Nat.le_trans ocl (Nat.le_of_lt (hlt hcl))
  have kt := Kt.refl [51] w
  have H54 := Lib.hid h54
  clear h54
  have bel := Below.refl lo w
  go_enter Try.func29, Try.ntmps29
  go_wp2_with (first | ((with_reducible show wpList _ _ _ (⟨some 3, _, _, _, _, _⟩ :: _) _ _); refine wpList_box_n rfl 37 (.tmp 1) rfl #[.int .i64 2, .int .i64 z1, .int .u32 xid, .int .i64 z3, .int .i64 z4, .int .u8 z5, .int .u8 z6, .int .u8 z7, .int .u8 z8, .int .u8 y0, .int .u8 y1, .int .u8 y2, .int .u8 y3, .int .u8 z13, .int .u8 z14, .int .u8 z15, .int .u8 z16, .int .u8 z17, .int .u8 z18, .int .u8 z19, .int .u8 z20, .int .u8 h0, .int .u8 h1, .int .u8 h2, .int .u8 h3, .int .u8 h4, .int .u8 h5, .slice A n c] rfl ?_; intro g3 w1 ge lt hh bb; have d_cl_mb := ne_new (hlt hcl) ge; have omb := Nat.le_trans (Nat.le_trans hlo bel.size) ge; have pmb := Nat.le_trans bel.size ge; have oa_mb := hO.oa ge; replace hcl := blk_u hcl bb; replace kt := kt.trans (kt_below bb); replace hO := hO.below bb; replace bel := bel.trans (bb.mono (Nat.le_trans hlo bel.size)); have hmb := hh; clear hh lt ge bb; have R10 := cell_lit hmb 27 _ rfl))
  try clear R10
  with_reducible refine (oaddr_i (b := true) _ hO H54.out).mono ?_
  rintro e w2 ⟨rfl, b2⟩
  replace hcl := blk_u hcl b2
  replace hmb := blk_u hmb b2
  replace kt := kt.trans (kt_below b2)
  replace hO := hO.below b2
  replace bel := bel.trans (b2.mono (Nat.le_trans hlo bel.size))
  clear b2
  go_wp2_with (first | ((with_reducible show wpList _ _ _ (⟨some 5, _, _, _, _, _⟩ :: _) _ _); refine wpList_new_a rfl 34 rfl #[.int .u8 0, .int .u8 0, .int .u8 0, .int .u8 0] (by kernel_rfl) ?_; intro g5 w3 ge hh bb; have d_cl_sb := ne_new (hlt hcl) ge; have d_mb_sb := ne_new (hlt hmb) ge; have osb := Nat.le_trans (Nat.le_trans hlo bel.size) ge; have psb := Nat.le_trans bel.size ge; have oa_sb := hO.oa ge; replace hcl := blk_u hcl bb; replace hmb := blk_u hmb bb; replace kt := kt.trans (kt_below bb); replace hO := hO.below bb; replace bel := bel.trans (bb.mono (Nat.le_trans hlo bel.size)); have hsb := hh; clear hh ge bb) | ((with_reducible show wpList _ _ _ (⟨none, Op.store _ (.tmp 5) _, _, _, _, _⟩ :: _) _ _); refine wpList_store_blk rfl 34 (.tmp 5) (.tmp 12) rfl g5 rfl _ rfl _ 34 hsb (by rfl) (by kernel_rfl) (by kernel_rfl) ?_; intro w4 hq gr; replace hcl := blk_a hcl gr d_cl_sb; replace hmb := blk_a hmb gr d_mb_sb; replace kt := kt.newer gr psb bel.size; replace hO := hO.away oa_sb gr; replace bel := below_grown bel gr osb (Nat.le_trans hlo bel.size); clear hsb; have hsb := hq; clear hq gr))
  with_reducible refine (lbound_is (b := false) _ (cl_of hcl) (by decide)).mono ?_
  rintro e _ ⟨rfl, rfl⟩
  go_wp2_with fail
  replace bel := bel.drew
  replace hcl : w4.drew.heap[gc]? = _ := hcl
  replace hmb : w4.drew.heap[g3]? = _ := hmb
  replace hsb : w4.drew.heap[g5]? = _ := hsb
  replace kt := kt_drew kt
  replace hO := hO.drew
  refine wp_region_held_drew (S := fun W => W.heap[g5]? = some (.cells #[.int .u8 e0, .int .u8 e1, .int .u8 e2, .int .u8 e3] 34 (0, 0)) ∧ W.heap[gc]? = some (.cells #[.int .u8 m0, .int .u8 m1, .int .u8 m2, .int .u8 m3, .int .u8 m4, .int .u8 m5, .int .i64 now, .int .i64 2, .int .u32 xid, .int .i64 sent, .int .i64 wait, .int .i64 tries, .int .u8 a0, .int .u8 a1, .int .u8 a2, .int .u8 a3, .int .u8 k0, .int .u8 k1, .int .u8 k2, .int .u8 k3, .int .u8 r0, .int .u8 r1, .int .u8 r2, .int .u8 r3, .int .u8 s0, .int .u8 s1, .int .u8 s2, .int .u8 s3, .int .i64 un, .int .i64 t1, .int .i64 t2] 51 (0, 0))) (by kernel_rfl) ⟨hsb, hcl⟩ (fun hH => ?_)
  generalize w4.drew = w5 at bel hcl hmb hsb kt hO hH ⊢
  refine wpAnyH_take (i := 0) (v := ?_) rfl (by kernel_rfl) (by kernel_rfl) (by kernel_rfl) (fun _ _ _ h => h) (Or.inl ⟨by rfl, ?_⟩) hH ?_
  rotate_left
  · ((intro W hW; clear hW; go_simp) <;> with_reducible rfl)
  simp only [Act.put, List.getElem_toArray, List.getElem_cons_zero, List.setIfInBounds_toArray, List.set_cons_zero, List.set_cons_succ]
  refine wpAnyH_take (i := 1) (v := ?_) rfl (by kernel_rfl) (by kernel_rfl) (by kernel_rfl) (fun _ _ _ h => h) (Or.inl ⟨by rfl, ?_⟩) hH ?_
  rotate_left
  · ((intro W hW; clear hW; go_simp) <;> with_reducible rfl)
  simp only [Act.put, List.getElem_toArray, List.getElem_cons_zero, List.getElem_cons_succ, List.setIfInBounds_toArray, List.set_cons_zero, List.set_cons_succ]
  refine wpAnyH_take (i := 2) (v := ?_) rfl (by kernel_rfl) (by kernel_rfl) (by kernel_rfl) (fun _ _ _ h => h) (Or.inl ⟨by rfl, ?_⟩) hH ?_
  rotate_left
  · ((intro W hW; clear hW; go_simp) <;> with_reducible rfl)
  simp only [Act.put, List.getElem_toArray, List.getElem_cons_zero, List.getElem_cons_succ, List.setIfInBounds_toArray, List.set_cons_zero, List.set_cons_succ]
  refine wpAnyH_take (i := 3) (v := ?_) rfl (by kernel_rfl) (by kernel_rfl) (by kernel_rfl) (fun _ _ _ h => h) (Or.inl ⟨by rfl, ?_⟩) hH ?_
  rotate_left
  · ((intro W hW; clear hW; go_simp) <;> with_reducible rfl)
  simp only [Act.put, List.getElem_toArray, List.getElem_cons_zero, List.getElem_cons_succ, List.setIfInBounds_toArray, List.set_cons_zero, List.set_cons_succ]
  refine wpAnyH_take (i := 4) (v := ?_) rfl (by kernel_rfl) (by kernel_rfl) (by kernel_rfl) (fun _ _ _ h => h) (Or.inl ⟨by rfl, ?_⟩) hH ?_
  rotate_left
  · ((intro W hW; clear hW; go_simp) <;> with_reducible rfl)
  simp only [Act.put, List.getElem_toArray, List.getElem_cons_zero, List.getElem_cons_succ, List.setIfInBounds_toArray, List.set_cons_zero, List.set_cons_succ]
  refine wpAnyH_take (i := 5) (v := ?_) rfl (by kernel_rfl) (by kernel_rfl) (by kernel_rfl) (fun _ _ _ h => h) (Or.inl ⟨by rfl, ?_⟩) hH ?_
  rotate_left
  · ((intro W hW; clear hW; go_simp) <;> with_reducible rfl)
  simp only [Act.put, List.getElem_toArray, List.getElem_cons_zero, List.getElem_cons_succ, List.setIfInBounds_toArray, List.set_cons_zero, List.set_cons_succ]
  refine wpAnyH_take (i := 6) (v := .agg #[.int .u8 e0, .int .u8 e1, .int .u8 e2, .int .u8 e3]) rfl (by kernel_rfl) (by kernel_rfl) (by kernel_rfl) (fun _ _ _ h => h) (yieldsIf_load_part (by kernel_rfl) 34 _ rfl g5 0 4 rfl _ 34 (0, 0) (fun W hW => hW.1) _ rfl _ Try.underlying34 rfl (by kernel_rfl)) hH ?_
  simp only [Act.put, List.getElem_toArray, List.getElem_cons_zero, List.getElem_cons_succ, List.setIfInBounds_toArray, List.set_cons_zero, List.set_cons_succ]
  refine wpAnyH_take (i := 7) (v := ?_) rfl (by kernel_rfl) (by kernel_rfl) (by kernel_rfl) (fun _ _ _ h => h) (Or.inl ⟨by rfl, ?_⟩) hH ?_
  rotate_left
  · ((intro W hW; clear hW; go_simp) <;> with_reducible rfl)
  simp only [Act.put, List.getElem_toArray, List.getElem_cons_zero, List.getElem_cons_succ, List.setIfInBounds_toArray, List.set_cons_zero, List.set_cons_succ]
  refine wpAnyH_take (i := 8) (v := ?_) rfl (by kernel_rfl) (by kernel_rfl) (by kernel_rfl) (fun _ _ _ h => h) (Or.inl ⟨by rfl, ?_⟩) hH ?_
  rotate_left
  · ((intro W hW; clear hW; go_simp) <;> with_reducible rfl)
  simp only [Act.put, List.getElem_toArray, List.getElem_cons_zero, List.getElem_cons_succ, List.setIfInBounds_toArray, List.set_cons_zero, List.set_cons_succ]
  refine wpAnyH_take (i := 9) (v := ?_) rfl (by kernel_rfl) (by kernel_rfl) (by kernel_rfl) (fun _ _ _ h => h) (Or.inl ⟨by rfl, ?_⟩) hH ?_
  rotate_left
  · ((intro W hW; clear hW; go_simp) <;> with_reducible rfl)
  simp only [Act.put, List.getElem_toArray, List.getElem_cons_zero, List.getElem_cons_succ, List.setIfInBounds_toArray, List.set_cons_zero, List.set_cons_succ]
  refine wpAnyH_take (i := 10) (v := ?_) rfl (by kernel_rfl) (by kernel_rfl) (by kernel_rfl) (fun _ _ _ h => h) (Or.inl ⟨by rfl, ?_⟩) hH ?_
  rotate_left
  · ((intro W hW; clear hW; go_simp) <;> with_reducible rfl)
  simp only [Act.put, List.getElem_toArray, List.getElem_cons_zero, List.getElem_cons_succ, List.setIfInBounds_toArray, List.set_cons_zero, List.set_cons_succ]
  refine wpAnyH_take (i := 11) (v := .agg #[.int .u8 s0, .int .u8 s1, .int .u8 s2, .int .u8 s3]) rfl (by kernel_rfl) (by kernel_rfl) (by kernel_rfl) (fun _ _ _ h => h) (yieldsIf_load_part (by kernel_rfl) 34 _ rfl gc 24 4 rfl _ 51 (0, 0) (fun W hW => hW.2) _ rfl _ Try.underlying34 rfl (by kernel_rfl)) hH ?_
  simp only [Act.put, List.getElem_toArray, List.getElem_cons_zero, List.getElem_cons_succ, List.setIfInBounds_toArray, List.set_cons_zero, List.set_cons_succ]
  refine wpAnyH_take (i := 12) (v := ?_) rfl (by kernel_rfl) (by kernel_rfl) (by kernel_rfl) (fun _ _ _ h => h) (Or.inl ⟨by rfl, ?_⟩) hH ?_
  rotate_left
  · ((intro W hW; clear hW; go_simp) <;> with_reducible rfl)
  simp only [Act.put, List.getElem_toArray, List.getElem_cons_zero, List.getElem_cons_succ, List.setIfInBounds_toArray, List.set_cons_zero, List.set_cons_succ]
  refine wpAnyH_take (i := 13) (v := ?_) rfl (by kernel_rfl) (by kernel_rfl) (by kernel_rfl) (fun _ _ _ h => h) (Or.inl ⟨by rfl, ?_⟩) hH ?_
  rotate_left
  · ((intro W hW; clear hW; go_simp) <;> with_reducible rfl)
  simp only [Act.put, List.getElem_toArray, List.getElem_cons_zero, List.getElem_cons_succ, List.setIfInBounds_toArray, List.set_cons_zero, List.set_cons_succ]
  refine wpAnyH_take (i := 14) (v := ?_) rfl (by kernel_rfl) (by kernel_rfl) (by kernel_rfl) (fun _ _ _ h => h) (Or.inl ⟨by rfl, ?_⟩) hH ?_
  rotate_left
  · ((intro W hW; clear hW; go_simp) <;> with_reducible rfl)
  simp only [Act.put, List.getElem_toArray, List.getElem_cons_zero, List.getElem_cons_succ, List.setIfInBounds_toArray, List.set_cons_zero, List.set_cons_succ]
  refine wpAnyH_done (by kernel_rfl) ?_ _
  go_wp2_with fail
  go_wp2_with fail
  have hT : Cl lo gc w5 _ := ⟨hcl, ocl⟩
  clear hcl
  with_reducible refine (llose _ hT).mono ?_
  rintro e w6 ⟨rfl, hT_, k_, bb⟩
  replace hmb := Kt.blk k_ hmb (by decide)
  replace hsb := Kt.blk k_ hsb (by decide)
  replace kt := kt.trans k_
  replace hO := hO.kt k_
  clear hT
  have hT := hT_
  replace bel := bel.trans bb
  clear bb k_ hT_
  obtain ⟨hcl, _⟩ := hT
  go_wp2_with fail
  go_ret
  exact ⟨rfl, ⟨hcl, ocl⟩, kt, bel⟩
set_option linter.unusedVariables false in
set_option linter.unusedSimpArgs false in
set_option maxRecDepth 100000 in
set_option maxHeartbeats 16000000 in
theorem lnak_4 {lo gc : Nat} {m0 m1 m2 m3 m4 m5 now xid sent wait tries a0 a1 a2 a3 k0 k1 k2 k3 r0 r1 r2 r3 s0 s1 s2 s3 un t1 t2 : Int} {z1 z3 z4 z5 z6 z7 z8 y0 y1 y2 y3 z13 z14 z15 z16 z17 z18 z19 z20 h0 h1 h2 h3 h4 h5 : Int} {A : Option Addr} {n c : Nat} {hs : List Oh} {L : OptL} {e0 e1 e2 e3 : Int} {b : Bool} (w : World) (hT : Cl lo gc w #[.int .u8 m0, .int .u8 m1, .int .u8 m2, .int .u8 m3, .int .u8 m4, .int .u8 m5, .int .i64 now, .int .i64 4, .int .u32 xid, .int .i64 sent, .int .i64 wait, .int .i64 tries, .int .u8 a0, .int .u8 a1, .int .u8 a2, .int .u8 a3, .int .u8 k0, .int .u8 k1, .int .u8 k2, .int .u8 k3, .int .u8 r0, .int .u8 r1, .int .u8 r2, .int .u8 r3, .int .u8 s0, .int .u8 s1, .int .u8 s2, .int .u8 s3, .int .i64 un, .int .i64 t1, .int .i64 t2]) (hO : Opv w A n c hs L) (h54 : I4 (findL L 54) e0 e1 e2 e3 b) : Calls Try.prog 29 #[.pointer (some ⟨gc, 0, none⟩), .agg #[.int .i64 2, .int .i64 z1, .int .u32 xid, .int .i64 z3, .int .i64 z4, .int .u8 z5, .int .u8 z6, .int .u8 z7, .int .u8 z8, .int .u8 y0, .int .u8 y1, .int .u8 y2, .int .u8 y3, .int .u8 z13, .int .u8 z14, .int .u8 z15, .int .u8 z16, .int .u8 z17, .int .u8 z18, .int .u8 z19, .int .u8 z20, .int .u8 h0, .int .u8 h1, .int .u8 h2, .int .u8 h3, .int .u8 h4, .int .u8 h5, .slice A n c]] w fun e w' => e = .returned (.bool true) ∧ Cl lo gc w' #[.int .u8 m0, .int .u8 m1, .int .u8 m2, .int .u8 m3, .int .u8 m4, .int .u8 m5, .int .i64 now, .int .i64 0, .int .u32 xid, .int .i64 sent, .int .i64 wait, .int .i64 tries, .int .u8 0, .int .u8 0, .int .u8 0, .int .u8 0, .int .u8 0, .int .u8 0, .int .u8 0, .int .u8 0, .int .u8 0, .int .u8 0, .int .u8 0, .int .u8 0, .int .u8 0, .int .u8 0, .int .u8 0, .int .u8 0, .int .i64 0, .int .i64 t1, .int .i64 t2] ∧ Kt [51] w w' ∧ Below lo w w' := by
  obtain ⟨hcl, ocl⟩ := hT
  have hlo : lo ≤ w.heap.size := Nat.le_trans ocl (Nat.le_of_lt (hlt hcl))
  have kt := Kt.refl [51] w
  have H54 := Lib.hid h54
  clear h54
  have bel := Below.refl lo w
  go_enter Try.func29, Try.ntmps29
  go_wp2_with (first | ((with_reducible show wpList _ _ _ (⟨some 3, _, _, _, _, _⟩ :: _) _ _); refine wpList_box_n rfl 37 (.tmp 1) rfl #[.int .i64 2, .int .i64 z1, .int .u32 xid, .int .i64 z3, .int .i64 z4, .int .u8 z5, .int .u8 z6, .int .u8 z7, .int .u8 z8, .int .u8 y0, .int .u8 y1, .int .u8 y2, .int .u8 y3, .int .u8 z13, .int .u8 z14, .int .u8 z15, .int .u8 z16, .int .u8 z17, .int .u8 z18, .int .u8 z19, .int .u8 z20, .int .u8 h0, .int .u8 h1, .int .u8 h2, .int .u8 h3, .int .u8 h4, .int .u8 h5, .slice A n c] rfl ?_; intro g3 w1 ge lt hh bb; have d_cl_mb := ne_new (hlt hcl) ge; have omb := Nat.le_trans (Nat.le_trans hlo bel.size) ge; have pmb := Nat.le_trans bel.size ge; have oa_mb := hO.oa ge; replace hcl := blk_u hcl bb; replace kt := kt.trans (kt_below bb); replace hO := hO.below bb; replace bel := bel.trans (bb.mono (Nat.le_trans hlo bel.size)); have hmb := hh; clear hh lt ge bb; have R10 := cell_lit hmb 27 _ rfl))
  try clear R10
  with_reducible refine (oaddr_i (b := b) _ hO H54.out).mono ?_
  rintro e w2 ⟨rfl, b2⟩
  replace hcl := blk_u hcl b2
  replace hmb := blk_u hmb b2
  replace kt := kt.trans (kt_below b2)
  replace hO := hO.below b2
  replace bel := bel.trans (b2.mono (Nat.le_trans hlo bel.size))
  clear b2
  go_wp2_with (first | ((with_reducible show wpList _ _ _ (⟨some 5, _, _, _, _, _⟩ :: _) _ _); refine wpList_new_a rfl 34 rfl #[.int .u8 0, .int .u8 0, .int .u8 0, .int .u8 0] (by kernel_rfl) ?_; intro g5 w3 ge hh bb; have d_cl_sb := ne_new (hlt hcl) ge; have d_mb_sb := ne_new (hlt hmb) ge; have osb := Nat.le_trans (Nat.le_trans hlo bel.size) ge; have psb := Nat.le_trans bel.size ge; have oa_sb := hO.oa ge; replace hcl := blk_u hcl bb; replace hmb := blk_u hmb bb; replace kt := kt.trans (kt_below bb); replace hO := hO.below bb; replace bel := bel.trans (bb.mono (Nat.le_trans hlo bel.size)); have hsb := hh; clear hh ge bb) | ((with_reducible show wpList _ _ _ (⟨none, Op.store _ (.tmp 5) _, _, _, _, _⟩ :: _) _ _); refine wpList_store_blk rfl 34 (.tmp 5) (.tmp 12) rfl g5 rfl _ rfl _ 34 hsb (by rfl) (by kernel_rfl) (by kernel_rfl) ?_; intro w4 hq gr; replace hcl := blk_a hcl gr d_cl_sb; replace hmb := blk_a hmb gr d_mb_sb; replace kt := kt.newer gr psb bel.size; replace hO := hO.away oa_sb gr; replace bel := below_grown bel gr osb (Nat.le_trans hlo bel.size); clear hsb; have hsb := hq; clear hq gr))
  with_reducible refine (lbound_is (b := true) _ (cl_of hcl) (by decide)).mono ?_
  rintro e _ ⟨rfl, rfl⟩
  go_wp2_with fail
  replace bel := bel.drew
  replace hcl : w4.drew.heap[gc]? = _ := hcl
  replace hmb : w4.drew.heap[g3]? = _ := hmb
  replace hsb : w4.drew.heap[g5]? = _ := hsb
  replace kt := kt_drew kt
  replace hO := hO.drew
  refine wp_region_held_drew (S := fun W => W.heap[g5]? = some (.cells #[.int .u8 e0, .int .u8 e1, .int .u8 e2, .int .u8 e3] 34 (0, 0)) ∧ W.heap[gc]? = some (.cells #[.int .u8 m0, .int .u8 m1, .int .u8 m2, .int .u8 m3, .int .u8 m4, .int .u8 m5, .int .i64 now, .int .i64 4, .int .u32 xid, .int .i64 sent, .int .i64 wait, .int .i64 tries, .int .u8 a0, .int .u8 a1, .int .u8 a2, .int .u8 a3, .int .u8 k0, .int .u8 k1, .int .u8 k2, .int .u8 k3, .int .u8 r0, .int .u8 r1, .int .u8 r2, .int .u8 r3, .int .u8 s0, .int .u8 s1, .int .u8 s2, .int .u8 s3, .int .i64 un, .int .i64 t1, .int .i64 t2] 51 (0, 0))) (by kernel_rfl) ⟨hsb, hcl⟩ (fun hH => ?_)
  generalize w4.drew = w5 at bel hcl hmb hsb kt hO hH ⊢
  refine wpAnyH_take (i := 0) (v := ?_) rfl (by kernel_rfl) (by kernel_rfl) (by kernel_rfl) (fun _ _ _ h => h) (Or.inl ⟨by rfl, ?_⟩) hH ?_
  rotate_left
  · ((intro W hW; clear hW; go_simp) <;> with_reducible rfl)
  simp only [Act.put, List.getElem_toArray, List.getElem_cons_zero, List.setIfInBounds_toArray, List.set_cons_zero, List.set_cons_succ]
  refine wpAnyH_take (i := 1) (v := ?_) rfl (by kernel_rfl) (by kernel_rfl) (by kernel_rfl) (fun _ _ _ h => h) (Or.inl ⟨by rfl, ?_⟩) hH ?_
  rotate_left
  · ((intro W hW; clear hW; go_simp) <;> with_reducible rfl)
  simp only [Act.put, List.getElem_toArray, List.getElem_cons_zero, List.getElem_cons_succ, List.setIfInBounds_toArray, List.set_cons_zero, List.set_cons_succ]
  refine wpAnyH_take (i := 2) (v := ?_) rfl (by kernel_rfl) (by kernel_rfl) (by kernel_rfl) (fun _ _ _ h => h) (Or.inl ⟨by rfl, ?_⟩) hH ?_
  rotate_left
  · ((intro W hW; clear hW; go_simp) <;> with_reducible rfl)
  simp only [Act.put, List.getElem_toArray, List.getElem_cons_zero, List.getElem_cons_succ, List.setIfInBounds_toArray, List.set_cons_zero, List.set_cons_succ]
  refine wpAnyH_take (i := 3) (v := undef) rfl (by kernel_rfl) (by kernel_rfl) (by kernel_rfl) (fun _ _ _ h => h) (Or.inr ⟨by rfl, rfl⟩) hH ?_
  simp only [Act.put, List.getElem_toArray, List.getElem_cons_zero, List.getElem_cons_succ, List.setIfInBounds_toArray, List.set_cons_zero, List.set_cons_succ]
  refine wpAnyH_take (i := 4) (v := undef) rfl (by kernel_rfl) (by kernel_rfl) (by kernel_rfl) (fun _ _ _ h => h) (Or.inr ⟨by rfl, rfl⟩) hH ?_
  simp only [Act.put, List.getElem_toArray, List.getElem_cons_zero, List.getElem_cons_succ, List.setIfInBounds_toArray, List.set_cons_zero, List.set_cons_succ]
  refine wpAnyH_take (i := 5) (v := undef) rfl (by kernel_rfl) (by kernel_rfl) (by kernel_rfl) (fun _ _ _ h => h) (Or.inr ⟨by rfl, rfl⟩) hH ?_
  simp only [Act.put, List.getElem_toArray, List.getElem_cons_zero, List.getElem_cons_succ, List.setIfInBounds_toArray, List.set_cons_zero, List.set_cons_succ]
  refine wpAnyH_take (i := 6) (v := undef) rfl (by kernel_rfl) (by kernel_rfl) (by kernel_rfl) (fun _ _ _ h => h) (Or.inr ⟨by rfl, rfl⟩) hH ?_
  simp only [Act.put, List.getElem_toArray, List.getElem_cons_zero, List.getElem_cons_succ, List.setIfInBounds_toArray, List.set_cons_zero, List.set_cons_succ]
  refine wpAnyH_take (i := 7) (v := undef) rfl (by kernel_rfl) (by kernel_rfl) (by kernel_rfl) (fun _ _ _ h => h) (Or.inr ⟨by rfl, rfl⟩) hH ?_
  simp only [Act.put, List.getElem_toArray, List.getElem_cons_zero, List.getElem_cons_succ, List.setIfInBounds_toArray, List.set_cons_zero, List.set_cons_succ]
  refine wpAnyH_take (i := 8) (v := undef) rfl (by kernel_rfl) (by kernel_rfl) (by kernel_rfl) (fun _ _ _ h => h) (Or.inr ⟨by rfl, rfl⟩) hH ?_
  simp only [Act.put, List.getElem_toArray, List.getElem_cons_zero, List.getElem_cons_succ, List.setIfInBounds_toArray, List.set_cons_zero, List.set_cons_succ]
  refine wpAnyH_take (i := 9) (v := undef) rfl (by kernel_rfl) (by kernel_rfl) (by kernel_rfl) (fun _ _ _ h => h) (Or.inr ⟨by rfl, rfl⟩) hH ?_
  simp only [Act.put, List.getElem_toArray, List.getElem_cons_zero, List.getElem_cons_succ, List.setIfInBounds_toArray, List.set_cons_zero, List.set_cons_succ]
  refine wpAnyH_take (i := 10) (v := undef) rfl (by kernel_rfl) (by kernel_rfl) (by kernel_rfl) (fun _ _ _ h => h) (Or.inr ⟨by rfl, rfl⟩) hH ?_
  simp only [Act.put, List.getElem_toArray, List.getElem_cons_zero, List.getElem_cons_succ, List.setIfInBounds_toArray, List.set_cons_zero, List.set_cons_succ]
  refine wpAnyH_take (i := 11) (v := undef) rfl (by kernel_rfl) (by kernel_rfl) (by kernel_rfl) (fun _ _ _ h => h) (Or.inr ⟨by rfl, rfl⟩) hH ?_
  simp only [Act.put, List.getElem_toArray, List.getElem_cons_zero, List.getElem_cons_succ, List.setIfInBounds_toArray, List.set_cons_zero, List.set_cons_succ]
  refine wpAnyH_take (i := 12) (v := undef) rfl (by kernel_rfl) (by kernel_rfl) (by kernel_rfl) (fun _ _ _ h => h) (Or.inr ⟨by rfl, rfl⟩) hH ?_
  simp only [Act.put, List.getElem_toArray, List.getElem_cons_zero, List.getElem_cons_succ, List.setIfInBounds_toArray, List.set_cons_zero, List.set_cons_succ]
  refine wpAnyH_take (i := 13) (v := undef) rfl (by kernel_rfl) (by kernel_rfl) (by kernel_rfl) (fun _ _ _ h => h) (Or.inr ⟨by rfl, rfl⟩) hH ?_
  simp only [Act.put, List.getElem_toArray, List.getElem_cons_zero, List.getElem_cons_succ, List.setIfInBounds_toArray, List.set_cons_zero, List.set_cons_succ]
  refine wpAnyH_take (i := 14) (v := ?_) rfl (by kernel_rfl) (by kernel_rfl) (by kernel_rfl) (fun _ _ _ h => h) (Or.inl ⟨by rfl, ?_⟩) hH ?_
  rotate_left
  · ((intro W hW; clear hW; go_simp) <;> with_reducible rfl)
  simp only [Act.put, List.getElem_toArray, List.getElem_cons_zero, List.getElem_cons_succ, List.setIfInBounds_toArray, List.set_cons_zero, List.set_cons_succ]
  refine wpAnyH_done (by kernel_rfl) ?_ _
  go_wp2_with fail
  go_wp2_with fail
  have hT : Cl lo gc w5 _ := ⟨hcl, ocl⟩
  clear hcl
  with_reducible refine (llose _ hT).mono ?_
  rintro e w6 ⟨rfl, hT_, k_, bb⟩
  replace hmb := Kt.blk k_ hmb (by decide)
  replace hsb := Kt.blk k_ hsb (by decide)
  replace kt := kt.trans k_
  replace hO := hO.kt k_
  clear hT
  have hT := hT_
  replace bel := bel.trans bb
  clear bb k_ hT_
  obtain ⟨hcl, _⟩ := hT
  go_wp2_with fail
  go_ret
  exact ⟨rfl, ⟨hcl, ocl⟩, kt, bel⟩
set_option linter.unusedVariables false in
set_option linter.unusedSimpArgs false in
set_option maxRecDepth 100000 in
set_option maxHeartbeats 16000000 in
theorem lnak_5 {lo gc : Nat} {m0 m1 m2 m3 m4 m5 now xid sent wait tries a0 a1 a2 a3 k0 k1 k2 k3 r0 r1 r2 r3 s0 s1 s2 s3 un t1 t2 : Int} {z1 z3 z4 z5 z6 z7 z8 y0 y1 y2 y3 z13 z14 z15 z16 z17 z18 z19 z20 h0 h1 h2 h3 h4 h5 : Int} {A : Option Addr} {n c : Nat} {hs : List Oh} {L : OptL} {e0 e1 e2 e3 : Int} {b : Bool} (w : World) (hT : Cl lo gc w #[.int .u8 m0, .int .u8 m1, .int .u8 m2, .int .u8 m3, .int .u8 m4, .int .u8 m5, .int .i64 now, .int .i64 5, .int .u32 xid, .int .i64 sent, .int .i64 wait, .int .i64 tries, .int .u8 a0, .int .u8 a1, .int .u8 a2, .int .u8 a3, .int .u8 k0, .int .u8 k1, .int .u8 k2, .int .u8 k3, .int .u8 r0, .int .u8 r1, .int .u8 r2, .int .u8 r3, .int .u8 s0, .int .u8 s1, .int .u8 s2, .int .u8 s3, .int .i64 un, .int .i64 t1, .int .i64 t2]) (hO : Opv w A n c hs L) (h54 : I4 (findL L 54) e0 e1 e2 e3 b) : Calls Try.prog 29 #[.pointer (some ⟨gc, 0, none⟩), .agg #[.int .i64 2, .int .i64 z1, .int .u32 xid, .int .i64 z3, .int .i64 z4, .int .u8 z5, .int .u8 z6, .int .u8 z7, .int .u8 z8, .int .u8 y0, .int .u8 y1, .int .u8 y2, .int .u8 y3, .int .u8 z13, .int .u8 z14, .int .u8 z15, .int .u8 z16, .int .u8 z17, .int .u8 z18, .int .u8 z19, .int .u8 z20, .int .u8 h0, .int .u8 h1, .int .u8 h2, .int .u8 h3, .int .u8 h4, .int .u8 h5, .slice A n c]] w fun e w' => e = .returned (.bool true) ∧ Cl lo gc w' #[.int .u8 m0, .int .u8 m1, .int .u8 m2, .int .u8 m3, .int .u8 m4, .int .u8 m5, .int .i64 now, .int .i64 0, .int .u32 xid, .int .i64 sent, .int .i64 wait, .int .i64 tries, .int .u8 0, .int .u8 0, .int .u8 0, .int .u8 0, .int .u8 0, .int .u8 0, .int .u8 0, .int .u8 0, .int .u8 0, .int .u8 0, .int .u8 0, .int .u8 0, .int .u8 0, .int .u8 0, .int .u8 0, .int .u8 0, .int .i64 0, .int .i64 t1, .int .i64 t2] ∧ Kt [51] w w' ∧ Below lo w w' := by
  obtain ⟨hcl, ocl⟩ := hT
  have hlo : lo ≤ w.heap.size := Nat.le_trans ocl (Nat.le_of_lt (hlt hcl))
  have kt := Kt.refl [51] w
  have H54 := Lib.hid h54
  clear h54
  have bel := Below.refl lo w
  go_enter Try.func29, Try.ntmps29
  go_wp2_with (first | ((with_reducible show wpList _ _ _ (⟨some 3, _, _, _, _, _⟩ :: _) _ _); refine wpList_box_n rfl 37 (.tmp 1) rfl #[.int .i64 2, .int .i64 z1, .int .u32 xid, .int .i64 z3, .int .i64 z4, .int .u8 z5, .int .u8 z6, .int .u8 z7, .int .u8 z8, .int .u8 y0, .int .u8 y1, .int .u8 y2, .int .u8 y3, .int .u8 z13, .int .u8 z14, .int .u8 z15, .int .u8 z16, .int .u8 z17, .int .u8 z18, .int .u8 z19, .int .u8 z20, .int .u8 h0, .int .u8 h1, .int .u8 h2, .int .u8 h3, .int .u8 h4, .int .u8 h5, .slice A n c] rfl ?_; intro g3 w1 ge lt hh bb; have d_cl_mb := ne_new (hlt hcl) ge; have omb := Nat.le_trans (Nat.le_trans hlo bel.size) ge; have pmb := Nat.le_trans bel.size ge; have oa_mb := hO.oa ge; replace hcl := blk_u hcl bb; replace kt := kt.trans (kt_below bb); replace hO := hO.below bb; replace bel := bel.trans (bb.mono (Nat.le_trans hlo bel.size)); have hmb := hh; clear hh lt ge bb; have R10 := cell_lit hmb 27 _ rfl))
  try clear R10
  with_reducible refine (oaddr_i (b := b) _ hO H54.out).mono ?_
  rintro e w2 ⟨rfl, b2⟩
  replace hcl := blk_u hcl b2
  replace hmb := blk_u hmb b2
  replace kt := kt.trans (kt_below b2)
  replace hO := hO.below b2
  replace bel := bel.trans (b2.mono (Nat.le_trans hlo bel.size))
  clear b2
  go_wp2_with (first | ((with_reducible show wpList _ _ _ (⟨some 5, _, _, _, _, _⟩ :: _) _ _); refine wpList_new_a rfl 34 rfl #[.int .u8 0, .int .u8 0, .int .u8 0, .int .u8 0] (by kernel_rfl) ?_; intro g5 w3 ge hh bb; have d_cl_sb := ne_new (hlt hcl) ge; have d_mb_sb := ne_new (hlt hmb) ge; have osb := Nat.le_trans (Nat.le_trans hlo bel.size) ge; have psb := Nat.le_trans bel.size ge; have oa_sb := hO.oa ge; replace hcl := blk_u hcl bb; replace hmb := blk_u hmb bb; replace kt := kt.trans (kt_below bb); replace hO := hO.below bb; replace bel := bel.trans (bb.mono (Nat.le_trans hlo bel.size)); have hsb := hh; clear hh ge bb) | ((with_reducible show wpList _ _ _ (⟨none, Op.store _ (.tmp 5) _, _, _, _, _⟩ :: _) _ _); refine wpList_store_blk rfl 34 (.tmp 5) (.tmp 12) rfl g5 rfl _ rfl _ 34 hsb (by rfl) (by kernel_rfl) (by kernel_rfl) ?_; intro w4 hq gr; replace hcl := blk_a hcl gr d_cl_sb; replace hmb := blk_a hmb gr d_mb_sb; replace kt := kt.newer gr psb bel.size; replace hO := hO.away oa_sb gr; replace bel := below_grown bel gr osb (Nat.le_trans hlo bel.size); clear hsb; have hsb := hq; clear hq gr))
  with_reducible refine (lbound_is (b := true) _ (cl_of hcl) (by decide)).mono ?_
  rintro e _ ⟨rfl, rfl⟩
  go_wp2_with fail
  replace bel := bel.drew
  replace hcl : w4.drew.heap[gc]? = _ := hcl
  replace hmb : w4.drew.heap[g3]? = _ := hmb
  replace hsb : w4.drew.heap[g5]? = _ := hsb
  replace kt := kt_drew kt
  replace hO := hO.drew
  refine wp_region_held_drew (S := fun W => W.heap[g5]? = some (.cells #[.int .u8 e0, .int .u8 e1, .int .u8 e2, .int .u8 e3] 34 (0, 0)) ∧ W.heap[gc]? = some (.cells #[.int .u8 m0, .int .u8 m1, .int .u8 m2, .int .u8 m3, .int .u8 m4, .int .u8 m5, .int .i64 now, .int .i64 5, .int .u32 xid, .int .i64 sent, .int .i64 wait, .int .i64 tries, .int .u8 a0, .int .u8 a1, .int .u8 a2, .int .u8 a3, .int .u8 k0, .int .u8 k1, .int .u8 k2, .int .u8 k3, .int .u8 r0, .int .u8 r1, .int .u8 r2, .int .u8 r3, .int .u8 s0, .int .u8 s1, .int .u8 s2, .int .u8 s3, .int .i64 un, .int .i64 t1, .int .i64 t2] 51 (0, 0))) (by kernel_rfl) ⟨hsb, hcl⟩ (fun hH => ?_)
  generalize w4.drew = w5 at bel hcl hmb hsb kt hO hH ⊢
  refine wpAnyH_take (i := 0) (v := ?_) rfl (by kernel_rfl) (by kernel_rfl) (by kernel_rfl) (fun _ _ _ h => h) (Or.inl ⟨by rfl, ?_⟩) hH ?_
  rotate_left
  · ((intro W hW; clear hW; go_simp) <;> with_reducible rfl)
  simp only [Act.put, List.getElem_toArray, List.getElem_cons_zero, List.setIfInBounds_toArray, List.set_cons_zero, List.set_cons_succ]
  refine wpAnyH_take (i := 1) (v := ?_) rfl (by kernel_rfl) (by kernel_rfl) (by kernel_rfl) (fun _ _ _ h => h) (Or.inl ⟨by rfl, ?_⟩) hH ?_
  rotate_left
  · ((intro W hW; clear hW; go_simp) <;> with_reducible rfl)
  simp only [Act.put, List.getElem_toArray, List.getElem_cons_zero, List.getElem_cons_succ, List.setIfInBounds_toArray, List.set_cons_zero, List.set_cons_succ]
  refine wpAnyH_take (i := 2) (v := ?_) rfl (by kernel_rfl) (by kernel_rfl) (by kernel_rfl) (fun _ _ _ h => h) (Or.inl ⟨by rfl, ?_⟩) hH ?_
  rotate_left
  · ((intro W hW; clear hW; go_simp) <;> with_reducible rfl)
  simp only [Act.put, List.getElem_toArray, List.getElem_cons_zero, List.getElem_cons_succ, List.setIfInBounds_toArray, List.set_cons_zero, List.set_cons_succ]
  refine wpAnyH_take (i := 3) (v := undef) rfl (by kernel_rfl) (by kernel_rfl) (by kernel_rfl) (fun _ _ _ h => h) (Or.inr ⟨by rfl, rfl⟩) hH ?_
  simp only [Act.put, List.getElem_toArray, List.getElem_cons_zero, List.getElem_cons_succ, List.setIfInBounds_toArray, List.set_cons_zero, List.set_cons_succ]
  refine wpAnyH_take (i := 4) (v := undef) rfl (by kernel_rfl) (by kernel_rfl) (by kernel_rfl) (fun _ _ _ h => h) (Or.inr ⟨by rfl, rfl⟩) hH ?_
  simp only [Act.put, List.getElem_toArray, List.getElem_cons_zero, List.getElem_cons_succ, List.setIfInBounds_toArray, List.set_cons_zero, List.set_cons_succ]
  refine wpAnyH_take (i := 5) (v := undef) rfl (by kernel_rfl) (by kernel_rfl) (by kernel_rfl) (fun _ _ _ h => h) (Or.inr ⟨by rfl, rfl⟩) hH ?_
  simp only [Act.put, List.getElem_toArray, List.getElem_cons_zero, List.getElem_cons_succ, List.setIfInBounds_toArray, List.set_cons_zero, List.set_cons_succ]
  refine wpAnyH_take (i := 6) (v := undef) rfl (by kernel_rfl) (by kernel_rfl) (by kernel_rfl) (fun _ _ _ h => h) (Or.inr ⟨by rfl, rfl⟩) hH ?_
  simp only [Act.put, List.getElem_toArray, List.getElem_cons_zero, List.getElem_cons_succ, List.setIfInBounds_toArray, List.set_cons_zero, List.set_cons_succ]
  refine wpAnyH_take (i := 7) (v := undef) rfl (by kernel_rfl) (by kernel_rfl) (by kernel_rfl) (fun _ _ _ h => h) (Or.inr ⟨by rfl, rfl⟩) hH ?_
  simp only [Act.put, List.getElem_toArray, List.getElem_cons_zero, List.getElem_cons_succ, List.setIfInBounds_toArray, List.set_cons_zero, List.set_cons_succ]
  refine wpAnyH_take (i := 8) (v := undef) rfl (by kernel_rfl) (by kernel_rfl) (by kernel_rfl) (fun _ _ _ h => h) (Or.inr ⟨by rfl, rfl⟩) hH ?_
  simp only [Act.put, List.getElem_toArray, List.getElem_cons_zero, List.getElem_cons_succ, List.setIfInBounds_toArray, List.set_cons_zero, List.set_cons_succ]
  refine wpAnyH_take (i := 9) (v := undef) rfl (by kernel_rfl) (by kernel_rfl) (by kernel_rfl) (fun _ _ _ h => h) (Or.inr ⟨by rfl, rfl⟩) hH ?_
  simp only [Act.put, List.getElem_toArray, List.getElem_cons_zero, List.getElem_cons_succ, List.setIfInBounds_toArray, List.set_cons_zero, List.set_cons_succ]
  refine wpAnyH_take (i := 10) (v := undef) rfl (by kernel_rfl) (by kernel_rfl) (by kernel_rfl) (fun _ _ _ h => h) (Or.inr ⟨by rfl, rfl⟩) hH ?_
  simp only [Act.put, List.getElem_toArray, List.getElem_cons_zero, List.getElem_cons_succ, List.setIfInBounds_toArray, List.set_cons_zero, List.set_cons_succ]
  refine wpAnyH_take (i := 11) (v := undef) rfl (by kernel_rfl) (by kernel_rfl) (by kernel_rfl) (fun _ _ _ h => h) (Or.inr ⟨by rfl, rfl⟩) hH ?_
  simp only [Act.put, List.getElem_toArray, List.getElem_cons_zero, List.getElem_cons_succ, List.setIfInBounds_toArray, List.set_cons_zero, List.set_cons_succ]
  refine wpAnyH_take (i := 12) (v := undef) rfl (by kernel_rfl) (by kernel_rfl) (by kernel_rfl) (fun _ _ _ h => h) (Or.inr ⟨by rfl, rfl⟩) hH ?_
  simp only [Act.put, List.getElem_toArray, List.getElem_cons_zero, List.getElem_cons_succ, List.setIfInBounds_toArray, List.set_cons_zero, List.set_cons_succ]
  refine wpAnyH_take (i := 13) (v := undef) rfl (by kernel_rfl) (by kernel_rfl) (by kernel_rfl) (fun _ _ _ h => h) (Or.inr ⟨by rfl, rfl⟩) hH ?_
  simp only [Act.put, List.getElem_toArray, List.getElem_cons_zero, List.getElem_cons_succ, List.setIfInBounds_toArray, List.set_cons_zero, List.set_cons_succ]
  refine wpAnyH_take (i := 14) (v := ?_) rfl (by kernel_rfl) (by kernel_rfl) (by kernel_rfl) (fun _ _ _ h => h) (Or.inl ⟨by rfl, ?_⟩) hH ?_
  rotate_left
  · ((intro W hW; clear hW; go_simp) <;> with_reducible rfl)
  simp only [Act.put, List.getElem_toArray, List.getElem_cons_zero, List.getElem_cons_succ, List.setIfInBounds_toArray, List.set_cons_zero, List.set_cons_succ]
  refine wpAnyH_done (by kernel_rfl) ?_ _
  go_wp2_with fail
  go_wp2_with fail
  have hT : Cl lo gc w5 _ := ⟨hcl, ocl⟩
  clear hcl
  with_reducible refine (llose _ hT).mono ?_
  rintro e w6 ⟨rfl, hT_, k_, bb⟩
  replace hmb := Kt.blk k_ hmb (by decide)
  replace hsb := Kt.blk k_ hsb (by decide)
  replace kt := kt.trans k_
  replace hO := hO.kt k_
  clear hT
  have hT := hT_
  replace bel := bel.trans bb
  clear bb k_ hT_
  obtain ⟨hcl, _⟩ := hT
  go_wp2_with fail
  go_ret
  exact ⟨rfl, ⟨hcl, ocl⟩, kt, bel⟩
set_option linter.unusedVariables false in
set_option linter.unusedSimpArgs false in
set_option maxRecDepth 100000 in
set_option maxHeartbeats 16000000 in
theorem lbind_2 {lo gc : Nat} {m0 m1 m2 m3 m4 m5 now xid sent wait tries a0 a1 a2 a3 k0 k1 k2 k3 r0 r1 r2 r3 s0 s1 s2 s3 un t1 t2 : Int} {z1 z3 z4 z5 z6 z7 z8 y0 y1 y2 y3 z13 z14 z15 z16 z17 z18 z19 z20 h0 h1 h2 h3 h4 h5 : Int} {A : Option Addr} {n c : Nat} {hs : List Oh} {L : OptL} {e0 e1 e2 e3 : Int} {f0 f1 f2 f3 u0 u1 u2 u3 sc nu n1 n2 : Int} {bm : Bool} (w : World) (hT : Cl lo gc w #[.int .u8 m0, .int .u8 m1, .int .u8 m2, .int .u8 m3, .int .u8 m4, .int .u8 m5, .int .i64 now, .int .i64 2, .int .u32 xid, .int .i64 sent, .int .i64 wait, .int .i64 tries, .int .u8 a0, .int .u8 a1, .int .u8 a2, .int .u8 a3, .int .u8 k0, .int .u8 k1, .int .u8 k2, .int .u8 k3, .int .u8 r0, .int .u8 r1, .int .u8 r2, .int .u8 r3, .int .u8 s0, .int .u8 s1, .int .u8 s2, .int .u8 s3, .int .i64 un, .int .i64 t1, .int .i64 t2]) (hO : Opv w A n c hs L) (h54 : I4 (findL L 54) e0 e1 e2 e3 true) (hy : ∀ W, (binOp .eql 34 (.agg #[.int .u8 y0, .int .u8 y1, .int .u8 y2, .int .u8 y3]) (.agg #[.int .u8 0, .int .u8 0, .int .u8 0, .int .u8 0])).run Try.prog W = .ok (.bool false) W) (hse : ∀ W, (binOp .eql 34 (.agg #[.int .u8 e0, .int .u8 e1, .int .u8 e2, .int .u8 e3]) (.agg #[.int .u8 s0, .int .u8 s1, .int .u8 s2, .int .u8 s3])).run Try.prog W = .ok (.bool true) W) (hsc : I1 (findL L 51) sc true) (hs0 : 60 ≤ sc) (hs1 : sc ≤ 1000000000) (hm : I4 (findL L 1) f0 f1 f2 f3 bm) (hr : I4 (findL L 3) u0 u1 u2 u3 true) (hnu : IntKind.i64.wrap (now + sc) = nu) (hn1 : IntKind.i64.wrap (now + sc / 2) = n1) (hn2 : IntKind.i64.wrap (now + sc * 7 / 8) = n2) : Calls Try.prog 30 #[.pointer (some ⟨gc, 0, none⟩), .agg #[.int .i64 2, .int .i64 z1, .int .u32 xid, .int .i64 z3, .int .i64 z4, .int .u8 z5, .int .u8 z6, .int .u8 z7, .int .u8 z8, .int .u8 y0, .int .u8 y1, .int .u8 y2, .int .u8 y3, .int .u8 z13, .int .u8 z14, .int .u8 z15, .int .u8 z16, .int .u8 z17, .int .u8 z18, .int .u8 z19, .int .u8 z20, .int .u8 h0, .int .u8 h1, .int .u8 h2, .int .u8 h3, .int .u8 h4, .int .u8 h5, .slice A n c]] w fun e w' => e = .returned (.bool true) ∧ Cl lo gc w' #[.int .u8 m0, .int .u8 m1, .int .u8 m2, .int .u8 m3, .int .u8 m4, .int .u8 m5, .int .i64 now, .int .i64 3, .int .u32 xid, .int .i64 sent, .int .i64 wait, .int .i64 tries, .int .u8 y0, .int .u8 y1, .int .u8 y2, .int .u8 y3, .int .u8 f0, .int .u8 f1, .int .u8 f2, .int .u8 f3, .int .u8 u0, .int .u8 u1, .int .u8 u2, .int .u8 u3, .int .u8 e0, .int .u8 e1, .int .u8 e2, .int .u8 e3, .int .i64 nu, .int .i64 n1, .int .i64 n2] ∧ Kt [51] w w' ∧ Below lo w w' := by
  obtain ⟨hcl, ocl⟩ := hT
  have hlo : lo ≤ w.heap.size := Nat.le_trans ocl (Nat.le_of_lt (hlt hcl))
  have kt := Kt.refl [51] w
  have H54 := Lib.hid h54
  clear h54
  have HSC := Lib.hid hsc
  clear hsc
  have HM := Lib.hid hm
  clear hm
  have HR := Lib.hid hr
  clear hr
  have HMN : Hid ((if (1000000000 : Int) < sc then 1000000000 else sc) = sc) := Lib.hid (if_neg (by omega))
  have hlt60 : decide (sc < 60) = false := decide_eq_false (by omega)
  have hws : IntKind.i64.wrap sc = sc := IntWalk.i64_in _ (by omega)
  have hw7 : IntKind.i64.wrap (sc * 7) = sc * 7 := IntWalk.i64_in _ (by omega)
  have hq2 : Int.tdiv sc 2 = sc / 2 := Int.tdiv_eq_ediv_of_nonneg (by omega)
  have hq8 : Int.tdiv (sc * 7) 8 = sc * 7 / 8 := Int.tdiv_eq_ediv_of_nonneg (by omega)
  have hwh : IntKind.i64.wrap (sc / 2) = sc / 2 := IntWalk.i64_in _ (by omega)
  have hwe : IntKind.i64.wrap (sc * 7 / 8) = sc * 7 / 8 := IntWalk.i64_in _ (by omega)
  have HS0 := Lib.hid hs0
  have HS1 := Lib.hid hs1
  have s0_ : 0 ≤ sc := by omega
  clear hs0 hs1
  have bel := Below.refl lo w
  go_enter Try.func30, Try.ntmps30
  go_wp2_with (first | ((with_reducible show wpList _ _ _ (⟨some 3, _, _, _, _, _⟩ :: _) _ _); refine wpList_box_n rfl 37 (.tmp 1) rfl #[.int .i64 2, .int .i64 z1, .int .u32 xid, .int .i64 z3, .int .i64 z4, .int .u8 z5, .int .u8 z6, .int .u8 z7, .int .u8 z8, .int .u8 y0, .int .u8 y1, .int .u8 y2, .int .u8 y3, .int .u8 z13, .int .u8 z14, .int .u8 z15, .int .u8 z16, .int .u8 z17, .int .u8 z18, .int .u8 z19, .int .u8 z20, .int .u8 h0, .int .u8 h1, .int .u8 h2, .int .u8 h3, .int .u8 h4, .int .u8 h5, .slice A n c] rfl ?_; intro g3 w1 ge lt hh bb; have d_cl_mb := ne_new (hlt hcl) ge; have omb := Nat.le_trans (Nat.le_trans hlo bel.size) ge; have pmb := Nat.le_trans bel.size ge; have oa_mb := hO.oa ge; replace hcl := blk_u hcl bb; replace kt := kt.trans (kt_below bb); replace hO := hO.below bb; replace bel := bel.trans (bb.mono (Nat.le_trans hlo bel.size)); have hmb := hh; clear hh lt ge bb; have R16 := cell_lit hmb 27 _ rfl))
  try clear R16
  with_reducible refine (oaddr_i (b := true) _ hO H54.out).mono ?_
  rintro e w2 ⟨rfl, b2⟩
  replace hcl := blk_u hcl b2
  replace hmb := blk_u hmb b2
  replace kt := kt.trans (kt_below b2)
  replace hO := hO.below b2
  replace bel := bel.trans (b2.mono (Nat.le_trans hlo bel.size))
  clear b2
  go_wp2_with (first | ((with_reducible show wpList _ _ _ (⟨some 5, _, _, _, _, _⟩ :: _) _ _); refine wpList_new_a rfl 34 rfl #[.int .u8 0, .int .u8 0, .int .u8 0, .int .u8 0] (by kernel_rfl) ?_; intro g5 w3 ge hh bb; have d_cl_sb := ne_new (hlt hcl) ge; have d_mb_sb := ne_new (hlt hmb) ge; have osb := Nat.le_trans (Nat.le_trans hlo bel.size) ge; have psb := Nat.le_trans bel.size ge; have oa_sb := hO.oa ge; replace hcl := blk_u hcl bb; replace hmb := blk_u hmb bb; replace kt := kt.trans (kt_below bb); replace hO := hO.below bb; replace bel := bel.trans (bb.mono (Nat.le_trans hlo bel.size)); have hsb := hh; clear hh ge bb) | ((with_reducible show wpList _ _ _ (⟨none, Op.store _ (.tmp 5) _, _, _, _, _⟩ :: _) _ _); refine wpList_store_blk rfl 34 (.tmp 5) (.tmp 18) rfl g5 rfl _ rfl _ 34 hsb (by rfl) (by kernel_rfl) (by kernel_rfl) ?_; intro w4 hq gr; replace hcl := blk_a hcl gr d_cl_sb; replace hmb := blk_a hmb gr d_mb_sb; replace kt := kt.newer gr psb bel.size; replace hO := hO.away oa_sb gr; replace bel := below_grown bel gr osb (Nat.le_trans hlo bel.size); clear hsb; have hsb := hq; clear hq gr))
  replace bel := bel.drew
  replace hcl : w4.drew.heap[gc]? = _ := hcl
  replace hmb : w4.drew.heap[g3]? = _ := hmb
  replace hsb : w4.drew.heap[g5]? = _ := hsb
  replace kt := kt_drew kt
  replace hO := hO.drew
  refine wp_region_held_drew (S := fun W => W.heap[gc]? = some (.cells #[.int .u8 m0, .int .u8 m1, .int .u8 m2, .int .u8 m3, .int .u8 m4, .int .u8 m5, .int .i64 now, .int .i64 2, .int .u32 xid, .int .i64 sent, .int .i64 wait, .int .i64 tries, .int .u8 a0, .int .u8 a1, .int .u8 a2, .int .u8 a3, .int .u8 k0, .int .u8 k1, .int .u8 k2, .int .u8 k3, .int .u8 r0, .int .u8 r1, .int .u8 r2, .int .u8 r3, .int .u8 s0, .int .u8 s1, .int .u8 s2, .int .u8 s3, .int .i64 un, .int .i64 t1, .int .i64 t2] 51 (0, 0)) ∧ W.heap[g5]? = some (.cells #[.int .u8 e0, .int .u8 e1, .int .u8 e2, .int .u8 e3] 34 (0, 0))) (by kernel_rfl) ⟨hcl, hsb⟩ (fun hH => ?_)
  generalize w4.drew = w5 at bel hcl hmb hsb kt hO hH ⊢
  refine wpAnyH_take (i := 0) (v := ?_) rfl (by kernel_rfl) (by kernel_rfl) (by kernel_rfl) (fun _ _ _ h => h) (Or.inl ⟨by rfl, ?_⟩) hH ?_
  rotate_left
  · ((intro W hW; clear hW; go_simp) <;> with_reducible rfl)
  simp only [Act.put, List.getElem_toArray, List.getElem_cons_zero, List.setIfInBounds_toArray, List.set_cons_zero, List.set_cons_succ]
  refine wpAnyH_take (i := 1) (v := ?_) rfl (by kernel_rfl) (by kernel_rfl) (by kernel_rfl) (fun _ _ _ h => h) (Or.inl ⟨by rfl, ?_⟩) hH ?_
  rotate_left
  · ((intro W hW; clear hW; go_simp) <;> with_reducible rfl)
  simp only [Act.put, List.getElem_toArray, List.getElem_cons_zero, List.getElem_cons_succ, List.setIfInBounds_toArray, List.set_cons_zero, List.set_cons_succ]
  refine wpAnyH_take (i := 2) (v := ?_) rfl (by kernel_rfl) (by kernel_rfl) (by kernel_rfl) (fun _ _ _ h => h) (Or.inl ⟨by rfl, ?_⟩) hH ?_
  rotate_left
  · ((intro W hW; clear hW; go_simp) <;> with_reducible rfl)
  simp only [Act.put, List.getElem_toArray, List.getElem_cons_zero, List.getElem_cons_succ, List.setIfInBounds_toArray, List.set_cons_zero, List.set_cons_succ]
  refine wpAnyH_take (i := 3) (v := ?_) rfl (by kernel_rfl) (by kernel_rfl) (by kernel_rfl) (fun _ _ _ h => h) (Or.inl ⟨by rfl, ?_⟩) hH ?_
  rotate_left
  · ((intro W hW; have hk := cell_lit (hW.1) 7 _ rfl; clear hW; go_simp) <;> with_reducible rfl)
  simp only [Act.put, List.getElem_toArray, List.getElem_cons_zero, List.getElem_cons_succ, List.setIfInBounds_toArray, List.set_cons_zero, List.set_cons_succ]
  refine wpAnyH_take (i := 4) (v := ?_) rfl (by kernel_rfl) (by kernel_rfl) (by kernel_rfl) (fun _ _ _ h => h) (Or.inl ⟨by rfl, ?_⟩) hH ?_
  rotate_left
  · ((intro W hW; clear hW; go_simp) <;> with_reducible rfl)
  simp only [Act.put, List.getElem_toArray, List.getElem_cons_zero, List.getElem_cons_succ, List.setIfInBounds_toArray, List.set_cons_zero, List.set_cons_succ]
  refine wpAnyH_take (i := 5) (v := ?_) rfl (by kernel_rfl) (by kernel_rfl) (by kernel_rfl) (fun _ _ _ h => h) (Or.inl ⟨by rfl, ?_⟩) hH ?_
  rotate_left
  · ((intro W hW; clear hW; go_simp) <;> with_reducible rfl)
  simp only [Act.put, List.getElem_toArray, List.getElem_cons_zero, List.getElem_cons_succ, List.setIfInBounds_toArray, List.set_cons_zero, List.set_cons_succ]
  refine wpAnyH_take (i := 6) (v := .agg #[.int .u8 e0, .int .u8 e1, .int .u8 e2, .int .u8 e3]) rfl (by kernel_rfl) (by kernel_rfl) (by kernel_rfl) (fun _ _ _ h => h) (yieldsIf_load_part (by kernel_rfl) 34 _ rfl g5 0 4 rfl _ 34 (0, 0) (fun W hW => hW.2) _ rfl _ Try.underlying34 rfl (by kernel_rfl)) hH ?_
  simp only [Act.put, List.getElem_toArray, List.getElem_cons_zero, List.getElem_cons_succ, List.setIfInBounds_toArray, List.set_cons_zero, List.set_cons_succ]
  refine wpAnyH_take (i := 7) (v := ?_) rfl (by kernel_rfl) (by kernel_rfl) (by kernel_rfl) (fun _ _ _ h => h) (Or.inl ⟨by rfl, ?_⟩) hH ?_
  rotate_left
  · ((intro W hW; clear hW; go_simp) <;> with_reducible rfl)
  simp only [Act.put, List.getElem_toArray, List.getElem_cons_zero, List.getElem_cons_succ, List.setIfInBounds_toArray, List.set_cons_zero, List.set_cons_succ]
  refine wpAnyH_take (i := 8) (v := ?_) rfl (by kernel_rfl) (by kernel_rfl) (by kernel_rfl) (fun _ _ _ h => h) (Or.inl ⟨by rfl, ?_⟩) hH ?_
  rotate_left
  · ((intro W hW; clear hW; go_simp) <;> with_reducible rfl)
  simp only [Act.put, List.getElem_toArray, List.getElem_cons_zero, List.getElem_cons_succ, List.setIfInBounds_toArray, List.set_cons_zero, List.set_cons_succ]
  refine wpAnyH_take (i := 9) (v := ?_) rfl (by kernel_rfl) (by kernel_rfl) (by kernel_rfl) (fun _ _ _ h => h) (Or.inl ⟨by rfl, ?_⟩) hH ?_
  rotate_left
  · ((intro W hW; clear hW; go_simp) <;> with_reducible rfl)
  simp only [Act.put, List.getElem_toArray, List.getElem_cons_zero, List.getElem_cons_succ, List.setIfInBounds_toArray, List.set_cons_zero, List.set_cons_succ]
  refine wpAnyH_take (i := 10) (v := ?_) rfl (by kernel_rfl) (by kernel_rfl) (by kernel_rfl) (fun _ _ _ h => h) (Or.inl ⟨by rfl, ?_⟩) hH ?_
  rotate_left
  · ((intro W hW; clear hW; go_simp) <;> with_reducible rfl)
  simp only [Act.put, List.getElem_toArray, List.getElem_cons_zero, List.getElem_cons_succ, List.setIfInBounds_toArray, List.set_cons_zero, List.set_cons_succ]
  refine wpAnyH_take (i := 11) (v := .agg #[.int .u8 s0, .int .u8 s1, .int .u8 s2, .int .u8 s3]) rfl (by kernel_rfl) (by kernel_rfl) (by kernel_rfl) (fun _ _ _ h => h) (yieldsIf_load_part (by kernel_rfl) 34 _ rfl gc 24 4 rfl _ 51 (0, 0) (fun W hW => hW.1) _ rfl _ Try.underlying34 rfl (by kernel_rfl)) hH ?_
  simp only [Act.put, List.getElem_toArray, List.getElem_cons_zero, List.getElem_cons_succ, List.setIfInBounds_toArray, List.set_cons_zero, List.set_cons_succ]
  refine wpAnyH_take (i := 12) (v := ?_) rfl (by kernel_rfl) (by kernel_rfl) (by kernel_rfl) (fun _ _ _ h => h) (Or.inl ⟨by rfl, ?_⟩) hH ?_
  rotate_left
  · ((intro W hW; clear hW; go_simp) <;> with_reducible rfl)
  simp only [Act.put, List.getElem_toArray, List.getElem_cons_zero, List.getElem_cons_succ, List.setIfInBounds_toArray, List.set_cons_zero, List.set_cons_succ]
  refine wpAnyH_take (i := 13) (v := ?_) rfl (by kernel_rfl) (by kernel_rfl) (by kernel_rfl) (fun _ _ _ h => h) (Or.inl ⟨by rfl, ?_⟩) hH ?_
  rotate_left
  · ((intro W hW; clear hW; go_simp) <;> with_reducible rfl)
  simp only [Act.put, List.getElem_toArray, List.getElem_cons_zero, List.getElem_cons_succ, List.setIfInBounds_toArray, List.set_cons_zero, List.set_cons_succ]
  refine wpAnyH_take (i := 14) (v := ?_) rfl (by kernel_rfl) (by kernel_rfl) (by kernel_rfl) (fun _ _ _ h => h) (Or.inl ⟨by rfl, ?_⟩) hH ?_
  rotate_left
  · ((intro W hW; clear hW; go_simp) <;> with_reducible rfl)
  simp only [Act.put, List.getElem_toArray, List.getElem_cons_zero, List.getElem_cons_succ, List.setIfInBounds_toArray, List.set_cons_zero, List.set_cons_succ]
  refine wpAnyH_done (by kernel_rfl) ?_ _
  have R36 := cell_lit hmb 27 _ rfl
  go_wp2_with fail
  clear R36
  with_reducible refine (osecs_i _ hO HSC.out).mono ?_
  rintro e w6 ⟨rfl, b6⟩
  replace hcl := blk_u hcl b6
  replace hmb := blk_u hmb b6
  replace hsb := blk_u hsb b6
  replace kt := kt.trans (kt_below b6)
  replace hO := hO.below b6
  replace bel := bel.trans (b6.mono (Nat.le_trans hlo bel.size))
  clear b6
  have R52 := Lib.hid (range_lit hmb 9 4 [.int .u8 y0, .int .u8 y1, .int .u8 y2, .int .u8 y3] rfl)
  go_wp2_with (first | ((with_reducible show wpList _ _ _ (⟨some 52, _, _, _, _, _⟩ :: _) _ _); refine wpList_load_rng 34 (.tmp 51) rfl (by kernel_rfl) _ _ rfl _ R52.out _ Try.underlying34 rfl (by kernel_rfl) ?_))
  try clear R52
  with_reducible refine (lnone (b := false) _ hy).mono ?_
  rintro e w7 ⟨rfl, b7⟩
  replace hcl := blk_u hcl b7
  replace hmb := blk_u hmb b7
  replace hsb := blk_u hsb b7
  replace kt := kt.trans (kt_below b7)
  replace hO := hO.below b7
  replace bel := bel.trans (b7.mono (Nat.le_trans hlo bel.size))
  clear b7
  go_wp2_with fail
  replace bel := bel.drew
  replace hcl : w7.drew.heap[gc]? = _ := hcl
  replace hmb : w7.drew.heap[g3]? = _ := hmb
  replace hsb : w7.drew.heap[g5]? = _ := hsb
  replace kt := kt_drew kt
  replace hO := hO.drew
  refine wp_region_held_drew (S := fun W => W.heap[g3]? = some (.cells #[.int .i64 2, .int .i64 z1, .int .u32 xid, .int .i64 z3, .int .i64 z4, .int .u8 z5, .int .u8 z6, .int .u8 z7, .int .u8 z8, .int .u8 y0, .int .u8 y1, .int .u8 y2, .int .u8 y3, .int .u8 z13, .int .u8 z14, .int .u8 z15, .int .u8 z16, .int .u8 z17, .int .u8 z18, .int .u8 z19, .int .u8 z20, .int .u8 h0, .int .u8 h1, .int .u8 h2, .int .u8 h3, .int .u8 h4, .int .u8 h5, .slice A n c] 37 (0, 0)) ∧ W.heap[gc]? = some (.cells #[.int .u8 m0, .int .u8 m1, .int .u8 m2, .int .u8 m3, .int .u8 m4, .int .u8 m5, .int .i64 now, .int .i64 2, .int .u32 xid, .int .i64 sent, .int .i64 wait, .int .i64 tries, .int .u8 a0, .int .u8 a1, .int .u8 a2, .int .u8 a3, .int .u8 k0, .int .u8 k1, .int .u8 k2, .int .u8 k3, .int .u8 r0, .int .u8 r1, .int .u8 r2, .int .u8 r3, .int .u8 s0, .int .u8 s1, .int .u8 s2, .int .u8 s3, .int .i64 un, .int .i64 t1, .int .i64 t2] 51 (0, 0))) (by kernel_rfl) ⟨hmb, hcl⟩ (fun hH => ?_)
  generalize w7.drew = w8 at bel hcl hmb hsb kt hO hH ⊢
  refine wpAnyH_take (i := 0) (v := ?_) rfl (by kernel_rfl) (by kernel_rfl) (by kernel_rfl) (fun _ _ _ h => h) (Or.inl ⟨by rfl, ?_⟩) hH ?_
  rotate_left
  · ((intro W hW; clear hW; go_simp) <;> with_reducible rfl)
  simp only [Act.put, List.getElem_toArray, List.getElem_cons_zero, List.setIfInBounds_toArray, List.set_cons_zero, List.set_cons_succ]
  refine wpAnyH_ready (rs := [1]) (by kernel_rfl) (by simp) ?_
  refine AllReadyH.cons (o := _) rfl (fun K hK => ?_) AllReadyH.nil
  simp only [List.getElem_toArray, List.getElem_cons_zero, List.getElem_cons_succ]
  go_simp
  with_reducible refine (lbound_is (b := false) _ (cl_of hcl) (by decide)).mono ?_
  rintro e _ ⟨rfl, rfl⟩
  dsimp only
  refine hK.out _ _ ⟨hmb, hcl⟩ (fun hH9 => ?_)
  clear hK K
  refine wpAnyH_take (i := 2) (v := ?_) rfl (by kernel_rfl) (by kernel_rfl) (by kernel_rfl) (fun _ _ _ h => h) (Or.inl ⟨by rfl, ?_⟩) hH9 ?_
  rotate_left
  · ((intro W hW; clear hW; go_simp) <;> with_reducible rfl)
  simp only [Act.put, List.getElem_toArray, List.getElem_cons_zero, List.getElem_cons_succ, List.setIfInBounds_toArray, List.set_cons_zero, List.set_cons_succ]
  refine wpAnyH_take (i := 3) (v := ?_) rfl (by kernel_rfl) (by kernel_rfl) (by kernel_rfl) (fun _ _ _ h => h) (Or.inl ⟨by rfl, ?_⟩) hH9 ?_
  rotate_left
  · ((intro W hW; clear hW; go_simp) <;> with_reducible rfl)
  simp only [Act.put, List.getElem_toArray, List.getElem_cons_zero, List.getElem_cons_succ, List.setIfInBounds_toArray, List.set_cons_zero, List.set_cons_succ]
  refine wpAnyH_take (i := 4) (v := undef) rfl (by kernel_rfl) (by kernel_rfl) (by kernel_rfl) (fun _ _ _ h => h) (Or.inr ⟨by rfl, rfl⟩) hH9 ?_
  simp only [Act.put, List.getElem_toArray, List.getElem_cons_zero, List.getElem_cons_succ, List.setIfInBounds_toArray, List.set_cons_zero, List.set_cons_succ]
  refine wpAnyH_take (i := 5) (v := undef) rfl (by kernel_rfl) (by kernel_rfl) (by kernel_rfl) (fun _ _ _ h => h) (Or.inr ⟨by rfl, rfl⟩) hH9 ?_
  simp only [Act.put, List.getElem_toArray, List.getElem_cons_zero, List.getElem_cons_succ, List.setIfInBounds_toArray, List.set_cons_zero, List.set_cons_succ]
  refine wpAnyH_take (i := 6) (v := undef) rfl (by kernel_rfl) (by kernel_rfl) (by kernel_rfl) (fun _ _ _ h => h) (Or.inr ⟨by rfl, rfl⟩) hH9 ?_
  simp only [Act.put, List.getElem_toArray, List.getElem_cons_zero, List.getElem_cons_succ, List.setIfInBounds_toArray, List.set_cons_zero, List.set_cons_succ]
  refine wpAnyH_take (i := 7) (v := undef) rfl (by kernel_rfl) (by kernel_rfl) (by kernel_rfl) (fun _ _ _ h => h) (Or.inr ⟨by rfl, rfl⟩) hH9 ?_
  simp only [Act.put, List.getElem_toArray, List.getElem_cons_zero, List.getElem_cons_succ, List.setIfInBounds_toArray, List.set_cons_zero, List.set_cons_succ]
  refine wpAnyH_take (i := 8) (v := undef) rfl (by kernel_rfl) (by kernel_rfl) (by kernel_rfl) (fun _ _ _ h => h) (Or.inr ⟨by rfl, rfl⟩) hH9 ?_
  simp only [Act.put, List.getElem_toArray, List.getElem_cons_zero, List.getElem_cons_succ, List.setIfInBounds_toArray, List.set_cons_zero, List.set_cons_succ]
  refine wpAnyH_take (i := 9) (v := undef) rfl (by kernel_rfl) (by kernel_rfl) (by kernel_rfl) (fun _ _ _ h => h) (Or.inr ⟨by rfl, rfl⟩) hH9 ?_
  simp only [Act.put, List.getElem_toArray, List.getElem_cons_zero, List.getElem_cons_succ, List.setIfInBounds_toArray, List.set_cons_zero, List.set_cons_succ]
  refine wpAnyH_take (i := 10) (v := undef) rfl (by kernel_rfl) (by kernel_rfl) (by kernel_rfl) (fun _ _ _ h => h) (Or.inr ⟨by rfl, rfl⟩) hH9 ?_
  simp only [Act.put, List.getElem_toArray, List.getElem_cons_zero, List.getElem_cons_succ, List.setIfInBounds_toArray, List.set_cons_zero, List.set_cons_succ]
  refine wpAnyH_take (i := 11) (v := undef) rfl (by kernel_rfl) (by kernel_rfl) (by kernel_rfl) (fun _ _ _ h => h) (Or.inr ⟨by rfl, rfl⟩) hH9 ?_
  simp only [Act.put, List.getElem_toArray, List.getElem_cons_zero, List.getElem_cons_succ, List.setIfInBounds_toArray, List.set_cons_zero, List.set_cons_succ]
  refine wpAnyH_take (i := 12) (v := ?_) rfl (by kernel_rfl) (by kernel_rfl) (by kernel_rfl) (fun _ _ _ h => h) (Or.inl ⟨by rfl, ?_⟩) hH9 ?_
  rotate_left
  · ((intro W hW; clear hW; go_simp) <;> with_reducible rfl)
  simp only [Act.put, List.getElem_toArray, List.getElem_cons_zero, List.getElem_cons_succ, List.setIfInBounds_toArray, List.set_cons_zero, List.set_cons_succ]
  refine wpAnyH_take (i := 13) (v := ?_) rfl (by kernel_rfl) (by kernel_rfl) (by kernel_rfl) (fun _ _ _ h => h) (Or.inl ⟨by rfl, ?_⟩) hH9 ?_
  rotate_left
  · ((intro W hW; clear hW; go_simp) <;> with_reducible rfl)
  simp only [Act.put, List.getElem_toArray, List.getElem_cons_zero, List.getElem_cons_succ, List.setIfInBounds_toArray, List.set_cons_zero, List.set_cons_succ]
  refine wpAnyH_done (by kernel_rfl) ?_ _
  have R70 := cell_lit hmb 27 _ rfl
  go_wp2_with fail
  clear R70
  with_reducible refine (oaddr_i (b := bm) _ hO HM.out).mono ?_
  rintro e w10 ⟨rfl, b10⟩
  replace hcl := blk_u hcl b10
  replace hmb := blk_u hmb b10
  replace hsb := blk_u hsb b10
  replace kt := kt.trans (kt_below b10)
  replace hO := hO.below b10
  replace bel := bel.trans (b10.mono (Nat.le_trans hlo bel.size))
  clear b10
  go_wp2_with (first | ((with_reducible show wpList _ _ _ (⟨some 11, _, _, _, _, _⟩ :: _) _ _); refine wpList_new_a rfl 34 rfl #[.int .u8 0, .int .u8 0, .int .u8 0, .int .u8 0] (by kernel_rfl) ?_; intro g11 w11 ge hh bb; have d_cl_kb := ne_new (hlt hcl) ge; have d_mb_kb := ne_new (hlt hmb) ge; have d_sb_kb := ne_new (hlt hsb) ge; have okb := Nat.le_trans (Nat.le_trans hlo bel.size) ge; have pkb := Nat.le_trans bel.size ge; have oa_kb := hO.oa ge; replace hcl := blk_u hcl bb; replace hmb := blk_u hmb bb; replace hsb := blk_u hsb bb; replace kt := kt.trans (kt_below bb); replace hO := hO.below bb; replace bel := bel.trans (bb.mono (Nat.le_trans hlo bel.size)); have hkb := hh; clear hh ge bb) | ((with_reducible show wpList _ _ _ (⟨none, Op.store _ (.tmp 11) _, _, _, _, _⟩ :: _) _ _); refine wpList_store_blk rfl 34 (.tmp 11) (.tmp 72) rfl g11 rfl _ rfl _ 34 hkb (by rfl) (by kernel_rfl) (by kernel_rfl) ?_; intro w12 hq gr; replace hcl := blk_a hcl gr d_cl_kb; replace hmb := blk_a hmb gr d_mb_kb; replace hsb := blk_a hsb gr d_sb_kb; replace kt := kt.newer gr pkb bel.size; replace hO := hO.away oa_kb gr; replace bel := below_grown bel gr okb (Nat.le_trans hlo bel.size); clear hkb; have hkb := hq; clear hq gr) | ((with_reducible show wpList _ _ _ (⟨some 76, _, _, _, _, _⟩ :: _) _ _); refine wpList_min rfl (.tmp 75) (.const (.int .i64 1000000000)) 2 2 rfl .i64 sc 1000000000 sc rfl rfl HMN.out ?_) | ((with_reducible show wpList _ _ _ (⟨none, Op.store _ (.tmp 79) _, _, _, _, _⟩ :: _) _ _); refine wpList_store_part rfl 3 (.tmp 79) (.const (.int .i64 3)) rfl gc 7 rfl [.int .i64 3] rfl [.int .u8 m0, .int .u8 m1, .int .u8 m2, .int .u8 m3, .int .u8 m4, .int .u8 m5, .int .i64 now, .int .i64 2, .int .u32 xid, .int .i64 sent, .int .i64 wait, .int .i64 tries, .int .u8 a0, .int .u8 a1, .int .u8 a2, .int .u8 a3, .int .u8 k0, .int .u8 k1, .int .u8 k2, .int .u8 k3, .int .u8 r0, .int .u8 r1, .int .u8 r2, .int .u8 r3, .int .u8 s0, .int .u8 s1, .int .u8 s2, .int .u8 s3, .int .i64 un, .int .i64 t1, .int .i64 t2] 51 hcl (by simp) [.int .u8 m0, .int .u8 m1, .int .u8 m2, .int .u8 m3, .int .u8 m4, .int .u8 m5, .int .i64 now, .int .i64 3, .int .u32 xid, .int .i64 sent, .int .i64 wait, .int .i64 tries, .int .u8 a0, .int .u8 a1, .int .u8 a2, .int .u8 a3, .int .u8 k0, .int .u8 k1, .int .u8 k2, .int .u8 k3, .int .u8 r0, .int .u8 r1, .int .u8 r2, .int .u8 r3, .int .u8 s0, .int .u8 s1, .int .u8 s2, .int .u8 s3, .int .i64 un, .int .i64 t1, .int .i64 t2] rfl (by kernel_rfl) (by rfl) ?_; intro w13 hq gr; replace hmb := blk_a hmb gr (ne_symm d_cl_mb); replace hsb := blk_a hsb gr (ne_symm d_cl_sb); replace hkb := blk_a hkb gr (ne_symm d_cl_kb); replace kt := kt.trans (kt_grown gr hcl (by simp)); replace hO := hO.kt (kt_grown gr hcl (by simp)); replace bel := below_grown bel gr ocl (Nat.le_trans hlo bel.size); clear hcl; have hcl := hq; clear hq gr))
  replace bel := bel.drew
  replace hcl : w13.drew.heap[gc]? = _ := hcl
  replace hmb : w13.drew.heap[g3]? = _ := hmb
  replace hsb : w13.drew.heap[g5]? = _ := hsb
  replace hkb : w13.drew.heap[g11]? = _ := hkb
  replace kt := kt_drew kt
  replace hO := hO.drew
  refine wp_region_z 17 (S := fun W => W.heap[g3]? = some (.cells #[.int .i64 2, .int .i64 z1, .int .u32 xid, .int .i64 z3, .int .i64 z4, .int .u8 z5, .int .u8 z6, .int .u8 z7, .int .u8 z8, .int .u8 y0, .int .u8 y1, .int .u8 y2, .int .u8 y3, .int .u8 z13, .int .u8 z14, .int .u8 z15, .int .u8 z16, .int .u8 z17, .int .u8 z18, .int .u8 z19, .int .u8 z20, .int .u8 h0, .int .u8 h1, .int .u8 h2, .int .u8 h3, .int .u8 h4, .int .u8 h5, .slice A n c] 37 (0, 0)) ∧ W.heap[g11]? = some (.cells #[.int .u8 f0, .int .u8 f1, .int .u8 f2, .int .u8 f3] 34 (0, 0)) ∧ W.heap[g5]? = some (.cells #[.int .u8 e0, .int .u8 e1, .int .u8 e2, .int .u8 e3] 34 (0, 0)) ∧ W.heap[gc]? = some (.cells #[.int .u8 m0, .int .u8 m1, .int .u8 m2, .int .u8 m3, .int .u8 m4, .int .u8 m5, .int .i64 now, .int .i64 3, .int .u32 xid, .int .i64 sent, .int .i64 wait, .int .i64 tries, .int .u8 a0, .int .u8 a1, .int .u8 a2, .int .u8 a3, .int .u8 k0, .int .u8 k1, .int .u8 k2, .int .u8 k3, .int .u8 r0, .int .u8 r1, .int .u8 r2, .int .u8 r3, .int .u8 s0, .int .u8 s1, .int .u8 s2, .int .u8 s3, .int .i64 un, .int .i64 t1, .int .i64 t2] 51 (0, 0))) (by kernel_rfl) ⟨hmb, hkb, hsb, hcl⟩ (fun hH => ?_)
  generalize w13.drew = w14 at bel hcl hmb hsb hkb kt hO hH ⊢
  refine wpAnyZ_take (i := 0) (v := ?_) rfl (by kernel_rfl) (by kernel_rfl) (by kernel_rfl) (fun _ _ _ h => h) (Or.inl ⟨by rfl, ?_⟩) hH ?_
  rotate_left
  · ((intro W hW; clear hW; go_simp) <;> with_reducible rfl)
  simp only [Act.put, List.getElem_toArray, List.getElem_cons_zero, List.setIfInBounds_toArray, List.set_cons_zero, List.set_cons_succ]
  refine wpAnyZ_take (i := 1) (v := ?_) rfl (by kernel_rfl) (by kernel_rfl) (by kernel_rfl) (fun _ _ _ h => h) (Or.inl ⟨by rfl, ?_⟩) hH ?_
  rotate_left
  · ((intro W hW; clear hW; go_simp) <;> with_reducible rfl)
  simp only [Act.put, List.getElem_toArray, List.getElem_cons_zero, List.getElem_cons_succ, List.setIfInBounds_toArray, List.set_cons_zero, List.set_cons_succ]
  refine wpAnyZ_take (i := 2) (v := .agg #[.int .u8 y0, .int .u8 y1, .int .u8 y2, .int .u8 y3]) rfl (by kernel_rfl) (by kernel_rfl) (by kernel_rfl) (fun _ _ _ h => h) (yieldsIf_load_part (by kernel_rfl) 34 _ rfl g3 9 4 rfl _ 37 (0, 0) (fun W hW => hW.1) _ rfl _ Try.underlying34 rfl (by kernel_rfl)) hH ?_
  simp only [Act.put, List.getElem_toArray, List.getElem_cons_zero, List.getElem_cons_succ, List.setIfInBounds_toArray, List.set_cons_zero, List.set_cons_succ]
  refine wpAnyZ_take (i := 3) (v := .agg #[.int .u8 f0, .int .u8 f1, .int .u8 f2, .int .u8 f3]) rfl (by kernel_rfl) (by kernel_rfl) (by kernel_rfl) (fun _ _ _ h => h) (yieldsIf_load_part (by kernel_rfl) 34 _ rfl g11 0 4 rfl _ 34 (0, 0) (fun W hW => hW.2.1) _ rfl _ Try.underlying34 rfl (by kernel_rfl)) hH ?_
  simp only [Act.put, List.getElem_toArray, List.getElem_cons_zero, List.getElem_cons_succ, List.setIfInBounds_toArray, List.set_cons_zero, List.set_cons_succ]
  refine wpAnyZ_take (i := 4) (v := ?_) rfl (by kernel_rfl) (by kernel_rfl) (by kernel_rfl) (fun _ _ _ h => h) (Or.inl ⟨by rfl, ?_⟩) hH ?_
  rotate_left
  · ((intro W hW; clear hW; go_simp) <;> with_reducible rfl)
  simp only [Act.put, List.getElem_toArray, List.getElem_cons_zero, List.getElem_cons_succ, List.setIfInBounds_toArray, List.set_cons_zero, List.set_cons_succ]
  refine wpAnyZ_take (i := 5) (v := ?_) rfl (by kernel_rfl) (by kernel_rfl) (by kernel_rfl) (fun _ _ _ h => h) (Or.inl ⟨by rfl, ?_⟩) hH ?_
  rotate_left
  · ((intro W hW; have hk := cell_lit (hW.1) 27 _ rfl; clear hW; go_simp) <;> with_reducible rfl)
  simp only [Act.put, List.getElem_toArray, List.getElem_cons_zero, List.getElem_cons_succ, List.setIfInBounds_toArray, List.set_cons_zero, List.set_cons_succ]
  refine wpAnyZ_take (i := 7) (v := .agg #[.int .u8 e0, .int .u8 e1, .int .u8 e2, .int .u8 e3]) rfl (by kernel_rfl) (by kernel_rfl) (by kernel_rfl) (fun _ _ _ h => h) (yieldsIf_load_part (by kernel_rfl) 34 _ rfl g5 0 4 rfl _ 34 (0, 0) (fun W hW => hW.2.2.1) _ rfl _ Try.underlying34 rfl (by kernel_rfl)) hH ?_
  simp only [Act.put, List.getElem_toArray, List.getElem_cons_zero, List.getElem_cons_succ, List.setIfInBounds_toArray, List.set_cons_zero, List.set_cons_succ]
  refine wpAnyZ_take (i := 8) (v := ?_) rfl (by kernel_rfl) (by kernel_rfl) (by kernel_rfl) (fun _ _ _ h => h) (Or.inl ⟨by rfl, ?_⟩) hH ?_
  rotate_left
  · ((intro W hW; clear hW; go_simp) <;> with_reducible rfl)
  simp only [Act.put, List.getElem_toArray, List.getElem_cons_zero, List.getElem_cons_succ, List.setIfInBounds_toArray, List.set_cons_zero, List.set_cons_succ]
  refine wpAnyZ_take (i := 9) (v := ?_) rfl (by kernel_rfl) (by kernel_rfl) (by kernel_rfl) (fun _ _ _ h => h) (Or.inl ⟨by rfl, ?_⟩) hH ?_
  rotate_left
  · ((intro W hW; clear hW; go_simp) <;> with_reducible rfl)
  simp only [Act.put, List.getElem_toArray, List.getElem_cons_zero, List.getElem_cons_succ, List.setIfInBounds_toArray, List.set_cons_zero, List.set_cons_succ]
  refine wpAnyZ_take (i := 10) (v := ?_) rfl (by kernel_rfl) (by kernel_rfl) (by kernel_rfl) (fun _ _ _ h => h) (Or.inl ⟨by rfl, ?_⟩) hH ?_
  rotate_left
  · ((intro W hW; clear hW; go_simp) <;> with_reducible rfl)
  simp only [Act.put, List.getElem_toArray, List.getElem_cons_zero, List.getElem_cons_succ, List.setIfInBounds_toArray, List.set_cons_zero, List.set_cons_succ]
  refine wpAnyZ_take (i := 11) (v := ?_) rfl (by kernel_rfl) (by kernel_rfl) (by kernel_rfl) (fun _ _ _ h => h) (Or.inl ⟨by rfl, ?_⟩) hH ?_
  rotate_left
  · ((intro W hW; have hk := cell_lit (hW.2.2.2) 6 _ rfl; clear hW; go_simp) <;> with_reducible rfl)
  simp only [Act.put, List.getElem_toArray, List.getElem_cons_zero, List.getElem_cons_succ, List.setIfInBounds_toArray, List.set_cons_zero, List.set_cons_succ]
  refine wpAnyZ_take (i := 12) (v := ?_) rfl (by kernel_rfl) (by kernel_rfl) (by kernel_rfl) (fun _ _ _ h => h) (Or.inl ⟨by rfl, ?_⟩) hH ?_
  rotate_left
  · ((intro W hW; clear hW; go_simp) <;> with_reducible rfl)
  simp only [Act.put, List.getElem_toArray, List.getElem_cons_zero, List.getElem_cons_succ, List.setIfInBounds_toArray, List.set_cons_zero, List.set_cons_succ]
  refine wpAnyZ_take (i := 13) (v := ?_) rfl (by kernel_rfl) (by kernel_rfl) (by kernel_rfl) (fun _ _ _ h => h) (Or.inl ⟨by rfl, ?_⟩) hH ?_
  rotate_left
  · ((intro W hW; clear hW; go_simp) <;> with_reducible rfl)
  simp only [Act.put, List.getElem_toArray, List.getElem_cons_zero, List.getElem_cons_succ, List.setIfInBounds_toArray, List.set_cons_zero, List.set_cons_succ]
  refine wpAnyZ_ready (rs := [6]) (by kernel_rfl) (by simp) ?_
  refine AllReadyZ.cons (o := _) rfl (fun K hK => ?_) AllReadyZ.nil
  simp only [List.getElem_toArray, List.getElem_cons_zero, List.getElem_cons_succ]
  go_simp
  with_reducible refine (lfirst_i _ hO HR.out).mono ?_
  rintro e w15 ⟨rfl, b15⟩
  dsimp only
  replace hcl := blk_u hcl b15
  replace hmb := blk_u hmb b15
  replace hsb := blk_u hsb b15
  replace hkb := blk_u hkb b15
  replace kt := kt.trans (kt_below b15)
  replace hO := hO.below b15
  replace bel := bel.trans (b15.mono (Nat.le_trans hlo bel.size))
  clear b15
  refine hK.out _ _ ⟨hmb, hkb, hsb, hcl⟩ (fun hH16 => ?_)
  clear hK K
  refine wpAnyZ_take (i := 14) (v := ?_) rfl (by kernel_rfl) (by kernel_rfl) (by kernel_rfl) (fun _ _ _ h => h) (Or.inl ⟨by rfl, ?_⟩) hH16 ?_
  rotate_left
  · ((intro W hW; clear hW; go_simp) <;> with_reducible rfl)
  simp only [Act.put, List.getElem_toArray, List.getElem_cons_zero, List.getElem_cons_succ, List.setIfInBounds_toArray, List.set_cons_zero, List.set_cons_succ]
  refine wpAnyZ_take (i := 15) (v := ?_) rfl (by kernel_rfl) (by kernel_rfl) (by kernel_rfl) (fun _ _ _ h => h) (Or.inl ⟨by rfl, ?_⟩) hH16 ?_
  rotate_left
  · ((intro W hW; clear hW; go_simp) <;> with_reducible rfl)
  simp only [Act.put, List.getElem_toArray, List.getElem_cons_zero, List.getElem_cons_succ, List.setIfInBounds_toArray, List.set_cons_zero, List.set_cons_succ]
  refine wpAnyZ_take (i := 16) (v := ?_) rfl (by kernel_rfl) (by kernel_rfl) (by kernel_rfl) (fun _ _ _ h => h) (Or.inl ⟨by rfl, ?_⟩) hH16 ?_
  rotate_left
  · ((intro W hW; clear hW; go_simp) <;> with_reducible rfl)
  simp only [Act.put, List.getElem_toArray, List.getElem_cons_zero, List.getElem_cons_succ, List.setIfInBounds_toArray, List.set_cons_zero, List.set_cons_succ]
  refine wpAnyZ_ready (rs := [17]) (by kernel_rfl) (by simp) ?_
  refine AllReadyZ.last (o := _) rfl (fun K hK => ?_)
  simp only [List.getElem_toArray, List.getElem_cons_zero, List.getElem_cons_succ]
  rw [if_pos (by rfl)]
  refine wp_store_part 41 (.tmp 96) (.tmp 94) rfl gc 12 rfl [.int .u8 y0, .int .u8 y1, .int .u8 y2, .int .u8 y3, .int .u8 f0, .int .u8 f1, .int .u8 f2, .int .u8 f3, .int .u8 u0, .int .u8 u1, .int .u8 u2, .int .u8 u3, .int .u8 e0, .int .u8 e1, .int .u8 e2, .int .u8 e3, .int .i64 nu] rfl [.int .u8 m0, .int .u8 m1, .int .u8 m2, .int .u8 m3, .int .u8 m4, .int .u8 m5, .int .i64 now, .int .i64 3, .int .u32 xid, .int .i64 sent, .int .i64 wait, .int .i64 tries, .int .u8 a0, .int .u8 a1, .int .u8 a2, .int .u8 a3, .int .u8 k0, .int .u8 k1, .int .u8 k2, .int .u8 k3, .int .u8 r0, .int .u8 r1, .int .u8 r2, .int .u8 r3, .int .u8 s0, .int .u8 s1, .int .u8 s2, .int .u8 s3, .int .i64 un, .int .i64 t1, .int .i64 t2] 51 hcl (by simp) [.int .u8 m0, .int .u8 m1, .int .u8 m2, .int .u8 m3, .int .u8 m4, .int .u8 m5, .int .i64 now, .int .i64 3, .int .u32 xid, .int .i64 sent, .int .i64 wait, .int .i64 tries, .int .u8 y0, .int .u8 y1, .int .u8 y2, .int .u8 y3, .int .u8 f0, .int .u8 f1, .int .u8 f2, .int .u8 f3, .int .u8 u0, .int .u8 u1, .int .u8 u2, .int .u8 u3, .int .u8 e0, .int .u8 e1, .int .u8 e2, .int .u8 e3, .int .i64 nu, .int .i64 t1, .int .i64 t2] rfl (by kernel_rfl) (by rfl) ?_
  intro w17 hq gr
  replace hmb := blk_a hmb gr (ne_symm d_cl_mb)
  replace hsb := blk_a hsb gr (ne_symm d_cl_sb)
  replace hkb := blk_a hkb gr (ne_symm d_cl_kb)
  replace kt := kt.trans (kt_grown gr hcl (by simp))
  replace hO := hO.kt (kt_grown gr hcl (by simp))
  replace bel := below_grown bel gr ocl (Nat.le_trans hlo bel.size)
  clear hcl
  have hcl := hq
  clear hq gr
  refine hK.out _ _ trivial (fun hH18 => ?_)
  clear hK K
  simp only [Act.put]
  refine wpAnyZ_done (by kernel_rfl) ?_ _
  have R101 := cell_lit hcl 6 _ rfl
  go_wp2_with (first | ((with_reducible show wpList _ _ _ (⟨none, Op.store _ (.tmp 106) _, _, _, _, _⟩ :: _) _ _); refine wpList_store_part rfl 2 (.tmp 106) (.tmp 104) rfl gc 29 rfl [.int .i64 n1] rfl [.int .u8 m0, .int .u8 m1, .int .u8 m2, .int .u8 m3, .int .u8 m4, .int .u8 m5, .int .i64 now, .int .i64 3, .int .u32 xid, .int .i64 sent, .int .i64 wait, .int .i64 tries, .int .u8 y0, .int .u8 y1, .int .u8 y2, .int .u8 y3, .int .u8 f0, .int .u8 f1, .int .u8 f2, .int .u8 f3, .int .u8 u0, .int .u8 u1, .int .u8 u2, .int .u8 u3, .int .u8 e0, .int .u8 e1, .int .u8 e2, .int .u8 e3, .int .i64 nu, .int .i64 t1, .int .i64 t2] 51 hcl (by simp) [.int .u8 m0, .int .u8 m1, .int .u8 m2, .int .u8 m3, .int .u8 m4, .int .u8 m5, .int .i64 now, .int .i64 3, .int .u32 xid, .int .i64 sent, .int .i64 wait, .int .i64 tries, .int .u8 y0, .int .u8 y1, .int .u8 y2, .int .u8 y3, .int .u8 f0, .int .u8 f1, .int .u8 f2, .int .u8 f3, .int .u8 u0, .int .u8 u1, .int .u8 u2, .int .u8 u3, .int .u8 e0, .int .u8 e1, .int .u8 e2, .int .u8 e3, .int .i64 nu, .int .i64 n1, .int .i64 t2] rfl (by kernel_rfl) (by rfl) ?_; intro w19 hq gr; replace hmb := blk_a hmb gr (ne_symm d_cl_mb); replace hsb := blk_a hsb gr (ne_symm d_cl_sb); replace hkb := blk_a hkb gr (ne_symm d_cl_kb); replace kt := kt.trans (kt_grown gr hcl (by simp)); replace hO := hO.kt (kt_grown gr hcl (by simp)); replace bel := below_grown bel gr ocl (Nat.le_trans hlo bel.size); clear hcl; have hcl := hq; clear hq gr; have R111 := cell_lit hcl 6 _ rfl) | ((with_reducible show wpList _ _ _ (⟨none, Op.store _ (.tmp 117) _, _, _, _, _⟩ :: _) _ _); refine wpList_store_part rfl 2 (.tmp 117) (.tmp 115) rfl gc 30 rfl [.int .i64 n2] rfl [.int .u8 m0, .int .u8 m1, .int .u8 m2, .int .u8 m3, .int .u8 m4, .int .u8 m5, .int .i64 now, .int .i64 3, .int .u32 xid, .int .i64 sent, .int .i64 wait, .int .i64 tries, .int .u8 y0, .int .u8 y1, .int .u8 y2, .int .u8 y3, .int .u8 f0, .int .u8 f1, .int .u8 f2, .int .u8 f3, .int .u8 u0, .int .u8 u1, .int .u8 u2, .int .u8 u3, .int .u8 e0, .int .u8 e1, .int .u8 e2, .int .u8 e3, .int .i64 nu, .int .i64 n1, .int .i64 t2] 51 hcl (by simp) [.int .u8 m0, .int .u8 m1, .int .u8 m2, .int .u8 m3, .int .u8 m4, .int .u8 m5, .int .i64 now, .int .i64 3, .int .u32 xid, .int .i64 sent, .int .i64 wait, .int .i64 tries, .int .u8 y0, .int .u8 y1, .int .u8 y2, .int .u8 y3, .int .u8 f0, .int .u8 f1, .int .u8 f2, .int .u8 f3, .int .u8 u0, .int .u8 u1, .int .u8 u2, .int .u8 u3, .int .u8 e0, .int .u8 e1, .int .u8 e2, .int .u8 e3, .int .i64 nu, .int .i64 n1, .int .i64 n2] rfl (by kernel_rfl) (by rfl) ?_; intro w20 hq gr; replace hmb := blk_a hmb gr (ne_symm d_cl_mb); replace hsb := blk_a hsb gr (ne_symm d_cl_sb); replace hkb := blk_a hkb gr (ne_symm d_cl_kb); replace kt := kt.trans (kt_grown gr hcl (by simp)); replace hO := hO.kt (kt_grown gr hcl (by simp)); replace bel := below_grown bel gr ocl (Nat.le_trans hlo bel.size); clear hcl; have hcl := hq; clear hq gr))
  try clear R101
  try clear R111
  go_ret
  exact ⟨rfl, ⟨hcl, ocl⟩, kt, bel⟩
set_option linter.unusedVariables false in
set_option linter.unusedSimpArgs false in
set_option maxRecDepth 100000 in
set_option maxHeartbeats 16000000 in
theorem lbind_4 {lo gc : Nat} {m0 m1 m2 m3 m4 m5 now xid sent wait tries a0 a1 a2 a3 k0 k1 k2 k3 r0 r1 r2 r3 s0 s1 s2 s3 un t1 t2 : Int} {z1 z3 z4 z5 z6 z7 z8 y0 y1 y2 y3 z13 z14 z15 z16 z17 z18 z19 z20 h0 h1 h2 h3 h4 h5 : Int} {A : Option Addr} {n c : Nat} {hs : List Oh} {L : OptL} {e0 e1 e2 e3 : Int} {f0 f1 f2 f3 u0 u1 u2 u3 sc nu n1 n2 : Int} {bm : Bool} (w : World) (hT : Cl lo gc w #[.int .u8 m0, .int .u8 m1, .int .u8 m2, .int .u8 m3, .int .u8 m4, .int .u8 m5, .int .i64 now, .int .i64 4, .int .u32 xid, .int .i64 sent, .int .i64 wait, .int .i64 tries, .int .u8 a0, .int .u8 a1, .int .u8 a2, .int .u8 a3, .int .u8 k0, .int .u8 k1, .int .u8 k2, .int .u8 k3, .int .u8 r0, .int .u8 r1, .int .u8 r2, .int .u8 r3, .int .u8 s0, .int .u8 s1, .int .u8 s2, .int .u8 s3, .int .i64 un, .int .i64 t1, .int .i64 t2]) (hO : Opv w A n c hs L) (h54 : I4 (findL L 54) e0 e1 e2 e3 true) (hy : ∀ W, (binOp .eql 34 (.agg #[.int .u8 y0, .int .u8 y1, .int .u8 y2, .int .u8 y3]) (.agg #[.int .u8 0, .int .u8 0, .int .u8 0, .int .u8 0])).run Try.prog W = .ok (.bool false) W) (hse : ∀ W, (binOp .eql 34 (.agg #[.int .u8 e0, .int .u8 e1, .int .u8 e2, .int .u8 e3]) (.agg #[.int .u8 s0, .int .u8 s1, .int .u8 s2, .int .u8 s3])).run Try.prog W = .ok (.bool true) W) (hya : ∀ W, (binOp .neq 34 (.agg #[.int .u8 y0, .int .u8 y1, .int .u8 y2, .int .u8 y3]) (.agg #[.int .u8 a0, .int .u8 a1, .int .u8 a2, .int .u8 a3])).run Try.prog W = .ok (.bool false) W) (hsc : I1 (findL L 51) sc true) (hs0 : 60 ≤ sc) (hs1 : sc ≤ 1000000000) (hm : I4 (findL L 1) f0 f1 f2 f3 bm) (hr : I4 (findL L 3) u0 u1 u2 u3 true) (hnu : IntKind.i64.wrap (now + sc) = nu) (hn1 : IntKind.i64.wrap (now + sc / 2) = n1) (hn2 : IntKind.i64.wrap (now + sc * 7 / 8) = n2) : Calls Try.prog 30 #[.pointer (some ⟨gc, 0, none⟩), .agg #[.int .i64 2, .int .i64 z1, .int .u32 xid, .int .i64 z3, .int .i64 z4, .int .u8 z5, .int .u8 z6, .int .u8 z7, .int .u8 z8, .int .u8 y0, .int .u8 y1, .int .u8 y2, .int .u8 y3, .int .u8 z13, .int .u8 z14, .int .u8 z15, .int .u8 z16, .int .u8 z17, .int .u8 z18, .int .u8 z19, .int .u8 z20, .int .u8 h0, .int .u8 h1, .int .u8 h2, .int .u8 h3, .int .u8 h4, .int .u8 h5, .slice A n c]] w fun e w' => e = .returned (.bool false) ∧ Cl lo gc w' #[.int .u8 m0, .int .u8 m1, .int .u8 m2, .int .u8 m3, .int .u8 m4, .int .u8 m5, .int .i64 now, .int .i64 3, .int .u32 xid, .int .i64 sent, .int .i64 wait, .int .i64 tries, .int .u8 y0, .int .u8 y1, .int .u8 y2, .int .u8 y3, .int .u8 f0, .int .u8 f1, .int .u8 f2, .int .u8 f3, .int .u8 u0, .int .u8 u1, .int .u8 u2, .int .u8 u3, .int .u8 e0, .int .u8 e1, .int .u8 e2, .int .u8 e3, .int .i64 nu, .int .i64 n1, .int .i64 n2] ∧ Kt [51] w w' ∧ Below lo w w' := by
  obtain ⟨hcl, ocl⟩ := hT
  have hlo : lo ≤ w.heap.size := Nat.le_trans ocl (Nat.le_of_lt (hlt hcl))
  have kt := Kt.refl [51] w
  have H54 := Lib.hid h54
  clear h54
  have HSC := Lib.hid hsc
  clear hsc
  have HM := Lib.hid hm
  clear hm
  have HR := Lib.hid hr
  clear hr
  have HMN : Hid ((if (1000000000 : Int) < sc then 1000000000 else sc) = sc) := Lib.hid (if_neg (by omega))
  have hlt60 : decide (sc < 60) = false := decide_eq_false (by omega)
  have hws : IntKind.i64.wrap sc = sc := IntWalk.i64_in _ (by omega)
  have hw7 : IntKind.i64.wrap (sc * 7) = sc * 7 := IntWalk.i64_in _ (by omega)
  have hq2 : Int.tdiv sc 2 = sc / 2 := Int.tdiv_eq_ediv_of_nonneg (by omega)
  have hq8 : Int.tdiv (sc * 7) 8 = sc * 7 / 8 := Int.tdiv_eq_ediv_of_nonneg (by omega)
  have hwh : IntKind.i64.wrap (sc / 2) = sc / 2 := IntWalk.i64_in _ (by omega)
  have hwe : IntKind.i64.wrap (sc * 7 / 8) = sc * 7 / 8 := IntWalk.i64_in _ (by omega)
  have HS0 := Lib.hid hs0
  have HS1 := Lib.hid hs1
  have s0_ : 0 ≤ sc := by omega
  clear hs0 hs1
  have bel := Below.refl lo w
  go_enter Try.func30, Try.ntmps30
  go_wp2_with (first | ((with_reducible show wpList _ _ _ (⟨some 3, _, _, _, _, _⟩ :: _) _ _); refine wpList_box_n rfl 37 (.tmp 1) rfl #[.int .i64 2, .int .i64 z1, .int .u32 xid, .int .i64 z3, .int .i64 z4, .int .u8 z5, .int .u8 z6, .int .u8 z7, .int .u8 z8, .int .u8 y0, .int .u8 y1, .int .u8 y2, .int .u8 y3, .int .u8 z13, .int .u8 z14, .int .u8 z15, .int .u8 z16, .int .u8 z17, .int .u8 z18, .int .u8 z19, .int .u8 z20, .int .u8 h0, .int .u8 h1, .int .u8 h2, .int .u8 h3, .int .u8 h4, .int .u8 h5, .slice A n c] rfl ?_; intro g3 w1 ge lt hh bb; have d_cl_mb := ne_new (hlt hcl) ge; have omb := Nat.le_trans (Nat.le_trans hlo bel.size) ge; have pmb := Nat.le_trans bel.size ge; have oa_mb := hO.oa ge; replace hcl := blk_u hcl bb; replace kt := kt.trans (kt_below bb); replace hO := hO.below bb; replace bel := bel.trans (bb.mono (Nat.le_trans hlo bel.size)); have hmb := hh; clear hh lt ge bb; have R16 := cell_lit hmb 27 _ rfl))
  try clear R16
  with_reducible refine (oaddr_i (b := true) _ hO H54.out).mono ?_
  rintro e w2 ⟨rfl, b2⟩
  replace hcl := blk_u hcl b2
  replace hmb := blk_u hmb b2
  replace kt := kt.trans (kt_below b2)
  replace hO := hO.below b2
  replace bel := bel.trans (b2.mono (Nat.le_trans hlo bel.size))
  clear b2
  go_wp2_with (first | ((with_reducible show wpList _ _ _ (⟨some 5, _, _, _, _, _⟩ :: _) _ _); refine wpList_new_a rfl 34 rfl #[.int .u8 0, .int .u8 0, .int .u8 0, .int .u8 0] (by kernel_rfl) ?_; intro g5 w3 ge hh bb; have d_cl_sb := ne_new (hlt hcl) ge; have d_mb_sb := ne_new (hlt hmb) ge; have osb := Nat.le_trans (Nat.le_trans hlo bel.size) ge; have psb := Nat.le_trans bel.size ge; have oa_sb := hO.oa ge; replace hcl := blk_u hcl bb; replace hmb := blk_u hmb bb; replace kt := kt.trans (kt_below bb); replace hO := hO.below bb; replace bel := bel.trans (bb.mono (Nat.le_trans hlo bel.size)); have hsb := hh; clear hh ge bb) | ((with_reducible show wpList _ _ _ (⟨none, Op.store _ (.tmp 5) _, _, _, _, _⟩ :: _) _ _); refine wpList_store_blk rfl 34 (.tmp 5) (.tmp 18) rfl g5 rfl _ rfl _ 34 hsb (by rfl) (by kernel_rfl) (by kernel_rfl) ?_; intro w4 hq gr; replace hcl := blk_a hcl gr d_cl_sb; replace hmb := blk_a hmb gr d_mb_sb; replace kt := kt.newer gr psb bel.size; replace hO := hO.away oa_sb gr; replace bel := below_grown bel gr osb (Nat.le_trans hlo bel.size); clear hsb; have hsb := hq; clear hq gr))
  replace bel := bel.drew
  replace hcl : w4.drew.heap[gc]? = _ := hcl
  replace hmb : w4.drew.heap[g3]? = _ := hmb
  replace hsb : w4.drew.heap[g5]? = _ := hsb
  replace kt := kt_drew kt
  replace hO := hO.drew
  refine wp_region_held_drew (S := fun W => W.heap[gc]? = some (.cells #[.int .u8 m0, .int .u8 m1, .int .u8 m2, .int .u8 m3, .int .u8 m4, .int .u8 m5, .int .i64 now, .int .i64 4, .int .u32 xid, .int .i64 sent, .int .i64 wait, .int .i64 tries, .int .u8 a0, .int .u8 a1, .int .u8 a2, .int .u8 a3, .int .u8 k0, .int .u8 k1, .int .u8 k2, .int .u8 k3, .int .u8 r0, .int .u8 r1, .int .u8 r2, .int .u8 r3, .int .u8 s0, .int .u8 s1, .int .u8 s2, .int .u8 s3, .int .i64 un, .int .i64 t1, .int .i64 t2] 51 (0, 0)) ∧ W.heap[g5]? = some (.cells #[.int .u8 e0, .int .u8 e1, .int .u8 e2, .int .u8 e3] 34 (0, 0))) (by kernel_rfl) ⟨hcl, hsb⟩ (fun hH => ?_)
  generalize w4.drew = w5 at bel hcl hmb hsb kt hO hH ⊢
  refine wpAnyH_take (i := 0) (v := ?_) rfl (by kernel_rfl) (by kernel_rfl) (by kernel_rfl) (fun _ _ _ h => h) (Or.inl ⟨by rfl, ?_⟩) hH ?_
  rotate_left
  · ((intro W hW; clear hW; go_simp) <;> with_reducible rfl)
  simp only [Act.put, List.getElem_toArray, List.getElem_cons_zero, List.setIfInBounds_toArray, List.set_cons_zero, List.set_cons_succ]
  refine wpAnyH_take (i := 1) (v := ?_) rfl (by kernel_rfl) (by kernel_rfl) (by kernel_rfl) (fun _ _ _ h => h) (Or.inl ⟨by rfl, ?_⟩) hH ?_
  rotate_left
  · ((intro W hW; clear hW; go_simp) <;> with_reducible rfl)
  simp only [Act.put, List.getElem_toArray, List.getElem_cons_zero, List.getElem_cons_succ, List.setIfInBounds_toArray, List.set_cons_zero, List.set_cons_succ]
  refine wpAnyH_take (i := 2) (v := ?_) rfl (by kernel_rfl) (by kernel_rfl) (by kernel_rfl) (fun _ _ _ h => h) (Or.inl ⟨by rfl, ?_⟩) hH ?_
  rotate_left
  · ((intro W hW; clear hW; go_simp) <;> with_reducible rfl)
  simp only [Act.put, List.getElem_toArray, List.getElem_cons_zero, List.getElem_cons_succ, List.setIfInBounds_toArray, List.set_cons_zero, List.set_cons_succ]
  refine wpAnyH_take (i := 3) (v := ?_) rfl (by kernel_rfl) (by kernel_rfl) (by kernel_rfl) (fun _ _ _ h => h) (Or.inl ⟨by rfl, ?_⟩) hH ?_
  rotate_left
  · ((intro W hW; have hk := cell_lit (hW.1) 7 _ rfl; clear hW; go_simp) <;> with_reducible rfl)
  simp only [Act.put, List.getElem_toArray, List.getElem_cons_zero, List.getElem_cons_succ, List.setIfInBounds_toArray, List.set_cons_zero, List.set_cons_succ]
  refine wpAnyH_take (i := 4) (v := ?_) rfl (by kernel_rfl) (by kernel_rfl) (by kernel_rfl) (fun _ _ _ h => h) (Or.inl ⟨by rfl, ?_⟩) hH ?_
  rotate_left
  · ((intro W hW; clear hW; go_simp) <;> with_reducible rfl)
  simp only [Act.put, List.getElem_toArray, List.getElem_cons_zero, List.getElem_cons_succ, List.setIfInBounds_toArray, List.set_cons_zero, List.set_cons_succ]
  refine wpAnyH_take (i := 5) (v := ?_) rfl (by kernel_rfl) (by kernel_rfl) (by kernel_rfl) (fun _ _ _ h => h) (Or.inl ⟨by rfl, ?_⟩) hH ?_
  rotate_left
  · ((intro W hW; clear hW; go_simp) <;> with_reducible rfl)
  simp only [Act.put, List.getElem_toArray, List.getElem_cons_zero, List.getElem_cons_succ, List.setIfInBounds_toArray, List.set_cons_zero, List.set_cons_succ]
  refine wpAnyH_take (i := 6) (v := .agg #[.int .u8 e0, .int .u8 e1, .int .u8 e2, .int .u8 e3]) rfl (by kernel_rfl) (by kernel_rfl) (by kernel_rfl) (fun _ _ _ h => h) (yieldsIf_load_part (by kernel_rfl) 34 _ rfl g5 0 4 rfl _ 34 (0, 0) (fun W hW => hW.2) _ rfl _ Try.underlying34 rfl (by kernel_rfl)) hH ?_
  simp only [Act.put, List.getElem_toArray, List.getElem_cons_zero, List.getElem_cons_succ, List.setIfInBounds_toArray, List.set_cons_zero, List.set_cons_succ]
  refine wpAnyH_take (i := 7) (v := ?_) rfl (by kernel_rfl) (by kernel_rfl) (by kernel_rfl) (fun _ _ _ h => h) (Or.inl ⟨by rfl, ?_⟩) hH ?_
  rotate_left
  · ((intro W hW; clear hW; go_simp) <;> with_reducible rfl)
  simp only [Act.put, List.getElem_toArray, List.getElem_cons_zero, List.getElem_cons_succ, List.setIfInBounds_toArray, List.set_cons_zero, List.set_cons_succ]
  refine wpAnyH_take (i := 8) (v := ?_) rfl (by kernel_rfl) (by kernel_rfl) (by kernel_rfl) (fun _ _ _ h => h) (Or.inl ⟨by rfl, ?_⟩) hH ?_
  rotate_left
  · ((intro W hW; clear hW; go_simp) <;> with_reducible rfl)
  simp only [Act.put, List.getElem_toArray, List.getElem_cons_zero, List.getElem_cons_succ, List.setIfInBounds_toArray, List.set_cons_zero, List.set_cons_succ]
  refine wpAnyH_take (i := 9) (v := ?_) rfl (by kernel_rfl) (by kernel_rfl) (by kernel_rfl) (fun _ _ _ h => h) (Or.inl ⟨by rfl, ?_⟩) hH ?_
  rotate_left
  · ((intro W hW; clear hW; go_simp) <;> with_reducible rfl)
  simp only [Act.put, List.getElem_toArray, List.getElem_cons_zero, List.getElem_cons_succ, List.setIfInBounds_toArray, List.set_cons_zero, List.set_cons_succ]
  refine wpAnyH_take (i := 10) (v := ?_) rfl (by kernel_rfl) (by kernel_rfl) (by kernel_rfl) (fun _ _ _ h => h) (Or.inl ⟨by rfl, ?_⟩) hH ?_
  rotate_left
  · ((intro W hW; clear hW; go_simp) <;> with_reducible rfl)
  simp only [Act.put, List.getElem_toArray, List.getElem_cons_zero, List.getElem_cons_succ, List.setIfInBounds_toArray, List.set_cons_zero, List.set_cons_succ]
  refine wpAnyH_take (i := 11) (v := .agg #[.int .u8 s0, .int .u8 s1, .int .u8 s2, .int .u8 s3]) rfl (by kernel_rfl) (by kernel_rfl) (by kernel_rfl) (fun _ _ _ h => h) (yieldsIf_load_part (by kernel_rfl) 34 _ rfl gc 24 4 rfl _ 51 (0, 0) (fun W hW => hW.1) _ rfl _ Try.underlying34 rfl (by kernel_rfl)) hH ?_
  simp only [Act.put, List.getElem_toArray, List.getElem_cons_zero, List.getElem_cons_succ, List.setIfInBounds_toArray, List.set_cons_zero, List.set_cons_succ]
  refine wpAnyH_take (i := 12) (v := ?_) rfl (by kernel_rfl) (by kernel_rfl) (by kernel_rfl) (fun _ _ _ h => h) (Or.inl ⟨by rfl, ?_⟩) hH ?_
  rotate_left
  · ((intro W hW; clear hW; go_simp) <;> with_reducible rfl)
  simp only [Act.put, List.getElem_toArray, List.getElem_cons_zero, List.getElem_cons_succ, List.setIfInBounds_toArray, List.set_cons_zero, List.set_cons_succ]
  refine wpAnyH_take (i := 13) (v := ?_) rfl (by kernel_rfl) (by kernel_rfl) (by kernel_rfl) (fun _ _ _ h => h) (Or.inl ⟨by rfl, ?_⟩) hH ?_
  rotate_left
  · ((intro W hW; clear hW; go_simp) <;> with_reducible rfl)
  simp only [Act.put, List.getElem_toArray, List.getElem_cons_zero, List.getElem_cons_succ, List.setIfInBounds_toArray, List.set_cons_zero, List.set_cons_succ]
  refine wpAnyH_take (i := 14) (v := ?_) rfl (by kernel_rfl) (by kernel_rfl) (by kernel_rfl) (fun _ _ _ h => h) (Or.inl ⟨by rfl, ?_⟩) hH ?_
  rotate_left
  · ((intro W hW; clear hW; go_simp) <;> with_reducible rfl)
  simp only [Act.put, List.getElem_toArray, List.getElem_cons_zero, List.getElem_cons_succ, List.setIfInBounds_toArray, List.set_cons_zero, List.set_cons_succ]
  refine wpAnyH_done (by kernel_rfl) ?_ _
  have R36 := cell_lit hmb 27 _ rfl
  go_wp2_with fail
  clear R36
  with_reducible refine (osecs_i _ hO HSC.out).mono ?_
  rintro e w6 ⟨rfl, b6⟩
  replace hcl := blk_u hcl b6
  replace hmb := blk_u hmb b6
  replace hsb := blk_u hsb b6
  replace kt := kt.trans (kt_below b6)
  replace hO := hO.below b6
  replace bel := bel.trans (b6.mono (Nat.le_trans hlo bel.size))
  clear b6
  have R52 := Lib.hid (range_lit hmb 9 4 [.int .u8 y0, .int .u8 y1, .int .u8 y2, .int .u8 y3] rfl)
  go_wp2_with (first | ((with_reducible show wpList _ _ _ (⟨some 52, _, _, _, _, _⟩ :: _) _ _); refine wpList_load_rng 34 (.tmp 51) rfl (by kernel_rfl) _ _ rfl _ R52.out _ Try.underlying34 rfl (by kernel_rfl) ?_))
  try clear R52
  with_reducible refine (lnone (b := false) _ hy).mono ?_
  rintro e w7 ⟨rfl, b7⟩
  replace hcl := blk_u hcl b7
  replace hmb := blk_u hmb b7
  replace hsb := blk_u hsb b7
  replace kt := kt.trans (kt_below b7)
  replace hO := hO.below b7
  replace bel := bel.trans (b7.mono (Nat.le_trans hlo bel.size))
  clear b7
  go_wp2_with fail
  replace bel := bel.drew
  replace hcl : w7.drew.heap[gc]? = _ := hcl
  replace hmb : w7.drew.heap[g3]? = _ := hmb
  replace hsb : w7.drew.heap[g5]? = _ := hsb
  replace kt := kt_drew kt
  replace hO := hO.drew
  refine wp_region_held_drew (S := fun W => W.heap[g3]? = some (.cells #[.int .i64 2, .int .i64 z1, .int .u32 xid, .int .i64 z3, .int .i64 z4, .int .u8 z5, .int .u8 z6, .int .u8 z7, .int .u8 z8, .int .u8 y0, .int .u8 y1, .int .u8 y2, .int .u8 y3, .int .u8 z13, .int .u8 z14, .int .u8 z15, .int .u8 z16, .int .u8 z17, .int .u8 z18, .int .u8 z19, .int .u8 z20, .int .u8 h0, .int .u8 h1, .int .u8 h2, .int .u8 h3, .int .u8 h4, .int .u8 h5, .slice A n c] 37 (0, 0)) ∧ W.heap[gc]? = some (.cells #[.int .u8 m0, .int .u8 m1, .int .u8 m2, .int .u8 m3, .int .u8 m4, .int .u8 m5, .int .i64 now, .int .i64 4, .int .u32 xid, .int .i64 sent, .int .i64 wait, .int .i64 tries, .int .u8 a0, .int .u8 a1, .int .u8 a2, .int .u8 a3, .int .u8 k0, .int .u8 k1, .int .u8 k2, .int .u8 k3, .int .u8 r0, .int .u8 r1, .int .u8 r2, .int .u8 r3, .int .u8 s0, .int .u8 s1, .int .u8 s2, .int .u8 s3, .int .i64 un, .int .i64 t1, .int .i64 t2] 51 (0, 0))) (by kernel_rfl) ⟨hmb, hcl⟩ (fun hH => ?_)
  generalize w7.drew = w8 at bel hcl hmb hsb kt hO hH ⊢
  refine wpAnyH_take (i := 0) (v := ?_) rfl (by kernel_rfl) (by kernel_rfl) (by kernel_rfl) (fun _ _ _ h => h) (Or.inl ⟨by rfl, ?_⟩) hH ?_
  rotate_left
  · ((intro W hW; clear hW; go_simp) <;> with_reducible rfl)
  simp only [Act.put, List.getElem_toArray, List.getElem_cons_zero, List.setIfInBounds_toArray, List.set_cons_zero, List.set_cons_succ]
  refine wpAnyH_ready (rs := [1]) (by kernel_rfl) (by simp) ?_
  refine AllReadyH.cons (o := _) rfl (fun K hK => ?_) AllReadyH.nil
  simp only [List.getElem_toArray, List.getElem_cons_zero, List.getElem_cons_succ]
  go_simp
  with_reducible refine (lbound_is (b := true) _ (cl_of hcl) (by decide)).mono ?_
  rintro e _ ⟨rfl, rfl⟩
  dsimp only
  refine hK.out _ _ ⟨hmb, hcl⟩ (fun hH9 => ?_)
  clear hK K
  refine wpAnyH_take (i := 2) (v := ?_) rfl (by kernel_rfl) (by kernel_rfl) (by kernel_rfl) (fun _ _ _ h => h) (Or.inl ⟨by rfl, ?_⟩) hH9 ?_
  rotate_left
  · ((intro W hW; clear hW; go_simp) <;> with_reducible rfl)
  simp only [Act.put, List.getElem_toArray, List.getElem_cons_zero, List.getElem_cons_succ, List.setIfInBounds_toArray, List.set_cons_zero, List.set_cons_succ]
  refine wpAnyH_take (i := 3) (v := ?_) rfl (by kernel_rfl) (by kernel_rfl) (by kernel_rfl) (fun _ _ _ h => h) (Or.inl ⟨by rfl, ?_⟩) hH9 ?_
  rotate_left
  · ((intro W hW; clear hW; go_simp) <;> with_reducible rfl)
  simp only [Act.put, List.getElem_toArray, List.getElem_cons_zero, List.getElem_cons_succ, List.setIfInBounds_toArray, List.set_cons_zero, List.set_cons_succ]
  refine wpAnyH_take (i := 4) (v := ?_) rfl (by kernel_rfl) (by kernel_rfl) (by kernel_rfl) (fun _ _ _ h => h) (Or.inl ⟨by rfl, ?_⟩) hH9 ?_
  rotate_left
  · ((intro W hW; clear hW; go_simp) <;> with_reducible rfl)
  simp only [Act.put, List.getElem_toArray, List.getElem_cons_zero, List.getElem_cons_succ, List.setIfInBounds_toArray, List.set_cons_zero, List.set_cons_succ]
  refine wpAnyH_take (i := 5) (v := .agg #[.int .u8 y0, .int .u8 y1, .int .u8 y2, .int .u8 y3]) rfl (by kernel_rfl) (by kernel_rfl) (by kernel_rfl) (fun _ _ _ h => h) (yieldsIf_load_part (by kernel_rfl) 34 _ rfl g3 9 4 rfl _ 37 (0, 0) (fun W hW => hW.1) _ rfl _ Try.underlying34 rfl (by kernel_rfl)) hH9 ?_
  simp only [Act.put, List.getElem_toArray, List.getElem_cons_zero, List.getElem_cons_succ, List.setIfInBounds_toArray, List.set_cons_zero, List.set_cons_succ]
  refine wpAnyH_take (i := 6) (v := ?_) rfl (by kernel_rfl) (by kernel_rfl) (by kernel_rfl) (fun _ _ _ h => h) (Or.inl ⟨by rfl, ?_⟩) hH9 ?_
  rotate_left
  · ((intro W hW; clear hW; go_simp) <;> with_reducible rfl)
  simp only [Act.put, List.getElem_toArray, List.getElem_cons_zero, List.getElem_cons_succ, List.setIfInBounds_toArray, List.set_cons_zero, List.set_cons_succ]
  refine wpAnyH_take (i := 7) (v := ?_) rfl (by kernel_rfl) (by kernel_rfl) (by kernel_rfl) (fun _ _ _ h => h) (Or.inl ⟨by rfl, ?_⟩) hH9 ?_
  rotate_left
  · ((intro W hW; clear hW; go_simp) <;> with_reducible rfl)
  simp only [Act.put, List.getElem_toArray, List.getElem_cons_zero, List.getElem_cons_succ, List.setIfInBounds_toArray, List.set_cons_zero, List.set_cons_succ]
  refine wpAnyH_take (i := 8) (v := ?_) rfl (by kernel_rfl) (by kernel_rfl) (by kernel_rfl) (fun _ _ _ h => h) (Or.inl ⟨by rfl, ?_⟩) hH9 ?_
  rotate_left
  · ((intro W hW; clear hW; go_simp) <;> with_reducible rfl)
  simp only [Act.put, List.getElem_toArray, List.getElem_cons_zero, List.getElem_cons_succ, List.setIfInBounds_toArray, List.set_cons_zero, List.set_cons_succ]
  refine wpAnyH_take (i := 9) (v := ?_) rfl (by kernel_rfl) (by kernel_rfl) (by kernel_rfl) (fun _ _ _ h => h) (Or.inl ⟨by rfl, ?_⟩) hH9 ?_
  rotate_left
  · ((intro W hW; clear hW; go_simp) <;> with_reducible rfl)
  simp only [Act.put, List.getElem_toArray, List.getElem_cons_zero, List.getElem_cons_succ, List.setIfInBounds_toArray, List.set_cons_zero, List.set_cons_succ]
  refine wpAnyH_take (i := 10) (v := .agg #[.int .u8 a0, .int .u8 a1, .int .u8 a2, .int .u8 a3]) rfl (by kernel_rfl) (by kernel_rfl) (by kernel_rfl) (fun _ _ _ h => h) (yieldsIf_load_part (by kernel_rfl) 34 _ rfl gc 12 4 rfl _ 51 (0, 0) (fun W hW => hW.2) _ rfl _ Try.underlying34 rfl (by kernel_rfl)) hH9 ?_
  simp only [Act.put, List.getElem_toArray, List.getElem_cons_zero, List.getElem_cons_succ, List.setIfInBounds_toArray, List.set_cons_zero, List.set_cons_succ]
  refine wpAnyH_take (i := 11) (v := ?_) rfl (by kernel_rfl) (by kernel_rfl) (by kernel_rfl) (fun _ _ _ h => h) (Or.inl ⟨by rfl, ?_⟩) hH9 ?_
  rotate_left
  · ((intro W hW; clear hW; go_simp) <;> with_reducible rfl)
  simp only [Act.put, List.getElem_toArray, List.getElem_cons_zero, List.getElem_cons_succ, List.setIfInBounds_toArray, List.set_cons_zero, List.set_cons_succ]
  refine wpAnyH_take (i := 12) (v := ?_) rfl (by kernel_rfl) (by kernel_rfl) (by kernel_rfl) (fun _ _ _ h => h) (Or.inl ⟨by rfl, ?_⟩) hH9 ?_
  rotate_left
  · ((intro W hW; clear hW; go_simp) <;> with_reducible rfl)
  simp only [Act.put, List.getElem_toArray, List.getElem_cons_zero, List.getElem_cons_succ, List.setIfInBounds_toArray, List.set_cons_zero, List.set_cons_succ]
  refine wpAnyH_take (i := 13) (v := ?_) rfl (by kernel_rfl) (by kernel_rfl) (by kernel_rfl) (fun _ _ _ h => h) (Or.inl ⟨by rfl, ?_⟩) hH9 ?_
  rotate_left
  · ((intro W hW; clear hW; go_simp) <;> with_reducible rfl)
  simp only [Act.put, List.getElem_toArray, List.getElem_cons_zero, List.getElem_cons_succ, List.setIfInBounds_toArray, List.set_cons_zero, List.set_cons_succ]
  refine wpAnyH_done (by kernel_rfl) ?_ _
  have R70 := cell_lit hmb 27 _ rfl
  go_wp2_with fail
  clear R70
  with_reducible refine (oaddr_i (b := bm) _ hO HM.out).mono ?_
  rintro e w10 ⟨rfl, b10⟩
  replace hcl := blk_u hcl b10
  replace hmb := blk_u hmb b10
  replace hsb := blk_u hsb b10
  replace kt := kt.trans (kt_below b10)
  replace hO := hO.below b10
  replace bel := bel.trans (b10.mono (Nat.le_trans hlo bel.size))
  clear b10
  go_wp2_with (first | ((with_reducible show wpList _ _ _ (⟨some 11, _, _, _, _, _⟩ :: _) _ _); refine wpList_new_a rfl 34 rfl #[.int .u8 0, .int .u8 0, .int .u8 0, .int .u8 0] (by kernel_rfl) ?_; intro g11 w11 ge hh bb; have d_cl_kb := ne_new (hlt hcl) ge; have d_mb_kb := ne_new (hlt hmb) ge; have d_sb_kb := ne_new (hlt hsb) ge; have okb := Nat.le_trans (Nat.le_trans hlo bel.size) ge; have pkb := Nat.le_trans bel.size ge; have oa_kb := hO.oa ge; replace hcl := blk_u hcl bb; replace hmb := blk_u hmb bb; replace hsb := blk_u hsb bb; replace kt := kt.trans (kt_below bb); replace hO := hO.below bb; replace bel := bel.trans (bb.mono (Nat.le_trans hlo bel.size)); have hkb := hh; clear hh ge bb) | ((with_reducible show wpList _ _ _ (⟨none, Op.store _ (.tmp 11) _, _, _, _, _⟩ :: _) _ _); refine wpList_store_blk rfl 34 (.tmp 11) (.tmp 72) rfl g11 rfl _ rfl _ 34 hkb (by rfl) (by kernel_rfl) (by kernel_rfl) ?_; intro w12 hq gr; replace hcl := blk_a hcl gr d_cl_kb; replace hmb := blk_a hmb gr d_mb_kb; replace hsb := blk_a hsb gr d_sb_kb; replace kt := kt.newer gr pkb bel.size; replace hO := hO.away oa_kb gr; replace bel := below_grown bel gr okb (Nat.le_trans hlo bel.size); clear hkb; have hkb := hq; clear hq gr) | ((with_reducible show wpList _ _ _ (⟨some 76, _, _, _, _, _⟩ :: _) _ _); refine wpList_min rfl (.tmp 75) (.const (.int .i64 1000000000)) 2 2 rfl .i64 sc 1000000000 sc rfl rfl HMN.out ?_) | ((with_reducible show wpList _ _ _ (⟨none, Op.store _ (.tmp 79) _, _, _, _, _⟩ :: _) _ _); refine wpList_store_part rfl 3 (.tmp 79) (.const (.int .i64 3)) rfl gc 7 rfl [.int .i64 3] rfl [.int .u8 m0, .int .u8 m1, .int .u8 m2, .int .u8 m3, .int .u8 m4, .int .u8 m5, .int .i64 now, .int .i64 4, .int .u32 xid, .int .i64 sent, .int .i64 wait, .int .i64 tries, .int .u8 a0, .int .u8 a1, .int .u8 a2, .int .u8 a3, .int .u8 k0, .int .u8 k1, .int .u8 k2, .int .u8 k3, .int .u8 r0, .int .u8 r1, .int .u8 r2, .int .u8 r3, .int .u8 s0, .int .u8 s1, .int .u8 s2, .int .u8 s3, .int .i64 un, .int .i64 t1, .int .i64 t2] 51 hcl (by simp) [.int .u8 m0, .int .u8 m1, .int .u8 m2, .int .u8 m3, .int .u8 m4, .int .u8 m5, .int .i64 now, .int .i64 3, .int .u32 xid, .int .i64 sent, .int .i64 wait, .int .i64 tries, .int .u8 a0, .int .u8 a1, .int .u8 a2, .int .u8 a3, .int .u8 k0, .int .u8 k1, .int .u8 k2, .int .u8 k3, .int .u8 r0, .int .u8 r1, .int .u8 r2, .int .u8 r3, .int .u8 s0, .int .u8 s1, .int .u8 s2, .int .u8 s3, .int .i64 un, .int .i64 t1, .int .i64 t2] rfl (by kernel_rfl) (by rfl) ?_; intro w13 hq gr; replace hmb := blk_a hmb gr (ne_symm d_cl_mb); replace hsb := blk_a hsb gr (ne_symm d_cl_sb); replace hkb := blk_a hkb gr (ne_symm d_cl_kb); replace kt := kt.trans (kt_grown gr hcl (by simp)); replace hO := hO.kt (kt_grown gr hcl (by simp)); replace bel := below_grown bel gr ocl (Nat.le_trans hlo bel.size); clear hcl; have hcl := hq; clear hq gr))
  replace bel := bel.drew
  replace hcl : w13.drew.heap[gc]? = _ := hcl
  replace hmb : w13.drew.heap[g3]? = _ := hmb
  replace hsb : w13.drew.heap[g5]? = _ := hsb
  replace hkb : w13.drew.heap[g11]? = _ := hkb
  replace kt := kt_drew kt
  replace hO := hO.drew
  refine wp_region_z 17 (S := fun W => W.heap[g3]? = some (.cells #[.int .i64 2, .int .i64 z1, .int .u32 xid, .int .i64 z3, .int .i64 z4, .int .u8 z5, .int .u8 z6, .int .u8 z7, .int .u8 z8, .int .u8 y0, .int .u8 y1, .int .u8 y2, .int .u8 y3, .int .u8 z13, .int .u8 z14, .int .u8 z15, .int .u8 z16, .int .u8 z17, .int .u8 z18, .int .u8 z19, .int .u8 z20, .int .u8 h0, .int .u8 h1, .int .u8 h2, .int .u8 h3, .int .u8 h4, .int .u8 h5, .slice A n c] 37 (0, 0)) ∧ W.heap[g11]? = some (.cells #[.int .u8 f0, .int .u8 f1, .int .u8 f2, .int .u8 f3] 34 (0, 0)) ∧ W.heap[g5]? = some (.cells #[.int .u8 e0, .int .u8 e1, .int .u8 e2, .int .u8 e3] 34 (0, 0)) ∧ W.heap[gc]? = some (.cells #[.int .u8 m0, .int .u8 m1, .int .u8 m2, .int .u8 m3, .int .u8 m4, .int .u8 m5, .int .i64 now, .int .i64 3, .int .u32 xid, .int .i64 sent, .int .i64 wait, .int .i64 tries, .int .u8 a0, .int .u8 a1, .int .u8 a2, .int .u8 a3, .int .u8 k0, .int .u8 k1, .int .u8 k2, .int .u8 k3, .int .u8 r0, .int .u8 r1, .int .u8 r2, .int .u8 r3, .int .u8 s0, .int .u8 s1, .int .u8 s2, .int .u8 s3, .int .i64 un, .int .i64 t1, .int .i64 t2] 51 (0, 0))) (by kernel_rfl) ⟨hmb, hkb, hsb, hcl⟩ (fun hH => ?_)
  generalize w13.drew = w14 at bel hcl hmb hsb hkb kt hO hH ⊢
  refine wpAnyZ_take (i := 0) (v := ?_) rfl (by kernel_rfl) (by kernel_rfl) (by kernel_rfl) (fun _ _ _ h => h) (Or.inl ⟨by rfl, ?_⟩) hH ?_
  rotate_left
  · ((intro W hW; clear hW; go_simp) <;> with_reducible rfl)
  simp only [Act.put, List.getElem_toArray, List.getElem_cons_zero, List.setIfInBounds_toArray, List.set_cons_zero, List.set_cons_succ]
  refine wpAnyZ_take (i := 1) (v := ?_) rfl (by kernel_rfl) (by kernel_rfl) (by kernel_rfl) (fun _ _ _ h => h) (Or.inl ⟨by rfl, ?_⟩) hH ?_
  rotate_left
  · ((intro W hW; clear hW; go_simp) <;> with_reducible rfl)
  simp only [Act.put, List.getElem_toArray, List.getElem_cons_zero, List.getElem_cons_succ, List.setIfInBounds_toArray, List.set_cons_zero, List.set_cons_succ]
  refine wpAnyZ_take (i := 2) (v := .agg #[.int .u8 y0, .int .u8 y1, .int .u8 y2, .int .u8 y3]) rfl (by kernel_rfl) (by kernel_rfl) (by kernel_rfl) (fun _ _ _ h => h) (yieldsIf_load_part (by kernel_rfl) 34 _ rfl g3 9 4 rfl _ 37 (0, 0) (fun W hW => hW.1) _ rfl _ Try.underlying34 rfl (by kernel_rfl)) hH ?_
  simp only [Act.put, List.getElem_toArray, List.getElem_cons_zero, List.getElem_cons_succ, List.setIfInBounds_toArray, List.set_cons_zero, List.set_cons_succ]
  refine wpAnyZ_take (i := 3) (v := .agg #[.int .u8 f0, .int .u8 f1, .int .u8 f2, .int .u8 f3]) rfl (by kernel_rfl) (by kernel_rfl) (by kernel_rfl) (fun _ _ _ h => h) (yieldsIf_load_part (by kernel_rfl) 34 _ rfl g11 0 4 rfl _ 34 (0, 0) (fun W hW => hW.2.1) _ rfl _ Try.underlying34 rfl (by kernel_rfl)) hH ?_
  simp only [Act.put, List.getElem_toArray, List.getElem_cons_zero, List.getElem_cons_succ, List.setIfInBounds_toArray, List.set_cons_zero, List.set_cons_succ]
  refine wpAnyZ_take (i := 4) (v := ?_) rfl (by kernel_rfl) (by kernel_rfl) (by kernel_rfl) (fun _ _ _ h => h) (Or.inl ⟨by rfl, ?_⟩) hH ?_
  rotate_left
  · ((intro W hW; clear hW; go_simp) <;> with_reducible rfl)
  simp only [Act.put, List.getElem_toArray, List.getElem_cons_zero, List.getElem_cons_succ, List.setIfInBounds_toArray, List.set_cons_zero, List.set_cons_succ]
  refine wpAnyZ_take (i := 5) (v := ?_) rfl (by kernel_rfl) (by kernel_rfl) (by kernel_rfl) (fun _ _ _ h => h) (Or.inl ⟨by rfl, ?_⟩) hH ?_
  rotate_left
  · ((intro W hW; have hk := cell_lit (hW.1) 27 _ rfl; clear hW; go_simp) <;> with_reducible rfl)
  simp only [Act.put, List.getElem_toArray, List.getElem_cons_zero, List.getElem_cons_succ, List.setIfInBounds_toArray, List.set_cons_zero, List.set_cons_succ]
  refine wpAnyZ_take (i := 7) (v := .agg #[.int .u8 e0, .int .u8 e1, .int .u8 e2, .int .u8 e3]) rfl (by kernel_rfl) (by kernel_rfl) (by kernel_rfl) (fun _ _ _ h => h) (yieldsIf_load_part (by kernel_rfl) 34 _ rfl g5 0 4 rfl _ 34 (0, 0) (fun W hW => hW.2.2.1) _ rfl _ Try.underlying34 rfl (by kernel_rfl)) hH ?_
  simp only [Act.put, List.getElem_toArray, List.getElem_cons_zero, List.getElem_cons_succ, List.setIfInBounds_toArray, List.set_cons_zero, List.set_cons_succ]
  refine wpAnyZ_take (i := 8) (v := ?_) rfl (by kernel_rfl) (by kernel_rfl) (by kernel_rfl) (fun _ _ _ h => h) (Or.inl ⟨by rfl, ?_⟩) hH ?_
  rotate_left
  · ((intro W hW; clear hW; go_simp) <;> with_reducible rfl)
  simp only [Act.put, List.getElem_toArray, List.getElem_cons_zero, List.getElem_cons_succ, List.setIfInBounds_toArray, List.set_cons_zero, List.set_cons_succ]
  refine wpAnyZ_take (i := 9) (v := ?_) rfl (by kernel_rfl) (by kernel_rfl) (by kernel_rfl) (fun _ _ _ h => h) (Or.inl ⟨by rfl, ?_⟩) hH ?_
  rotate_left
  · ((intro W hW; clear hW; go_simp) <;> with_reducible rfl)
  simp only [Act.put, List.getElem_toArray, List.getElem_cons_zero, List.getElem_cons_succ, List.setIfInBounds_toArray, List.set_cons_zero, List.set_cons_succ]
  refine wpAnyZ_take (i := 10) (v := ?_) rfl (by kernel_rfl) (by kernel_rfl) (by kernel_rfl) (fun _ _ _ h => h) (Or.inl ⟨by rfl, ?_⟩) hH ?_
  rotate_left
  · ((intro W hW; clear hW; go_simp) <;> with_reducible rfl)
  simp only [Act.put, List.getElem_toArray, List.getElem_cons_zero, List.getElem_cons_succ, List.setIfInBounds_toArray, List.set_cons_zero, List.set_cons_succ]
  refine wpAnyZ_take (i := 11) (v := ?_) rfl (by kernel_rfl) (by kernel_rfl) (by kernel_rfl) (fun _ _ _ h => h) (Or.inl ⟨by rfl, ?_⟩) hH ?_
  rotate_left
  · ((intro W hW; have hk := cell_lit (hW.2.2.2) 6 _ rfl; clear hW; go_simp) <;> with_reducible rfl)
  simp only [Act.put, List.getElem_toArray, List.getElem_cons_zero, List.getElem_cons_succ, List.setIfInBounds_toArray, List.set_cons_zero, List.set_cons_succ]
  refine wpAnyZ_take (i := 12) (v := ?_) rfl (by kernel_rfl) (by kernel_rfl) (by kernel_rfl) (fun _ _ _ h => h) (Or.inl ⟨by rfl, ?_⟩) hH ?_
  rotate_left
  · ((intro W hW; clear hW; go_simp) <;> with_reducible rfl)
  simp only [Act.put, List.getElem_toArray, List.getElem_cons_zero, List.getElem_cons_succ, List.setIfInBounds_toArray, List.set_cons_zero, List.set_cons_succ]
  refine wpAnyZ_take (i := 13) (v := ?_) rfl (by kernel_rfl) (by kernel_rfl) (by kernel_rfl) (fun _ _ _ h => h) (Or.inl ⟨by rfl, ?_⟩) hH ?_
  rotate_left
  · ((intro W hW; clear hW; go_simp) <;> with_reducible rfl)
  simp only [Act.put, List.getElem_toArray, List.getElem_cons_zero, List.getElem_cons_succ, List.setIfInBounds_toArray, List.set_cons_zero, List.set_cons_succ]
  refine wpAnyZ_ready (rs := [6]) (by kernel_rfl) (by simp) ?_
  refine AllReadyZ.cons (o := _) rfl (fun K hK => ?_) AllReadyZ.nil
  simp only [List.getElem_toArray, List.getElem_cons_zero, List.getElem_cons_succ]
  go_simp
  with_reducible refine (lfirst_i _ hO HR.out).mono ?_
  rintro e w15 ⟨rfl, b15⟩
  dsimp only
  replace hcl := blk_u hcl b15
  replace hmb := blk_u hmb b15
  replace hsb := blk_u hsb b15
  replace hkb := blk_u hkb b15
  replace kt := kt.trans (kt_below b15)
  replace hO := hO.below b15
  replace bel := bel.trans (b15.mono (Nat.le_trans hlo bel.size))
  clear b15
  refine hK.out _ _ ⟨hmb, hkb, hsb, hcl⟩ (fun hH16 => ?_)
  clear hK K
  refine wpAnyZ_take (i := 14) (v := ?_) rfl (by kernel_rfl) (by kernel_rfl) (by kernel_rfl) (fun _ _ _ h => h) (Or.inl ⟨by rfl, ?_⟩) hH16 ?_
  rotate_left
  · ((intro W hW; clear hW; go_simp) <;> with_reducible rfl)
  simp only [Act.put, List.getElem_toArray, List.getElem_cons_zero, List.getElem_cons_succ, List.setIfInBounds_toArray, List.set_cons_zero, List.set_cons_succ]
  refine wpAnyZ_take (i := 15) (v := ?_) rfl (by kernel_rfl) (by kernel_rfl) (by kernel_rfl) (fun _ _ _ h => h) (Or.inl ⟨by rfl, ?_⟩) hH16 ?_
  rotate_left
  · ((intro W hW; clear hW; go_simp) <;> with_reducible rfl)
  simp only [Act.put, List.getElem_toArray, List.getElem_cons_zero, List.getElem_cons_succ, List.setIfInBounds_toArray, List.set_cons_zero, List.set_cons_succ]
  refine wpAnyZ_take (i := 16) (v := ?_) rfl (by kernel_rfl) (by kernel_rfl) (by kernel_rfl) (fun _ _ _ h => h) (Or.inl ⟨by rfl, ?_⟩) hH16 ?_
  rotate_left
  · ((intro W hW; clear hW; go_simp) <;> with_reducible rfl)
  simp only [Act.put, List.getElem_toArray, List.getElem_cons_zero, List.getElem_cons_succ, List.setIfInBounds_toArray, List.set_cons_zero, List.set_cons_succ]
  refine wpAnyZ_ready (rs := [17]) (by kernel_rfl) (by simp) ?_
  refine AllReadyZ.last (o := _) rfl (fun K hK => ?_)
  simp only [List.getElem_toArray, List.getElem_cons_zero, List.getElem_cons_succ]
  rw [if_pos (by rfl)]
  refine wp_store_part 41 (.tmp 96) (.tmp 94) rfl gc 12 rfl [.int .u8 y0, .int .u8 y1, .int .u8 y2, .int .u8 y3, .int .u8 f0, .int .u8 f1, .int .u8 f2, .int .u8 f3, .int .u8 u0, .int .u8 u1, .int .u8 u2, .int .u8 u3, .int .u8 e0, .int .u8 e1, .int .u8 e2, .int .u8 e3, .int .i64 nu] rfl [.int .u8 m0, .int .u8 m1, .int .u8 m2, .int .u8 m3, .int .u8 m4, .int .u8 m5, .int .i64 now, .int .i64 3, .int .u32 xid, .int .i64 sent, .int .i64 wait, .int .i64 tries, .int .u8 a0, .int .u8 a1, .int .u8 a2, .int .u8 a3, .int .u8 k0, .int .u8 k1, .int .u8 k2, .int .u8 k3, .int .u8 r0, .int .u8 r1, .int .u8 r2, .int .u8 r3, .int .u8 s0, .int .u8 s1, .int .u8 s2, .int .u8 s3, .int .i64 un, .int .i64 t1, .int .i64 t2] 51 hcl (by simp) [.int .u8 m0, .int .u8 m1, .int .u8 m2, .int .u8 m3, .int .u8 m4, .int .u8 m5, .int .i64 now, .int .i64 3, .int .u32 xid, .int .i64 sent, .int .i64 wait, .int .i64 tries, .int .u8 y0, .int .u8 y1, .int .u8 y2, .int .u8 y3, .int .u8 f0, .int .u8 f1, .int .u8 f2, .int .u8 f3, .int .u8 u0, .int .u8 u1, .int .u8 u2, .int .u8 u3, .int .u8 e0, .int .u8 e1, .int .u8 e2, .int .u8 e3, .int .i64 nu, .int .i64 t1, .int .i64 t2] rfl (by kernel_rfl) (by rfl) ?_
  intro w17 hq gr
  replace hmb := blk_a hmb gr (ne_symm d_cl_mb)
  replace hsb := blk_a hsb gr (ne_symm d_cl_sb)
  replace hkb := blk_a hkb gr (ne_symm d_cl_kb)
  replace kt := kt.trans (kt_grown gr hcl (by simp))
  replace hO := hO.kt (kt_grown gr hcl (by simp))
  replace bel := below_grown bel gr ocl (Nat.le_trans hlo bel.size)
  clear hcl
  have hcl := hq
  clear hq gr
  refine hK.out _ _ trivial (fun hH18 => ?_)
  clear hK K
  simp only [Act.put]
  refine wpAnyZ_done (by kernel_rfl) ?_ _
  have R101 := cell_lit hcl 6 _ rfl
  go_wp2_with (first | ((with_reducible show wpList _ _ _ (⟨none, Op.store _ (.tmp 106) _, _, _, _, _⟩ :: _) _ _); refine wpList_store_part rfl 2 (.tmp 106) (.tmp 104) rfl gc 29 rfl [.int .i64 n1] rfl [.int .u8 m0, .int .u8 m1, .int .u8 m2, .int .u8 m3, .int .u8 m4, .int .u8 m5, .int .i64 now, .int .i64 3, .int .u32 xid, .int .i64 sent, .int .i64 wait, .int .i64 tries, .int .u8 y0, .int .u8 y1, .int .u8 y2, .int .u8 y3, .int .u8 f0, .int .u8 f1, .int .u8 f2, .int .u8 f3, .int .u8 u0, .int .u8 u1, .int .u8 u2, .int .u8 u3, .int .u8 e0, .int .u8 e1, .int .u8 e2, .int .u8 e3, .int .i64 nu, .int .i64 t1, .int .i64 t2] 51 hcl (by simp) [.int .u8 m0, .int .u8 m1, .int .u8 m2, .int .u8 m3, .int .u8 m4, .int .u8 m5, .int .i64 now, .int .i64 3, .int .u32 xid, .int .i64 sent, .int .i64 wait, .int .i64 tries, .int .u8 y0, .int .u8 y1, .int .u8 y2, .int .u8 y3, .int .u8 f0, .int .u8 f1, .int .u8 f2, .int .u8 f3, .int .u8 u0, .int .u8 u1, .int .u8 u2, .int .u8 u3, .int .u8 e0, .int .u8 e1, .int .u8 e2, .int .u8 e3, .int .i64 nu, .int .i64 n1, .int .i64 t2] rfl (by kernel_rfl) (by rfl) ?_; intro w19 hq gr; replace hmb := blk_a hmb gr (ne_symm d_cl_mb); replace hsb := blk_a hsb gr (ne_symm d_cl_sb); replace hkb := blk_a hkb gr (ne_symm d_cl_kb); replace kt := kt.trans (kt_grown gr hcl (by simp)); replace hO := hO.kt (kt_grown gr hcl (by simp)); replace bel := below_grown bel gr ocl (Nat.le_trans hlo bel.size); clear hcl; have hcl := hq; clear hq gr; have R111 := cell_lit hcl 6 _ rfl) | ((with_reducible show wpList _ _ _ (⟨none, Op.store _ (.tmp 117) _, _, _, _, _⟩ :: _) _ _); refine wpList_store_part rfl 2 (.tmp 117) (.tmp 115) rfl gc 30 rfl [.int .i64 n2] rfl [.int .u8 m0, .int .u8 m1, .int .u8 m2, .int .u8 m3, .int .u8 m4, .int .u8 m5, .int .i64 now, .int .i64 3, .int .u32 xid, .int .i64 sent, .int .i64 wait, .int .i64 tries, .int .u8 y0, .int .u8 y1, .int .u8 y2, .int .u8 y3, .int .u8 f0, .int .u8 f1, .int .u8 f2, .int .u8 f3, .int .u8 u0, .int .u8 u1, .int .u8 u2, .int .u8 u3, .int .u8 e0, .int .u8 e1, .int .u8 e2, .int .u8 e3, .int .i64 nu, .int .i64 n1, .int .i64 t2] 51 hcl (by simp) [.int .u8 m0, .int .u8 m1, .int .u8 m2, .int .u8 m3, .int .u8 m4, .int .u8 m5, .int .i64 now, .int .i64 3, .int .u32 xid, .int .i64 sent, .int .i64 wait, .int .i64 tries, .int .u8 y0, .int .u8 y1, .int .u8 y2, .int .u8 y3, .int .u8 f0, .int .u8 f1, .int .u8 f2, .int .u8 f3, .int .u8 u0, .int .u8 u1, .int .u8 u2, .int .u8 u3, .int .u8 e0, .int .u8 e1, .int .u8 e2, .int .u8 e3, .int .i64 nu, .int .i64 n1, .int .i64 n2] rfl (by kernel_rfl) (by rfl) ?_; intro w20 hq gr; replace hmb := blk_a hmb gr (ne_symm d_cl_mb); replace hsb := blk_a hsb gr (ne_symm d_cl_sb); replace hkb := blk_a hkb gr (ne_symm d_cl_kb); replace kt := kt.trans (kt_grown gr hcl (by simp)); replace hO := hO.kt (kt_grown gr hcl (by simp)); replace bel := below_grown bel gr ocl (Nat.le_trans hlo bel.size); clear hcl; have hcl := hq; clear hq gr))
  try clear R101
  try clear R111
  go_ret
  exact ⟨rfl, ⟨hcl, ocl⟩, kt, bel⟩
set_option linter.unusedVariables false in
set_option linter.unusedSimpArgs false in
set_option maxRecDepth 100000 in
set_option maxHeartbeats 16000000 in
theorem lbind_5 {lo gc : Nat} {m0 m1 m2 m3 m4 m5 now xid sent wait tries a0 a1 a2 a3 k0 k1 k2 k3 r0 r1 r2 r3 s0 s1 s2 s3 un t1 t2 : Int} {z1 z3 z4 z5 z6 z7 z8 y0 y1 y2 y3 z13 z14 z15 z16 z17 z18 z19 z20 h0 h1 h2 h3 h4 h5 : Int} {A : Option Addr} {n c : Nat} {hs : List Oh} {L : OptL} {e0 e1 e2 e3 : Int} {f0 f1 f2 f3 u0 u1 u2 u3 sc nu n1 n2 : Int} {bm : Bool} (w : World) (hT : Cl lo gc w #[.int .u8 m0, .int .u8 m1, .int .u8 m2, .int .u8 m3, .int .u8 m4, .int .u8 m5, .int .i64 now, .int .i64 5, .int .u32 xid, .int .i64 sent, .int .i64 wait, .int .i64 tries, .int .u8 a0, .int .u8 a1, .int .u8 a2, .int .u8 a3, .int .u8 k0, .int .u8 k1, .int .u8 k2, .int .u8 k3, .int .u8 r0, .int .u8 r1, .int .u8 r2, .int .u8 r3, .int .u8 s0, .int .u8 s1, .int .u8 s2, .int .u8 s3, .int .i64 un, .int .i64 t1, .int .i64 t2]) (hO : Opv w A n c hs L) (h54 : I4 (findL L 54) e0 e1 e2 e3 true) (hy : ∀ W, (binOp .eql 34 (.agg #[.int .u8 y0, .int .u8 y1, .int .u8 y2, .int .u8 y3]) (.agg #[.int .u8 0, .int .u8 0, .int .u8 0, .int .u8 0])).run Try.prog W = .ok (.bool false) W) (hya : ∀ W, (binOp .neq 34 (.agg #[.int .u8 y0, .int .u8 y1, .int .u8 y2, .int .u8 y3]) (.agg #[.int .u8 a0, .int .u8 a1, .int .u8 a2, .int .u8 a3])).run Try.prog W = .ok (.bool false) W) (hsc : I1 (findL L 51) sc true) (hs0 : 60 ≤ sc) (hs1 : sc ≤ 1000000000) (hm : I4 (findL L 1) f0 f1 f2 f3 bm) (hr : I4 (findL L 3) u0 u1 u2 u3 true) (hnu : IntKind.i64.wrap (now + sc) = nu) (hn1 : IntKind.i64.wrap (now + sc / 2) = n1) (hn2 : IntKind.i64.wrap (now + sc * 7 / 8) = n2) : Calls Try.prog 30 #[.pointer (some ⟨gc, 0, none⟩), .agg #[.int .i64 2, .int .i64 z1, .int .u32 xid, .int .i64 z3, .int .i64 z4, .int .u8 z5, .int .u8 z6, .int .u8 z7, .int .u8 z8, .int .u8 y0, .int .u8 y1, .int .u8 y2, .int .u8 y3, .int .u8 z13, .int .u8 z14, .int .u8 z15, .int .u8 z16, .int .u8 z17, .int .u8 z18, .int .u8 z19, .int .u8 z20, .int .u8 h0, .int .u8 h1, .int .u8 h2, .int .u8 h3, .int .u8 h4, .int .u8 h5, .slice A n c]] w fun e w' => e = .returned (.bool false) ∧ Cl lo gc w' #[.int .u8 m0, .int .u8 m1, .int .u8 m2, .int .u8 m3, .int .u8 m4, .int .u8 m5, .int .i64 now, .int .i64 3, .int .u32 xid, .int .i64 sent, .int .i64 wait, .int .i64 tries, .int .u8 y0, .int .u8 y1, .int .u8 y2, .int .u8 y3, .int .u8 f0, .int .u8 f1, .int .u8 f2, .int .u8 f3, .int .u8 u0, .int .u8 u1, .int .u8 u2, .int .u8 u3, .int .u8 e0, .int .u8 e1, .int .u8 e2, .int .u8 e3, .int .i64 nu, .int .i64 n1, .int .i64 n2] ∧ Kt [51] w w' ∧ Below lo w w' := by
  obtain ⟨hcl, ocl⟩ := hT
  have hlo : lo ≤ w.heap.size := Nat.le_trans ocl (Nat.le_of_lt (hlt hcl))
  have kt := Kt.refl [51] w
  have H54 := Lib.hid h54
  clear h54
  have HSC := Lib.hid hsc
  clear hsc
  have HM := Lib.hid hm
  clear hm
  have HR := Lib.hid hr
  clear hr
  have HMN : Hid ((if (1000000000 : Int) < sc then 1000000000 else sc) = sc) := Lib.hid (if_neg (by omega))
  have hlt60 : decide (sc < 60) = false := decide_eq_false (by omega)
  have hws : IntKind.i64.wrap sc = sc := IntWalk.i64_in _ (by omega)
  have hw7 : IntKind.i64.wrap (sc * 7) = sc * 7 := IntWalk.i64_in _ (by omega)
  have hq2 : Int.tdiv sc 2 = sc / 2 := Int.tdiv_eq_ediv_of_nonneg (by omega)
  have hq8 : Int.tdiv (sc * 7) 8 = sc * 7 / 8 := Int.tdiv_eq_ediv_of_nonneg (by omega)
  have hwh : IntKind.i64.wrap (sc / 2) = sc / 2 := IntWalk.i64_in _ (by omega)
  have hwe : IntKind.i64.wrap (sc * 7 / 8) = sc * 7 / 8 := IntWalk.i64_in _ (by omega)
  have HS0 := Lib.hid hs0
  have HS1 := Lib.hid hs1
  have s0_ : 0 ≤ sc := by omega
  clear hs0 hs1
  have bel := Below.refl lo w
  go_enter Try.func30, Try.ntmps30
  go_wp2_with (first | ((with_reducible show wpList _ _ _ (⟨some 3, _, _, _, _, _⟩ :: _) _ _); refine wpList_box_n rfl 37 (.tmp 1) rfl #[.int .i64 2, .int .i64 z1, .int .u32 xid, .int .i64 z3, .int .i64 z4, .int .u8 z5, .int .u8 z6, .int .u8 z7, .int .u8 z8, .int .u8 y0, .int .u8 y1, .int .u8 y2, .int .u8 y3, .int .u8 z13, .int .u8 z14, .int .u8 z15, .int .u8 z16, .int .u8 z17, .int .u8 z18, .int .u8 z19, .int .u8 z20, .int .u8 h0, .int .u8 h1, .int .u8 h2, .int .u8 h3, .int .u8 h4, .int .u8 h5, .slice A n c] rfl ?_; intro g3 w1 ge lt hh bb; have d_cl_mb := ne_new (hlt hcl) ge; have omb := Nat.le_trans (Nat.le_trans hlo bel.size) ge; have pmb := Nat.le_trans bel.size ge; have oa_mb := hO.oa ge; replace hcl := blk_u hcl bb; replace kt := kt.trans (kt_below bb); replace hO := hO.below bb; replace bel := bel.trans (bb.mono (Nat.le_trans hlo bel.size)); have hmb := hh; clear hh lt ge bb; have R16 := cell_lit hmb 27 _ rfl))
  try clear R16
  with_reducible refine (oaddr_i (b := true) _ hO H54.out).mono ?_
  rintro e w2 ⟨rfl, b2⟩
  replace hcl := blk_u hcl b2
  replace hmb := blk_u hmb b2
  replace kt := kt.trans (kt_below b2)
  replace hO := hO.below b2
  replace bel := bel.trans (b2.mono (Nat.le_trans hlo bel.size))
  clear b2
  go_wp2_with (first | ((with_reducible show wpList _ _ _ (⟨some 5, _, _, _, _, _⟩ :: _) _ _); refine wpList_new_a rfl 34 rfl #[.int .u8 0, .int .u8 0, .int .u8 0, .int .u8 0] (by kernel_rfl) ?_; intro g5 w3 ge hh bb; have d_cl_sb := ne_new (hlt hcl) ge; have d_mb_sb := ne_new (hlt hmb) ge; have osb := Nat.le_trans (Nat.le_trans hlo bel.size) ge; have psb := Nat.le_trans bel.size ge; have oa_sb := hO.oa ge; replace hcl := blk_u hcl bb; replace hmb := blk_u hmb bb; replace kt := kt.trans (kt_below bb); replace hO := hO.below bb; replace bel := bel.trans (bb.mono (Nat.le_trans hlo bel.size)); have hsb := hh; clear hh ge bb) | ((with_reducible show wpList _ _ _ (⟨none, Op.store _ (.tmp 5) _, _, _, _, _⟩ :: _) _ _); refine wpList_store_blk rfl 34 (.tmp 5) (.tmp 18) rfl g5 rfl _ rfl _ 34 hsb (by rfl) (by kernel_rfl) (by kernel_rfl) ?_; intro w4 hq gr; replace hcl := blk_a hcl gr d_cl_sb; replace hmb := blk_a hmb gr d_mb_sb; replace kt := kt.newer gr psb bel.size; replace hO := hO.away oa_sb gr; replace bel := below_grown bel gr osb (Nat.le_trans hlo bel.size); clear hsb; have hsb := hq; clear hq gr))
  replace bel := bel.drew
  replace hcl : w4.drew.heap[gc]? = _ := hcl
  replace hmb : w4.drew.heap[g3]? = _ := hmb
  replace hsb : w4.drew.heap[g5]? = _ := hsb
  replace kt := kt_drew kt
  replace hO := hO.drew
  refine wp_region_held_drew (S := fun W => W.heap[gc]? = some (.cells #[.int .u8 m0, .int .u8 m1, .int .u8 m2, .int .u8 m3, .int .u8 m4, .int .u8 m5, .int .i64 now, .int .i64 5, .int .u32 xid, .int .i64 sent, .int .i64 wait, .int .i64 tries, .int .u8 a0, .int .u8 a1, .int .u8 a2, .int .u8 a3, .int .u8 k0, .int .u8 k1, .int .u8 k2, .int .u8 k3, .int .u8 r0, .int .u8 r1, .int .u8 r2, .int .u8 r3, .int .u8 s0, .int .u8 s1, .int .u8 s2, .int .u8 s3, .int .i64 un, .int .i64 t1, .int .i64 t2] 51 (0, 0)) ∧ W.heap[g5]? = some (.cells #[.int .u8 e0, .int .u8 e1, .int .u8 e2, .int .u8 e3] 34 (0, 0))) (by kernel_rfl) ⟨hcl, hsb⟩ (fun hH => ?_)
  generalize w4.drew = w5 at bel hcl hmb hsb kt hO hH ⊢
  refine wpAnyH_take (i := 0) (v := ?_) rfl (by kernel_rfl) (by kernel_rfl) (by kernel_rfl) (fun _ _ _ h => h) (Or.inl ⟨by rfl, ?_⟩) hH ?_
  rotate_left
  · ((intro W hW; clear hW; go_simp) <;> with_reducible rfl)
  simp only [Act.put, List.getElem_toArray, List.getElem_cons_zero, List.setIfInBounds_toArray, List.set_cons_zero, List.set_cons_succ]
  refine wpAnyH_take (i := 1) (v := ?_) rfl (by kernel_rfl) (by kernel_rfl) (by kernel_rfl) (fun _ _ _ h => h) (Or.inl ⟨by rfl, ?_⟩) hH ?_
  rotate_left
  · ((intro W hW; clear hW; go_simp) <;> with_reducible rfl)
  simp only [Act.put, List.getElem_toArray, List.getElem_cons_zero, List.getElem_cons_succ, List.setIfInBounds_toArray, List.set_cons_zero, List.set_cons_succ]
  refine wpAnyH_take (i := 2) (v := ?_) rfl (by kernel_rfl) (by kernel_rfl) (by kernel_rfl) (fun _ _ _ h => h) (Or.inl ⟨by rfl, ?_⟩) hH ?_
  rotate_left
  · ((intro W hW; clear hW; go_simp) <;> with_reducible rfl)
  simp only [Act.put, List.getElem_toArray, List.getElem_cons_zero, List.getElem_cons_succ, List.setIfInBounds_toArray, List.set_cons_zero, List.set_cons_succ]
  refine wpAnyH_take (i := 3) (v := ?_) rfl (by kernel_rfl) (by kernel_rfl) (by kernel_rfl) (fun _ _ _ h => h) (Or.inl ⟨by rfl, ?_⟩) hH ?_
  rotate_left
  · ((intro W hW; have hk := cell_lit (hW.1) 7 _ rfl; clear hW; go_simp) <;> with_reducible rfl)
  simp only [Act.put, List.getElem_toArray, List.getElem_cons_zero, List.getElem_cons_succ, List.setIfInBounds_toArray, List.set_cons_zero, List.set_cons_succ]
  refine wpAnyH_take (i := 4) (v := ?_) rfl (by kernel_rfl) (by kernel_rfl) (by kernel_rfl) (fun _ _ _ h => h) (Or.inl ⟨by rfl, ?_⟩) hH ?_
  rotate_left
  · ((intro W hW; clear hW; go_simp) <;> with_reducible rfl)
  simp only [Act.put, List.getElem_toArray, List.getElem_cons_zero, List.getElem_cons_succ, List.setIfInBounds_toArray, List.set_cons_zero, List.set_cons_succ]
  refine wpAnyH_take (i := 5) (v := ?_) rfl (by kernel_rfl) (by kernel_rfl) (by kernel_rfl) (fun _ _ _ h => h) (Or.inl ⟨by rfl, ?_⟩) hH ?_
  rotate_left
  · ((intro W hW; clear hW; go_simp) <;> with_reducible rfl)
  simp only [Act.put, List.getElem_toArray, List.getElem_cons_zero, List.getElem_cons_succ, List.setIfInBounds_toArray, List.set_cons_zero, List.set_cons_succ]
  refine wpAnyH_take (i := 6) (v := undef) rfl (by kernel_rfl) (by kernel_rfl) (by kernel_rfl) (fun _ _ _ h => h) (Or.inr ⟨by rfl, rfl⟩) hH ?_
  simp only [Act.put, List.getElem_toArray, List.getElem_cons_zero, List.getElem_cons_succ, List.setIfInBounds_toArray, List.set_cons_zero, List.set_cons_succ]
  refine wpAnyH_take (i := 7) (v := undef) rfl (by kernel_rfl) (by kernel_rfl) (by kernel_rfl) (fun _ _ _ h => h) (Or.inr ⟨by rfl, rfl⟩) hH ?_
  simp only [Act.put, List.getElem_toArray, List.getElem_cons_zero, List.getElem_cons_succ, List.setIfInBounds_toArray, List.set_cons_zero, List.set_cons_succ]
  refine wpAnyH_take (i := 8) (v := undef) rfl (by kernel_rfl) (by kernel_rfl) (by kernel_rfl) (fun _ _ _ h => h) (Or.inr ⟨by rfl, rfl⟩) hH ?_
  simp only [Act.put, List.getElem_toArray, List.getElem_cons_zero, List.getElem_cons_succ, List.setIfInBounds_toArray, List.set_cons_zero, List.set_cons_succ]
  refine wpAnyH_take (i := 9) (v := undef) rfl (by kernel_rfl) (by kernel_rfl) (by kernel_rfl) (fun _ _ _ h => h) (Or.inr ⟨by rfl, rfl⟩) hH ?_
  simp only [Act.put, List.getElem_toArray, List.getElem_cons_zero, List.getElem_cons_succ, List.setIfInBounds_toArray, List.set_cons_zero, List.set_cons_succ]
  refine wpAnyH_take (i := 10) (v := undef) rfl (by kernel_rfl) (by kernel_rfl) (by kernel_rfl) (fun _ _ _ h => h) (Or.inr ⟨by rfl, rfl⟩) hH ?_
  simp only [Act.put, List.getElem_toArray, List.getElem_cons_zero, List.getElem_cons_succ, List.setIfInBounds_toArray, List.set_cons_zero, List.set_cons_succ]
  refine wpAnyH_take (i := 11) (v := undef) rfl (by kernel_rfl) (by kernel_rfl) (by kernel_rfl) (fun _ _ _ h => h) (Or.inr ⟨by rfl, rfl⟩) hH ?_
  simp only [Act.put, List.getElem_toArray, List.getElem_cons_zero, List.getElem_cons_succ, List.setIfInBounds_toArray, List.set_cons_zero, List.set_cons_succ]
  refine wpAnyH_take (i := 12) (v := undef) rfl (by kernel_rfl) (by kernel_rfl) (by kernel_rfl) (fun _ _ _ h => h) (Or.inr ⟨by rfl, rfl⟩) hH ?_
  simp only [Act.put, List.getElem_toArray, List.getElem_cons_zero, List.getElem_cons_succ, List.setIfInBounds_toArray, List.set_cons_zero, List.set_cons_succ]
  refine wpAnyH_take (i := 13) (v := ?_) rfl (by kernel_rfl) (by kernel_rfl) (by kernel_rfl) (fun _ _ _ h => h) (Or.inl ⟨by rfl, ?_⟩) hH ?_
  rotate_left
  · ((intro W hW; clear hW; go_simp) <;> with_reducible rfl)
  simp only [Act.put, List.getElem_toArray, List.getElem_cons_zero, List.getElem_cons_succ, List.setIfInBounds_toArray, List.set_cons_zero, List.set_cons_succ]
  refine wpAnyH_take (i := 14) (v := ?_) rfl (by kernel_rfl) (by kernel_rfl) (by kernel_rfl) (fun _ _ _ h => h) (Or.inl ⟨by rfl, ?_⟩) hH ?_
  rotate_left
  · ((intro W hW; clear hW; go_simp) <;> with_reducible rfl)
  simp only [Act.put, List.getElem_toArray, List.getElem_cons_zero, List.getElem_cons_succ, List.setIfInBounds_toArray, List.set_cons_zero, List.set_cons_succ]
  refine wpAnyH_done (by kernel_rfl) ?_ _
  have R36 := cell_lit hmb 27 _ rfl
  go_wp2_with fail
  clear R36
  with_reducible refine (osecs_i _ hO HSC.out).mono ?_
  rintro e w6 ⟨rfl, b6⟩
  replace hcl := blk_u hcl b6
  replace hmb := blk_u hmb b6
  replace hsb := blk_u hsb b6
  replace kt := kt.trans (kt_below b6)
  replace hO := hO.below b6
  replace bel := bel.trans (b6.mono (Nat.le_trans hlo bel.size))
  clear b6
  have R52 := Lib.hid (range_lit hmb 9 4 [.int .u8 y0, .int .u8 y1, .int .u8 y2, .int .u8 y3] rfl)
  go_wp2_with (first | ((with_reducible show wpList _ _ _ (⟨some 52, _, _, _, _, _⟩ :: _) _ _); refine wpList_load_rng 34 (.tmp 51) rfl (by kernel_rfl) _ _ rfl _ R52.out _ Try.underlying34 rfl (by kernel_rfl) ?_))
  try clear R52
  with_reducible refine (lnone (b := false) _ hy).mono ?_
  rintro e w7 ⟨rfl, b7⟩
  replace hcl := blk_u hcl b7
  replace hmb := blk_u hmb b7
  replace hsb := blk_u hsb b7
  replace kt := kt.trans (kt_below b7)
  replace hO := hO.below b7
  replace bel := bel.trans (b7.mono (Nat.le_trans hlo bel.size))
  clear b7
  go_wp2_with fail
  replace bel := bel.drew
  replace hcl : w7.drew.heap[gc]? = _ := hcl
  replace hmb : w7.drew.heap[g3]? = _ := hmb
  replace hsb : w7.drew.heap[g5]? = _ := hsb
  replace kt := kt_drew kt
  replace hO := hO.drew
  refine wp_region_held_drew (S := fun W => W.heap[g3]? = some (.cells #[.int .i64 2, .int .i64 z1, .int .u32 xid, .int .i64 z3, .int .i64 z4, .int .u8 z5, .int .u8 z6, .int .u8 z7, .int .u8 z8, .int .u8 y0, .int .u8 y1, .int .u8 y2, .int .u8 y3, .int .u8 z13, .int .u8 z14, .int .u8 z15, .int .u8 z16, .int .u8 z17, .int .u8 z18, .int .u8 z19, .int .u8 z20, .int .u8 h0, .int .u8 h1, .int .u8 h2, .int .u8 h3, .int .u8 h4, .int .u8 h5, .slice A n c] 37 (0, 0)) ∧ W.heap[gc]? = some (.cells #[.int .u8 m0, .int .u8 m1, .int .u8 m2, .int .u8 m3, .int .u8 m4, .int .u8 m5, .int .i64 now, .int .i64 5, .int .u32 xid, .int .i64 sent, .int .i64 wait, .int .i64 tries, .int .u8 a0, .int .u8 a1, .int .u8 a2, .int .u8 a3, .int .u8 k0, .int .u8 k1, .int .u8 k2, .int .u8 k3, .int .u8 r0, .int .u8 r1, .int .u8 r2, .int .u8 r3, .int .u8 s0, .int .u8 s1, .int .u8 s2, .int .u8 s3, .int .i64 un, .int .i64 t1, .int .i64 t2] 51 (0, 0))) (by kernel_rfl) ⟨hmb, hcl⟩ (fun hH => ?_)
  generalize w7.drew = w8 at bel hcl hmb hsb kt hO hH ⊢
  refine wpAnyH_take (i := 0) (v := ?_) rfl (by kernel_rfl) (by kernel_rfl) (by kernel_rfl) (fun _ _ _ h => h) (Or.inl ⟨by rfl, ?_⟩) hH ?_
  rotate_left
  · ((intro W hW; clear hW; go_simp) <;> with_reducible rfl)
  simp only [Act.put, List.getElem_toArray, List.getElem_cons_zero, List.setIfInBounds_toArray, List.set_cons_zero, List.set_cons_succ]
  refine wpAnyH_ready (rs := [1]) (by kernel_rfl) (by simp) ?_
  refine AllReadyH.cons (o := _) rfl (fun K hK => ?_) AllReadyH.nil
  simp only [List.getElem_toArray, List.getElem_cons_zero, List.getElem_cons_succ]
  go_simp
  with_reducible refine (lbound_is (b := true) _ (cl_of hcl) (by decide)).mono ?_
  rintro e _ ⟨rfl, rfl⟩
  dsimp only
  refine hK.out _ _ ⟨hmb, hcl⟩ (fun hH9 => ?_)
  clear hK K
  refine wpAnyH_take (i := 2) (v := ?_) rfl (by kernel_rfl) (by kernel_rfl) (by kernel_rfl) (fun _ _ _ h => h) (Or.inl ⟨by rfl, ?_⟩) hH9 ?_
  rotate_left
  · ((intro W hW; clear hW; go_simp) <;> with_reducible rfl)
  simp only [Act.put, List.getElem_toArray, List.getElem_cons_zero, List.getElem_cons_succ, List.setIfInBounds_toArray, List.set_cons_zero, List.set_cons_succ]
  refine wpAnyH_take (i := 3) (v := ?_) rfl (by kernel_rfl) (by kernel_rfl) (by kernel_rfl) (fun _ _ _ h => h) (Or.inl ⟨by rfl, ?_⟩) hH9 ?_
  rotate_left
  · ((intro W hW; clear hW; go_simp) <;> with_reducible rfl)
  simp only [Act.put, List.getElem_toArray, List.getElem_cons_zero, List.getElem_cons_succ, List.setIfInBounds_toArray, List.set_cons_zero, List.set_cons_succ]
  refine wpAnyH_take (i := 4) (v := ?_) rfl (by kernel_rfl) (by kernel_rfl) (by kernel_rfl) (fun _ _ _ h => h) (Or.inl ⟨by rfl, ?_⟩) hH9 ?_
  rotate_left
  · ((intro W hW; clear hW; go_simp) <;> with_reducible rfl)
  simp only [Act.put, List.getElem_toArray, List.getElem_cons_zero, List.getElem_cons_succ, List.setIfInBounds_toArray, List.set_cons_zero, List.set_cons_succ]
  refine wpAnyH_take (i := 5) (v := .agg #[.int .u8 y0, .int .u8 y1, .int .u8 y2, .int .u8 y3]) rfl (by kernel_rfl) (by kernel_rfl) (by kernel_rfl) (fun _ _ _ h => h) (yieldsIf_load_part (by kernel_rfl) 34 _ rfl g3 9 4 rfl _ 37 (0, 0) (fun W hW => hW.1) _ rfl _ Try.underlying34 rfl (by kernel_rfl)) hH9 ?_
  simp only [Act.put, List.getElem_toArray, List.getElem_cons_zero, List.getElem_cons_succ, List.setIfInBounds_toArray, List.set_cons_zero, List.set_cons_succ]
  refine wpAnyH_take (i := 6) (v := ?_) rfl (by kernel_rfl) (by kernel_rfl) (by kernel_rfl) (fun _ _ _ h => h) (Or.inl ⟨by rfl, ?_⟩) hH9 ?_
  rotate_left
  · ((intro W hW; clear hW; go_simp) <;> with_reducible rfl)
  simp only [Act.put, List.getElem_toArray, List.getElem_cons_zero, List.getElem_cons_succ, List.setIfInBounds_toArray, List.set_cons_zero, List.set_cons_succ]
  refine wpAnyH_take (i := 7) (v := ?_) rfl (by kernel_rfl) (by kernel_rfl) (by kernel_rfl) (fun _ _ _ h => h) (Or.inl ⟨by rfl, ?_⟩) hH9 ?_
  rotate_left
  · ((intro W hW; clear hW; go_simp) <;> with_reducible rfl)
  simp only [Act.put, List.getElem_toArray, List.getElem_cons_zero, List.getElem_cons_succ, List.setIfInBounds_toArray, List.set_cons_zero, List.set_cons_succ]
  refine wpAnyH_take (i := 8) (v := ?_) rfl (by kernel_rfl) (by kernel_rfl) (by kernel_rfl) (fun _ _ _ h => h) (Or.inl ⟨by rfl, ?_⟩) hH9 ?_
  rotate_left
  · ((intro W hW; clear hW; go_simp) <;> with_reducible rfl)
  simp only [Act.put, List.getElem_toArray, List.getElem_cons_zero, List.getElem_cons_succ, List.setIfInBounds_toArray, List.set_cons_zero, List.set_cons_succ]
  refine wpAnyH_take (i := 9) (v := ?_) rfl (by kernel_rfl) (by kernel_rfl) (by kernel_rfl) (fun _ _ _ h => h) (Or.inl ⟨by rfl, ?_⟩) hH9 ?_
  rotate_left
  · ((intro W hW; clear hW; go_simp) <;> with_reducible rfl)
  simp only [Act.put, List.getElem_toArray, List.getElem_cons_zero, List.getElem_cons_succ, List.setIfInBounds_toArray, List.set_cons_zero, List.set_cons_succ]
  refine wpAnyH_take (i := 10) (v := .agg #[.int .u8 a0, .int .u8 a1, .int .u8 a2, .int .u8 a3]) rfl (by kernel_rfl) (by kernel_rfl) (by kernel_rfl) (fun _ _ _ h => h) (yieldsIf_load_part (by kernel_rfl) 34 _ rfl gc 12 4 rfl _ 51 (0, 0) (fun W hW => hW.2) _ rfl _ Try.underlying34 rfl (by kernel_rfl)) hH9 ?_
  simp only [Act.put, List.getElem_toArray, List.getElem_cons_zero, List.getElem_cons_succ, List.setIfInBounds_toArray, List.set_cons_zero, List.set_cons_succ]
  refine wpAnyH_take (i := 11) (v := ?_) rfl (by kernel_rfl) (by kernel_rfl) (by kernel_rfl) (fun _ _ _ h => h) (Or.inl ⟨by rfl, ?_⟩) hH9 ?_
  rotate_left
  · ((intro W hW; clear hW; go_simp) <;> with_reducible rfl)
  simp only [Act.put, List.getElem_toArray, List.getElem_cons_zero, List.getElem_cons_succ, List.setIfInBounds_toArray, List.set_cons_zero, List.set_cons_succ]
  refine wpAnyH_take (i := 12) (v := ?_) rfl (by kernel_rfl) (by kernel_rfl) (by kernel_rfl) (fun _ _ _ h => h) (Or.inl ⟨by rfl, ?_⟩) hH9 ?_
  rotate_left
  · ((intro W hW; clear hW; go_simp) <;> with_reducible rfl)
  simp only [Act.put, List.getElem_toArray, List.getElem_cons_zero, List.getElem_cons_succ, List.setIfInBounds_toArray, List.set_cons_zero, List.set_cons_succ]
  refine wpAnyH_take (i := 13) (v := ?_) rfl (by kernel_rfl) (by kernel_rfl) (by kernel_rfl) (fun _ _ _ h => h) (Or.inl ⟨by rfl, ?_⟩) hH9 ?_
  rotate_left
  · ((intro W hW; clear hW; go_simp) <;> with_reducible rfl)
  simp only [Act.put, List.getElem_toArray, List.getElem_cons_zero, List.getElem_cons_succ, List.setIfInBounds_toArray, List.set_cons_zero, List.set_cons_succ]
  refine wpAnyH_done (by kernel_rfl) ?_ _
  have R70 := cell_lit hmb 27 _ rfl
  go_wp2_with fail
  clear R70
  with_reducible refine (oaddr_i (b := bm) _ hO HM.out).mono ?_
  rintro e w10 ⟨rfl, b10⟩
  replace hcl := blk_u hcl b10
  replace hmb := blk_u hmb b10
  replace hsb := blk_u hsb b10
  replace kt := kt.trans (kt_below b10)
  replace hO := hO.below b10
  replace bel := bel.trans (b10.mono (Nat.le_trans hlo bel.size))
  clear b10
  go_wp2_with (first | ((with_reducible show wpList _ _ _ (⟨some 11, _, _, _, _, _⟩ :: _) _ _); refine wpList_new_a rfl 34 rfl #[.int .u8 0, .int .u8 0, .int .u8 0, .int .u8 0] (by kernel_rfl) ?_; intro g11 w11 ge hh bb; have d_cl_kb := ne_new (hlt hcl) ge; have d_mb_kb := ne_new (hlt hmb) ge; have d_sb_kb := ne_new (hlt hsb) ge; have okb := Nat.le_trans (Nat.le_trans hlo bel.size) ge; have pkb := Nat.le_trans bel.size ge; have oa_kb := hO.oa ge; replace hcl := blk_u hcl bb; replace hmb := blk_u hmb bb; replace hsb := blk_u hsb bb; replace kt := kt.trans (kt_below bb); replace hO := hO.below bb; replace bel := bel.trans (bb.mono (Nat.le_trans hlo bel.size)); have hkb := hh; clear hh ge bb) | ((with_reducible show wpList _ _ _ (⟨none, Op.store _ (.tmp 11) _, _, _, _, _⟩ :: _) _ _); refine wpList_store_blk rfl 34 (.tmp 11) (.tmp 72) rfl g11 rfl _ rfl _ 34 hkb (by rfl) (by kernel_rfl) (by kernel_rfl) ?_; intro w12 hq gr; replace hcl := blk_a hcl gr d_cl_kb; replace hmb := blk_a hmb gr d_mb_kb; replace hsb := blk_a hsb gr d_sb_kb; replace kt := kt.newer gr pkb bel.size; replace hO := hO.away oa_kb gr; replace bel := below_grown bel gr okb (Nat.le_trans hlo bel.size); clear hkb; have hkb := hq; clear hq gr) | ((with_reducible show wpList _ _ _ (⟨some 76, _, _, _, _, _⟩ :: _) _ _); refine wpList_min rfl (.tmp 75) (.const (.int .i64 1000000000)) 2 2 rfl .i64 sc 1000000000 sc rfl rfl HMN.out ?_) | ((with_reducible show wpList _ _ _ (⟨none, Op.store _ (.tmp 79) _, _, _, _, _⟩ :: _) _ _); refine wpList_store_part rfl 3 (.tmp 79) (.const (.int .i64 3)) rfl gc 7 rfl [.int .i64 3] rfl [.int .u8 m0, .int .u8 m1, .int .u8 m2, .int .u8 m3, .int .u8 m4, .int .u8 m5, .int .i64 now, .int .i64 5, .int .u32 xid, .int .i64 sent, .int .i64 wait, .int .i64 tries, .int .u8 a0, .int .u8 a1, .int .u8 a2, .int .u8 a3, .int .u8 k0, .int .u8 k1, .int .u8 k2, .int .u8 k3, .int .u8 r0, .int .u8 r1, .int .u8 r2, .int .u8 r3, .int .u8 s0, .int .u8 s1, .int .u8 s2, .int .u8 s3, .int .i64 un, .int .i64 t1, .int .i64 t2] 51 hcl (by simp) [.int .u8 m0, .int .u8 m1, .int .u8 m2, .int .u8 m3, .int .u8 m4, .int .u8 m5, .int .i64 now, .int .i64 3, .int .u32 xid, .int .i64 sent, .int .i64 wait, .int .i64 tries, .int .u8 a0, .int .u8 a1, .int .u8 a2, .int .u8 a3, .int .u8 k0, .int .u8 k1, .int .u8 k2, .int .u8 k3, .int .u8 r0, .int .u8 r1, .int .u8 r2, .int .u8 r3, .int .u8 s0, .int .u8 s1, .int .u8 s2, .int .u8 s3, .int .i64 un, .int .i64 t1, .int .i64 t2] rfl (by kernel_rfl) (by rfl) ?_; intro w13 hq gr; replace hmb := blk_a hmb gr (ne_symm d_cl_mb); replace hsb := blk_a hsb gr (ne_symm d_cl_sb); replace hkb := blk_a hkb gr (ne_symm d_cl_kb); replace kt := kt.trans (kt_grown gr hcl (by simp)); replace hO := hO.kt (kt_grown gr hcl (by simp)); replace bel := below_grown bel gr ocl (Nat.le_trans hlo bel.size); clear hcl; have hcl := hq; clear hq gr))
  replace bel := bel.drew
  replace hcl : w13.drew.heap[gc]? = _ := hcl
  replace hmb : w13.drew.heap[g3]? = _ := hmb
  replace hsb : w13.drew.heap[g5]? = _ := hsb
  replace hkb : w13.drew.heap[g11]? = _ := hkb
  replace kt := kt_drew kt
  replace hO := hO.drew
  refine wp_region_z 17 (S := fun W => W.heap[g3]? = some (.cells #[.int .i64 2, .int .i64 z1, .int .u32 xid, .int .i64 z3, .int .i64 z4, .int .u8 z5, .int .u8 z6, .int .u8 z7, .int .u8 z8, .int .u8 y0, .int .u8 y1, .int .u8 y2, .int .u8 y3, .int .u8 z13, .int .u8 z14, .int .u8 z15, .int .u8 z16, .int .u8 z17, .int .u8 z18, .int .u8 z19, .int .u8 z20, .int .u8 h0, .int .u8 h1, .int .u8 h2, .int .u8 h3, .int .u8 h4, .int .u8 h5, .slice A n c] 37 (0, 0)) ∧ W.heap[g11]? = some (.cells #[.int .u8 f0, .int .u8 f1, .int .u8 f2, .int .u8 f3] 34 (0, 0)) ∧ W.heap[g5]? = some (.cells #[.int .u8 e0, .int .u8 e1, .int .u8 e2, .int .u8 e3] 34 (0, 0)) ∧ W.heap[gc]? = some (.cells #[.int .u8 m0, .int .u8 m1, .int .u8 m2, .int .u8 m3, .int .u8 m4, .int .u8 m5, .int .i64 now, .int .i64 3, .int .u32 xid, .int .i64 sent, .int .i64 wait, .int .i64 tries, .int .u8 a0, .int .u8 a1, .int .u8 a2, .int .u8 a3, .int .u8 k0, .int .u8 k1, .int .u8 k2, .int .u8 k3, .int .u8 r0, .int .u8 r1, .int .u8 r2, .int .u8 r3, .int .u8 s0, .int .u8 s1, .int .u8 s2, .int .u8 s3, .int .i64 un, .int .i64 t1, .int .i64 t2] 51 (0, 0))) (by kernel_rfl) ⟨hmb, hkb, hsb, hcl⟩ (fun hH => ?_)
  generalize w13.drew = w14 at bel hcl hmb hsb hkb kt hO hH ⊢
  refine wpAnyZ_take (i := 0) (v := ?_) rfl (by kernel_rfl) (by kernel_rfl) (by kernel_rfl) (fun _ _ _ h => h) (Or.inl ⟨by rfl, ?_⟩) hH ?_
  rotate_left
  · ((intro W hW; clear hW; go_simp) <;> with_reducible rfl)
  simp only [Act.put, List.getElem_toArray, List.getElem_cons_zero, List.setIfInBounds_toArray, List.set_cons_zero, List.set_cons_succ]
  refine wpAnyZ_take (i := 1) (v := ?_) rfl (by kernel_rfl) (by kernel_rfl) (by kernel_rfl) (fun _ _ _ h => h) (Or.inl ⟨by rfl, ?_⟩) hH ?_
  rotate_left
  · ((intro W hW; clear hW; go_simp) <;> with_reducible rfl)
  simp only [Act.put, List.getElem_toArray, List.getElem_cons_zero, List.getElem_cons_succ, List.setIfInBounds_toArray, List.set_cons_zero, List.set_cons_succ]
  refine wpAnyZ_take (i := 2) (v := .agg #[.int .u8 y0, .int .u8 y1, .int .u8 y2, .int .u8 y3]) rfl (by kernel_rfl) (by kernel_rfl) (by kernel_rfl) (fun _ _ _ h => h) (yieldsIf_load_part (by kernel_rfl) 34 _ rfl g3 9 4 rfl _ 37 (0, 0) (fun W hW => hW.1) _ rfl _ Try.underlying34 rfl (by kernel_rfl)) hH ?_
  simp only [Act.put, List.getElem_toArray, List.getElem_cons_zero, List.getElem_cons_succ, List.setIfInBounds_toArray, List.set_cons_zero, List.set_cons_succ]
  refine wpAnyZ_take (i := 3) (v := .agg #[.int .u8 f0, .int .u8 f1, .int .u8 f2, .int .u8 f3]) rfl (by kernel_rfl) (by kernel_rfl) (by kernel_rfl) (fun _ _ _ h => h) (yieldsIf_load_part (by kernel_rfl) 34 _ rfl g11 0 4 rfl _ 34 (0, 0) (fun W hW => hW.2.1) _ rfl _ Try.underlying34 rfl (by kernel_rfl)) hH ?_
  simp only [Act.put, List.getElem_toArray, List.getElem_cons_zero, List.getElem_cons_succ, List.setIfInBounds_toArray, List.set_cons_zero, List.set_cons_succ]
  refine wpAnyZ_take (i := 4) (v := ?_) rfl (by kernel_rfl) (by kernel_rfl) (by kernel_rfl) (fun _ _ _ h => h) (Or.inl ⟨by rfl, ?_⟩) hH ?_
  rotate_left
  · ((intro W hW; clear hW; go_simp) <;> with_reducible rfl)
  simp only [Act.put, List.getElem_toArray, List.getElem_cons_zero, List.getElem_cons_succ, List.setIfInBounds_toArray, List.set_cons_zero, List.set_cons_succ]
  refine wpAnyZ_take (i := 5) (v := ?_) rfl (by kernel_rfl) (by kernel_rfl) (by kernel_rfl) (fun _ _ _ h => h) (Or.inl ⟨by rfl, ?_⟩) hH ?_
  rotate_left
  · ((intro W hW; have hk := cell_lit (hW.1) 27 _ rfl; clear hW; go_simp) <;> with_reducible rfl)
  simp only [Act.put, List.getElem_toArray, List.getElem_cons_zero, List.getElem_cons_succ, List.setIfInBounds_toArray, List.set_cons_zero, List.set_cons_succ]
  refine wpAnyZ_take (i := 7) (v := .agg #[.int .u8 e0, .int .u8 e1, .int .u8 e2, .int .u8 e3]) rfl (by kernel_rfl) (by kernel_rfl) (by kernel_rfl) (fun _ _ _ h => h) (yieldsIf_load_part (by kernel_rfl) 34 _ rfl g5 0 4 rfl _ 34 (0, 0) (fun W hW => hW.2.2.1) _ rfl _ Try.underlying34 rfl (by kernel_rfl)) hH ?_
  simp only [Act.put, List.getElem_toArray, List.getElem_cons_zero, List.getElem_cons_succ, List.setIfInBounds_toArray, List.set_cons_zero, List.set_cons_succ]
  refine wpAnyZ_take (i := 8) (v := ?_) rfl (by kernel_rfl) (by kernel_rfl) (by kernel_rfl) (fun _ _ _ h => h) (Or.inl ⟨by rfl, ?_⟩) hH ?_
  rotate_left
  · ((intro W hW; clear hW; go_simp) <;> with_reducible rfl)
  simp only [Act.put, List.getElem_toArray, List.getElem_cons_zero, List.getElem_cons_succ, List.setIfInBounds_toArray, List.set_cons_zero, List.set_cons_succ]
  refine wpAnyZ_take (i := 9) (v := ?_) rfl (by kernel_rfl) (by kernel_rfl) (by kernel_rfl) (fun _ _ _ h => h) (Or.inl ⟨by rfl, ?_⟩) hH ?_
  rotate_left
  · ((intro W hW; clear hW; go_simp) <;> with_reducible rfl)
  simp only [Act.put, List.getElem_toArray, List.getElem_cons_zero, List.getElem_cons_succ, List.setIfInBounds_toArray, List.set_cons_zero, List.set_cons_succ]
  refine wpAnyZ_take (i := 10) (v := ?_) rfl (by kernel_rfl) (by kernel_rfl) (by kernel_rfl) (fun _ _ _ h => h) (Or.inl ⟨by rfl, ?_⟩) hH ?_
  rotate_left
  · ((intro W hW; clear hW; go_simp) <;> with_reducible rfl)
  simp only [Act.put, List.getElem_toArray, List.getElem_cons_zero, List.getElem_cons_succ, List.setIfInBounds_toArray, List.set_cons_zero, List.set_cons_succ]
  refine wpAnyZ_take (i := 11) (v := ?_) rfl (by kernel_rfl) (by kernel_rfl) (by kernel_rfl) (fun _ _ _ h => h) (Or.inl ⟨by rfl, ?_⟩) hH ?_
  rotate_left
  · ((intro W hW; have hk := cell_lit (hW.2.2.2) 6 _ rfl; clear hW; go_simp) <;> with_reducible rfl)
  simp only [Act.put, List.getElem_toArray, List.getElem_cons_zero, List.getElem_cons_succ, List.setIfInBounds_toArray, List.set_cons_zero, List.set_cons_succ]
  refine wpAnyZ_take (i := 12) (v := ?_) rfl (by kernel_rfl) (by kernel_rfl) (by kernel_rfl) (fun _ _ _ h => h) (Or.inl ⟨by rfl, ?_⟩) hH ?_
  rotate_left
  · ((intro W hW; clear hW; go_simp) <;> with_reducible rfl)
  simp only [Act.put, List.getElem_toArray, List.getElem_cons_zero, List.getElem_cons_succ, List.setIfInBounds_toArray, List.set_cons_zero, List.set_cons_succ]
  refine wpAnyZ_take (i := 13) (v := ?_) rfl (by kernel_rfl) (by kernel_rfl) (by kernel_rfl) (fun _ _ _ h => h) (Or.inl ⟨by rfl, ?_⟩) hH ?_
  rotate_left
  · ((intro W hW; clear hW; go_simp) <;> with_reducible rfl)
  simp only [Act.put, List.getElem_toArray, List.getElem_cons_zero, List.getElem_cons_succ, List.setIfInBounds_toArray, List.set_cons_zero, List.set_cons_succ]
  refine wpAnyZ_ready (rs := [6]) (by kernel_rfl) (by simp) ?_
  refine AllReadyZ.cons (o := _) rfl (fun K hK => ?_) AllReadyZ.nil
  simp only [List.getElem_toArray, List.getElem_cons_zero, List.getElem_cons_succ]
  go_simp
  with_reducible refine (lfirst_i _ hO HR.out).mono ?_
  rintro e w15 ⟨rfl, b15⟩
  dsimp only
  replace hcl := blk_u hcl b15
  replace hmb := blk_u hmb b15
  replace hsb := blk_u hsb b15
  replace hkb := blk_u hkb b15
  replace kt := kt.trans (kt_below b15)
  replace hO := hO.below b15
  replace bel := bel.trans (b15.mono (Nat.le_trans hlo bel.size))
  clear b15
  refine hK.out _ _ ⟨hmb, hkb, hsb, hcl⟩ (fun hH16 => ?_)
  clear hK K
  refine wpAnyZ_take (i := 14) (v := ?_) rfl (by kernel_rfl) (by kernel_rfl) (by kernel_rfl) (fun _ _ _ h => h) (Or.inl ⟨by rfl, ?_⟩) hH16 ?_
  rotate_left
  · ((intro W hW; clear hW; go_simp) <;> with_reducible rfl)
  simp only [Act.put, List.getElem_toArray, List.getElem_cons_zero, List.getElem_cons_succ, List.setIfInBounds_toArray, List.set_cons_zero, List.set_cons_succ]
  refine wpAnyZ_take (i := 15) (v := ?_) rfl (by kernel_rfl) (by kernel_rfl) (by kernel_rfl) (fun _ _ _ h => h) (Or.inl ⟨by rfl, ?_⟩) hH16 ?_
  rotate_left
  · ((intro W hW; clear hW; go_simp) <;> with_reducible rfl)
  simp only [Act.put, List.getElem_toArray, List.getElem_cons_zero, List.getElem_cons_succ, List.setIfInBounds_toArray, List.set_cons_zero, List.set_cons_succ]
  refine wpAnyZ_take (i := 16) (v := ?_) rfl (by kernel_rfl) (by kernel_rfl) (by kernel_rfl) (fun _ _ _ h => h) (Or.inl ⟨by rfl, ?_⟩) hH16 ?_
  rotate_left
  · ((intro W hW; clear hW; go_simp) <;> with_reducible rfl)
  simp only [Act.put, List.getElem_toArray, List.getElem_cons_zero, List.getElem_cons_succ, List.setIfInBounds_toArray, List.set_cons_zero, List.set_cons_succ]
  refine wpAnyZ_ready (rs := [17]) (by kernel_rfl) (by simp) ?_
  refine AllReadyZ.last (o := _) rfl (fun K hK => ?_)
  simp only [List.getElem_toArray, List.getElem_cons_zero, List.getElem_cons_succ]
  rw [if_pos (by rfl)]
  refine wp_store_part 41 (.tmp 96) (.tmp 94) rfl gc 12 rfl [.int .u8 y0, .int .u8 y1, .int .u8 y2, .int .u8 y3, .int .u8 f0, .int .u8 f1, .int .u8 f2, .int .u8 f3, .int .u8 u0, .int .u8 u1, .int .u8 u2, .int .u8 u3, .int .u8 e0, .int .u8 e1, .int .u8 e2, .int .u8 e3, .int .i64 nu] rfl [.int .u8 m0, .int .u8 m1, .int .u8 m2, .int .u8 m3, .int .u8 m4, .int .u8 m5, .int .i64 now, .int .i64 3, .int .u32 xid, .int .i64 sent, .int .i64 wait, .int .i64 tries, .int .u8 a0, .int .u8 a1, .int .u8 a2, .int .u8 a3, .int .u8 k0, .int .u8 k1, .int .u8 k2, .int .u8 k3, .int .u8 r0, .int .u8 r1, .int .u8 r2, .int .u8 r3, .int .u8 s0, .int .u8 s1, .int .u8 s2, .int .u8 s3, .int .i64 un, .int .i64 t1, .int .i64 t2] 51 hcl (by simp) [.int .u8 m0, .int .u8 m1, .int .u8 m2, .int .u8 m3, .int .u8 m4, .int .u8 m5, .int .i64 now, .int .i64 3, .int .u32 xid, .int .i64 sent, .int .i64 wait, .int .i64 tries, .int .u8 y0, .int .u8 y1, .int .u8 y2, .int .u8 y3, .int .u8 f0, .int .u8 f1, .int .u8 f2, .int .u8 f3, .int .u8 u0, .int .u8 u1, .int .u8 u2, .int .u8 u3, .int .u8 e0, .int .u8 e1, .int .u8 e2, .int .u8 e3, .int .i64 nu, .int .i64 t1, .int .i64 t2] rfl (by kernel_rfl) (by rfl) ?_
  intro w17 hq gr
  replace hmb := blk_a hmb gr (ne_symm d_cl_mb)
  replace hsb := blk_a hsb gr (ne_symm d_cl_sb)
  replace hkb := blk_a hkb gr (ne_symm d_cl_kb)
  replace kt := kt.trans (kt_grown gr hcl (by simp))
  replace hO := hO.kt (kt_grown gr hcl (by simp))
  replace bel := below_grown bel gr ocl (Nat.le_trans hlo bel.size)
  clear hcl
  have hcl := hq
  clear hq gr
  refine hK.out _ _ trivial (fun hH18 => ?_)
  clear hK K
  simp only [Act.put]
  refine wpAnyZ_done (by kernel_rfl) ?_ _
  have R101 := cell_lit hcl 6 _ rfl
  go_wp2_with (first | ((with_reducible show wpList _ _ _ (⟨none, Op.store _ (.tmp 106) _, _, _, _, _⟩ :: _) _ _); refine wpList_store_part rfl 2 (.tmp 106) (.tmp 104) rfl gc 29 rfl [.int .i64 n1] rfl [.int .u8 m0, .int .u8 m1, .int .u8 m2, .int .u8 m3, .int .u8 m4, .int .u8 m5, .int .i64 now, .int .i64 3, .int .u32 xid, .int .i64 sent, .int .i64 wait, .int .i64 tries, .int .u8 y0, .int .u8 y1, .int .u8 y2, .int .u8 y3, .int .u8 f0, .int .u8 f1, .int .u8 f2, .int .u8 f3, .int .u8 u0, .int .u8 u1, .int .u8 u2, .int .u8 u3, .int .u8 e0, .int .u8 e1, .int .u8 e2, .int .u8 e3, .int .i64 nu, .int .i64 t1, .int .i64 t2] 51 hcl (by simp) [.int .u8 m0, .int .u8 m1, .int .u8 m2, .int .u8 m3, .int .u8 m4, .int .u8 m5, .int .i64 now, .int .i64 3, .int .u32 xid, .int .i64 sent, .int .i64 wait, .int .i64 tries, .int .u8 y0, .int .u8 y1, .int .u8 y2, .int .u8 y3, .int .u8 f0, .int .u8 f1, .int .u8 f2, .int .u8 f3, .int .u8 u0, .int .u8 u1, .int .u8 u2, .int .u8 u3, .int .u8 e0, .int .u8 e1, .int .u8 e2, .int .u8 e3, .int .i64 nu, .int .i64 n1, .int .i64 t2] rfl (by kernel_rfl) (by rfl) ?_; intro w19 hq gr; replace hmb := blk_a hmb gr (ne_symm d_cl_mb); replace hsb := blk_a hsb gr (ne_symm d_cl_sb); replace hkb := blk_a hkb gr (ne_symm d_cl_kb); replace kt := kt.trans (kt_grown gr hcl (by simp)); replace hO := hO.kt (kt_grown gr hcl (by simp)); replace bel := below_grown bel gr ocl (Nat.le_trans hlo bel.size); clear hcl; have hcl := hq; clear hq gr; have R111 := cell_lit hcl 6 _ rfl) | ((with_reducible show wpList _ _ _ (⟨none, Op.store _ (.tmp 117) _, _, _, _, _⟩ :: _) _ _); refine wpList_store_part rfl 2 (.tmp 117) (.tmp 115) rfl gc 30 rfl [.int .i64 n2] rfl [.int .u8 m0, .int .u8 m1, .int .u8 m2, .int .u8 m3, .int .u8 m4, .int .u8 m5, .int .i64 now, .int .i64 3, .int .u32 xid, .int .i64 sent, .int .i64 wait, .int .i64 tries, .int .u8 y0, .int .u8 y1, .int .u8 y2, .int .u8 y3, .int .u8 f0, .int .u8 f1, .int .u8 f2, .int .u8 f3, .int .u8 u0, .int .u8 u1, .int .u8 u2, .int .u8 u3, .int .u8 e0, .int .u8 e1, .int .u8 e2, .int .u8 e3, .int .i64 nu, .int .i64 n1, .int .i64 t2] 51 hcl (by simp) [.int .u8 m0, .int .u8 m1, .int .u8 m2, .int .u8 m3, .int .u8 m4, .int .u8 m5, .int .i64 now, .int .i64 3, .int .u32 xid, .int .i64 sent, .int .i64 wait, .int .i64 tries, .int .u8 y0, .int .u8 y1, .int .u8 y2, .int .u8 y3, .int .u8 f0, .int .u8 f1, .int .u8 f2, .int .u8 f3, .int .u8 u0, .int .u8 u1, .int .u8 u2, .int .u8 u3, .int .u8 e0, .int .u8 e1, .int .u8 e2, .int .u8 e3, .int .i64 nu, .int .i64 n1, .int .i64 n2] rfl (by kernel_rfl) (by rfl) ?_; intro w20 hq gr; replace hmb := blk_a hmb gr (ne_symm d_cl_mb); replace hsb := blk_a hsb gr (ne_symm d_cl_sb); replace hkb := blk_a hkb gr (ne_symm d_cl_kb); replace kt := kt.trans (kt_grown gr hcl (by simp)); replace hO := hO.kt (kt_grown gr hcl (by simp)); replace bel := below_grown bel gr ocl (Nat.le_trans hlo bel.size); clear hcl; have hcl := hq; clear hq gr))
  try clear R101
  try clear R111
  go_ret
  exact ⟨rfl, ⟨hcl, ocl⟩, kt, bel⟩
end Go.Proofs.Ytjfboofnffghjaa
