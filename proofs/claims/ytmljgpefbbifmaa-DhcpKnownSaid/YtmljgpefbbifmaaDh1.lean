/- dhcp's knownOp, upTo, writable, readAddr, Type; the reference's Type. -/
import Derived.Test.YtmljgpefbbifmaaDh0
import Derived.Test.YtmljgpefbbifmaaOpr
import Derived.Test.YtmljgpefbbifmaaOp4
import Derived.Deep.RegionHeld3
namespace Go.Proofs.Ytmljgpefbbifmaa
open Go.RowKit

theorem dknown_any (op : Int) (w : World) : Calls Try.prog 38 #[.int .i64 op] w fun e w' => e = .returned (.bool (isOp op)) ∧ w = w' := by
  by_cases h1 : op = 1
  · subst h1
    go_enter Try.func38, Try.ntmps38
    go_wp2
    go_ret
    exact ⟨rfl, rfl⟩
  · have e1 : (op == 1) = false := by simpa using h1
    by_cases h2 : op = 2
    · subst h2
      go_enter Try.func38, Try.ntmps38
      go_wp2
      go_ret
      exact ⟨rfl, rfl⟩
    · have e2 : (op == 2) = false := by simpa using h2
      have e3 : isOp op = false := by simp [isOp, h1, h2]
      rw [e3]
      clear e3
      go_enter Try.func38, Try.ntmps38
      go_wp2
      go_ret
      exact ⟨rfl, rfl⟩

set_option maxRecDepth 100000 in
set_option maxHeartbeats 1000000 in
theorem baddr_any (g : Nat) (p0 p1 p2 p3 : UInt8) (r : List UInt8) (s : Bool) (w : World) (B : Nat) (hB : B ≤ w.heap.size) (hr : Rb w 79 g B (p0 :: p1 :: p2 :: p3 :: r) s) :
    Calls Try.prog 36 #[.pointer (some ⟨g, 0, none⟩)] w fun e w' => e = .returned (.agg #[.int .u8 (p0.toNat : Int), .int .u8 (p1.toNat : Int), .int .u8 (p2.toNat : Int), .int .u8 (p3.toNat : Int)]) ∧ Rb w' 79 g B r s ∧ w.grownBy w' (some g) := by
  have HG := Lib.hid hr.rd.lt
  have HB := Lib.hid hB
  clear hB
  have h0 : ((w.alloc (.cells #[.int .u8 0, .int .u8 0, .int .u8 0, .int .u8 0] 25)).alloc (.cells #[.int .u8 0, .int .u8 0, .int .u8 0, .int .u8 0] 25)).heap[w.heap.size]? = some (.cells #[.int .u8 0, .int .u8 0, .int .u8 0, .int .u8 0] 25 (0, 0)) := (Go.heap_alloc_old (w.alloc (.cells #[.int .u8 0, .int .u8 0, .int .u8 0, .int .u8 0] 25)) (.cells #[.int .u8 0, .int .u8 0, .int .u8 0, .int .u8 0] 25) (r := w.heap.size) (by simp)).trans (heap_alloc_new w _)
  have h1 : ((w.alloc (.cells #[.int .u8 0, .int .u8 0, .int .u8 0, .int .u8 0] 25)).alloc (.cells #[.int .u8 0, .int .u8 0, .int .u8 0, .int .u8 0] 25)).heap[w.heap.size + 1]? = some (.cells #[.int .u8 0, .int .u8 0, .int .u8 0, .int .u8 0] 25 (0, 0)) := by
    have := heap_alloc_new (w.alloc (.cells #[.int .u8 0, .int .u8 0, .int .u8 0, .int .u8 0] 25)) (.cells #[.int .u8 0, .int .u8 0, .int .u8 0, .int .u8 0] 25); simpa using this
  have bel : Below w.heap.size w ((w.alloc (.cells #[.int .u8 0, .int .u8 0, .int .u8 0, .int .u8 0] 25)).alloc (.cells #[.int .u8 0, .int .u8 0, .int .u8 0, .int .u8 0] 25)) := ((Below.refl _ w).alloc (Nat.le_refl _) _).alloc (by simp) _
  have hR := (hr.below bel).drew
  have hgr := grown_of_below (row := some g) bel.drew
  clear bel hr
  go_enter Try.func36, Try.ntmps36
  go_wp2_with fail
  generalize ((w.alloc (.cells #[.int .u8 0, .int .u8 0, .int .u8 0, .int .u8 0] 25)).alloc (.cells #[.int .u8 0, .int .u8 0, .int .u8 0, .int .u8 0] 25)) = v0 at h0 h1 hR hgr ⊢
  have z0 : w.heap.size < v0.drew.heap.size := (Array.getElem?_eq_some_iff.1 h0).1
  have z1 : w.heap.size + 1 < v0.drew.heap.size := (Array.getElem?_eq_some_iff.1 h1).1
  have M := Lib.hid (show Calls Try.prog 37 #[.pointer (some ⟨g, 0, none⟩), .int .i64 4] v0.drew fun e w' => ∃ A c, e = .returned (.slice A 4 c) ∧ Sl w' A 4 c [p0, p1, p2, p3] ∧ Rb w' 79 g B r s ∧ v0.drew.grownBy w' (some g) ∧ Fr v0.drew.heap.size A 4 from bytes_b g B (p0 :: p1 :: p2 :: p3 :: r) s 4 v0.drew hR (by simp) (by omega))
  refine wp_region_held_drew (S := fun _ => True) (by kernel_rfl) trivial (fun hH => ?_)
  refine wpAnyH_take (i := 0) (v := ?_) rfl (by kernel_rfl) (by kernel_rfl) (by kernel_rfl) (fun _ _ _ h => h) (Or.inl ⟨by rfl, ?_⟩) hH ?_
  rotate_left
  · ((intro w hw; clear hw; go_simp) <;> with_reducible rfl)
  simp only [Act.put, List.getElem_toArray, List.getElem_cons_zero, List.setIfInBounds_toArray, List.set_cons_zero, List.set_cons_succ]
  refine wpAnyH_take (i := 1) (v := ?_) rfl (by kernel_rfl) (by kernel_rfl) (by kernel_rfl) (fun _ _ _ h => h) (Or.inl ⟨by rfl, ?_⟩) hH ?_
  rotate_left
  · ((intro w hw; clear hw; go_simp) <;> with_reducible rfl)
  simp only [Act.put, List.getElem_toArray, List.getElem_cons_zero, List.getElem_cons_succ, List.setIfInBounds_toArray, List.set_cons_zero, List.set_cons_succ]
  refine wpAnyH_ready (rs := [2]) (by kernel_rfl) (by simp) ?_
  refine AllReadyH.cons (o := _) rfl (fun K hK => ?_) AllReadyH.nil
  simp only [List.getElem_toArray, List.getElem_cons_zero, List.getElem_cons_succ]
  go_simp
  with_reducible refine M.out.mono ?_
  rintro e v1 ⟨A, c, rfl, hs, hR1, hg1, hf⟩
  dsimp only
  have h2 : v1.heap[w.heap.size]? = some (.cells #[.int .u8 0, .int .u8 0, .int .u8 0, .int .u8 0] 25 (0, 0)) := (hg1.block _ z0 (by have := HG.out; simp; omega)).trans h0
  have h3 : v1.heap[w.heap.size + 1]? = some (.cells #[.int .u8 0, .int .u8 0, .int .u8 0, .int .u8 0] 25 (0, 0)) := (hg1.block _ z1 (by have := HG.out; simp; omega)).trans h1
  have hgr1 := hgr.trans hg1
  refine hK.out _ _ trivial (fun hH1 => ?_)
  clear hK K
  refine wpAnyH_ready (rs := [3]) (by kernel_rfl) (by simp) ?_
  refine AllReadyH.cons (o := _) rfl (fun K hK => ?_) AllReadyH.nil
  simp only [List.getElem_toArray, List.getElem_cons_zero, List.getElem_cons_succ]
  rw [if_pos (by rfl)]
  refine wp_copy_all (.tmp 4) (.tmp 6) 34 34 rfl 5 Try.underlying34 (by kernel_rfl) (w.heap.size + 1) 4 c A [p0, p1, p2, p3] #[.int .u8 0, .int .u8 0, .int .u8 0, .int .u8 0] 25 rfl rfl h3 rfl hs (by omega) ?_
  intro v2 hb2 hg2
  have h4 := (hg2.block w.heap.size (Array.getElem?_eq_some_iff.1 h2).1 (by simp)).trans h2
  have hR3 := hR1.grown hg2 (by have := HB.out; omega) (by have := HG.out; omega)
  have hgr3 := grown_new hgr1 hg2 (by omega)
  refine hK.out _ _ trivial (fun _ => ?_)
  clear hK K
  refine wpAnyH_done (by kernel_rfl) ?_ _
  replace hb2 : v2.heap[w.heap.size + 1]? = some (.cells #[.int .u8 (p0.toNat : Int), .int .u8 (p1.toNat : Int), .int .u8 (p2.toNat : Int), .int .u8 (p3.toNat : Int)] 25 (0, 0)) := hb2
  have hne : w.heap.size ≠ g := by have := HG.out; omega
  have HZ := Lib.hid h4
  obtain ⟨⟨k0, k1, k2, k3⟩, _⟩ := cells4 hb2
  obtain ⟨⟨q0, q1, q2, q3⟩, f0, f1, f2, f3⟩ := cells4 h4
  clear M h4 hb2 h2 h3 hs hR1 hR hg1 hg2 hgr hgr1 h0 h1 z0 z1
  go_wp2
  have R4 := put4 (x := .int .u8 (p0.toNat : Int)) (y := .int .u8 (p1.toNat : Int)) (z := .int .u8 (p2.toNat : Int)) (u := .int .u8 (p3.toNat : Int)) HZ.out
  obtain ⟨⟨j0, j1, j2, j3⟩, _⟩ := cells4 R4
  clear R4
  exact bodyPost_ret (v := .agg #[.int .u8 (p0.toNat : Int), .int .u8 (p1.toNat : Int), .int .u8 (p2.toNat : Int), .int .u8 (p3.toNat : Int)]) (by simp [results, Try.results36, go_sem, j0, j1, j2, j3]) rfl ⟨rfl, ((((hR3.setCell HB.out hne _ _).setCell HB.out hne _ _).setCell HB.out hne _ _).setCell HB.out hne _ _), (grown_setCell (grown_setCell (grown_setCell (grown_setCell hgr3 (Nat.le_refl _) _ _) (Nat.le_refl _) _ _) (Nat.le_refl _) _ _) (Nat.le_refl _) _ _)⟩
theorem rs_addr {lo gr : Nat} {p0 p1 p2 p3 : UInt8} {r : List UInt8} {s : Bool} (w : World) (h : Rs lo gr w (p0 :: p1 :: p2 :: p3 :: r) s) (hB : lo ≤ w.heap.size) : Calls Try.prog 36 #[.pointer (some ⟨gr, 0, none⟩)] w fun e w' => e = .returned (.agg #[.int .u8 (p0.toNat : Int), .int .u8 (p1.toNat : Int), .int .u8 (p2.toNat : Int), .int .u8 (p3.toNat : Int)]) ∧ Rs lo gr w' r s ∧ w.grownBy w' (some gr) ∧ Kt [79] w w' := by
  refine (baddr_any gr p0 p1 p2 p3 r s w lo hB h.1).mono ?_
  rintro e w' ⟨rfl, h1, h2⟩
  exact ⟨rfl, ⟨h1, h.2⟩, h2, h.kt h2⟩
theorem rs_u16 {lo gr : Nat} {x y : UInt8} {r : List UInt8} {s : Bool} (w : World) (h : Rs lo gr w (x :: y :: r) s) : Calls Try.prog 35 #[.pointer (some ⟨gr, 0, none⟩)] w fun e w' => e = .returned (.int .i64 ((be [x, y] : Nat) : Int)) ∧ Rs lo gr w' r s ∧ w.grownBy w' (some gr) ∧ Kt [79] w w' := by
  refine (u16_q2 gr _ x y r s w h.1).mono ?_
  rintro e w' ⟨rfl, h1, h2⟩
  exact ⟨rfl, ⟨h1, h.2⟩, h2, h.kt h2⟩
theorem rs_u32 {lo gr : Nat} {x y z u : UInt8} {r : List UInt8} {s : Bool} (w : World) (h : Rs lo gr w (x :: y :: z :: u :: r) s) : Calls Try.prog 34 #[.pointer (some ⟨gr, 0, none⟩)] w fun e w' => e = .returned (.int .u32 ((be [x, y, z, u] : Nat) : Int)) ∧ Rs lo gr w' r s ∧ w.grownBy w' (some gr) ∧ Kt [79] w w' := by
  refine (u32_q4 gr _ x y z u r s w h.1).mono ?_
  rintro e w' ⟨rfl, h1, h2⟩
  exact ⟨rfl, ⟨h1, h.2⟩, h2, h.kt h2⟩
set_option linter.unusedVariables false in
set_option linter.unusedSimpArgs false in
set_option maxRecDepth 100000 in
set_option maxHeartbeats 16000000 in
theorem dup_any (m x : Int) (w : World) : Calls Try.prog 41 #[.int .i64 m, .int .i64 x] w fun e w' => e = .returned (.bool (upB m x)) ∧ w = w' := by
  have bel := Below.refl w.heap.size w
  go_enter Try.func41, Try.ntmps41
  by_cases h1 : 0 ≤ x
  · have HP : Hid (upB m x = decide (x ≤ m)) := Lib.hid (by unfold upB; rw [decide_eq_true h1, Bool.true_and])
    go_wp2_with fail
    go_ret
    exact ⟨by rw [HP.out]; rfl, rfl⟩
  have HP : Hid (upB m x = false) := Lib.hid (by unfold upB; rw [decide_eq_false h1, Bool.false_and])
  have h2 : decide (0 ≤ x) = false := decide_eq_false h1
  clear h1
  go_wp2_with fail
  go_ret
  exact ⟨by rw [HP.out]; rfl, rfl⟩
set_option linter.unusedVariables false in
set_option linter.unusedSimpArgs false in
set_option maxRecDepth 100000 in
set_option maxHeartbeats 16000000 in
theorem dwritable_any (h : Mh) (A : Option Addr) (n c : Nat) (w : World) : Calls Try.prog 20 #[.agg #[.int .i64 h.op, .int .i64 h.hops, .int .u32 h.xid, .int .i64 h.secs, .int .i64 h.flags, .int .u8 (h.c0.toNat : Int), .int .u8 (h.c1.toNat : Int), .int .u8 (h.c2.toNat : Int), .int .u8 (h.c3.toNat : Int), .int .u8 (h.y0.toNat : Int), .int .u8 (h.y1.toNat : Int), .int .u8 (h.y2.toNat : Int), .int .u8 (h.y3.toNat : Int), .int .u8 (h.s0.toNat : Int), .int .u8 (h.s1.toNat : Int), .int .u8 (h.s2.toNat : Int), .int .u8 (h.s3.toNat : Int), .int .u8 (h.r0.toNat : Int), .int .u8 (h.r1.toNat : Int), .int .u8 (h.r2.toNat : Int), .int .u8 (h.r3.toNat : Int), .int .u8 (h.m0.toNat : Int), .int .u8 (h.m1.toNat : Int), .int .u8 (h.m2.toNat : Int), .int .u8 (h.m3.toNat : Int), .int .u8 (h.m4.toNat : Int), .int .u8 (h.m5.toNat : Int), .slice A n c]] w fun e w' => e = .returned (.bool (okM h)) ∧ Below w.heap.size w w' := by
  have bel := Below.refl w.heap.size w
  go_enter Try.func20, Try.ntmps20
  rcases (by decide : ∀ b : Bool, b = true ∨ b = false) (isOp h.op) with ho | ho
  rotate_left
  · have HP : Hid (okM h = false) := Lib.hid (by unfold okM; rw [ho]; simp)
    have HO := Lib.hid ho
    clear ho
    go_wp2_with (first | ((with_reducible show wpList _ _ _ (⟨some 1, _, _, _, _, _⟩ :: _) _ _); refine wpList_box_n rfl 30 (.tmp 0) rfl #[.int .i64 h.op, .int .i64 h.hops, .int .u32 h.xid, .int .i64 h.secs, .int .i64 h.flags, .int .u8 (h.c0.toNat : Int), .int .u8 (h.c1.toNat : Int), .int .u8 (h.c2.toNat : Int), .int .u8 (h.c3.toNat : Int), .int .u8 (h.y0.toNat : Int), .int .u8 (h.y1.toNat : Int), .int .u8 (h.y2.toNat : Int), .int .u8 (h.y3.toNat : Int), .int .u8 (h.s0.toNat : Int), .int .u8 (h.s1.toNat : Int), .int .u8 (h.s2.toNat : Int), .int .u8 (h.s3.toNat : Int), .int .u8 (h.r0.toNat : Int), .int .u8 (h.r1.toNat : Int), .int .u8 (h.r2.toNat : Int), .int .u8 (h.r3.toNat : Int), .int .u8 (h.m0.toNat : Int), .int .u8 (h.m1.toNat : Int), .int .u8 (h.m2.toNat : Int), .int .u8 (h.m3.toNat : Int), .int .u8 (h.m4.toNat : Int), .int .u8 (h.m5.toNat : Int), .slice A n c] rfl ?_; intro g1 w1 ge lt hh bb; have op := Nat.le_trans bel.size ge; replace bel := bel.trans (bb.mono bel.size); have hp := hh; clear hh lt ge bb; have R4 := cell_lit hp 0 _ rfl))
    try clear R4
    with_reducible refine (dknown_any _ _).mono ?_
    rintro e _ ⟨rfl, rfl⟩
    rw [HO.out]
    go_wp2_with fail
    go_ret
    exact ⟨by rw [HP.out]; rfl, bel⟩
  have HO := Lib.hid ho
  go_wp2_with (first | ((with_reducible show wpList _ _ _ (⟨some 1, _, _, _, _, _⟩ :: _) _ _); refine wpList_box_n rfl 30 (.tmp 0) rfl #[.int .i64 h.op, .int .i64 h.hops, .int .u32 h.xid, .int .i64 h.secs, .int .i64 h.flags, .int .u8 (h.c0.toNat : Int), .int .u8 (h.c1.toNat : Int), .int .u8 (h.c2.toNat : Int), .int .u8 (h.c3.toNat : Int), .int .u8 (h.y0.toNat : Int), .int .u8 (h.y1.toNat : Int), .int .u8 (h.y2.toNat : Int), .int .u8 (h.y3.toNat : Int), .int .u8 (h.s0.toNat : Int), .int .u8 (h.s1.toNat : Int), .int .u8 (h.s2.toNat : Int), .int .u8 (h.s3.toNat : Int), .int .u8 (h.r0.toNat : Int), .int .u8 (h.r1.toNat : Int), .int .u8 (h.r2.toNat : Int), .int .u8 (h.r3.toNat : Int), .int .u8 (h.m0.toNat : Int), .int .u8 (h.m1.toNat : Int), .int .u8 (h.m2.toNat : Int), .int .u8 (h.m3.toNat : Int), .int .u8 (h.m4.toNat : Int), .int .u8 (h.m5.toNat : Int), .slice A n c] rfl ?_; intro g1 w1 ge lt hh bb; have op := Nat.le_trans bel.size ge; replace bel := bel.trans (bb.mono bel.size); have hp := hh; clear hh lt ge bb; have R4 := cell_lit hp 0 _ rfl))
  try clear R4
  with_reducible refine (dknown_any _ _).mono ?_
  rintro e _ ⟨rfl, rfl⟩
  rw [HO.out]
  rcases (by decide : ∀ b : Bool, b = true ∨ b = false) (upB 255 h.hops) with h1 | h1
  rotate_left
  · have HP : Hid (okM h = false) := Lib.hid (by unfold okM; rw [h1]; simp)
    have H1 := Lib.hid h1
    clear ho h1
    have R8 := cell_lit hp 1 _ rfl
    go_wp2_with fail
    clear R8
    with_reducible refine (dup_any _ _ _).mono ?_
    rintro e _ ⟨rfl, rfl⟩
    rw [H1.out]
    go_wp2_with fail
    go_ret
    exact ⟨by rw [HP.out]; rfl, bel⟩
  have H1 := Lib.hid h1
  have R8 := cell_lit hp 1 _ rfl
  go_wp2_with fail
  clear R8
  with_reducible refine (dup_any _ _ _).mono ?_
  rintro e _ ⟨rfl, rfl⟩
  rw [H1.out]
  rcases (by decide : ∀ b : Bool, b = true ∨ b = false) (upB 65535 h.secs) with h2 | h2
  rotate_left
  · have HP : Hid (okM h = false) := Lib.hid (by unfold okM; rw [h2]; simp)
    have H2 := Lib.hid h2
    clear ho h1 h2
    have R13 := cell_lit hp 3 _ rfl
    go_wp2_with fail
    clear R13
    with_reducible refine (dup_any _ _ _).mono ?_
    rintro e _ ⟨rfl, rfl⟩
    rw [H2.out]
    go_wp2_with fail
    go_ret
    exact ⟨by rw [HP.out]; rfl, bel⟩
  have H2 := Lib.hid h2
  have HP : Hid (okM h = upB 65535 h.flags) := Lib.hid (by unfold okM; rw [ho, h1, h2]; rfl)
  clear ho h1 h2
  have R13 := cell_lit hp 3 _ rfl
  go_wp2_with fail
  clear R13
  with_reducible refine (dup_any _ _ _).mono ?_
  rintro e _ ⟨rfl, rfl⟩
  rw [H2.out]
  have R18 := cell_lit hp 4 _ rfl
  go_wp2_with fail
  clear R18
  with_reducible refine (dup_any _ _ _).mono ?_
  rintro e _ ⟨rfl, rfl⟩
  go_wp2_with fail
  go_ret
  exact ⟨by rw [HP.out]; rfl, bel⟩
set_option linter.unusedVariables false in
set_option linter.unusedSimpArgs false in
set_option maxRecDepth 100000 in
set_option maxHeartbeats 16000000 in
theorem dtype_any {h : Mh} {A : Option Addr} {n c : Nat} {hs : List Oh} {L : OptL} (w : World) (en : Sle opE 2 w A n c hs) (hbd : Bd w hs L) (hn : n ≤ 100000) (hb : ∀ x ∈ hs, x.n ≤ 100000) : Calls Try.prog 10 #[.agg #[.int .i64 h.op, .int .i64 h.hops, .int .u32 h.xid, .int .i64 h.secs, .int .i64 h.flags, .int .u8 (h.c0.toNat : Int), .int .u8 (h.c1.toNat : Int), .int .u8 (h.c2.toNat : Int), .int .u8 (h.c3.toNat : Int), .int .u8 (h.y0.toNat : Int), .int .u8 (h.y1.toNat : Int), .int .u8 (h.y2.toNat : Int), .int .u8 (h.y3.toNat : Int), .int .u8 (h.s0.toNat : Int), .int .u8 (h.s1.toNat : Int), .int .u8 (h.s2.toNat : Int), .int .u8 (h.s3.toNat : Int), .int .u8 (h.r0.toNat : Int), .int .u8 (h.r1.toNat : Int), .int .u8 (h.r2.toNat : Int), .int .u8 (h.r3.toNat : Int), .int .u8 (h.m0.toNat : Int), .int .u8 (h.m1.toNat : Int), .int .u8 (h.m2.toNat : Int), .int .u8 (h.m3.toNat : Int), .int .u8 (h.m4.toNat : Int), .int .u8 (h.m5.toNat : Int), .slice A n c]] w fun e w' => e = .returned (.int .i64 (typeL L : Int)) ∧ Below w.heap.size w w' := by
  have bel := Below.refl w.heap.size w
  go_enter Try.func10, Try.ntmps10
  go_wp2_with (first | ((with_reducible show wpList _ _ _ (⟨some 1, _, _, _, _, _⟩ :: _) _ _); refine wpList_box_n rfl 30 (.tmp 0) rfl #[.int .i64 h.op, .int .i64 h.hops, .int .u32 h.xid, .int .i64 h.secs, .int .i64 h.flags, .int .u8 (h.c0.toNat : Int), .int .u8 (h.c1.toNat : Int), .int .u8 (h.c2.toNat : Int), .int .u8 (h.c3.toNat : Int), .int .u8 (h.y0.toNat : Int), .int .u8 (h.y1.toNat : Int), .int .u8 (h.y2.toNat : Int), .int .u8 (h.y3.toNat : Int), .int .u8 (h.s0.toNat : Int), .int .u8 (h.s1.toNat : Int), .int .u8 (h.s2.toNat : Int), .int .u8 (h.s3.toNat : Int), .int .u8 (h.r0.toNat : Int), .int .u8 (h.r1.toNat : Int), .int .u8 (h.r2.toNat : Int), .int .u8 (h.r3.toNat : Int), .int .u8 (h.m0.toNat : Int), .int .u8 (h.m1.toNat : Int), .int .u8 (h.m2.toNat : Int), .int .u8 (h.m3.toNat : Int), .int .u8 (h.m4.toNat : Int), .int .u8 (h.m5.toNat : Int), .slice A n c] rfl ?_; intro g1 w1 ge lt hh bb; have av_en_p := en.av_new ge; have op := Nat.le_trans bel.size ge; replace en := en.below bb; replace bel := bel.trans (bb.mono bel.size); have hp := hh; clear hh lt ge bb; have R7 := cell_lit hp 27 _ rfl))
  try clear R7
  with_reducible refine (ofind_any _ en (hbd.below bel) hn hb).mono ?_
  rintro e w2 ⟨A2, n2, c2, rfl, sb, b2⟩
  replace hp := blk_u hp b2
  replace en := en.below b2
  replace bel := bel.trans (b2.mono bel.size)
  clear b2
  replace sb : Sl w2 (A2) (n2) (c2) ((findL L 53).getD []) := sb
  by_cases h1 : n2 = 1
  rotate_left
  · have e4 : ((n2 : Int) != 1) = true := by rw [bne, beq_eq_false_iff_ne.2 (by omega : ¬ (n2 : Int) = 1)]; rfl
    have HP : Hid (typeL L = 0) := Lib.hid (type_not (by rw [sb.1]; exact h1))
    clear h1
    go_wp2_with fail
    go_ret
    exact ⟨by rw [HP.out]; rfl, bel⟩
  obtain ⟨b, hq⟩ : ∃ b, (findL L 53).getD [] = [b] := by
    have h2 := sb.1.trans h1
    match (findL L 53).getD [], h2 with
    | [b], _ => exact ⟨b, rfl⟩
  have HQ := Lib.hid hq
  rw [hq] at sb
  subst h1
  obtain ⟨g2, o2, rfl⟩ := Sl.spot sb (by omega)
  have n01 : (0 : Int) < ((1 : Nat) : Int) := by omega
  have b0 : (0 : Int) ≤ b.toNat := by omega
  have b1 : (b.toNat : Int) < 256 := by have := b.toNat_lt; omega
  clear hq
  by_cases hb8 : b.toNat ≤ 8
  rotate_left
  · have h8 : (8 : Int) < b.toNat := by omega
    have HP : Hid (typeL L = 0) := Lib.hid (by rw [type_one HQ.out, if_neg (by omega)])
    clear hb8
    have R17 := (by have h_ := sl_at sb (j := 0) rfl; rw [Nat.add_zero] at h_; exact h_)
    go_wp2_with fail
    clear R17
    go_ret
    exact ⟨by rw [HP.out]; rfl, bel⟩
  have h8 : decide ((8 : Int) < b.toNat) = false := decide_eq_false (by omega)
  have HP : Hid (typeL L = b.toNat) := Lib.hid (by rw [type_one HQ.out, if_pos hb8])
  clear hb8
  have R17 := (by have h_ := sl_at sb (j := 0) rfl; rw [Nat.add_zero] at h_; exact h_)
  have R22 := (by have h_ := sl_at sb (j := 0) rfl; rw [Nat.add_zero] at h_; exact h_)
  go_wp2_with fail
  clear R17 R22
  go_ret
  exact ⟨by rw [HP.out]; rfl, bel⟩
set_option linter.unusedVariables false in
set_option linter.unusedSimpArgs false in
set_option maxRecDepth 100000 in
set_option maxHeartbeats 16000000 in
theorem rtype_any {h : Mh} {A : Option Addr} {n c : Nat} {hs : List Oh} {L : OptL} (w : World) (en : Sle opE 2 w A n c hs) (hbd : Bd w hs L) (hn : n ≤ 100000) : Calls Try.prog 16 #[.agg #[.int .i64 h.op, .int .i64 h.hops, .int .u32 h.xid, .int .i64 h.secs, .int .i64 h.flags, .int .u8 (h.c0.toNat : Int), .int .u8 (h.c1.toNat : Int), .int .u8 (h.c2.toNat : Int), .int .u8 (h.c3.toNat : Int), .int .u8 (h.y0.toNat : Int), .int .u8 (h.y1.toNat : Int), .int .u8 (h.y2.toNat : Int), .int .u8 (h.y3.toNat : Int), .int .u8 (h.s0.toNat : Int), .int .u8 (h.s1.toNat : Int), .int .u8 (h.s2.toNat : Int), .int .u8 (h.s3.toNat : Int), .int .u8 (h.r0.toNat : Int), .int .u8 (h.r1.toNat : Int), .int .u8 (h.r2.toNat : Int), .int .u8 (h.r3.toNat : Int), .int .u8 (h.m0.toNat : Int), .int .u8 (h.m1.toNat : Int), .int .u8 (h.m2.toNat : Int), .int .u8 (h.m3.toNat : Int), .int .u8 (h.m4.toNat : Int), .int .u8 (h.m5.toNat : Int), .slice A n c]] w fun e w' => e = .returned (.int .i64 (typeL L : Int)) ∧ Below w.heap.size w w' := by
  have bel := Below.refl w.heap.size w
  go_enter Try.func16, Try.ntmps16
  go_wp2_with (first | ((with_reducible show wpList _ _ _ (⟨some 1, _, _, _, _, _⟩ :: _) _ _); refine wpList_box_n rfl 42 (.tmp 0) rfl #[.int .i64 h.op, .int .i64 h.hops, .int .u32 h.xid, .int .i64 h.secs, .int .i64 h.flags, .int .u8 (h.c0.toNat : Int), .int .u8 (h.c1.toNat : Int), .int .u8 (h.c2.toNat : Int), .int .u8 (h.c3.toNat : Int), .int .u8 (h.y0.toNat : Int), .int .u8 (h.y1.toNat : Int), .int .u8 (h.y2.toNat : Int), .int .u8 (h.y3.toNat : Int), .int .u8 (h.s0.toNat : Int), .int .u8 (h.s1.toNat : Int), .int .u8 (h.s2.toNat : Int), .int .u8 (h.s3.toNat : Int), .int .u8 (h.r0.toNat : Int), .int .u8 (h.r1.toNat : Int), .int .u8 (h.r2.toNat : Int), .int .u8 (h.r3.toNat : Int), .int .u8 (h.m0.toNat : Int), .int .u8 (h.m1.toNat : Int), .int .u8 (h.m2.toNat : Int), .int .u8 (h.m3.toNat : Int), .int .u8 (h.m4.toNat : Int), .int .u8 (h.m5.toNat : Int), .slice A n c] rfl ?_; intro g1 w1 ge lt hh bb; have av_en_p := en.av_new ge; have op := Nat.le_trans bel.size ge; replace en := en.below bb; replace bel := bel.trans (bb.mono bel.size); have hp := hh; clear hh lt ge bb; have R7 := cell_lit hp 27 _ rfl))
  try clear R7
  with_reducible refine (rfind_any _ en (hbd.below bel) hn).mono ?_
  rintro e w2 ⟨A2, n2, c2, rfl, sb, b2⟩
  replace hp := blk_u hp b2
  replace en := en.below b2
  replace bel := bel.trans (b2.mono bel.size)
  clear b2
  replace sb : Sl w2 (A2) (n2) (c2) ((findL L 53).getD []) := sb
  by_cases h1 : n2 = 1
  rotate_left
  · have e4 : ((n2 : Int) != 1) = true := by rw [bne, beq_eq_false_iff_ne.2 (by omega : ¬ (n2 : Int) = 1)]; rfl
    have HP : Hid (typeL L = 0) := Lib.hid (type_not (by rw [sb.1]; exact h1))
    clear h1
    go_wp2_with fail
    go_ret
    exact ⟨by rw [HP.out]; rfl, bel⟩
  obtain ⟨b, hq⟩ : ∃ b, (findL L 53).getD [] = [b] := by
    have h2 := sb.1.trans h1
    match (findL L 53).getD [], h2 with
    | [b], _ => exact ⟨b, rfl⟩
  have HQ := Lib.hid hq
  rw [hq] at sb
  subst h1
  obtain ⟨g2, o2, rfl⟩ := Sl.spot sb (by omega)
  have n01 : (0 : Int) < ((1 : Nat) : Int) := by omega
  have b0 : (0 : Int) ≤ b.toNat := by omega
  have b1 : (b.toNat : Int) < 256 := by have := b.toNat_lt; omega
  clear hq
  by_cases hb0 : b.toNat = 0
  · have HP : Hid (typeL L = 0) := Lib.hid (by rw [type_one HQ.out, if_pos (by omega), hb0])
    have z0 : (b.toNat : Int) < 1 := by omega
    clear hb0
    have R17 := (by have h_ := sl_at sb (j := 0) rfl; rw [Nat.add_zero] at h_; exact h_)
    go_wp2_with fail
    clear R17
    go_ret
    exact ⟨by rw [HP.out]; rfl, bel⟩
  have z0 : decide ((b.toNat : Int) < 1) = false := decide_eq_false (by omega)
  clear hb0
  by_cases hb8 : b.toNat ≤ 8
  rotate_left
  · have h8 : (8 : Int) < b.toNat := by omega
    have HP : Hid (typeL L = 0) := Lib.hid (by rw [type_one HQ.out, if_neg (by omega)])
    clear hb8
    have R17 := (by have h_ := sl_at sb (j := 0) rfl; rw [Nat.add_zero] at h_; exact h_)
    have R23 := (by have h_ := sl_at sb (j := 0) rfl; rw [Nat.add_zero] at h_; exact h_)
    go_wp2_with fail
    clear R17 R23
    go_ret
    exact ⟨by rw [HP.out]; rfl, bel⟩
  have h8 : decide ((8 : Int) < b.toNat) = false := decide_eq_false (by omega)
  have HP : Hid (typeL L = b.toNat) := Lib.hid (by rw [type_one HQ.out, if_pos hb8])
  clear hb8
  have R17 := (by have h_ := sl_at sb (j := 0) rfl; rw [Nat.add_zero] at h_; exact h_)
  have R23 := (by have h_ := sl_at sb (j := 0) rfl; rw [Nat.add_zero] at h_; exact h_)
  have R28 := (by have h_ := sl_at sb (j := 0) rfl; rw [Nat.add_zero] at h_; exact h_)
  go_wp2_with fail
  clear R17 R23 R28
  go_ret
  exact ⟨by rw [HP.out]; rfl, bel⟩
end Go.Proofs.Ytmljgpefbbifmaa
