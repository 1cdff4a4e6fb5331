/- Layer 6: walks. -/
import Derived.Test.YtabogdpjjclapaaAwk6
namespace Go.Proofs.Ytabogdpjjclapaa
open Go.RowKit


theorem great6_any (tos id fl pt ttl pr : Int) (a0 a1 a2 a3 a4 a5 a6 a7 : UInt8) (So Sb : Option Addr) (no co nb cb : Nat) (w : World) : Calls Try.prog 18 #[.agg #[.int .i64 tos, .int .i64 id, .int .i64 fl, .int .i64 pt, .int .i64 ttl, .int .i64 pr, .int .u8 (a0.toNat : Int), .int .u8 (a1.toNat : Int), .int .u8 (a2.toNat : Int), .int .u8 (a3.toNat : Int), .int .u8 (a4.toNat : Int), .int .u8 (a5.toNat : Int), .int .u8 (a6.toNat : Int), .int .u8 (a7.toNat : Int), .slice So no co, .slice Sb nb cb]] w fun e w' => e = .returned (.bool (decide (1600 < nb) || decide (100 < no))) ∧ Below w.heap.size w w' := by
  by_cases h1 : 1600 < nb
  · have e1 : decide (1600 < nb) = true := decide_eq_true h1
    rw [e1]
    have bel := Below.refl w.heap.size w
    have hp : (w.alloc (.cells #[.int .i64 tos, .int .i64 id, .int .i64 fl, .int .i64 pt, .int .i64 ttl, .int .i64 pr, .int .u8 (a0.toNat : Int), .int .u8 (a1.toNat : Int), .int .u8 (a2.toNat : Int), .int .u8 (a3.toNat : Int), .int .u8 (a4.toNat : Int), .int .u8 (a5.toNat : Int), .int .u8 (a6.toNat : Int), .int .u8 (a7.toNat : Int), .slice So no co, .slice Sb nb cb] 27)).heap[w.heap.size]? = some (.cells #[.int .i64 tos, .int .i64 id, .int .i64 fl, .int .i64 pt, .int .i64 ttl, .int .i64 pr, .int .u8 (a0.toNat : Int), .int .u8 (a1.toNat : Int), .int .u8 (a2.toNat : Int), .int .u8 (a3.toNat : Int), .int .u8 (a4.toNat : Int), .int .u8 (a5.toNat : Int), .int .u8 (a6.toNat : Int), .int .u8 (a7.toNat : Int), .slice So no co, .slice Sb nb cb] 27 (0, 0)) := by have := heap_alloc_new w (.cells #[.int .i64 tos, .int .i64 id, .int .i64 fl, .int .i64 pt, .int .i64 ttl, .int .i64 pr, .int .u8 (a0.toNat : Int), .int .u8 (a1.toNat : Int), .int .u8 (a2.toNat : Int), .int .u8 (a3.toNat : Int), .int .u8 (a4.toNat : Int), .int .u8 (a5.toNat : Int), .int .u8 (a6.toNat : Int), .int .u8 (a7.toNat : Int), .slice So no co, .slice Sb nb cb] 27); simpa using this
    have zp : w.heap.size < (w.alloc (.cells #[.int .i64 tos, .int .i64 id, .int .i64 fl, .int .i64 pt, .int .i64 ttl, .int .i64 pr, .int .u8 (a0.toNat : Int), .int .u8 (a1.toNat : Int), .int .u8 (a2.toNat : Int), .int .u8 (a3.toNat : Int), .int .u8 (a4.toNat : Int), .int .u8 (a5.toNat : Int), .int .u8 (a6.toNat : Int), .int .u8 (a7.toNat : Int), .slice So no co, .slice Sb nb cb] 27)).heap.size := by simp
    replace bel := bel.alloc bel.size (.cells #[.int .i64 tos, .int .i64 id, .int .i64 fl, .int .i64 pt, .int .i64 ttl, .int .i64 pr, .int .u8 (a0.toNat : Int), .int .u8 (a1.toNat : Int), .int .u8 (a2.toNat : Int), .int .u8 (a3.toNat : Int), .int .u8 (a4.toNat : Int), .int .u8 (a5.toNat : Int), .int .u8 (a6.toNat : Int), .int .u8 (a7.toNat : Int), .slice So no co, .slice Sb nb cb] 27)
    have t1 : (1600 : Int) < nb := by omega
    clear h1
    have r9 := cell_lit hp 15 _ rfl
    have r8 := cell_lit hp 14 _ rfl
    go_enter Try.func18, Try.ntmps18
    go_wp2
    go_ret
    exact ⟨by simp_all, bel⟩
  · have e1 : decide (1600 < nb) = false := decide_eq_false h1
    rw [e1]
    by_cases h2 : 100 < no
    · have e2 : decide (100 < no) = true := decide_eq_true h2
      rw [e2]
      have bel := Below.refl w.heap.size w
      have hp : (w.alloc (.cells #[.int .i64 tos, .int .i64 id, .int .i64 fl, .int .i64 pt, .int .i64 ttl, .int .i64 pr, .int .u8 (a0.toNat : Int), .int .u8 (a1.toNat : Int), .int .u8 (a2.toNat : Int), .int .u8 (a3.toNat : Int), .int .u8 (a4.toNat : Int), .int .u8 (a5.toNat : Int), .int .u8 (a6.toNat : Int), .int .u8 (a7.toNat : Int), .slice So no co, .slice Sb nb cb] 27)).heap[w.heap.size]? = some (.cells #[.int .i64 tos, .int .i64 id, .int .i64 fl, .int .i64 pt, .int .i64 ttl, .int .i64 pr, .int .u8 (a0.toNat : Int), .int .u8 (a1.toNat : Int), .int .u8 (a2.toNat : Int), .int .u8 (a3.toNat : Int), .int .u8 (a4.toNat : Int), .int .u8 (a5.toNat : Int), .int .u8 (a6.toNat : Int), .int .u8 (a7.toNat : Int), .slice So no co, .slice Sb nb cb] 27 (0, 0)) := by have := heap_alloc_new w (.cells #[.int .i64 tos, .int .i64 id, .int .i64 fl, .int .i64 pt, .int .i64 ttl, .int .i64 pr, .int .u8 (a0.toNat : Int), .int .u8 (a1.toNat : Int), .int .u8 (a2.toNat : Int), .int .u8 (a3.toNat : Int), .int .u8 (a4.toNat : Int), .int .u8 (a5.toNat : Int), .int .u8 (a6.toNat : Int), .int .u8 (a7.toNat : Int), .slice So no co, .slice Sb nb cb] 27); simpa using this
      have zp : w.heap.size < (w.alloc (.cells #[.int .i64 tos, .int .i64 id, .int .i64 fl, .int .i64 pt, .int .i64 ttl, .int .i64 pr, .int .u8 (a0.toNat : Int), .int .u8 (a1.toNat : Int), .int .u8 (a2.toNat : Int), .int .u8 (a3.toNat : Int), .int .u8 (a4.toNat : Int), .int .u8 (a5.toNat : Int), .int .u8 (a6.toNat : Int), .int .u8 (a7.toNat : Int), .slice So no co, .slice Sb nb cb] 27)).heap.size := by simp
      replace bel := bel.alloc bel.size (.cells #[.int .i64 tos, .int .i64 id, .int .i64 fl, .int .i64 pt, .int .i64 ttl, .int .i64 pr, .int .u8 (a0.toNat : Int), .int .u8 (a1.toNat : Int), .int .u8 (a2.toNat : Int), .int .u8 (a3.toNat : Int), .int .u8 (a4.toNat : Int), .int .u8 (a5.toNat : Int), .int .u8 (a6.toNat : Int), .int .u8 (a7.toNat : Int), .slice So no co, .slice Sb nb cb] 27)
      have t1 : decide ((1600 : Int) < nb) = false := decide_eq_false (by omega)
      have t2 : (100 : Int) < no := by omega
      clear h1 h2
      have r9 := cell_lit hp 15 _ rfl
      have r8 := cell_lit hp 14 _ rfl
      go_enter Try.func18, Try.ntmps18
      go_wp2
      go_ret
      exact ⟨by simp_all, bel⟩
    · have e2 : decide (100 < no) = false := decide_eq_false h2
      rw [e2]
      have bel := Below.refl w.heap.size w
      have hp : (w.alloc (.cells #[.int .i64 tos, .int .i64 id, .int .i64 fl, .int .i64 pt, .int .i64 ttl, .int .i64 pr, .int .u8 (a0.toNat : Int), .int .u8 (a1.toNat : Int), .int .u8 (a2.toNat : Int), .int .u8 (a3.toNat : Int), .int .u8 (a4.toNat : Int), .int .u8 (a5.toNat : Int), .int .u8 (a6.toNat : Int), .int .u8 (a7.toNat : Int), .slice So no co, .slice Sb nb cb] 27)).heap[w.heap.size]? = some (.cells #[.int .i64 tos, .int .i64 id, .int .i64 fl, .int .i64 pt, .int .i64 ttl, .int .i64 pr, .int .u8 (a0.toNat : Int), .int .u8 (a1.toNat : Int), .int .u8 (a2.toNat : Int), .int .u8 (a3.toNat : Int), .int .u8 (a4.toNat : Int), .int .u8 (a5.toNat : Int), .int .u8 (a6.toNat : Int), .int .u8 (a7.toNat : Int), .slice So no co, .slice Sb nb cb] 27 (0, 0)) := by have := heap_alloc_new w (.cells #[.int .i64 tos, .int .i64 id, .int .i64 fl, .int .i64 pt, .int .i64 ttl, .int .i64 pr, .int .u8 (a0.toNat : Int), .int .u8 (a1.toNat : Int), .int .u8 (a2.toNat : Int), .int .u8 (a3.toNat : Int), .int .u8 (a4.toNat : Int), .int .u8 (a5.toNat : Int), .int .u8 (a6.toNat : Int), .int .u8 (a7.toNat : Int), .slice So no co, .slice Sb nb cb] 27); simpa using this
      have zp : w.heap.size < (w.alloc (.cells #[.int .i64 tos, .int .i64 id, .int .i64 fl, .int .i64 pt, .int .i64 ttl, .int .i64 pr, .int .u8 (a0.toNat : Int), .int .u8 (a1.toNat : Int), .int .u8 (a2.toNat : Int), .int .u8 (a3.toNat : Int), .int .u8 (a4.toNat : Int), .int .u8 (a5.toNat : Int), .int .u8 (a6.toNat : Int), .int .u8 (a7.toNat : Int), .slice So no co, .slice Sb nb cb] 27)).heap.size := by simp
      replace bel := bel.alloc bel.size (.cells #[.int .i64 tos, .int .i64 id, .int .i64 fl, .int .i64 pt, .int .i64 ttl, .int .i64 pr, .int .u8 (a0.toNat : Int), .int .u8 (a1.toNat : Int), .int .u8 (a2.toNat : Int), .int .u8 (a3.toNat : Int), .int .u8 (a4.toNat : Int), .int .u8 (a5.toNat : Int), .int .u8 (a6.toNat : Int), .int .u8 (a7.toNat : Int), .slice So no co, .slice Sb nb cb] 27)
      have t1 : decide ((1600 : Int) < nb) = false := decide_eq_false (by omega)
      have t2 : decide ((100 : Int) < no) = false := decide_eq_false (by omega)
      clear h1 h2
      have r9 := cell_lit hp 15 _ rfl
      have r8 := cell_lit hp 14 _ rfl
      go_enter Try.func18, Try.ntmps18
      go_wp2
      go_ret
      exact ⟨by simp_all, bel⟩
set_option maxRecDepth 100000 in
set_option maxHeartbeats 16000000 in
theorem ip4Reads_in (S : Option Addr) (n c : Nat) (l : List UInt8) (w : World) (hl : Sl w S n c l) (hn : n ≤ 1700) : Calls Try.prog 4 #[.slice S n c] w fun e w' => e = .returned (.bool true) ∧ Below w.heap.size w w' := by
  have bel := Below.refl w.heap.size w
  obtain ⟨ii, hii, hz0, hz1, hz2⟩ := info_parts Try.info5
  have t1 : decide ((1700 : Int) < n) = false := decide_eq_false (by omega)
  have HN := Lib.hid hn
  have hsb := hl
  clear hn hl
  go_enter Try.func4, Try.ntmps4
  go_wp2_with fail
  with_reducible refine (awake6 _).mono ?_
  rintro e w1 ⟨rfl, b1⟩
  replace hsb := hsb.below b1
  replace bel := bel.trans (b1.mono bel.size)
  clear b1
  have own0 := own_empty w1
  have bz := (Below.refl w1.heap.size w1).alloc (Nat.le_refl _) (.cells #[] 5)
  have sa := hsb.below bz
  go_wp2_with ((at_builtin; refine wpList_append_bb _ rfl (.tmp 17) (.tmp 18) 25 rfl w1.heap.size 5 ii (.int .u8 0) Try.underlying25 hii hz0 hz1 hz2 rfl _ (0) ([]) rfl own0 S (n) (c) (l) rfl sa ?c1 ?c2 ?_))
  case c1 => have := HN.out; omega
  case c2 => exact bz.size
  intro r2 y2 own2 bb
  replace bz := bz.trans bb
  clear bb sa own0
  replace own2 : y2.ownsRow w1.heap.size 5 1 r2 (n) ((l).map u8v) := by simpa using own2
  replace hsb := hsb.below bz
  replace bel := bel.trans (bz.mono bel.size)
  clear bz
  obtain ⟨Asg, csg, esg, sg, fsg⟩ := Sl.of_own_f own2
  subst esg
  clear own2
  go_wp2_with fail
  with_reducible refine (ipget_any Asg n csg l _ sg (by have := HN.out; omega)).mono ?_
  rintro e w3 ⟨f0, f1, f2, f3, f4, f5, g0, g1, g2, g3, g4, g5, g6, g7, lo1, lb1, Ao1, Ab1, co1, cb1, er1, rfl, ho1, hb1, b3, hg1⟩
  replace hsb := hsb.below b3
  replace bel := bel.trans (b3.mono bel.size)
  clear b3
  clear sg fsg
  have nq := heap_alloc_new w3 (.cells #[.int .i64 0, .int .i64 0, .int .i64 0, .int .i64 0, .int .i64 0, .int .i64 0, .int .u8 0, .int .u8 0, .int .u8 0, .int .u8 0, .int .u8 0, .int .u8 0, .int .u8 0, .int .u8 0, .slice none 0 0, .slice none 0 0] 27)
  have bqq := (Below.refl w3.heap.size w3).alloc (Nat.le_refl _) (.cells #[.int .i64 0, .int .i64 0, .int .i64 0, .int .i64 0, .int .i64 0, .int .i64 0, .int .u8 0, .int .u8 0, .int .u8 0, .int .u8 0, .int .u8 0, .int .u8 0, .int .u8 0, .int .u8 0, .slice none 0 0, .slice none 0 0] 27)
  go_wp2_with (first | ((with_reducible show wpList _ _ _ (⟨none, Op.store _ _ _, _, _, _, _⟩ :: _) _ _); refine wpList_store_blk rfl 27 _ _ rfl (w3.heap.size) rfl #[.int .i64 f0, .int .i64 f1, .int .i64 f2, .int .i64 f3, .int .i64 f4, .int .i64 f5, .int .u8 (g0.toNat : Int), .int .u8 (g1.toNat : Int), .int .u8 (g2.toNat : Int), .int .u8 (g3.toNat : Int), .int .u8 (g4.toNat : Int), .int .u8 (g5.toNat : Int), .int .u8 (g6.toNat : Int), .int .u8 (g7.toNat : Int), .slice Ao1 lo1.length co1, .slice Ab1 lb1.length cb1] rfl _ 27 nq (by rfl) (by kernel_rfl) (by kernel_rfl) ?_; intro x4 hq gq; have bz := below_grown bqq gq (Nat.le_refl _) bqq.size; replace hsb := hsb.below bz; replace ho1 := ho1.below bz; replace hb1 := hb1.below bz; replace bel := bel.trans (bz.mono bel.size); have zq := (Array.getElem?_eq_some_iff.1 hq).1; clear nq bqq bz gq))
  with_reducible refine (rget6_any S n c l _ hsb (by have := HN.out; omega)).mono ?_
  rintro e w5 ⟨i0, i1, i2, i3, i4, i5, j0, j1, j2, j3, j4, j5, j6, j7, lo2, lb2, Ao2, Ab2, co2, cb2, er2, rfl, ho2, hb2, b5, hg2⟩
  replace hq := (b5.block _ zq).trans hq
  replace zq := Nat.lt_of_lt_of_le zq b5.size
  replace hsb := hsb.below b5
  replace ho1 := ho1.below b5
  replace hb1 := hb1.below b5
  replace bel := bel.trans (b5.mono bel.size)
  clear b5
  have hh := hg2.trans hg1.symm
  simp only [Prod.mk.injEq, List.cons.injEq, and_true] at hh
  obtain ⟨⟨⟨rfl, rfl, rfl, rfl, rfl, rfl⟩, rfl, rfl, rfl, rfl, rfl, rfl, rfl, rfl⟩, ⟨rfl, rfl⟩, rfl⟩ := hh
  clear hg2 hg1
  have nr := heap_alloc_new w5 (.cells #[.int .i64 0, .int .i64 0, .int .i64 0, .int .i64 0, .int .i64 0, .int .i64 0, .int .u8 0, .int .u8 0, .int .u8 0, .int .u8 0, .int .u8 0, .int .u8 0, .int .u8 0, .int .u8 0, .slice none 0 0, .slice none 0 0] 35)
  have bqr := (Below.refl w5.heap.size w5).alloc (Nat.le_refl _) (.cells #[.int .i64 0, .int .i64 0, .int .i64 0, .int .i64 0, .int .i64 0, .int .i64 0, .int .u8 0, .int .u8 0, .int .u8 0, .int .u8 0, .int .u8 0, .int .u8 0, .int .u8 0, .int .u8 0, .slice none 0 0, .slice none 0 0] 35)
  go_wp2_with (first | ((with_reducible show wpList _ _ _ (⟨none, Op.store _ _ _, _, _, _, _⟩ :: _) _ _); refine wpList_store_blk rfl 35 _ _ rfl (w5.heap.size) rfl #[.int .i64 i0, .int .i64 i1, .int .i64 i2, .int .i64 i3, .int .i64 i4, .int .i64 i5, .int .u8 (j0.toNat : Int), .int .u8 (j1.toNat : Int), .int .u8 (j2.toNat : Int), .int .u8 (j3.toNat : Int), .int .u8 (j4.toNat : Int), .int .u8 (j5.toNat : Int), .int .u8 (j6.toNat : Int), .int .u8 (j7.toNat : Int), .slice Ao2 lo2.length co2, .slice Ab2 lb2.length cb2] rfl _ 35 nr (by rfl) (by kernel_rfl) (by kernel_rfl) ?_; intro x6 hr gr; have bz := below_grown bqr gr (Nat.le_refl _) bqr.size; replace hq := (bz.block _ zq).trans hq; replace zq := Nat.lt_of_lt_of_le zq bz.size; replace hsb := hsb.below bz; replace ho1 := ho1.below bz; replace hb1 := hb1.below bz; replace ho2 := ho2.below bz; replace hb2 := hb2.below bz; replace bel := bel.trans (bz.mono bel.size); have zr := (Array.getElem?_eq_some_iff.1 hr).1; clear nr bqr bz gr; have own0 := own_empty x6; have bz := (Below.refl x6.heap.size x6).alloc (Nat.le_refl _) (.cells #[] 5); have sa := hsb.below bz) | (at_builtin; refine wpList_append_bb _ rfl (.tmp 29) (.tmp 30) 25 rfl x6.heap.size 5 ii (.int .u8 0) Try.underlying25 hii hz0 hz1 hz2 rfl _ (0) ([]) rfl own0 S (n) (c) (l) rfl sa ?c1 ?c2 ?_))
  case c1 => have := HN.out; omega
  case c2 => exact bz.size
  intro r7 y7 own7 bb
  replace bz := bz.trans bb
  clear bb sa own0
  replace own7 : y7.ownsRow x6.heap.size 5 1 r7 (n) ((l).map u8v) := by simpa using own7
  replace hq := (bz.block _ zq).trans hq
  replace zq := Nat.lt_of_lt_of_le zq bz.size
  replace hr := (bz.block _ zr).trans hr
  replace zr := Nat.lt_of_lt_of_le zr bz.size
  replace hsb := hsb.below bz
  replace ho1 := ho1.below bz
  replace hb1 := hb1.below bz
  replace ho2 := ho2.below bz
  replace hb2 := hb2.below bz
  replace bel := bel.trans (bz.mono bel.size)
  clear bz
  obtain ⟨Ash, csh, esh, sh, fsh⟩ := Sl.of_own_f own7
  subst esh
  clear own7
  go_wp2_with fail
  with_reducible refine (iphop_any Ash n csh l _ sh (by have := HN.out; omega)).mono ?_
  rintro e w8 ⟨C1, d1, r1, e1, rfl, hc1, b8, hp1⟩
  replace hq := (b8.block _ zq).trans hq
  replace zq := Nat.lt_of_lt_of_le zq b8.size
  replace hr := (b8.block _ zr).trans hr
  replace zr := Nat.lt_of_lt_of_le zr b8.size
  replace hsb := hsb.below b8
  replace ho1 := ho1.below b8
  replace hb1 := hb1.below b8
  replace ho2 := ho2.below b8
  replace hb2 := hb2.below b8
  replace bel := bel.trans (b8.mono bel.size)
  clear b8
  clear sh fsh
  go_wp2_with fail
  with_reducible refine (rhop_any S n c l _ hsb (by have := HN.out; omega)).mono ?_
  rintro e w9 ⟨C2, d2, r2, e2, rfl, hc2, b9, hp2⟩
  replace hq := (b9.block _ zq).trans hq
  replace zq := Nat.lt_of_lt_of_le zq b9.size
  replace hr := (b9.block _ zr).trans hr
  replace zr := Nat.lt_of_lt_of_le zr b9.size
  replace hsb := hsb.below b9
  replace ho1 := ho1.below b9
  replace hb1 := hb1.below b9
  replace ho2 := ho2.below b9
  replace hb2 := hb2.below b9
  replace hc1 := hc1.below b9
  replace bel := bel.trans (b9.mono bel.size)
  clear b9
  have hh := hp2.trans hp1.symm
  simp only [Prod.mk.injEq] at hh
  obtain ⟨rfl, rfl⟩ := hh
  clear hp1 hp2 hsb
  go_wp2_with fail
  replace bel := bel.drew
  replace hq : w9.drew.heap[w3.heap.size]? = some (.cells #[.int .i64 i0, .int .i64 i1, .int .i64 i2, .int .i64 i3, .int .i64 i4, .int .i64 i5, .int .u8 (j0.toNat : Int), .int .u8 (j1.toNat : Int), .int .u8 (j2.toNat : Int), .int .u8 (j3.toNat : Int), .int .u8 (j4.toNat : Int), .int .u8 (j5.toNat : Int), .int .u8 (j6.toNat : Int), .int .u8 (j7.toNat : Int), .slice Ao1 lo2.length co1, .slice Ab1 lb2.length cb1] 27 (0, 0)) := hq
  replace zq : w3.heap.size < w9.drew.heap.size := zq
  replace hr : w9.drew.heap[w5.heap.size]? = some (.cells #[.int .i64 i0, .int .i64 i1, .int .i64 i2, .int .i64 i3, .int .i64 i4, .int .i64 i5, .int .u8 (j0.toNat : Int), .int .u8 (j1.toNat : Int), .int .u8 (j2.toNat : Int), .int .u8 (j3.toNat : Int), .int .u8 (j4.toNat : Int), .int .u8 (j5.toNat : Int), .int .u8 (j6.toNat : Int), .int .u8 (j7.toNat : Int), .slice Ao2 lo2.length co2, .slice Ab2 lb2.length cb2] 35 (0, 0)) := hr
  replace zr : w5.heap.size < w9.drew.heap.size := zr
  replace ho1 := ho1.drew
  replace hb1 := hb1.drew
  replace ho2 := ho2.drew
  replace hb2 := hb2.drew
  replace hc1 := hc1.drew
  replace hc2 := hc2.drew
  refine wp_region_held_drew (S := fun W => W.heap[w3.heap.size]? = some (.cells #[.int .i64 i0, .int .i64 i1, .int .i64 i2, .int .i64 i3, .int .i64 i4, .int .i64 i5, .int .u8 (j0.toNat : Int), .int .u8 (j1.toNat : Int), .int .u8 (j2.toNat : Int), .int .u8 (j3.toNat : Int), .int .u8 (j4.toNat : Int), .int .u8 (j5.toNat : Int), .int .u8 (j6.toNat : Int), .int .u8 (j7.toNat : Int), .slice Ao1 lo2.length co1, .slice Ab1 lb2.length cb1] 27 (0, 0)) ∧ W.heap[w5.heap.size]? = some (.cells #[.int .i64 i0, .int .i64 i1, .int .i64 i2, .int .i64 i3, .int .i64 i4, .int .i64 i5, .int .u8 (j0.toNat : Int), .int .u8 (j1.toNat : Int), .int .u8 (j2.toNat : Int), .int .u8 (j3.toNat : Int), .int .u8 (j4.toNat : Int), .int .u8 (j5.toNat : Int), .int .u8 (j6.toNat : Int), .int .u8 (j7.toNat : Int), .slice Ao2 lo2.length co2, .slice Ab2 lb2.length cb2] 35 (0, 0)) ∧ Sl W (Ao1) (lo2.length) (co1) (lo2) ∧ Sl W (Ab1) (lb2.length) (cb1) (lb2) ∧ Sl W (Ao2) (lo2.length) (co2) (lo2) ∧ Sl W (Ab2) (lb2.length) (cb2) (lb2) ∧ Sl W (C1) (r2.length) (d1) (r2) ∧ Sl W (C2) (r2.length) (d2) (r2)) (by kernel_rfl) ⟨hq, hr, ho1, hb1, ho2, hb2, hc1, hc2⟩ (fun hH => ?_)
  generalize w9.drew = vd at bel hq zq hr zr ho1 hb1 ho2 hb2 hc1 hc2 hH ⊢
  refine wpAnyH_take (i := 0) (v := ?_) rfl (by kernel_rfl) (by kernel_rfl) (by kernel_rfl) (fun _ _ _ h => h) (Or.inl ⟨by rfl, ?_⟩) hH ?_
  rotate_left
  · ((intro W hW; clear hW; go_simp) <;> with_reducible rfl)
  simp only [Act.put, List.getElem_toArray, List.getElem_cons_zero, List.setIfInBounds_toArray, List.set_cons_zero, List.set_cons_succ]
  refine wpAnyH_take (i := 1) (v := ?_) rfl (by kernel_rfl) (by kernel_rfl) (by kernel_rfl) (fun _ _ _ h => h) (Or.inl ⟨by rfl, ?_⟩) hH ?_
  rotate_left
  · ((intro W hW; clear hW; go_simp) <;> with_reducible rfl)
  simp only [Act.put, List.getElem_toArray, List.getElem_cons_zero, List.getElem_cons_succ, List.setIfInBounds_toArray, List.set_cons_zero, List.set_cons_succ]
  refine wpAnyH_take (i := 2) (v := ?_) rfl (by kernel_rfl) (by kernel_rfl) (by kernel_rfl) (fun _ _ _ h => h) (Or.inl ⟨by rfl, ?_⟩) hH ?_
  rotate_left
  · ((intro W hW; clear hW; go_simp) <;> with_reducible rfl)
  simp only [Act.put, List.getElem_toArray, List.getElem_cons_zero, List.getElem_cons_succ, List.setIfInBounds_toArray, List.set_cons_zero, List.set_cons_succ]
  refine wpAnyH_take (i := 3) (v := ?_) rfl (by kernel_rfl) (by kernel_rfl) (by kernel_rfl) (fun _ _ _ h => h) (Or.inl ⟨by rfl, ?_⟩) hH ?_
  rotate_left
  · ((intro W hW; clear hW; go_simp) <;> with_reducible rfl)
  simp only [Act.put, List.getElem_toArray, List.getElem_cons_zero, List.getElem_cons_succ, List.setIfInBounds_toArray, List.set_cons_zero, List.set_cons_succ]
  refine wpAnyH_take (i := 4) (v := .agg #[.int .i64 i0, .int .i64 i1, .int .i64 i2, .int .i64 i3, .int .i64 i4, .int .i64 i5, .int .u8 (j0.toNat : Int), .int .u8 (j1.toNat : Int), .int .u8 (j2.toNat : Int), .int .u8 (j3.toNat : Int), .int .u8 (j4.toNat : Int), .int .u8 (j5.toNat : Int), .int .u8 (j6.toNat : Int), .int .u8 (j7.toNat : Int), .slice Ao1 lo2.length co1, .slice Ab1 lb2.length cb1]) rfl (by kernel_rfl) (by kernel_rfl) (by kernel_rfl) (fun _ _ _ h => h) (yieldsIf_load_part (by kernel_rfl) 27 _ rfl (w3.heap.size) 0 16 rfl [.int .i64 i0, .int .i64 i1, .int .i64 i2, .int .i64 i3, .int .i64 i4, .int .i64 i5, .int .u8 (j0.toNat : Int), .int .u8 (j1.toNat : Int), .int .u8 (j2.toNat : Int), .int .u8 (j3.toNat : Int), .int .u8 (j4.toNat : Int), .int .u8 (j5.toNat : Int), .int .u8 (j6.toNat : Int), .int .u8 (j7.toNat : Int), .slice Ao1 lo2.length co1, .slice Ab1 lb2.length cb1] 27 (0, 0) (fun W hW => hW.1) [.int .i64 i0, .int .i64 i1, .int .i64 i2, .int .i64 i3, .int .i64 i4, .int .i64 i5, .int .u8 (j0.toNat : Int), .int .u8 (j1.toNat : Int), .int .u8 (j2.toNat : Int), .int .u8 (j3.toNat : Int), .int .u8 (j4.toNat : Int), .int .u8 (j5.toNat : Int), .int .u8 (j6.toNat : Int), .int .u8 (j7.toNat : Int), .slice Ao1 lo2.length co1, .slice Ab1 lb2.length cb1] rfl _ Try.underlying27 rfl (by kernel_rfl)) hH ?_
  simp only [Act.put, List.getElem_toArray, List.getElem_cons_zero, List.getElem_cons_succ, List.setIfInBounds_toArray, List.set_cons_zero, List.set_cons_succ]
  refine wpAnyH_take (i := 6) (v := .agg #[.int .i64 i0, .int .i64 i1, .int .i64 i2, .int .i64 i3, .int .i64 i4, .int .i64 i5, .int .u8 (j0.toNat : Int), .int .u8 (j1.toNat : Int), .int .u8 (j2.toNat : Int), .int .u8 (j3.toNat : Int), .int .u8 (j4.toNat : Int), .int .u8 (j5.toNat : Int), .int .u8 (j6.toNat : Int), .int .u8 (j7.toNat : Int), .slice Ao2 lo2.length co2, .slice Ab2 lb2.length cb2]) rfl (by kernel_rfl) (by kernel_rfl) (by kernel_rfl) (fun _ _ _ h => h) (yieldsIf_load_part (by kernel_rfl) 35 _ rfl (w5.heap.size) 0 16 rfl [.int .i64 i0, .int .i64 i1, .int .i64 i2, .int .i64 i3, .int .i64 i4, .int .i64 i5, .int .u8 (j0.toNat : Int), .int .u8 (j1.toNat : Int), .int .u8 (j2.toNat : Int), .int .u8 (j3.toNat : Int), .int .u8 (j4.toNat : Int), .int .u8 (j5.toNat : Int), .int .u8 (j6.toNat : Int), .int .u8 (j7.toNat : Int), .slice Ao2 lo2.length co2, .slice Ab2 lb2.length cb2] 35 (0, 0) (fun W hW => hW.2.1) [.int .i64 i0, .int .i64 i1, .int .i64 i2, .int .i64 i3, .int .i64 i4, .int .i64 i5, .int .u8 (j0.toNat : Int), .int .u8 (j1.toNat : Int), .int .u8 (j2.toNat : Int), .int .u8 (j3.toNat : Int), .int .u8 (j4.toNat : Int), .int .u8 (j5.toNat : Int), .int .u8 (j6.toNat : Int), .int .u8 (j7.toNat : Int), .slice Ao2 lo2.length co2, .slice Ab2 lb2.length cb2] rfl _ Try.underlying35 rfl (by kernel_rfl)) hH ?_
  simp only [Act.put, List.getElem_toArray, List.getElem_cons_zero, List.getElem_cons_succ, List.setIfInBounds_toArray, List.set_cons_zero, List.set_cons_succ]
  refine wpAnyH_ready (rs := [5]) (by kernel_rfl) (by simp) ?_
  refine AllReadyH.cons (o := _) rfl (fun K hK => ?_) AllReadyH.nil
  simp only [List.getElem_toArray, List.getElem_cons_zero, List.getElem_cons_succ]
  go_simp
  with_reducible refine (own6_any i0 i1 i2 i3 i4 i5 j0 j1 j2 j3 j4 j5 j6 j7 _ _ _ _ _ _ _).mono ?_
  rintro e v31 ⟨rfl, b31⟩
  dsimp only
  replace bel := bel.trans (b31.mono bel.size)
  replace hq := (b31.block _ zq).trans hq
  replace zq := Nat.lt_of_lt_of_le zq b31.size
  replace hr := (b31.block _ zr).trans hr
  replace zr := Nat.lt_of_lt_of_le zr b31.size
  replace ho1 := ho1.below b31
  replace hb1 := hb1.below b31
  replace ho2 := ho2.below b31
  replace hb2 := hb2.below b31
  replace hc1 := hc1.below b31
  replace hc2 := hc2.below b31
  refine hK.out _ _ ⟨hq, hr, ho1, hb1, ho2, hb2, hc1, hc2⟩ (fun hH31 => ?_)
  clear hK K
  refine wpAnyH_ready (rs := [7]) (by kernel_rfl) (by simp) ?_
  refine AllReadyH.cons (o := _) rfl (fun K hK => ?_) AllReadyH.nil
  simp only [List.getElem_toArray, List.getElem_cons_zero, List.getElem_cons_succ]
  go_simp
  with_reducible refine (same6_true i0 i1 i2 i3 i4 i5 j0 j1 j2 j3 j4 j5 j6 j7 _ _ _ _ _ _ _ _ _ _ lo2 lb2 _ ho1 hb1 ho2 hb2).mono ?_
  rintro e v32 ⟨rfl, b32⟩
  dsimp only
  replace bel := bel.trans (b32.mono bel.size)
  replace hq := (b32.block _ zq).trans hq
  replace zq := Nat.lt_of_lt_of_le zq b32.size
  replace hr := (b32.block _ zr).trans hr
  replace zr := Nat.lt_of_lt_of_le zr b32.size
  replace ho1 := ho1.below b32
  replace hb1 := hb1.below b32
  replace ho2 := ho2.below b32
  replace hb2 := hb2.below b32
  replace hc1 := hc1.below b32
  replace hc2 := hc2.below b32
  refine hK.out _ _ ⟨hq, hr, ho1, hb1, ho2, hb2, hc1, hc2⟩ (fun hH32 => ?_)
  clear hK K
  refine wpAnyH_take (i := 8) (v := ?_) rfl (by kernel_rfl) (by kernel_rfl) (by kernel_rfl) (fun _ _ _ h => h) (Or.inl ⟨by rfl, ?_⟩) hH32 ?_
  rotate_left
  · ((intro W hW; clear hW; go_simp) <;> with_reducible rfl)
  simp only [Act.put, List.getElem_toArray, List.getElem_cons_zero, List.getElem_cons_succ, List.setIfInBounds_toArray, List.set_cons_zero, List.set_cons_succ]
  refine wpAnyH_take (i := 9) (v := ?_) rfl (by kernel_rfl) (by kernel_rfl) (by kernel_rfl) (fun _ _ _ h => h) (Or.inl ⟨by rfl, ?_⟩) hH32 ?_
  rotate_left
  · ((intro W hW; clear hW; go_simp) <;> with_reducible rfl)
  simp only [Act.put, List.getElem_toArray, List.getElem_cons_zero, List.getElem_cons_succ, List.setIfInBounds_toArray, List.set_cons_zero, List.set_cons_succ]
  refine wpAnyH_take (i := 10) (v := ?_) rfl (by kernel_rfl) (by kernel_rfl) (by kernel_rfl) (fun _ _ _ h => h) (Or.inl ⟨by rfl, ?_⟩) hH32 ?_
  rotate_left
  · ((intro W hW; clear hW; go_simp) <;> with_reducible rfl)
  simp only [Act.put, List.getElem_toArray, List.getElem_cons_zero, List.getElem_cons_succ, List.setIfInBounds_toArray, List.set_cons_zero, List.set_cons_succ]
  refine wpAnyH_take (i := 11) (v := ?_) rfl (by kernel_rfl) (by kernel_rfl) (by kernel_rfl) (fun _ _ _ h => h) (Or.inl ⟨by rfl, ?_⟩) hH32 ?_
  rotate_left
  · ((intro W hW; clear hW; go_simp) <;> with_reducible rfl)
  simp only [Act.put, List.getElem_toArray, List.getElem_cons_zero, List.getElem_cons_succ, List.setIfInBounds_toArray, List.set_cons_zero, List.set_cons_succ]
  refine wpAnyH_take (i := 12) (v := ?_) rfl (by kernel_rfl) (by kernel_rfl) (by kernel_rfl) (fun _ _ _ h => h) (Or.inl ⟨by rfl, ?_⟩) hH32 ?_
  rotate_left
  · ((intro W hW; clear hW; go_simp) <;> with_reducible rfl)
  simp only [Act.put, List.getElem_toArray, List.getElem_cons_zero, List.getElem_cons_succ, List.setIfInBounds_toArray, List.set_cons_zero, List.set_cons_succ]
  refine wpAnyH_take (i := 13) (v := ?_) rfl (by kernel_rfl) (by kernel_rfl) (by kernel_rfl) (fun _ _ _ h => h) (Or.inl ⟨by rfl, ?_⟩) hH32 ?_
  rotate_left
  · ((intro W hW; clear hW; go_simp) <;> with_reducible rfl)
  simp only [Act.put, List.getElem_toArray, List.getElem_cons_zero, List.getElem_cons_succ, List.setIfInBounds_toArray, List.set_cons_zero, List.set_cons_succ]
  refine wpAnyH_take (i := 14) (v := ?_) rfl (by kernel_rfl) (by kernel_rfl) (by kernel_rfl) (fun _ _ _ h => h) (Or.inl ⟨by rfl, ?_⟩) hH32 ?_
  rotate_left
  · ((intro W hW; clear hW; go_simp) <;> with_reducible rfl)
  simp only [Act.put, List.getElem_toArray, List.getElem_cons_zero, List.getElem_cons_succ, List.setIfInBounds_toArray, List.set_cons_zero, List.set_cons_succ]
  refine wpAnyH_take (i := 15) (v := ?_) rfl (by kernel_rfl) (by kernel_rfl) (by kernel_rfl) (fun _ _ _ h => h) (Or.inl ⟨by rfl, ?_⟩) hH32 ?_
  rotate_left
  · ((intro W hW; clear hW; go_simp) <;> with_reducible rfl)
  simp only [Act.put, List.getElem_toArray, List.getElem_cons_zero, List.getElem_cons_succ, List.setIfInBounds_toArray, List.set_cons_zero, List.set_cons_succ]
  refine wpAnyH_take (i := 16) (v := ?_) rfl (by kernel_rfl) (by kernel_rfl) (by kernel_rfl) (fun _ _ _ h => h) (Or.inl ⟨by rfl, ?_⟩) hH32 ?_
  rotate_left
  · ((intro W hW; have st0 := (hW.2.2.1).str (P := Try.prog) 25 5 9 Try.underlying25 Try.underlying5 Try.underlying9; have st1 := (hW.2.2.2.1).str (P := Try.prog) 25 5 9 Try.underlying25 Try.underlying5 Try.underlying9; have st2 := (hW.2.2.2.2.1).str (P := Try.prog) 25 5 9 Try.underlying25 Try.underlying5 Try.underlying9; have st3 := (hW.2.2.2.2.2.1).str (P := Try.prog) 25 5 9 Try.underlying25 Try.underlying5 Try.underlying9; have st4 := (hW.2.2.2.2.2.2.1).str (P := Try.prog) 25 5 9 Try.underlying25 Try.underlying5 Try.underlying9; have st5 := (hW.2.2.2.2.2.2.2).str (P := Try.prog) 25 5 9 Try.underlying25 Try.underlying5 Try.underlying9; clear hW; go_simp) <;> with_reducible rfl)
  simp only [Act.put, List.getElem_toArray, List.getElem_cons_zero, List.getElem_cons_succ, List.setIfInBounds_toArray, List.set_cons_zero, List.set_cons_succ]
  refine wpAnyH_take (i := 17) (v := ?_) rfl (by kernel_rfl) (by kernel_rfl) (by kernel_rfl) (fun _ _ _ h => h) (Or.inl ⟨by rfl, ?_⟩) hH32 ?_
  rotate_left
  · ((intro W hW; clear hW; go_simp) <;> with_reducible rfl)
  simp only [Act.put, List.getElem_toArray, List.getElem_cons_zero, List.getElem_cons_succ, List.setIfInBounds_toArray, List.set_cons_zero, List.set_cons_succ]
  refine wpAnyH_take (i := 18) (v := ?_) rfl (by kernel_rfl) (by kernel_rfl) (by kernel_rfl) (fun _ _ _ h => h) (Or.inl ⟨by rfl, ?_⟩) hH32 ?_
  rotate_left
  · ((intro W hW; have st0 := (hW.2.2.1).str (P := Try.prog) 25 5 9 Try.underlying25 Try.underlying5 Try.underlying9; have st1 := (hW.2.2.2.1).str (P := Try.prog) 25 5 9 Try.underlying25 Try.underlying5 Try.underlying9; have st2 := (hW.2.2.2.2.1).str (P := Try.prog) 25 5 9 Try.underlying25 Try.underlying5 Try.underlying9; have st3 := (hW.2.2.2.2.2.1).str (P := Try.prog) 25 5 9 Try.underlying25 Try.underlying5 Try.underlying9; have st4 := (hW.2.2.2.2.2.2.1).str (P := Try.prog) 25 5 9 Try.underlying25 Try.underlying5 Try.underlying9; have st5 := (hW.2.2.2.2.2.2.2).str (P := Try.prog) 25 5 9 Try.underlying25 Try.underlying5 Try.underlying9; clear hW; go_simp) <;> with_reducible rfl)
  simp only [Act.put, List.getElem_toArray, List.getElem_cons_zero, List.getElem_cons_succ, List.setIfInBounds_toArray, List.set_cons_zero, List.set_cons_succ]
  refine wpAnyH_take (i := 19) (v := ?_) rfl (by kernel_rfl) (by kernel_rfl) (by kernel_rfl) (fun _ _ _ h => h) (Or.inl ⟨by rfl, ?_⟩) hH32 ?_
  rotate_left
  · ((intro W hW; clear hW; go_simp) <;> with_reducible rfl)
  simp only [Act.put, List.getElem_toArray, List.getElem_cons_zero, List.getElem_cons_succ, List.setIfInBounds_toArray, List.set_cons_zero, List.set_cons_succ]
  refine wpAnyH_take (i := 20) (v := ?_) rfl (by kernel_rfl) (by kernel_rfl) (by kernel_rfl) (fun _ _ _ h => h) (Or.inl ⟨by rfl, ?_⟩) hH32 ?_
  rotate_left
  · ((intro W hW; clear hW; go_simp) <;> with_reducible rfl)
  simp only [Act.put, List.getElem_toArray, List.getElem_cons_zero, List.getElem_cons_succ, List.setIfInBounds_toArray, List.set_cons_zero, List.set_cons_succ]
  refine wpAnyH_take (i := 21) (v := ?_) rfl (by kernel_rfl) (by kernel_rfl) (by kernel_rfl) (fun _ _ _ h => h) (Or.inl ⟨by rfl, ?_⟩) hH32 ?_
  rotate_left
  · ((intro W hW; clear hW; go_simp) <;> with_reducible rfl)
  simp only [Act.put, List.getElem_toArray, List.getElem_cons_zero, List.getElem_cons_succ, List.setIfInBounds_toArray, List.set_cons_zero, List.set_cons_succ]
  refine wpAnyH_done (by kernel_rfl) ?_ _
  go_wp2
  go_ret
  exact ⟨rfl, bel⟩
set_option linter.unusedVariables false in
set_option maxRecDepth 100000 in
set_option maxHeartbeats 16000000 in
theorem ip4Behind_great (tos id fl pt ttl pr : Int) (a0 a1 a2 a3 a4 a5 a6 a7 : UInt8) (So Sb : Option Addr) (co cb : Nat) (lo lb : List UInt8) (S : Option Addr) (n c : Nat) (l : List UInt8) (cut : Int) (w : World) (ho : Sl w So lo.length co lo) (hb : Sl w Sb lb.length cb lb) (hl : Sl w S n c l) (hgr : (decide (1600 < lb.length) || decide (100 < lo.length)) = true) : Calls Try.prog 6 #[.agg #[.int .i64 tos, .int .i64 id, .int .i64 fl, .int .i64 pt, .int .i64 ttl, .int .i64 pr, .int .u8 (a0.toNat : Int), .int .u8 (a1.toNat : Int), .int .u8 (a2.toNat : Int), .int .u8 (a3.toNat : Int), .int .u8 (a4.toNat : Int), .int .u8 (a5.toNat : Int), .int .u8 (a6.toNat : Int), .int .u8 (a7.toNat : Int), .slice So lo.length co, .slice Sb lb.length cb], .slice S n c, .int .i64 cut] w fun e w' => e = .returned (.bool true) ∧ Below w.heap.size w w' := by
  have bel := Below.refl w.heap.size w
  have hp : (w.alloc (.cells #[.int .i64 tos, .int .i64 id, .int .i64 fl, .int .i64 pt, .int .i64 ttl, .int .i64 pr, .int .u8 (a0.toNat : Int), .int .u8 (a1.toNat : Int), .int .u8 (a2.toNat : Int), .int .u8 (a3.toNat : Int), .int .u8 (a4.toNat : Int), .int .u8 (a5.toNat : Int), .int .u8 (a6.toNat : Int), .int .u8 (a7.toNat : Int), .slice So lo.length co, .slice Sb lb.length cb] 27)).heap[w.heap.size]? = some (.cells #[.int .i64 tos, .int .i64 id, .int .i64 fl, .int .i64 pt, .int .i64 ttl, .int .i64 pr, .int .u8 (a0.toNat : Int), .int .u8 (a1.toNat : Int), .int .u8 (a2.toNat : Int), .int .u8 (a3.toNat : Int), .int .u8 (a4.toNat : Int), .int .u8 (a5.toNat : Int), .int .u8 (a6.toNat : Int), .int .u8 (a7.toNat : Int), .slice So lo.length co, .slice Sb lb.length cb] 27 (0, 0)) := by have := heap_alloc_new w (.cells #[.int .i64 tos, .int .i64 id, .int .i64 fl, .int .i64 pt, .int .i64 ttl, .int .i64 pr, .int .u8 (a0.toNat : Int), .int .u8 (a1.toNat : Int), .int .u8 (a2.toNat : Int), .int .u8 (a3.toNat : Int), .int .u8 (a4.toNat : Int), .int .u8 (a5.toNat : Int), .int .u8 (a6.toNat : Int), .int .u8 (a7.toNat : Int), .slice So lo.length co, .slice Sb lb.length cb] 27); simpa using this
  have zp : w.heap.size < (w.alloc (.cells #[.int .i64 tos, .int .i64 id, .int .i64 fl, .int .i64 pt, .int .i64 ttl, .int .i64 pr, .int .u8 (a0.toNat : Int), .int .u8 (a1.toNat : Int), .int .u8 (a2.toNat : Int), .int .u8 (a3.toNat : Int), .int .u8 (a4.toNat : Int), .int .u8 (a5.toNat : Int), .int .u8 (a6.toNat : Int), .int .u8 (a7.toNat : Int), .slice So lo.length co, .slice Sb lb.length cb] 27)).heap.size := by simp
  replace bel := bel.alloc bel.size (.cells #[.int .i64 tos, .int .i64 id, .int .i64 fl, .int .i64 pt, .int .i64 ttl, .int .i64 pr, .int .u8 (a0.toNat : Int), .int .u8 (a1.toNat : Int), .int .u8 (a2.toNat : Int), .int .u8 (a3.toNat : Int), .int .u8 (a4.toNat : Int), .int .u8 (a5.toNat : Int), .int .u8 (a6.toNat : Int), .int .u8 (a7.toNat : Int), .slice So lo.length co, .slice Sb lb.length cb] 27)
  
  go_enter Try.func6, Try.ntmps6
  go_wp2_with fail
  with_reducible refine (awake6 _).mono ?_
  rintro e w1 ⟨rfl, b1⟩
  replace hp := (b1.block _ zp).trans hp
  replace zp := Nat.lt_of_lt_of_le zp b1.size
  replace bel := bel.trans (b1.mono bel.size)
  clear b1
  have R3 := Lib.hid (range_lit hp 0 16 [.int .i64 tos, .int .i64 id, .int .i64 fl, .int .i64 pt, .int .i64 ttl, .int .i64 pr, .int .u8 (a0.toNat : Int), .int .u8 (a1.toNat : Int), .int .u8 (a2.toNat : Int), .int .u8 (a3.toNat : Int), .int .u8 (a4.toNat : Int), .int .u8 (a5.toNat : Int), .int .u8 (a6.toNat : Int), .int .u8 (a7.toNat : Int), .slice So lo.length co, .slice Sb lb.length cb] rfl)
  go_wp2_with (first | ((with_reducible show wpList _ _ _ (⟨some 15, _, _, _, _, _⟩ :: _) _ _); refine wpList_load_rng 27 (.tmp 3) rfl (by kernel_rfl) _ _ rfl _ R3.out _ Try.underlying27 rfl (by kernel_rfl) ?_))
  with_reducible refine (great6_any tos id fl pt ttl pr a0 a1 a2 a3 a4 a5 a6 a7 So Sb lo.length co lb.length cb _).mono ?_
  clear R3
  rintro e w2 ⟨rfl, b2⟩
  replace hp := (b2.block _ zp).trans hp
  replace zp := Nat.lt_of_lt_of_le zp b2.size
  replace bel := bel.trans (b2.mono bel.size)
  clear b2
  rw [hgr]
  go_wp2_with fail
  go_ret
  exact ⟨rfl, bel⟩
set_option linter.unusedVariables false in
set_option maxRecDepth 100000 in
set_option maxHeartbeats 16000000 in
theorem ip4Behind_long (tos id fl pt ttl pr : Int) (a0 a1 a2 a3 a4 a5 a6 a7 : UInt8) (So Sb : Option Addr) (co cb : Nat) (lo lb : List UInt8) (S : Option Addr) (n c : Nat) (l : List UInt8) (cut : Int) (w : World) (ho : Sl w So lo.length co lo) (hb : Sl w Sb lb.length cb lb) (hl : Sl w S n c l) (h1 : lb.length ≤ 1600) (h2 : lo.length ≤ 100) (h3 : 100 < n) : Calls Try.prog 6 #[.agg #[.int .i64 tos, .int .i64 id, .int .i64 fl, .int .i64 pt, .int .i64 ttl, .int .i64 pr, .int .u8 (a0.toNat : Int), .int .u8 (a1.toNat : Int), .int .u8 (a2.toNat : Int), .int .u8 (a3.toNat : Int), .int .u8 (a4.toNat : Int), .int .u8 (a5.toNat : Int), .int .u8 (a6.toNat : Int), .int .u8 (a7.toNat : Int), .slice So lo.length co, .slice Sb lb.length cb], .slice S n c, .int .i64 cut] w fun e w' => e = .returned (.bool true) ∧ Below w.heap.size w w' := by
  have bel := Below.refl w.heap.size w
  have hp : (w.alloc (.cells #[.int .i64 tos, .int .i64 id, .int .i64 fl, .int .i64 pt, .int .i64 ttl, .int .i64 pr, .int .u8 (a0.toNat : Int), .int .u8 (a1.toNat : Int), .int .u8 (a2.toNat : Int), .int .u8 (a3.toNat : Int), .int .u8 (a4.toNat : Int), .int .u8 (a5.toNat : Int), .int .u8 (a6.toNat : Int), .int .u8 (a7.toNat : Int), .slice So lo.length co, .slice Sb lb.length cb] 27)).heap[w.heap.size]? = some (.cells #[.int .i64 tos, .int .i64 id, .int .i64 fl, .int .i64 pt, .int .i64 ttl, .int .i64 pr, .int .u8 (a0.toNat : Int), .int .u8 (a1.toNat : Int), .int .u8 (a2.toNat : Int), .int .u8 (a3.toNat : Int), .int .u8 (a4.toNat : Int), .int .u8 (a5.toNat : Int), .int .u8 (a6.toNat : Int), .int .u8 (a7.toNat : Int), .slice So lo.length co, .slice Sb lb.length cb] 27 (0, 0)) := by have := heap_alloc_new w (.cells #[.int .i64 tos, .int .i64 id, .int .i64 fl, .int .i64 pt, .int .i64 ttl, .int .i64 pr, .int .u8 (a0.toNat : Int), .int .u8 (a1.toNat : Int), .int .u8 (a2.toNat : Int), .int .u8 (a3.toNat : Int), .int .u8 (a4.toNat : Int), .int .u8 (a5.toNat : Int), .int .u8 (a6.toNat : Int), .int .u8 (a7.toNat : Int), .slice So lo.length co, .slice Sb lb.length cb] 27); simpa using this
  have zp : w.heap.size < (w.alloc (.cells #[.int .i64 tos, .int .i64 id, .int .i64 fl, .int .i64 pt, .int .i64 ttl, .int .i64 pr, .int .u8 (a0.toNat : Int), .int .u8 (a1.toNat : Int), .int .u8 (a2.toNat : Int), .int .u8 (a3.toNat : Int), .int .u8 (a4.toNat : Int), .int .u8 (a5.toNat : Int), .int .u8 (a6.toNat : Int), .int .u8 (a7.toNat : Int), .slice So lo.length co, .slice Sb lb.length cb] 27)).heap.size := by simp
  replace bel := bel.alloc bel.size (.cells #[.int .i64 tos, .int .i64 id, .int .i64 fl, .int .i64 pt, .int .i64 ttl, .int .i64 pr, .int .u8 (a0.toNat : Int), .int .u8 (a1.toNat : Int), .int .u8 (a2.toNat : Int), .int .u8 (a3.toNat : Int), .int .u8 (a4.toNat : Int), .int .u8 (a5.toNat : Int), .int .u8 (a6.toNat : Int), .int .u8 (a7.toNat : Int), .slice So lo.length co, .slice Sb lb.length cb] 27)
  have g1 : decide (1600 < lb.length) = false := decide_eq_false (by omega)
  have g2 : decide (100 < lo.length) = false := decide_eq_false (by omega)
  have t1 : (100 : Int) < n := by omega
  clear h1 h2 h3
  go_enter Try.func6, Try.ntmps6
  go_wp2_with fail
  with_reducible refine (awake6 _).mono ?_
  rintro e w1 ⟨rfl, b1⟩
  replace hp := (b1.block _ zp).trans hp
  replace zp := Nat.lt_of_lt_of_le zp b1.size
  replace bel := bel.trans (b1.mono bel.size)
  clear b1
  have R3 := Lib.hid (range_lit hp 0 16 [.int .i64 tos, .int .i64 id, .int .i64 fl, .int .i64 pt, .int .i64 ttl, .int .i64 pr, .int .u8 (a0.toNat : Int), .int .u8 (a1.toNat : Int), .int .u8 (a2.toNat : Int), .int .u8 (a3.toNat : Int), .int .u8 (a4.toNat : Int), .int .u8 (a5.toNat : Int), .int .u8 (a6.toNat : Int), .int .u8 (a7.toNat : Int), .slice So lo.length co, .slice Sb lb.length cb] rfl)
  go_wp2_with (first | ((with_reducible show wpList _ _ _ (⟨some 15, _, _, _, _, _⟩ :: _) _ _); refine wpList_load_rng 27 (.tmp 3) rfl (by kernel_rfl) _ _ rfl _ R3.out _ Try.underlying27 rfl (by kernel_rfl) ?_))
  with_reducible refine (great6_any tos id fl pt ttl pr a0 a1 a2 a3 a4 a5 a6 a7 So Sb lo.length co lb.length cb _).mono ?_
  clear R3
  rintro e w2 ⟨rfl, b2⟩
  replace hp := (b2.block _ zp).trans hp
  replace zp := Nat.lt_of_lt_of_le zp b2.size
  replace bel := bel.trans (b2.mono bel.size)
  clear b2
  rw [g1, g2, Bool.or_false]
  go_wp2_with fail
  go_ret
  exact ⟨rfl, bel⟩
set_option linter.unusedVariables false in
set_option maxRecDepth 100000 in
set_option maxHeartbeats 16000000 in
theorem ip4Behind_refused (tos id fl pt ttl pr : Int) (a0 a1 a2 a3 a4 a5 a6 a7 : UInt8) (So Sb : Option Addr) (co cb : Nat) (lo lb : List UInt8) (S : Option Addr) (n c : Nat) (l : List UInt8) (cut : Int) (w : World) (ho : Sl w So lo.length co lo) (hb : Sl w Sb lb.length cb lb) (hl : Sl w S n c l) (h1 : lb.length ≤ 1600) (h2 : lo.length ≤ 100) (h3 : n ≤ 100) (hne : (ipPut tos id fl pt ttl pr a0 a1 a2 a3 a4 a5 a6 a7 lo lb).2 ≠ 0) : Calls Try.prog 6 #[.agg #[.int .i64 tos, .int .i64 id, .int .i64 fl, .int .i64 pt, .int .i64 ttl, .int .i64 pr, .int .u8 (a0.toNat : Int), .int .u8 (a1.toNat : Int), .int .u8 (a2.toNat : Int), .int .u8 (a3.toNat : Int), .int .u8 (a4.toNat : Int), .int .u8 (a5.toNat : Int), .int .u8 (a6.toNat : Int), .int .u8 (a7.toNat : Int), .slice So lo.length co, .slice Sb lb.length cb], .slice S n c, .int .i64 cut] w fun e w' => e = .returned (.bool true) ∧ Below w.heap.size w w' := by
  have bel := Below.refl w.heap.size w
  have hp : (w.alloc (.cells #[.int .i64 tos, .int .i64 id, .int .i64 fl, .int .i64 pt, .int .i64 ttl, .int .i64 pr, .int .u8 (a0.toNat : Int), .int .u8 (a1.toNat : Int), .int .u8 (a2.toNat : Int), .int .u8 (a3.toNat : Int), .int .u8 (a4.toNat : Int), .int .u8 (a5.toNat : Int), .int .u8 (a6.toNat : Int), .int .u8 (a7.toNat : Int), .slice So lo.length co, .slice Sb lb.length cb] 27)).heap[w.heap.size]? = some (.cells #[.int .i64 tos, .int .i64 id, .int .i64 fl, .int .i64 pt, .int .i64 ttl, .int .i64 pr, .int .u8 (a0.toNat : Int), .int .u8 (a1.toNat : Int), .int .u8 (a2.toNat : Int), .int .u8 (a3.toNat : Int), .int .u8 (a4.toNat : Int), .int .u8 (a5.toNat : Int), .int .u8 (a6.toNat : Int), .int .u8 (a7.toNat : Int), .slice So lo.length co, .slice Sb lb.length cb] 27 (0, 0)) := by have := heap_alloc_new w (.cells #[.int .i64 tos, .int .i64 id, .int .i64 fl, .int .i64 pt, .int .i64 ttl, .int .i64 pr, .int .u8 (a0.toNat : Int), .int .u8 (a1.toNat : Int), .int .u8 (a2.toNat : Int), .int .u8 (a3.toNat : Int), .int .u8 (a4.toNat : Int), .int .u8 (a5.toNat : Int), .int .u8 (a6.toNat : Int), .int .u8 (a7.toNat : Int), .slice So lo.length co, .slice Sb lb.length cb] 27); simpa using this
  have zp : w.heap.size < (w.alloc (.cells #[.int .i64 tos, .int .i64 id, .int .i64 fl, .int .i64 pt, .int .i64 ttl, .int .i64 pr, .int .u8 (a0.toNat : Int), .int .u8 (a1.toNat : Int), .int .u8 (a2.toNat : Int), .int .u8 (a3.toNat : Int), .int .u8 (a4.toNat : Int), .int .u8 (a5.toNat : Int), .int .u8 (a6.toNat : Int), .int .u8 (a7.toNat : Int), .slice So lo.length co, .slice Sb lb.length cb] 27)).heap.size := by simp
  replace bel := bel.alloc bel.size (.cells #[.int .i64 tos, .int .i64 id, .int .i64 fl, .int .i64 pt, .int .i64 ttl, .int .i64 pr, .int .u8 (a0.toNat : Int), .int .u8 (a1.toNat : Int), .int .u8 (a2.toNat : Int), .int .u8 (a3.toNat : Int), .int .u8 (a4.toNat : Int), .int .u8 (a5.toNat : Int), .int .u8 (a6.toNat : Int), .int .u8 (a7.toNat : Int), .slice So lo.length co, .slice Sb lb.length cb] 27)
  have hob := ho.below bel
  have hbb := hb.below bel
  have g1 : decide (1600 < lb.length) = false := decide_eq_false (by omega)
  have g2 : decide (100 < lo.length) = false := decide_eq_false (by omega)
  have t1 : decide ((100 : Int) < n) = false := decide_eq_false (by omega)
  have H1 := Lib.hid h1
  clear h1 h2 h3
  go_enter Try.func6, Try.ntmps6
  go_wp2_with fail
  with_reducible refine (awake6 _).mono ?_
  rintro e w1 ⟨rfl, b1⟩
  replace hp := (b1.block _ zp).trans hp
  replace zp := Nat.lt_of_lt_of_le zp b1.size
  replace hob := hob.below b1
  replace hbb := hbb.below b1
  replace bel := bel.trans (b1.mono bel.size)
  clear b1
  have R3 := Lib.hid (range_lit hp 0 16 [.int .i64 tos, .int .i64 id, .int .i64 fl, .int .i64 pt, .int .i64 ttl, .int .i64 pr, .int .u8 (a0.toNat : Int), .int .u8 (a1.toNat : Int), .int .u8 (a2.toNat : Int), .int .u8 (a3.toNat : Int), .int .u8 (a4.toNat : Int), .int .u8 (a5.toNat : Int), .int .u8 (a6.toNat : Int), .int .u8 (a7.toNat : Int), .slice So lo.length co, .slice Sb lb.length cb] rfl)
  go_wp2_with (first | ((with_reducible show wpList _ _ _ (⟨some 15, _, _, _, _, _⟩ :: _) _ _); refine wpList_load_rng 27 (.tmp 3) rfl (by kernel_rfl) _ _ rfl _ R3.out _ Try.underlying27 rfl (by kernel_rfl) ?_))
  with_reducible refine (great6_any tos id fl pt ttl pr a0 a1 a2 a3 a4 a5 a6 a7 So Sb lo.length co lb.length cb _).mono ?_
  clear R3
  rintro e w2 ⟨rfl, b2⟩
  replace hp := (b2.block _ zp).trans hp
  replace zp := Nat.lt_of_lt_of_le zp b2.size
  replace hob := hob.below b2
  replace hbb := hbb.below b2
  replace bel := bel.trans (b2.mono bel.size)
  clear b2
  rw [g1, g2, Bool.or_false]
  have R3 := Lib.hid (range_lit hp 0 16 [.int .i64 tos, .int .i64 id, .int .i64 fl, .int .i64 pt, .int .i64 ttl, .int .i64 pr, .int .u8 (a0.toNat : Int), .int .u8 (a1.toNat : Int), .int .u8 (a2.toNat : Int), .int .u8 (a3.toNat : Int), .int .u8 (a4.toNat : Int), .int .u8 (a5.toNat : Int), .int .u8 (a6.toNat : Int), .int .u8 (a7.toNat : Int), .slice So lo.length co, .slice Sb lb.length cb] rfl)
  go_wp2_with (first | ((with_reducible show wpList _ _ _ (⟨some 23, _, _, _, _, _⟩ :: _) _ _); refine wpList_load_rng 27 (.tmp 3) rfl (by kernel_rfl) _ _ rfl _ R3.out _ Try.underlying27 rfl (by kernel_rfl) ?_))
  with_reducible refine (ipput_any tos id fl pt ttl pr a0 a1 a2 a3 a4 a5 a6 a7 So Sb lo.length co lb.length cb lo lb _ hob hbb (by have := H1.out; omega)).mono ?_
  clear R3
  rintro e w3 ⟨v, r, er, rfl, hown, b3, hpe⟩
  replace hp := (b3.block _ zp).trans hp
  replace zp := Nat.lt_of_lt_of_le zp b3.size
  replace hob := hob.below b3
  replace hbb := hbb.below b3
  replace bel := bel.trans (b3.mono bel.size)
  clear b3
  have he : er = (ipPut tos id fl pt ttl pr a0 a1 a2 a3 a4 a5 a6 a7 lo lb).2 := congrArg Prod.snd hpe
  have q1 : (er == 0) = false := by rw [he]; simpa using hne
  have q2 : (er != 0) = true := by rw [he]; simpa using hne
  clear he hpe hown
  go_wp2_with fail
  go_ret
  exact ⟨rfl, bel⟩
set_option linter.unusedVariables false in
set_option maxRecDepth 100000 in
set_option maxHeartbeats 16000000 in
theorem ip4Behind_neg (tos id fl pt ttl pr : Int) (a0 a1 a2 a3 a4 a5 a6 a7 : UInt8) (So Sb : Option Addr) (co cb : Nat) (lo lb : List UInt8) (S : Option Addr) (n c : Nat) (l : List UInt8) (cut : Int) (w : World) (ho : Sl w So lo.length co lo) (hb : Sl w Sb lb.length cb lb) (hl : Sl w S n c l) (h1 : lb.length ≤ 1600) (h2 : lo.length ≤ 100) (h3 : n ≤ 100) (PB : List UInt8) (hput : ipPut tos id fl pt ttl pr a0 a1 a2 a3 a4 a5 a6 a7 lo lb = (PB, 0)) (hc : cut < 0) : Calls Try.prog 6 #[.agg #[.int .i64 tos, .int .i64 id, .int .i64 fl, .int .i64 pt, .int .i64 ttl, .int .i64 pr, .int .u8 (a0.toNat : Int), .int .u8 (a1.toNat : Int), .int .u8 (a2.toNat : Int), .int .u8 (a3.toNat : Int), .int .u8 (a4.toNat : Int), .int .u8 (a5.toNat : Int), .int .u8 (a6.toNat : Int), .int .u8 (a7.toNat : Int), .slice So lo.length co, .slice Sb lb.length cb], .slice S n c, .int .i64 cut] w fun e w' => e = .returned (.bool true) ∧ Below w.heap.size w w' := by
  have bel := Below.refl w.heap.size w
  have hp : (w.alloc (.cells #[.int .i64 tos, .int .i64 id, .int .i64 fl, .int .i64 pt, .int .i64 ttl, .int .i64 pr, .int .u8 (a0.toNat : Int), .int .u8 (a1.toNat : Int), .int .u8 (a2.toNat : Int), .int .u8 (a3.toNat : Int), .int .u8 (a4.toNat : Int), .int .u8 (a5.toNat : Int), .int .u8 (a6.toNat : Int), .int .u8 (a7.toNat : Int), .slice So lo.length co, .slice Sb lb.length cb] 27)).heap[w.heap.size]? = some (.cells #[.int .i64 tos, .int .i64 id, .int .i64 fl, .int .i64 pt, .int .i64 ttl, .int .i64 pr, .int .u8 (a0.toNat : Int), .int .u8 (a1.toNat : Int), .int .u8 (a2.toNat : Int), .int .u8 (a3.toNat : Int), .int .u8 (a4.toNat : Int), .int .u8 (a5.toNat : Int), .int .u8 (a6.toNat : Int), .int .u8 (a7.toNat : Int), .slice So lo.length co, .slice Sb lb.length cb] 27 (0, 0)) := by have := heap_alloc_new w (.cells #[.int .i64 tos, .int .i64 id, .int .i64 fl, .int .i64 pt, .int .i64 ttl, .int .i64 pr, .int .u8 (a0.toNat : Int), .int .u8 (a1.toNat : Int), .int .u8 (a2.toNat : Int), .int .u8 (a3.toNat : Int), .int .u8 (a4.toNat : Int), .int .u8 (a5.toNat : Int), .int .u8 (a6.toNat : Int), .int .u8 (a7.toNat : Int), .slice So lo.length co, .slice Sb lb.length cb] 27); simpa using this
  have zp : w.heap.size < (w.alloc (.cells #[.int .i64 tos, .int .i64 id, .int .i64 fl, .int .i64 pt, .int .i64 ttl, .int .i64 pr, .int .u8 (a0.toNat : Int), .int .u8 (a1.toNat : Int), .int .u8 (a2.toNat : Int), .int .u8 (a3.toNat : Int), .int .u8 (a4.toNat : Int), .int .u8 (a5.toNat : Int), .int .u8 (a6.toNat : Int), .int .u8 (a7.toNat : Int), .slice So lo.length co, .slice Sb lb.length cb] 27)).heap.size := by simp
  replace bel := bel.alloc bel.size (.cells #[.int .i64 tos, .int .i64 id, .int .i64 fl, .int .i64 pt, .int .i64 ttl, .int .i64 pr, .int .u8 (a0.toNat : Int), .int .u8 (a1.toNat : Int), .int .u8 (a2.toNat : Int), .int .u8 (a3.toNat : Int), .int .u8 (a4.toNat : Int), .int .u8 (a5.toNat : Int), .int .u8 (a6.toNat : Int), .int .u8 (a7.toNat : Int), .slice So lo.length co, .slice Sb lb.length cb] 27)
  have hob := ho.below bel
  have hbb := hb.below bel
  have g1 : decide (1600 < lb.length) = false := decide_eq_false (by omega)
  have g2 : decide (100 < lo.length) = false := decide_eq_false (by omega)
  have t1 : decide ((100 : Int) < n) = false := decide_eq_false (by omega)
  have H1 := Lib.hid h1
  clear h1 h2 h3
  go_enter Try.func6, Try.ntmps6
  go_wp2_with fail
  with_reducible refine (awake6 _).mono ?_
  rintro e w1 ⟨rfl, b1⟩
  replace hp := (b1.block _ zp).trans hp
  replace zp := Nat.lt_of_lt_of_le zp b1.size
  replace hob := hob.below b1
  replace hbb := hbb.below b1
  replace bel := bel.trans (b1.mono bel.size)
  clear b1
  have R3 := Lib.hid (range_lit hp 0 16 [.int .i64 tos, .int .i64 id, .int .i64 fl, .int .i64 pt, .int .i64 ttl, .int .i64 pr, .int .u8 (a0.toNat : Int), .int .u8 (a1.toNat : Int), .int .u8 (a2.toNat : Int), .int .u8 (a3.toNat : Int), .int .u8 (a4.toNat : Int), .int .u8 (a5.toNat : Int), .int .u8 (a6.toNat : Int), .int .u8 (a7.toNat : Int), .slice So lo.length co, .slice Sb lb.length cb] rfl)
  go_wp2_with (first | ((with_reducible show wpList _ _ _ (⟨some 15, _, _, _, _, _⟩ :: _) _ _); refine wpList_load_rng 27 (.tmp 3) rfl (by kernel_rfl) _ _ rfl _ R3.out _ Try.underlying27 rfl (by kernel_rfl) ?_))
  with_reducible refine (great6_any tos id fl pt ttl pr a0 a1 a2 a3 a4 a5 a6 a7 So Sb lo.length co lb.length cb _).mono ?_
  clear R3
  rintro e w2 ⟨rfl, b2⟩
  replace hp := (b2.block _ zp).trans hp
  replace zp := Nat.lt_of_lt_of_le zp b2.size
  replace hob := hob.below b2
  replace hbb := hbb.below b2
  replace bel := bel.trans (b2.mono bel.size)
  clear b2
  rw [g1, g2, Bool.or_false]
  have R3 := Lib.hid (range_lit hp 0 16 [.int .i64 tos, .int .i64 id, .int .i64 fl, .int .i64 pt, .int .i64 ttl, .int .i64 pr, .int .u8 (a0.toNat : Int), .int .u8 (a1.toNat : Int), .int .u8 (a2.toNat : Int), .int .u8 (a3.toNat : Int), .int .u8 (a4.toNat : Int), .int .u8 (a5.toNat : Int), .int .u8 (a6.toNat : Int), .int .u8 (a7.toNat : Int), .slice So lo.length co, .slice Sb lb.length cb] rfl)
  go_wp2_with (first | ((with_reducible show wpList _ _ _ (⟨some 23, _, _, _, _, _⟩ :: _) _ _); refine wpList_load_rng 27 (.tmp 3) rfl (by kernel_rfl) _ _ rfl _ R3.out _ Try.underlying27 rfl (by kernel_rfl) ?_))
  with_reducible refine (ipput_any tos id fl pt ttl pr a0 a1 a2 a3 a4 a5 a6 a7 So Sb lo.length co lb.length cb lo lb _ hob hbb (by have := H1.out; omega)).mono ?_
  clear R3
  rintro e w3 ⟨v, r, er, rfl, hown, b3, hpe⟩
  replace hp := (b3.block _ zp).trans hp
  replace zp := Nat.lt_of_lt_of_le zp b3.size
  replace hob := hob.below b3
  replace hbb := hbb.below b3
  replace bel := bel.trans (b3.mono bel.size)
  clear b3
  rw [hput] at hpe
  simp only [Prod.mk.injEq] at hpe
  obtain ⟨q1, rfl⟩ := hpe
  obtain rfl : PB = r := q1.symm
  obtain ⟨A1, c1, ev, hs, hfr⟩ := Sl.of_own_f hown
  subst ev
  clear hown hfr
  clear hs
  go_wp2_with fail
  go_ret
  exact ⟨rfl, bel⟩
set_option linter.unusedVariables false in
set_option maxRecDepth 100000 in
set_option maxHeartbeats 16000000 in
theorem ip4Behind_big (tos id fl pt ttl pr : Int) (a0 a1 a2 a3 a4 a5 a6 a7 : UInt8) (So Sb : Option Addr) (co cb : Nat) (lo lb : List UInt8) (S : Option Addr) (n c : Nat) (l : List UInt8) (cut : Int) (w : World) (ho : Sl w So lo.length co lo) (hb : Sl w Sb lb.length cb lb) (hl : Sl w S n c l) (h1 : lb.length ≤ 1600) (h2 : lo.length ≤ 100) (h3 : n ≤ 100) (PB : List UInt8) (hput : ipPut tos id fl pt ttl pr a0 a1 a2 a3 a4 a5 a6 a7 lo lb = (PB, 0)) (hc : PB.length ≤ cut) : Calls Try.prog 6 #[.agg #[.int .i64 tos, .int .i64 id, .int .i64 fl, .int .i64 pt, .int .i64 ttl, .int .i64 pr, .int .u8 (a0.toNat : Int), .int .u8 (a1.toNat : Int), .int .u8 (a2.toNat : Int), .int .u8 (a3.toNat : Int), .int .u8 (a4.toNat : Int), .int .u8 (a5.toNat : Int), .int .u8 (a6.toNat : Int), .int .u8 (a7.toNat : Int), .slice So lo.length co, .slice Sb lb.length cb], .slice S n c, .int .i64 cut] w fun e w' => e = .returned (.bool true) ∧ Below w.heap.size w w' := by
  have bel := Below.refl w.heap.size w
  have hp : (w.alloc (.cells #[.int .i64 tos, .int .i64 id, .int .i64 fl, .int .i64 pt, .int .i64 ttl, .int .i64 pr, .int .u8 (a0.toNat : Int), .int .u8 (a1.toNat : Int), .int .u8 (a2.toNat : Int), .int .u8 (a3.toNat : Int), .int .u8 (a4.toNat : Int), .int .u8 (a5.toNat : Int), .int .u8 (a6.toNat : Int), .int .u8 (a7.toNat : Int), .slice So lo.length co, .slice Sb lb.length cb] 27)).heap[w.heap.size]? = some (.cells #[.int .i64 tos, .int .i64 id, .int .i64 fl, .int .i64 pt, .int .i64 ttl, .int .i64 pr, .int .u8 (a0.toNat : Int), .int .u8 (a1.toNat : Int), .int .u8 (a2.toNat : Int), .int .u8 (a3.toNat : Int), .int .u8 (a4.toNat : Int), .int .u8 (a5.toNat : Int), .int .u8 (a6.toNat : Int), .int .u8 (a7.toNat : Int), .slice So lo.length co, .slice Sb lb.length cb] 27 (0, 0)) := by have := heap_alloc_new w (.cells #[.int .i64 tos, .int .i64 id, .int .i64 fl, .int .i64 pt, .int .i64 ttl, .int .i64 pr, .int .u8 (a0.toNat : Int), .int .u8 (a1.toNat : Int), .int .u8 (a2.toNat : Int), .int .u8 (a3.toNat : Int), .int .u8 (a4.toNat : Int), .int .u8 (a5.toNat : Int), .int .u8 (a6.toNat : Int), .int .u8 (a7.toNat : Int), .slice So lo.length co, .slice Sb lb.length cb] 27); simpa using this
  have zp : w.heap.size < (w.alloc (.cells #[.int .i64 tos, .int .i64 id, .int .i64 fl, .int .i64 pt, .int .i64 ttl, .int .i64 pr, .int .u8 (a0.toNat : Int), .int .u8 (a1.toNat : Int), .int .u8 (a2.toNat : Int), .int .u8 (a3.toNat : Int), .int .u8 (a4.toNat : Int), .int .u8 (a5.toNat : Int), .int .u8 (a6.toNat : Int), .int .u8 (a7.toNat : Int), .slice So lo.length co, .slice Sb lb.length cb] 27)).heap.size := by simp
  replace bel := bel.alloc bel.size (.cells #[.int .i64 tos, .int .i64 id, .int .i64 fl, .int .i64 pt, .int .i64 ttl, .int .i64 pr, .int .u8 (a0.toNat : Int), .int .u8 (a1.toNat : Int), .int .u8 (a2.toNat : Int), .int .u8 (a3.toNat : Int), .int .u8 (a4.toNat : Int), .int .u8 (a5.toNat : Int), .int .u8 (a6.toNat : Int), .int .u8 (a7.toNat : Int), .slice So lo.length co, .slice Sb lb.length cb] 27)
  have hob := ho.below bel
  have hbb := hb.below bel
  have g1 : decide (1600 < lb.length) = false := decide_eq_false (by omega)
  have g2 : decide (100 < lo.length) = false := decide_eq_false (by omega)
  have t1 : decide ((100 : Int) < n) = false := decide_eq_false (by omega)
  have H1 := Lib.hid h1
  clear h1 h2 h3
  have t2 : decide (cut < 0) = false := decide_eq_false (by omega)
  go_enter Try.func6, Try.ntmps6
  go_wp2_with fail
  with_reducible refine (awake6 _).mono ?_
  rintro e w1 ⟨rfl, b1⟩
  replace hp := (b1.block _ zp).trans hp
  replace zp := Nat.lt_of_lt_of_le zp b1.size
  replace hob := hob.below b1
  replace hbb := hbb.below b1
  replace bel := bel.trans (b1.mono bel.size)
  clear b1
  have R3 := Lib.hid (range_lit hp 0 16 [.int .i64 tos, .int .i64 id, .int .i64 fl, .int .i64 pt, .int .i64 ttl, .int .i64 pr, .int .u8 (a0.toNat : Int), .int .u8 (a1.toNat : Int), .int .u8 (a2.toNat : Int), .int .u8 (a3.toNat : Int), .int .u8 (a4.toNat : Int), .int .u8 (a5.toNat : Int), .int .u8 (a6.toNat : Int), .int .u8 (a7.toNat : Int), .slice So lo.length co, .slice Sb lb.length cb] rfl)
  go_wp2_with (first | ((with_reducible show wpList _ _ _ (⟨some 15, _, _, _, _, _⟩ :: _) _ _); refine wpList_load_rng 27 (.tmp 3) rfl (by kernel_rfl) _ _ rfl _ R3.out _ Try.underlying27 rfl (by kernel_rfl) ?_))
  with_reducible refine (great6_any tos id fl pt ttl pr a0 a1 a2 a3 a4 a5 a6 a7 So Sb lo.length co lb.length cb _).mono ?_
  clear R3
  rintro e w2 ⟨rfl, b2⟩
  replace hp := (b2.block _ zp).trans hp
  replace zp := Nat.lt_of_lt_of_le zp b2.size
  replace hob := hob.below b2
  replace hbb := hbb.below b2
  replace bel := bel.trans (b2.mono bel.size)
  clear b2
  rw [g1, g2, Bool.or_false]
  have R3 := Lib.hid (range_lit hp 0 16 [.int .i64 tos, .int .i64 id, .int .i64 fl, .int .i64 pt, .int .i64 ttl, .int .i64 pr, .int .u8 (a0.toNat : Int), .int .u8 (a1.toNat : Int), .int .u8 (a2.toNat : Int), .int .u8 (a3.toNat : Int), .int .u8 (a4.toNat : Int), .int .u8 (a5.toNat : Int), .int .u8 (a6.toNat : Int), .int .u8 (a7.toNat : Int), .slice So lo.length co, .slice Sb lb.length cb] rfl)
  go_wp2_with (first | ((with_reducible show wpList _ _ _ (⟨some 23, _, _, _, _, _⟩ :: _) _ _); refine wpList_load_rng 27 (.tmp 3) rfl (by kernel_rfl) _ _ rfl _ R3.out _ Try.underlying27 rfl (by kernel_rfl) ?_))
  with_reducible refine (ipput_any tos id fl pt ttl pr a0 a1 a2 a3 a4 a5 a6 a7 So Sb lo.length co lb.length cb lo lb _ hob hbb (by have := H1.out; omega)).mono ?_
  clear R3
  rintro e w3 ⟨v, r, er, rfl, hown, b3, hpe⟩
  replace hp := (b3.block _ zp).trans hp
  replace zp := Nat.lt_of_lt_of_le zp b3.size
  replace hob := hob.below b3
  replace hbb := hbb.below b3
  replace bel := bel.trans (b3.mono bel.size)
  clear b3
  rw [hput] at hpe
  simp only [Prod.mk.injEq] at hpe
  obtain ⟨q1, rfl⟩ := hpe
  obtain rfl : PB = r := q1.symm
  obtain ⟨A1, c1, ev, hs, hfr⟩ := Sl.of_own_f hown
  subst ev
  clear hown hfr
  clear hs
  go_wp2_with fail
  go_ret
  exact ⟨rfl, bel⟩
set_option linter.unusedVariables false in
set_option maxRecDepth 100000 in
set_option maxHeartbeats 16000000 in
theorem ip4Behind_in (tos id fl pt ttl pr : Int) (a0 a1 a2 a3 a4 a5 a6 a7 : UInt8) (So Sb : Option Addr) (co cb : Nat) (lo lb : List UInt8) (S : Option Addr) (n c : Nat) (l : List UInt8) (k : Nat) (w : World) (ho : Sl w So lo.length co lo) (hb : Sl w Sb lb.length cb lb) (hl : Sl w S n c l) (h1 : lb.length ≤ 1600) (h2 : lo.length ≤ 100) (h3 : n ≤ 100) (PB : List UInt8) (hput : ipPut tos id fl pt ttl pr a0 a1 a2 a3 a4 a5 a6 a7 lo lb = (PB, 0)) (hpl : PB.length ≤ 1500) (hk : k < PB.length) (hG : ipGet (PB ++ l) = (([tos, id, fl, pt, ttl, pr], [a0, a1, a2, a3, a4, a5, a6, a7]), (lo, lb), 0)) (hC : ipGet (PB.take k) = (([0, 0, 0, 0, 0, 0], [0, 0, 0, 0, 0, 0, 0, 0]), ([], []), 3)) : Calls Try.prog 6 #[.agg #[.int .i64 tos, .int .i64 id, .int .i64 fl, .int .i64 pt, .int .i64 ttl, .int .i64 pr, .int .u8 (a0.toNat : Int), .int .u8 (a1.toNat : Int), .int .u8 (a2.toNat : Int), .int .u8 (a3.toNat : Int), .int .u8 (a4.toNat : Int), .int .u8 (a5.toNat : Int), .int .u8 (a6.toNat : Int), .int .u8 (a7.toNat : Int), .slice So lo.length co, .slice Sb lb.length cb], .slice S n c, .int .i64 k] w fun e w' => e = .returned (.bool true) ∧ Below w.heap.size w w' := by
  have bel := Below.refl w.heap.size w
  have hp : (w.alloc (.cells #[.int .i64 tos, .int .i64 id, .int .i64 fl, .int .i64 pt, .int .i64 ttl, .int .i64 pr, .int .u8 (a0.toNat : Int), .int .u8 (a1.toNat : Int), .int .u8 (a2.toNat : Int), .int .u8 (a3.toNat : Int), .int .u8 (a4.toNat : Int), .int .u8 (a5.toNat : Int), .int .u8 (a6.toNat : Int), .int .u8 (a7.toNat : Int), .slice So lo.length co, .slice Sb lb.length cb] 27)).heap[w.heap.size]? = some (.cells #[.int .i64 tos, .int .i64 id, .int .i64 fl, .int .i64 pt, .int .i64 ttl, .int .i64 pr, .int .u8 (a0.toNat : Int), .int .u8 (a1.toNat : Int), .int .u8 (a2.toNat : Int), .int .u8 (a3.toNat : Int), .int .u8 (a4.toNat : Int), .int .u8 (a5.toNat : Int), .int .u8 (a6.toNat : Int), .int .u8 (a7.toNat : Int), .slice So lo.length co, .slice Sb lb.length cb] 27 (0, 0)) := by have := heap_alloc_new w (.cells #[.int .i64 tos, .int .i64 id, .int .i64 fl, .int .i64 pt, .int .i64 ttl, .int .i64 pr, .int .u8 (a0.toNat : Int), .int .u8 (a1.toNat : Int), .int .u8 (a2.toNat : Int), .int .u8 (a3.toNat : Int), .int .u8 (a4.toNat : Int), .int .u8 (a5.toNat : Int), .int .u8 (a6.toNat : Int), .int .u8 (a7.toNat : Int), .slice So lo.length co, .slice Sb lb.length cb] 27); simpa using this
  have zp : w.heap.size < (w.alloc (.cells #[.int .i64 tos, .int .i64 id, .int .i64 fl, .int .i64 pt, .int .i64 ttl, .int .i64 pr, .int .u8 (a0.toNat : Int), .int .u8 (a1.toNat : Int), .int .u8 (a2.toNat : Int), .int .u8 (a3.toNat : Int), .int .u8 (a4.toNat : Int), .int .u8 (a5.toNat : Int), .int .u8 (a6.toNat : Int), .int .u8 (a7.toNat : Int), .slice So lo.length co, .slice Sb lb.length cb] 27)).heap.size := by simp
  replace bel := bel.alloc bel.size (.cells #[.int .i64 tos, .int .i64 id, .int .i64 fl, .int .i64 pt, .int .i64 ttl, .int .i64 pr, .int .u8 (a0.toNat : Int), .int .u8 (a1.toNat : Int), .int .u8 (a2.toNat : Int), .int .u8 (a3.toNat : Int), .int .u8 (a4.toNat : Int), .int .u8 (a5.toNat : Int), .int .u8 (a6.toNat : Int), .int .u8 (a7.toNat : Int), .slice So lo.length co, .slice Sb lb.length cb] 27)
  have hob := ho.below bel
  have hbb := hb.below bel
  obtain ⟨ii, hii, hz0, hz1, hz2⟩ := info_parts Try.info5
  have hlb := hl.below bel
  have t2 : decide ((k : Int) < 0) = false := decide_eq_false (by omega)
  have t3 : decide (PB.length ≤ k) = false := decide_eq_false (by omega)
  have HNN := Lib.hid h3
  have HKC := Lib.hid hk
  have HPL := Lib.hid hpl
  clear hk hpl
  have g1 : decide (1600 < lb.length) = false := decide_eq_false (by omega)
  have g2 : decide (100 < lo.length) = false := decide_eq_false (by omega)
  have t1 : decide ((100 : Int) < n) = false := decide_eq_false (by omega)
  have H1 := Lib.hid h1
  clear h1 h2 h3
  go_enter Try.func6, Try.ntmps6
  go_wp2_with fail
  with_reducible refine (awake6 _).mono ?_
  rintro e w1 ⟨rfl, b1⟩
  replace hp := (b1.block _ zp).trans hp
  replace zp := Nat.lt_of_lt_of_le zp b1.size
  replace hob := hob.below b1
  replace hbb := hbb.below b1
  replace hlb := hlb.below b1
  replace bel := bel.trans (b1.mono bel.size)
  clear b1
  have R3 := Lib.hid (range_lit hp 0 16 [.int .i64 tos, .int .i64 id, .int .i64 fl, .int .i64 pt, .int .i64 ttl, .int .i64 pr, .int .u8 (a0.toNat : Int), .int .u8 (a1.toNat : Int), .int .u8 (a2.toNat : Int), .int .u8 (a3.toNat : Int), .int .u8 (a4.toNat : Int), .int .u8 (a5.toNat : Int), .int .u8 (a6.toNat : Int), .int .u8 (a7.toNat : Int), .slice So lo.length co, .slice Sb lb.length cb] rfl)
  go_wp2_with (first | ((with_reducible show wpList _ _ _ (⟨some 15, _, _, _, _, _⟩ :: _) _ _); refine wpList_load_rng 27 (.tmp 3) rfl (by kernel_rfl) _ _ rfl _ R3.out _ Try.underlying27 rfl (by kernel_rfl) ?_))
  with_reducible refine (great6_any tos id fl pt ttl pr a0 a1 a2 a3 a4 a5 a6 a7 So Sb lo.length co lb.length cb _).mono ?_
  clear R3
  rintro e w2 ⟨rfl, b2⟩
  replace hp := (b2.block _ zp).trans hp
  replace zp := Nat.lt_of_lt_of_le zp b2.size
  replace hob := hob.below b2
  replace hbb := hbb.below b2
  replace hlb := hlb.below b2
  replace bel := bel.trans (b2.mono bel.size)
  clear b2
  rw [g1, g2, Bool.or_false]
  have R3 := Lib.hid (range_lit hp 0 16 [.int .i64 tos, .int .i64 id, .int .i64 fl, .int .i64 pt, .int .i64 ttl, .int .i64 pr, .int .u8 (a0.toNat : Int), .int .u8 (a1.toNat : Int), .int .u8 (a2.toNat : Int), .int .u8 (a3.toNat : Int), .int .u8 (a4.toNat : Int), .int .u8 (a5.toNat : Int), .int .u8 (a6.toNat : Int), .int .u8 (a7.toNat : Int), .slice So lo.length co, .slice Sb lb.length cb] rfl)
  go_wp2_with (first | ((with_reducible show wpList _ _ _ (⟨some 23, _, _, _, _, _⟩ :: _) _ _); refine wpList_load_rng 27 (.tmp 3) rfl (by kernel_rfl) _ _ rfl _ R3.out _ Try.underlying27 rfl (by kernel_rfl) ?_))
  with_reducible refine (ipput_any tos id fl pt ttl pr a0 a1 a2 a3 a4 a5 a6 a7 So Sb lo.length co lb.length cb lo lb _ hob hbb (by have := H1.out; omega)).mono ?_
  clear R3
  rintro e w3 ⟨v, r, er, rfl, hown, b3, hpe⟩
  replace hp := (b3.block _ zp).trans hp
  replace zp := Nat.lt_of_lt_of_le zp b3.size
  replace hob := hob.below b3
  replace hbb := hbb.below b3
  replace hlb := hlb.below b3
  replace bel := bel.trans (b3.mono bel.size)
  clear b3
  rw [hput] at hpe
  simp only [Prod.mk.injEq] at hpe
  obtain ⟨q1, rfl⟩ := hpe
  obtain rfl : PB = r := q1.symm
  obtain ⟨A1, c1, ev, hs, hfr⟩ := Sl.of_own_f hown
  subst ev
  clear hown hfr
  have own0 := own_empty w3
  have bz := (Below.refl w3.heap.size w3).alloc (Nat.le_refl _) (.cells #[] 5)
  have sa := hs.below bz
  go_wp2_with ((at_builtin; refine wpList_append_bb _ rfl (.tmp 40) (.tmp 41) 25 rfl w3.heap.size 5 ii (.int .u8 0) Try.underlying25 hii hz0 hz1 hz2 rfl _ (0) ([]) rfl own0 A1 (PB.length) (c1) (PB) rfl sa ?c1 ?c2 ?_))
  case c1 => have := HPL.out; omega
  case c2 => exact bz.size
  intro r4 y4 own4 bb
  replace bz := bz.trans bb
  clear bb sa own0
  replace own4 : y4.ownsRow w3.heap.size 5 1 r4 (PB.length) ((PB).map u8v) := by simpa using own4
  have sa := hlb.below bz
  go_wp2_with ((at_builtin; refine wpList_append_bb _ rfl (.tmp 42) (.tmp 43) 25 rfl w3.heap.size 5 ii (.int .u8 0) Try.underlying25 hii hz0 hz1 hz2 rfl _ (PB.length) (PB) rfl own4 S (n) (c) (l) rfl sa ?c1 ?c2 ?_))
  case c1 => have := HPL.out; have := HNN.out; omega
  case c2 => exact bz.size
  intro r5 y5 own5 bb
  replace bz := bz.trans bb
  clear bb sa own4
  replace own5 : y5.ownsRow w3.heap.size 5 1 r5 (PB.length + n) ((PB ++ l).map u8v) := by simpa using own5
  replace hp := (bz.block _ zp).trans hp
  replace zp := Nat.lt_of_lt_of_le zp bz.size
  replace hob := hob.below bz
  replace hbb := hbb.below bz
  replace hlb := hlb.below bz
  replace hs := hs.below bz
  replace bel := bel.trans (bz.mono bel.size)
  clear bz
  obtain ⟨Asg, csg, esg, sg, fsg⟩ := Sl.of_own_f own5
  subst esg
  clear own5
  go_wp2_with fail
  with_reducible refine (ipget_any Asg (PB.length + n) csg (PB ++ l) _ sg (by have := HPL.out; have := HNN.out; omega)).mono ?_
  rintro e w6 ⟨f0, f1, f2, f3, f4, f5, g0, g1, g2, g3, g4, g5, g6, g7, lo1, lb1, Ao1, Ab1, co1, cb1, er1, rfl, ho1, hb1, b6, hg1⟩
  replace hp := (b6.block _ zp).trans hp
  replace zp := Nat.lt_of_lt_of_le zp b6.size
  replace hob := hob.below b6
  replace hbb := hbb.below b6
  replace hs := hs.below b6
  replace bel := bel.trans (b6.mono bel.size)
  clear b6
  clear sg fsg hlb
  have hh := hG.symm.trans hg1.symm
  simp only [Prod.mk.injEq, List.cons.injEq, and_true] at hh
  obtain ⟨⟨⟨rfl, rfl, rfl, rfl, rfl, rfl⟩, rfl, rfl, rfl, rfl, rfl, rfl, rfl, rfl⟩, ⟨rfl, rfl⟩, rfl⟩ := hh
  clear hg1
  obtain ⟨F, cF, sF, hF⟩ := slice_front hs (k := k) (by have := HKC.out; omega)
  clear hs
  have nq := heap_alloc_new w6 (.cells #[.int .i64 0, .int .i64 0, .int .i64 0, .int .i64 0, .int .i64 0, .int .i64 0, .int .u8 0, .int .u8 0, .int .u8 0, .int .u8 0, .int .u8 0, .int .u8 0, .int .u8 0, .int .u8 0, .slice none 0 0, .slice none 0 0] 27)
  have bqq := (Below.refl w6.heap.size w6).alloc (Nat.le_refl _) (.cells #[.int .i64 0, .int .i64 0, .int .i64 0, .int .i64 0, .int .i64 0, .int .i64 0, .int .u8 0, .int .u8 0, .int .u8 0, .int .u8 0, .int .u8 0, .int .u8 0, .int .u8 0, .int .u8 0, .slice none 0 0, .slice none 0 0] 27)
  go_wp2_with (first | ((with_reducible show wpList _ _ _ (⟨none, Op.store _ _ _, _, _, _, _⟩ :: _) _ _); refine wpList_store_blk rfl 27 _ _ rfl (w6.heap.size) rfl #[.int .i64 tos, .int .i64 id, .int .i64 fl, .int .i64 pt, .int .i64 ttl, .int .i64 pr, .int .u8 (a0.toNat : Int), .int .u8 (a1.toNat : Int), .int .u8 (a2.toNat : Int), .int .u8 (a3.toNat : Int), .int .u8 (a4.toNat : Int), .int .u8 (a5.toNat : Int), .int .u8 (a6.toNat : Int), .int .u8 (a7.toNat : Int), .slice Ao1 lo.length co1, .slice Ab1 lb.length cb1] rfl _ 27 nq (by rfl) (by kernel_rfl) (by kernel_rfl) ?_; intro x7 hq gq; have bz := below_grown bqq gq (Nat.le_refl _) bqq.size; replace hp := (bz.block _ zp).trans hp; replace zp := Nat.lt_of_lt_of_le zp bz.size; replace hob := hob.below bz; replace hbb := hbb.below bz; replace ho1 := ho1.below bz; replace hb1 := hb1.below bz; replace hF := hF.below bz; replace bel := bel.trans (bz.mono bel.size); have zq := (Array.getElem?_eq_some_iff.1 hq).1; clear nq bqq bz gq))
  with_reducible refine (ipget_any F k cF (PB.take k) _ hF (by have := HPL.out; have := HKC.out; omega)).mono ?_
  rintro e w8 ⟨f0, f1, f2, f3, f4, f5, g0, g1, g2, g3, g4, g5, g6, g7, lo2, lb2, Ao2, Ab2, co2, cb2, er2, rfl, ho2, hb2, b8, hg2⟩
  replace hp := (b8.block _ zp).trans hp
  replace zp := Nat.lt_of_lt_of_le zp b8.size
  replace hq := (b8.block _ zq).trans hq
  replace zq := Nat.lt_of_lt_of_le zq b8.size
  replace hob := hob.below b8
  replace hbb := hbb.below b8
  replace ho1 := ho1.below b8
  replace hb1 := hb1.below b8
  replace hF := hF.below b8
  replace bel := bel.trans (b8.mono bel.size)
  clear b8
  clear hF sF ho2 hb2
  have hh := hC.symm.trans hg2.symm
  simp only [Prod.mk.injEq, List.cons.injEq, and_true] at hh
  obtain ⟨⟨⟨rfl, rfl, rfl, rfl, rfl, rfl⟩, rfl, rfl, rfl, rfl, rfl, rfl, rfl, rfl⟩, ⟨rfl, rfl⟩, rfl⟩ := hh
  clear hg2
  simp only [List.length_nil]
  have nr := heap_alloc_new w8 (.cells #[.int .i64 0, .int .i64 0, .int .i64 0, .int .i64 0, .int .i64 0, .int .i64 0, .int .u8 0, .int .u8 0, .int .u8 0, .int .u8 0, .int .u8 0, .int .u8 0, .int .u8 0, .int .u8 0, .slice none 0 0, .slice none 0 0] 27)
  have bqr := (Below.refl w8.heap.size w8).alloc (Nat.le_refl _) (.cells #[.int .i64 0, .int .i64 0, .int .i64 0, .int .i64 0, .int .i64 0, .int .i64 0, .int .u8 0, .int .u8 0, .int .u8 0, .int .u8 0, .int .u8 0, .int .u8 0, .int .u8 0, .int .u8 0, .slice none 0 0, .slice none 0 0] 27)
  go_wp2_with (first | ((with_reducible show wpList _ _ _ (⟨none, Op.store _ _ _, _, _, _, _⟩ :: _) _ _); refine wpList_store_blk rfl 27 _ _ rfl (w8.heap.size) rfl #[.int .i64 0, .int .i64 0, .int .i64 0, .int .i64 0, .int .i64 0, .int .i64 0, .int .u8 0, .int .u8 0, .int .u8 0, .int .u8 0, .int .u8 0, .int .u8 0, .int .u8 0, .int .u8 0, .slice Ao2 0 co2, .slice Ab2 0 cb2] rfl _ 27 nr (by rfl) (by kernel_rfl) (by kernel_rfl) ?_; intro x9 hr gr; have bz := below_grown bqr gr (Nat.le_refl _) bqr.size; replace hp := (bz.block _ zp).trans hp; replace zp := Nat.lt_of_lt_of_le zp bz.size; replace hq := (bz.block _ zq).trans hq; replace zq := Nat.lt_of_lt_of_le zq bz.size; replace hob := hob.below bz; replace hbb := hbb.below bz; replace ho1 := ho1.below bz; replace hb1 := hb1.below bz; replace bel := bel.trans (bz.mono bel.size); have zr := (Array.getElem?_eq_some_iff.1 hr).1; clear nr bqr bz gr))
  clear hr zr
  replace bel := bel.drew
  replace hp : x9.drew.heap[w.heap.size]? = some (.cells #[.int .i64 tos, .int .i64 id, .int .i64 fl, .int .i64 pt, .int .i64 ttl, .int .i64 pr, .int .u8 (a0.toNat : Int), .int .u8 (a1.toNat : Int), .int .u8 (a2.toNat : Int), .int .u8 (a3.toNat : Int), .int .u8 (a4.toNat : Int), .int .u8 (a5.toNat : Int), .int .u8 (a6.toNat : Int), .int .u8 (a7.toNat : Int), .slice So lo.length co, .slice Sb lb.length cb] 27 (0, 0)) := hp
  replace zp : w.heap.size < x9.drew.heap.size := zp
  replace hq : x9.drew.heap[w6.heap.size]? = some (.cells #[.int .i64 tos, .int .i64 id, .int .i64 fl, .int .i64 pt, .int .i64 ttl, .int .i64 pr, .int .u8 (a0.toNat : Int), .int .u8 (a1.toNat : Int), .int .u8 (a2.toNat : Int), .int .u8 (a3.toNat : Int), .int .u8 (a4.toNat : Int), .int .u8 (a5.toNat : Int), .int .u8 (a6.toNat : Int), .int .u8 (a7.toNat : Int), .slice Ao1 lo.length co1, .slice Ab1 lb.length cb1] 27 (0, 0)) := hq
  replace zq : w6.heap.size < x9.drew.heap.size := zq
  replace hob := hob.drew
  replace hbb := hbb.drew
  replace ho1 := ho1.drew
  replace hb1 := hb1.drew
  refine wp_region_held_drew (S := fun W => W.heap[w.heap.size]? = some (.cells #[.int .i64 tos, .int .i64 id, .int .i64 fl, .int .i64 pt, .int .i64 ttl, .int .i64 pr, .int .u8 (a0.toNat : Int), .int .u8 (a1.toNat : Int), .int .u8 (a2.toNat : Int), .int .u8 (a3.toNat : Int), .int .u8 (a4.toNat : Int), .int .u8 (a5.toNat : Int), .int .u8 (a6.toNat : Int), .int .u8 (a7.toNat : Int), .slice So lo.length co, .slice Sb lb.length cb] 27 (0, 0)) ∧ W.heap[w6.heap.size]? = some (.cells #[.int .i64 tos, .int .i64 id, .int .i64 fl, .int .i64 pt, .int .i64 ttl, .int .i64 pr, .int .u8 (a0.toNat : Int), .int .u8 (a1.toNat : Int), .int .u8 (a2.toNat : Int), .int .u8 (a3.toNat : Int), .int .u8 (a4.toNat : Int), .int .u8 (a5.toNat : Int), .int .u8 (a6.toNat : Int), .int .u8 (a7.toNat : Int), .slice Ao1 lo.length co1, .slice Ab1 lb.length cb1] 27 (0, 0)) ∧ Sl W (So) (lo.length) (co) (lo) ∧ Sl W (Sb) (lb.length) (cb) (lb) ∧ Sl W (Ao1) (lo.length) (co1) (lo) ∧ Sl W (Ab1) (lb.length) (cb1) (lb)) (by kernel_rfl) ⟨hp, hq, hob, hbb, ho1, hb1⟩ (fun hH => ?_)
  generalize x9.drew = vd at bel hp zp hq zq hob hbb ho1 hb1 hH ⊢
  refine wpAnyH_take (i := 0) (v := ?_) rfl (by kernel_rfl) (by kernel_rfl) (by kernel_rfl) (fun _ _ _ h => h) (Or.inl ⟨by rfl, ?_⟩) hH ?_
  rotate_left
  · ((intro W hW; clear hW; go_simp) <;> with_reducible rfl)
  simp only [Act.put, List.getElem_toArray, List.getElem_cons_zero, List.setIfInBounds_toArray, List.set_cons_zero, List.set_cons_succ]
  refine wpAnyH_take (i := 1) (v := ?_) rfl (by kernel_rfl) (by kernel_rfl) (by kernel_rfl) (fun _ _ _ h => h) (Or.inl ⟨by rfl, ?_⟩) hH ?_
  rotate_left
  · ((intro W hW; clear hW; go_simp) <;> with_reducible rfl)
  simp only [Act.put, List.getElem_toArray, List.getElem_cons_zero, List.getElem_cons_succ, List.setIfInBounds_toArray, List.set_cons_zero, List.set_cons_succ]
  refine wpAnyH_take (i := 2) (v := ?_) rfl (by kernel_rfl) (by kernel_rfl) (by kernel_rfl) (fun _ _ _ h => h) (Or.inl ⟨by rfl, ?_⟩) hH ?_
  rotate_left
  · ((intro W hW; clear hW; go_simp) <;> with_reducible rfl)
  simp only [Act.put, List.getElem_toArray, List.getElem_cons_zero, List.getElem_cons_succ, List.setIfInBounds_toArray, List.set_cons_zero, List.set_cons_succ]
  refine wpAnyH_take (i := 3) (v := .agg #[.int .i64 tos, .int .i64 id, .int .i64 fl, .int .i64 pt, .int .i64 ttl, .int .i64 pr, .int .u8 (a0.toNat : Int), .int .u8 (a1.toNat : Int), .int .u8 (a2.toNat : Int), .int .u8 (a3.toNat : Int), .int .u8 (a4.toNat : Int), .int .u8 (a5.toNat : Int), .int .u8 (a6.toNat : Int), .int .u8 (a7.toNat : Int), .slice Ao1 lo.length co1, .slice Ab1 lb.length cb1]) rfl (by kernel_rfl) (by kernel_rfl) (by kernel_rfl) (fun _ _ _ h => h) (yieldsIf_load_part (by kernel_rfl) 27 _ rfl (w6.heap.size) 0 16 rfl [.int .i64 tos, .int .i64 id, .int .i64 fl, .int .i64 pt, .int .i64 ttl, .int .i64 pr, .int .u8 (a0.toNat : Int), .int .u8 (a1.toNat : Int), .int .u8 (a2.toNat : Int), .int .u8 (a3.toNat : Int), .int .u8 (a4.toNat : Int), .int .u8 (a5.toNat : Int), .int .u8 (a6.toNat : Int), .int .u8 (a7.toNat : Int), .slice Ao1 lo.length co1, .slice Ab1 lb.length cb1] 27 (0, 0) (fun W hW => hW.2.1) [.int .i64 tos, .int .i64 id, .int .i64 fl, .int .i64 pt, .int .i64 ttl, .int .i64 pr, .int .u8 (a0.toNat : Int), .int .u8 (a1.toNat : Int), .int .u8 (a2.toNat : Int), .int .u8 (a3.toNat : Int), .int .u8 (a4.toNat : Int), .int .u8 (a5.toNat : Int), .int .u8 (a6.toNat : Int), .int .u8 (a7.toNat : Int), .slice Ao1 lo.length co1, .slice Ab1 lb.length cb1] rfl _ Try.underlying27 rfl (by kernel_rfl)) hH ?_
  simp only [Act.put, List.getElem_toArray, List.getElem_cons_zero, List.getElem_cons_succ, List.setIfInBounds_toArray, List.set_cons_zero, List.set_cons_succ]
  refine wpAnyH_take (i := 5) (v := .agg #[.int .i64 tos, .int .i64 id, .int .i64 fl, .int .i64 pt, .int .i64 ttl, .int .i64 pr, .int .u8 (a0.toNat : Int), .int .u8 (a1.toNat : Int), .int .u8 (a2.toNat : Int), .int .u8 (a3.toNat : Int), .int .u8 (a4.toNat : Int), .int .u8 (a5.toNat : Int), .int .u8 (a6.toNat : Int), .int .u8 (a7.toNat : Int), .slice So lo.length co, .slice Sb lb.length cb]) rfl (by kernel_rfl) (by kernel_rfl) (by kernel_rfl) (fun _ _ _ h => h) (yieldsIf_load_part (by kernel_rfl) 27 _ rfl (w.heap.size) 0 16 rfl [.int .i64 tos, .int .i64 id, .int .i64 fl, .int .i64 pt, .int .i64 ttl, .int .i64 pr, .int .u8 (a0.toNat : Int), .int .u8 (a1.toNat : Int), .int .u8 (a2.toNat : Int), .int .u8 (a3.toNat : Int), .int .u8 (a4.toNat : Int), .int .u8 (a5.toNat : Int), .int .u8 (a6.toNat : Int), .int .u8 (a7.toNat : Int), .slice So lo.length co, .slice Sb lb.length cb] 27 (0, 0) (fun W hW => hW.1) [.int .i64 tos, .int .i64 id, .int .i64 fl, .int .i64 pt, .int .i64 ttl, .int .i64 pr, .int .u8 (a0.toNat : Int), .int .u8 (a1.toNat : Int), .int .u8 (a2.toNat : Int), .int .u8 (a3.toNat : Int), .int .u8 (a4.toNat : Int), .int .u8 (a5.toNat : Int), .int .u8 (a6.toNat : Int), .int .u8 (a7.toNat : Int), .slice So lo.length co, .slice Sb lb.length cb] rfl _ Try.underlying27 rfl (by kernel_rfl)) hH ?_
  simp only [Act.put, List.getElem_toArray, List.getElem_cons_zero, List.getElem_cons_succ, List.setIfInBounds_toArray, List.set_cons_zero, List.set_cons_succ]
  refine wpAnyH_ready (rs := [4]) (by kernel_rfl) (by simp) ?_
  refine AllReadyH.cons (o := _) rfl (fun K hK => ?_) AllReadyH.nil
  simp only [List.getElem_toArray, List.getElem_cons_zero, List.getElem_cons_succ]
  go_simp
  with_reducible refine (own6_any tos id fl pt ttl pr a0 a1 a2 a3 a4 a5 a6 a7 _ _ _ _ _ _ _).mono ?_
  rintro e v31 ⟨rfl, b31⟩
  dsimp only
  replace bel := bel.trans (b31.mono bel.size)
  replace hp := (b31.block _ zp).trans hp
  replace zp := Nat.lt_of_lt_of_le zp b31.size
  replace hq := (b31.block _ zq).trans hq
  replace zq := Nat.lt_of_lt_of_le zq b31.size
  replace hob := hob.below b31
  replace hbb := hbb.below b31
  replace ho1 := ho1.below b31
  replace hb1 := hb1.below b31
  refine hK.out _ _ ⟨hp, hq, hob, hbb, ho1, hb1⟩ (fun hH31 => ?_)
  clear hK K
  refine wpAnyH_ready (rs := [6]) (by kernel_rfl) (by simp) ?_
  refine AllReadyH.cons (o := _) rfl (fun K hK => ?_) AllReadyH.nil
  simp only [List.getElem_toArray, List.getElem_cons_zero, List.getElem_cons_succ]
  go_simp
  with_reducible refine (own6_any tos id fl pt ttl pr a0 a1 a2 a3 a4 a5 a6 a7 _ _ _ _ _ _ _).mono ?_
  rintro e v32 ⟨rfl, b32⟩
  dsimp only
  replace bel := bel.trans (b32.mono bel.size)
  replace hp := (b32.block _ zp).trans hp
  replace zp := Nat.lt_of_lt_of_le zp b32.size
  replace hq := (b32.block _ zq).trans hq
  replace zq := Nat.lt_of_lt_of_le zq b32.size
  replace hob := hob.below b32
  replace hbb := hbb.below b32
  replace ho1 := ho1.below b32
  replace hb1 := hb1.below b32
  refine hK.out _ _ ⟨hp, hq, hob, hbb, ho1, hb1⟩ (fun hH32 => ?_)
  clear hK K
  refine wpAnyH_ready (rs := [7]) (by kernel_rfl) (by simp) ?_
  refine AllReadyH.cons (o := _) rfl (fun K hK => ?_) AllReadyH.nil
  simp only [List.getElem_toArray, List.getElem_cons_zero, List.getElem_cons_succ]
  go_simp
  with_reducible refine (same6_true tos id fl pt ttl pr a0 a1 a2 a3 a4 a5 a6 a7 _ _ _ _ _ _ _ _ _ _ lo lb _ ho1 hb1 hob hbb).mono ?_
  rintro e v33 ⟨rfl, b33⟩
  dsimp only
  replace bel := bel.trans (b33.mono bel.size)
  replace hp := (b33.block _ zp).trans hp
  replace zp := Nat.lt_of_lt_of_le zp b33.size
  replace hq := (b33.block _ zq).trans hq
  replace zq := Nat.lt_of_lt_of_le zq b33.size
  replace hob := hob.below b33
  replace hbb := hbb.below b33
  replace ho1 := ho1.below b33
  replace hb1 := hb1.below b33
  refine hK.out _ _ ⟨hp, hq, hob, hbb, ho1, hb1⟩ (fun hH33 => ?_)
  clear hK K
  refine wpAnyH_take (i := 8) (v := ?_) rfl (by kernel_rfl) (by kernel_rfl) (by kernel_rfl) (fun _ _ _ h => h) (Or.inl ⟨by rfl, ?_⟩) hH33 ?_
  rotate_left
  · ((intro W hW; clear hW; go_simp) <;> with_reducible rfl)
  simp only [Act.put, List.getElem_toArray, List.getElem_cons_zero, List.getElem_cons_succ, List.setIfInBounds_toArray, List.set_cons_zero, List.set_cons_succ]
  refine wpAnyH_take (i := 9) (v := ?_) rfl (by kernel_rfl) (by kernel_rfl) (by kernel_rfl) (fun _ _ _ h => h) (Or.inl ⟨by rfl, ?_⟩) hH33 ?_
  rotate_left
  · ((intro W hW; clear hW; go_simp) <;> with_reducible rfl)
  simp only [Act.put, List.getElem_toArray, List.getElem_cons_zero, List.getElem_cons_succ, List.setIfInBounds_toArray, List.set_cons_zero, List.set_cons_succ]
  refine wpAnyH_take (i := 10) (v := ?_) rfl (by kernel_rfl) (by kernel_rfl) (by kernel_rfl) (fun _ _ _ h => h) (Or.inl ⟨by rfl, ?_⟩) hH33 ?_
  rotate_left
  · ((intro W hW; clear hW; go_simp) <;> with_reducible rfl)
  simp only [Act.put, List.getElem_toArray, List.getElem_cons_zero, List.getElem_cons_succ, List.setIfInBounds_toArray, List.set_cons_zero, List.set_cons_succ]
  refine wpAnyH_take (i := 11) (v := ?_) rfl (by kernel_rfl) (by kernel_rfl) (by kernel_rfl) (fun _ _ _ h => h) (Or.inl ⟨by rfl, ?_⟩) hH33 ?_
  rotate_left
  · ((intro W hW; clear hW; go_simp) <;> with_reducible rfl)
  simp only [Act.put, List.getElem_toArray, List.getElem_cons_zero, List.getElem_cons_succ, List.setIfInBounds_toArray, List.set_cons_zero, List.set_cons_succ]
  refine wpAnyH_take (i := 12) (v := ?_) rfl (by kernel_rfl) (by kernel_rfl) (by kernel_rfl) (fun _ _ _ h => h) (Or.inl ⟨by rfl, ?_⟩) hH33 ?_
  rotate_left
  · ((intro W hW; clear hW; go_simp) <;> with_reducible rfl)
  simp only [Act.put, List.getElem_toArray, List.getElem_cons_zero, List.getElem_cons_succ, List.setIfInBounds_toArray, List.set_cons_zero, List.set_cons_succ]
  refine wpAnyH_take (i := 13) (v := ?_) rfl (by kernel_rfl) (by kernel_rfl) (by kernel_rfl) (fun _ _ _ h => h) (Or.inl ⟨by rfl, ?_⟩) hH33 ?_
  rotate_left
  · ((intro W hW; clear hW; go_simp) <;> with_reducible rfl)
  simp only [Act.put, List.getElem_toArray, List.getElem_cons_zero, List.getElem_cons_succ, List.setIfInBounds_toArray, List.set_cons_zero, List.set_cons_succ]
  refine wpAnyH_done (by kernel_rfl) ?_ _
  go_wp2
  go_ret
  exact ⟨rfl, bel⟩

theorem put_cases (tos id fl pt ttl pr : Int) (a0 a1 a2 a3 a4 a5 a6 a7 : UInt8) (lo lb : List UInt8) :
    (ipPut tos id fl pt ttl pr a0 a1 a2 a3 a4 a5 a6 a7 lo lb).2 ≠ 0 ∨ (ipFits tos id fl pt ttl pr lo = true ∧ 20 + lo.length + lb.length ≤ 1500 ∧ ipPut tos id fl pt ttl pr a0 a1 a2 a3 a4 a5 a6 a7 lo lb = (ipBytes tos id fl pt ttl pr a0 a1 a2 a3 a4 a5 a6 a7 lo lb, 0)) := by
  unfold ipPut
  cases hf : ipFits tos id fl pt ttl pr lo
  · rw [if_pos rfl]; exact .inl (by simp)
  · rw [if_neg (by simp)]
    by_cases hn : 1500 < 20 + lo.length + lb.length
    · rw [if_pos hn]; exact .inl (by simp)
    · rw [if_neg hn]; exact .inr ⟨rfl, by omega, rfl⟩
theorem ip4Behind_walk (tos id fl pt ttl pr : Int) (a0 a1 a2 a3 a4 a5 a6 a7 : UInt8) (So : Option Addr) (no co : Nat) (lo : List UInt8) (Sb : Option Addr) (nb cb : Nat) (lb : List UInt8) (S : Option Addr) (n c : Nat) (l : List UInt8) (cut : Int) (w : World) (ho : Sl w So no co lo) (hb : Sl w Sb nb cb lb) (hl : Sl w S n c l) :
    Calls Try.prog 6 #[.agg #[.int .i64 tos, .int .i64 id, .int .i64 fl, .int .i64 pt, .int .i64 ttl, .int .i64 pr, .int .u8 (a0.toNat : Int), .int .u8 (a1.toNat : Int), .int .u8 (a2.toNat : Int), .int .u8 (a3.toNat : Int), .int .u8 (a4.toNat : Int), .int .u8 (a5.toNat : Int), .int .u8 (a6.toNat : Int), .int .u8 (a7.toNat : Int), .slice So no co, .slice Sb nb cb], .slice S n c, .int .i64 cut] w fun e w' => e = .returned (.bool true) ∧ Below w.heap.size w w' := by
  obtain rfl := ho.1
  obtain rfl := hb.1
  cases hgr : (decide (1600 < lb.length) || decide (100 < lo.length))
  · simp only [Bool.or_eq_false_iff, decide_eq_false_iff_not] at hgr
    have h1 : lb.length ≤ 1600 := by omega
    have h2 : lo.length ≤ 100 := by omega
    by_cases h3 : 100 < n
    · exact ip4Behind_long tos id fl pt ttl pr a0 a1 a2 a3 a4 a5 a6 a7 So Sb co cb lo lb S n c l cut w ho hb hl h1 h2 h3
    have h3' : n ≤ 100 := by omega
    rcases put_cases tos id fl pt ttl pr a0 a1 a2 a3 a4 a5 a6 a7 lo lb with he | ⟨hf, hn, hput⟩
    · exact ip4Behind_refused tos id fl pt ttl pr a0 a1 a2 a3 a4 a5 a6 a7 So Sb co cb lo lb S n c l cut w ho hb hl h1 h2 h3' he
    have g := put_good (a0 := a0) (a1 := a1) (a2 := a2) (a3 := a3) (a4 := a4) (a5 := a5) (a6 := a6) (a7 := a7) (body := lb) hf hn []
    by_cases c1 : cut < 0
    · exact ip4Behind_neg tos id fl pt ttl pr a0 a1 a2 a3 a4 a5 a6 a7 So Sb co cb lo lb S n c l cut w ho hb hl h1 h2 h3' _ hput c1
    by_cases c2 : ((ipBytes tos id fl pt ttl pr a0 a1 a2 a3 a4 a5 a6 a7 lo lb).length : Int) ≤ cut
    · exact ip4Behind_big tos id fl pt ttl pr a0 a1 a2 a3 a4 a5 a6 a7 So Sb co cb lo lb S n c l cut w ho hb hl h1 h2 h3' _ hput c2
    obtain ⟨k, rfl⟩ : ∃ k : Nat, cut = k := ⟨cut.toNat, by omega⟩
    rw [List.append_nil] at g
    refine ip4Behind_in tos id fl pt ttl pr a0 a1 a2 a3 a4 a5 a6 a7 So Sb co cb lo lb S n c l k w ho hb hl h1 h2 h3' _ hput (by rw [g.2.2.1]; omega) (by omega) (put_good hf hn l).2.1 ?_
    have e := cut_none g.1 k (by rw [g.2.2.2.2]; have := g.2.2.1; omega)
    unfold ipGet
    rw [if_pos (by rw [e]; decide), e]
  · exact ip4Behind_great tos id fl pt ttl pr a0 a1 a2 a3 a4 a5 a6 a7 So Sb co cb lo lb S n c l cut w ho hb hl hgr
set_option maxRecDepth 100000 in
set_option maxHeartbeats 16000000 in
theorem ip4Reads_long (S : Option Addr) (n c : Nat) (w : World) (h : 1700 < n) : Calls Try.prog 4 #[.slice S n c] w fun e w' => e = .returned (.bool true) ∧ Below w.heap.size w w' := by
  have bel := Below.refl w.heap.size w
  have t1 : (1700 : Int) < n := by omega
  go_enter Try.func4, Try.ntmps4
  go_wp2_with fail
  with_reducible refine (awake6 _).mono ?_
  rintro e w1 ⟨rfl, b1⟩
  replace bel := bel.trans (b1.mono bel.size)
  clear b1
  go_wp2_with fail
  go_ret
  exact ⟨rfl, bel⟩
theorem ip4Reads_walk (S : Option Addr) (n c : Nat) (l : List UInt8) (w : World) (hl : Sl w S n c l) : Calls Try.prog 4 #[.slice S n c] w fun e w' => e = .returned (.bool true) ∧ Below w.heap.size w w' := by
  by_cases h : 1700 < n
  · exact ip4Reads_long S n c w h
  · exact ip4Reads_in S n c l w hl (by omega)
end Go.Proofs.Ytabogdpjjclapaa
