/- Texts put together: Ipf, Ud1, Ud2, Udf. -/
import Derived.Test.YtbdaejodbcjmfaaGreatK1
import Derived.Test.YtbdaejodbcjmfaaGreatK7
import Derived.Deep.RegionHeld3
namespace Go.Proofs.YtbdaejodbcjmfaaGreat
open Go.RowKit
set_option linter.unusedVariables false
set_option linter.unusedSimpArgs false
set_option maxRecDepth 100000
set_option maxHeartbeats 16000000

theorem w16_to (A : Option Addr) (n m c : Nat) (l : List UInt8) (v : Int) (w : World) (hm : n + 2 = m) (hl : Sl w A n c l) (hs : n + 2 ≤ 140737488355328) :
  Calls Tryz.prog 80 #[.slice A n c, .int .i64 v] w fun e w' => ∃ A' c', e = .returned (.slice A' m c') ∧ Sl w' A' m c' (l ++ two v) ∧ Below w.heap.size w w' := by
 subst hm; exact w16_any A n c l v w hl hs
theorem w16_oto (A : Option Addr) (n m c : Nat) (l : List UInt8) (v0 : Int) (w : World) (hm : n + 2 = m) (hl : Sl w A n c l) (hs : n + 2 ≤ 140737488355328) :
  Calls Tryz.prog 80 #[.slice A n c, .int .i64 v0] w fun e w' => ∃ v, e = .returned v ∧ w'.ownsRow w.heap.size 5 1 v m ((l ++ two v0).map u8v) ∧ Below w.heap.size w w' := by
 subst hm; exact w16_o A n c l v0 w hl hs
theorem or64 (q : Int) (h0 : 0 ≤ q) (h1 : q < 64) : bits .or .i64 64 q = 64 + q := by
 obtain ⟨k, rfl⟩ : ∃ k : Nat, q = k := ⟨q.toNat, by omega⟩
 show IntKind.i64.wrap ((BitVec.ofInt 64 64 ||| BitVec.ofInt 64 (k : Int)).toNat : Int) = _
 rw [BitVec.toNat_or, BitVec.ofInt_natCast, BitVec.toNat_ofNat, show (BitVec.ofInt 64 64).toNat = 1 * 64 from rfl, Nat.mod_eq_of_lt (by omega)]
 have := Nat.two_pow_add_eq_or_of_lt (i := 6) (b := k) (by omega) 1
 rw [show 1 * 64 ||| k = 64 + k by rw [show (1 * 64 : Nat) = 2 ^ 6 * 1 by rfl]; omega]
 rw [IntKind.wrap_i64]
 omega
theorem or8192 (f p : Int) (f0 : 0 ≤ f) (f1 : f ≤ 7) (p0 : 0 ≤ p) (p1 : p ≤ 8191) : bits .or .i64 (f * 8192) p = f * 8192 + p := by
 obtain ⟨k, rfl⟩ : ∃ k : Nat, f = k := ⟨f.toNat, by omega⟩
 obtain ⟨j, rfl⟩ : ∃ j : Nat, p = j := ⟨p.toNat, by omega⟩
 rw [show (k : Int) * 8192 = ((k * 8192 : Nat) : Int) by omega]
 show IntKind.i64.wrap ((BitVec.ofInt 64 ((k * 8192 : Nat) : Int) ||| BitVec.ofInt 64 (j : Int)).toNat : Int) = _
 rw [BitVec.toNat_or, BitVec.ofInt_natCast, BitVec.ofInt_natCast, BitVec.toNat_ofNat, BitVec.toNat_ofNat, Nat.mod_eq_of_lt (by omega), Nat.mod_eq_of_lt (by omega)]
 have := Nat.two_pow_add_eq_or_of_lt (i := 13) (b := j) (by omega) k
 rw [show k * 8192 ||| j = k * 8192 + j by rw [Nat.mul_comm k 8192, show (8192 : Nat) = 2 ^ 13 by rfl]; omega]
 rw [IntKind.wrap_i64]
 omega
/-- What stands ahead of the sum, and behind it. -/
def hdA (tos id fl pt ttl pr : Int) (no nb : Nat) : List UInt8 := [byteOf (64 + (20 + (no : Int)) / 4), byteOf tos] ++ two (20 + (no : Int) + nb) ++ two id ++ two (fl * 8192 + pt) ++ [byteOf ttl, byteOf pr]
theorem header_o (tos id fl pt ttl pr : Int) (a0 a1 a2 a3 a4 a5 a6 a7 : UInt8) (So Sb : Option Addr) (no co nb cb : Nat) (lo : List UInt8) (w : World) (ho : Sl w So no co lo) (f0 : 0 ≤ fl) (f1 : fl ≤ 7) (p0 : 0 ≤ pt) (p1 : pt ≤ 8191) (o1 : no ≤ 40) (hn : 20 + no + nb ≤ 1500) :
  Calls Tryz.prog 50 #[.agg #[.int .i64 tos, .int .i64 id, .int .i64 fl, .int .i64 pt, .int .i64 ttl, .int .i64 pr, .int .u8 (a0.toNat : Int), .int .u8 (a1.toNat : Int), .int .u8 (a2.toNat : Int), .int .u8 (a3.toNat : Int), .int .u8 (a4.toNat : Int), .int .u8 (a5.toNat : Int), .int .u8 (a6.toNat : Int), .int .u8 (a7.toNat : Int), .slice So no co, .slice Sb nb cb]] w fun e w' => ∃ v, e = .returned v ∧ w'.ownsRow w.heap.size 5 1 v (20 + no) ((hdA tos id fl pt ttl pr no nb ++ two (ck [hdA tos id fl pt ttl pr no nb, [a0, a1, a2, a3, a4, a5, a6, a7] ++ lo].flatten) ++ ([a0, a1, a2, a3, a4, a5, a6, a7] ++ lo)).map u8v) ∧ Below w.heap.size w w' := by
 obtain ⟨ii, hii, hz0, hz1, hz2⟩ := info_parts Tryz.info5
 obtain ⟨X, HX⟩ : ∃ X, Hid (64 + (20 + (no : Int)) / 4 = X) := ⟨_, Lib.hid rfl⟩
 have hor : bits .or .i64 64 ((20 + (no : Int)) / 4) = X := by rw [← HX.out]; exact or64 _ (by omega) (by omega)
 have hof := or8192 fl pt f0 f1 p0 p1
 obtain ⟨BA, HBA⟩ : ∃ BA, Hid (hdA tos id fl pt ttl pr no nb = BA) := ⟨_, Lib.hid rfl⟩
 replace HBA : Hid (hdA tos id fl pt ttl pr no nb = BA) ∧ Hid (BA = [byteOf X, byteOf tos] ++ two (20 + (no : Int) + nb) ++ two id ++ two (fl * 8192 + pt) ++ [byteOf ttl, byteOf pr]) := ⟨HBA, Lib.hid (by rw [← HBA.out, ← HX.out]; rfl)⟩
 have HBB := HBA.2
 replace HBA := HBA.1
 have n0 : (0 : Int) ≤ no := by omega
 have n1 : (no : Int) ≤ 40 := by omega
 have n2 : (0 : Int) ≤ nb := by omega
 have n3 : (nb : Int) ≤ 1500 := by omega
 have n4 : 20 + (no : Int) + nb ≤ 1500 := by omega
 clear p0 p1 o1 hn
 have bel := Below.refl w.heap.size w
 have hp : (w.alloc (.cells #[.int .i64 tos, .int .i64 id, .int .i64 fl, .int .i64 pt, .int .i64 ttl, .int .i64 pr, .int .u8 (a0.toNat : Int), .int .u8 (a1.toNat : Int), .int .u8 (a2.toNat : Int), .int .u8 (a3.toNat : Int), .int .u8 (a4.toNat : Int), .int .u8 (a5.toNat : Int), .int .u8 (a6.toNat : Int), .int .u8 (a7.toNat : Int), .slice So no co, .slice Sb nb cb] 38)).heap[w.heap.size]? = some (.cells #[.int .i64 tos, .int .i64 id, .int .i64 fl, .int .i64 pt, .int .i64 ttl, .int .i64 pr, .int .u8 (a0.toNat : Int), .int .u8 (a1.toNat : Int), .int .u8 (a2.toNat : Int), .int .u8 (a3.toNat : Int), .int .u8 (a4.toNat : Int), .int .u8 (a5.toNat : Int), .int .u8 (a6.toNat : Int), .int .u8 (a7.toNat : Int), .slice So no co, .slice Sb nb cb] 38 (0, 0)) := by have := heap_alloc_new w (.cells #[.int .i64 tos, .int .i64 id, .int .i64 fl, .int .i64 pt, .int .i64 ttl, .int .i64 pr, .int .u8 (a0.toNat : Int), .int .u8 (a1.toNat : Int), .int .u8 (a2.toNat : Int), .int .u8 (a3.toNat : Int), .int .u8 (a4.toNat : Int), .int .u8 (a5.toNat : Int), .int .u8 (a6.toNat : Int), .int .u8 (a7.toNat : Int), .slice So no co, .slice Sb nb cb] 38); simpa using this
 have zp : w.heap.size < (w.alloc (.cells #[.int .i64 tos, .int .i64 id, .int .i64 fl, .int .i64 pt, .int .i64 ttl, .int .i64 pr, .int .u8 (a0.toNat : Int), .int .u8 (a1.toNat : Int), .int .u8 (a2.toNat : Int), .int .u8 (a3.toNat : Int), .int .u8 (a4.toNat : Int), .int .u8 (a5.toNat : Int), .int .u8 (a6.toNat : Int), .int .u8 (a7.toNat : Int), .slice So no co, .slice Sb nb cb] 38)).heap.size := by simp
 replace bel := bel.alloc bel.size (.cells #[.int .i64 tos, .int .i64 id, .int .i64 fl, .int .i64 pt, .int .i64 ttl, .int .i64 pr, .int .u8 (a0.toNat : Int), .int .u8 (a1.toNat : Int), .int .u8 (a2.toNat : Int), .int .u8 (a3.toNat : Int), .int .u8 (a4.toNat : Int), .int .u8 (a5.toNat : Int), .int .u8 (a6.toNat : Int), .int .u8 (a7.toNat : Int), .slice So no co, .slice Sb nb cb] 38)
 replace ho := ho.below bel
 go_enter Tryz.func50, Tryz.ntmps50
 have R7 := cell_lit hp 14 _ rfl
 have R15 := cell_lit hp 0 _ rfl
 have hm := made_b2 X tos (w.alloc (.cells #[.int .i64 tos, .int .i64 id, .int .i64 fl, .int .i64 pt, .int .i64 ttl, .int .i64 pr, .int .u8 (a0.toNat : Int), .int .u8 (a1.toNat : Int), .int .u8 (a2.toNat : Int), .int .u8 (a3.toNat : Int), .int .u8 (a4.toNat : Int), .int .u8 (a5.toNat : Int), .int .u8 (a6.toNat : Int), .int .u8 (a7.toNat : Int), .slice So no co, .slice Sb nb cb] 38))
 rw [show (w.alloc (.cells #[.int .i64 tos, .int .i64 id, .int .i64 fl, .int .i64 pt, .int .i64 ttl, .int .i64 pr, .int .u8 (a0.toNat : Int), .int .u8 (a1.toNat : Int), .int .u8 (a2.toNat : Int), .int .u8 (a3.toNat : Int), .int .u8 (a4.toNat : Int), .int .u8 (a5.toNat : Int), .int .u8 (a6.toNat : Int), .int .u8 (a7.toNat : Int), .slice So no co, .slice Sb nb cb] 38)).heap.size = w.heap.size + 1 by simp] at hm
 replace hp := (Go.heap_alloc_old (w.alloc (.cells #[.int .i64 tos, .int .i64 id, .int .i64 fl, .int .i64 pt, .int .i64 ttl, .int .i64 pr, .int .u8 (a0.toNat : Int), .int .u8 (a1.toNat : Int), .int .u8 (a2.toNat : Int), .int .u8 (a3.toNat : Int), .int .u8 (a4.toNat : Int), .int .u8 (a5.toNat : Int), .int .u8 (a6.toNat : Int), .int .u8 (a7.toNat : Int), .slice So no co, .slice Sb nb cb] 38)) (.cells #[.int .u8 (X % 256), .int .u8 (tos % 256)] 5) (r := w.heap.size) zp).trans hp
 replace zp := Nat.lt_trans zp (show (w.alloc (.cells #[.int .i64 tos, .int .i64 id, .int .i64 fl, .int .i64 pt, .int .i64 ttl, .int .i64 pr, .int .u8 (a0.toNat : Int), .int .u8 (a1.toNat : Int), .int .u8 (a2.toNat : Int), .int .u8 (a3.toNat : Int), .int .u8 (a4.toNat : Int), .int .u8 (a5.toNat : Int), .int .u8 (a6.toNat : Int), .int .u8 (a7.toNat : Int), .slice So no co, .slice Sb nb cb] 38)).heap.size < ((w.alloc (.cells #[.int .i64 tos, .int .i64 id, .int .i64 fl, .int .i64 pt, .int .i64 ttl, .int .i64 pr, .int .u8 (a0.toNat : Int), .int .u8 (a1.toNat : Int), .int .u8 (a2.toNat : Int), .int .u8 (a3.toNat : Int), .int .u8 (a4.toNat : Int), .int .u8 (a5.toNat : Int), .int .u8 (a6.toNat : Int), .int .u8 (a7.toNat : Int), .slice So no co, .slice Sb nb cb] 38)).alloc (.cells #[.int .u8 (X % 256), .int .u8 (tos % 256)] 5)).heap.size by simp)
 replace ho := ho.below ((Below.refl (w.alloc (.cells #[.int .i64 tos, .int .i64 id, .int .i64 fl, .int .i64 pt, .int .i64 ttl, .int .i64 pr, .int .u8 (a0.toNat : Int), .int .u8 (a1.toNat : Int), .int .u8 (a2.toNat : Int), .int .u8 (a3.toNat : Int), .int .u8 (a4.toNat : Int), .int .u8 (a5.toNat : Int), .int .u8 (a6.toNat : Int), .int .u8 (a7.toNat : Int), .slice So no co, .slice Sb nb cb] 38)).heap.size (w.alloc (.cells #[.int .i64 tos, .int .i64 id, .int .i64 fl, .int .i64 pt, .int .i64 ttl, .int .i64 pr, .int .u8 (a0.toNat : Int), .int .u8 (a1.toNat : Int), .int .u8 (a2.toNat : Int), .int .u8 (a3.toNat : Int), .int .u8 (a4.toNat : Int), .int .u8 (a5.toNat : Int), .int .u8 (a6.toNat : Int), .int .u8 (a7.toNat : Int), .slice So no co, .slice Sb nb cb] 38))).alloc (Nat.le_refl _) (.cells #[.int .u8 (X % 256), .int .u8 (tos % 256)] 5))
 replace bel := bel.alloc bel.size (.cells #[.int .u8 (X % 256), .int .u8 (tos % 256)] 5)
 have R21 := cell_lit hp 15 _ rfl
 go_wp2_with fail
 with_reducible refine (w16_to _ 2 4 2 _ _ _ rfl hm (by omega)).mono ?_
 clear R7 R15 R21
 rintro e w1 ⟨A1, c1, rfl, h1_, b1⟩
 replace hp := (b1.block _ zp).trans hp
 replace zp := Nat.lt_of_lt_of_le zp b1.size
 clear hm
 replace ho := ho.below b1
 replace bel := bel.trans (b1.mono bel.size)
 clear b1
 have h1 := h1_
 clear h1_
 have R27 := cell_lit hp 1 _ rfl
 go_wp2_with fail
 with_reducible refine (w16_to A1 4 6 c1 _ _ _ rfl h1 (by omega)).mono ?_
 clear R27
 rintro e w2 ⟨A2, c2, rfl, h2_, b2⟩
 replace hp := (b2.block _ zp).trans hp
 replace zp := Nat.lt_of_lt_of_le zp b2.size
 clear h1
 replace ho := ho.below b2
 replace bel := bel.trans (b2.mono bel.size)
 clear b2
 have h2 := h2_
 clear h2_
 have R31 := cell_lit hp 2 _ rfl
 have R34 := cell_lit hp 3 _ rfl
 go_wp2_with fail
 have m1zp := zp
 have m1sho := ho
 have m1sh2 := h2
 have m1w := bel.size
 with_reducible refine (w16_oto A2 6 8 c2 _ _ _ rfl h2 (by omega)).mono ?_
 clear R31 R34
 rintro e w3 ⟨v1, rfl, hown, m1b⟩
 replace hp := (m1b.block _ zp).trans hp
 replace zp := Nat.lt_of_lt_of_le zp m1b.size
 replace ho := ho.below m1b
 replace h2 := h2.below m1b
 have m1 := m1b.size
 replace bel := bel.trans (m1b.mono bel.size)
 clear h2 m1sh2
 have R39 := cell_lit hp 4 _ rfl
 have R42 := cell_lit hp 5 _ rfl
 have hm := made_b2 ttl pr w3
 replace hp := (Go.heap_alloc_old w3 (.cells #[.int .u8 (ttl % 256), .int .u8 (pr % 256)] 5) (r := w.heap.size) zp).trans hp
 replace zp := Nat.lt_trans zp (show w3.heap.size < (w3.alloc (.cells #[.int .u8 (ttl % 256), .int .u8 (pr % 256)] 5)).heap.size by simp)
 replace ho := ho.below ((Below.refl w3.heap.size w3).alloc (Nat.le_refl _) (.cells #[.int .u8 (ttl % 256), .int .u8 (pr % 256)] 5))
 replace hown := hown.alloc (.cells #[.int .u8 (ttl % 256), .int .u8 (pr % 256)] 5)
 replace m1b := m1b.alloc m1 (.cells #[.int .u8 (ttl % 256), .int .u8 (pr % 256)] 5)
 replace m1 : _ ≤ (w3.alloc (.cells #[.int .u8 (ttl % 256), .int .u8 (pr % 256)] 5)).heap.size := Nat.le_trans m1 (by simp)
 replace bel := bel.alloc bel.size (.cells #[.int .u8 (ttl % 256), .int .u8 (pr % 256)] 5)
 go_wp2_with (first | (at_builtin; refine wpList_append_bb _ rfl (.tmp 38) (.tmp 45) 36 rfl (w2.heap.size) 5 ii (.int .u8 0) Tryz.underlying36 hii hz0 hz1 hz2 rfl v1 (8) ([byteOf X, byteOf tos] ++ two (20 + (no : Int) + nb) ++ two id ++ two (fl * 8192 + pt)) rfl hown (_) (2) (2) ([byteOf ttl, byteOf pr]) rfl hm ?c1 ?c2 ?_))
 case c1 => omega
 case c2 => exact m1
 intro r4 y4 hown2_ bb
 replace hp := (bb.block _ m1zp).trans hp
 replace zp := Nat.lt_of_lt_of_le zp bb.size
 replace m1b := m1b.trans bb
 replace bel := bel.trans (bb.mono m1w)
 replace m1 := Nat.le_trans m1 bb.size
 clear hown bb
 replace ho := m1sho.below m1b
 have hown2 := hown2_
 clear hown2_
 clear R39 R42 hm
 replace hown2 : y4.ownsRow w2.heap.size 5 1 r4 10 ((BA).map u8v) := by rw [HBB.out]; exact hown2
 obtain ⟨A3, c3, rfl, hbf⟩ := Sl.of_own hown2
 clear hown2
 clear m1 m1b m1zp m1w m1sho
 go_wp2_with fail
 replace bel := bel.drew
 replace hp : y4.drew.heap[w.heap.size]? = some (.cells #[.int .i64 tos, .int .i64 id, .int .i64 fl, .int .i64 pt, .int .i64 ttl, .int .i64 pr, .int .u8 (a0.toNat : Int), .int .u8 (a1.toNat : Int), .int .u8 (a2.toNat : Int), .int .u8 (a3.toNat : Int), .int .u8 (a4.toNat : Int), .int .u8 (a5.toNat : Int), .int .u8 (a6.toNat : Int), .int .u8 (a7.toNat : Int), .slice So no co, .slice Sb nb cb] 38 (0, 0)) := hp
 replace zp : w.heap.size < y4.drew.heap.size := zp
 refine wp_region_held_drew (S := fun W => W.heap[w.heap.size]? = some (.cells #[.int .i64 tos, .int .i64 id, .int .i64 fl, .int .i64 pt, .int .i64 ttl, .int .i64 pr, .int .u8 (a0.toNat : Int), .int .u8 (a1.toNat : Int), .int .u8 (a2.toNat : Int), .int .u8 (a3.toNat : Int), .int .u8 (a4.toNat : Int), .int .u8 (a5.toNat : Int), .int .u8 (a6.toNat : Int), .int .u8 (a7.toNat : Int), .slice So no co, .slice Sb nb cb] 38 (0, 0))) (by kernel_rfl) hp (fun hH => ?_)
 replace ho := ho.drew
 replace hbf := hbf.drew
 generalize y4.drew = vd at bel hp zp ho hbf hH ⊢
 refine wpAnyH_take (i := 0) (v := .agg #[.int .i64 tos, .int .i64 id, .int .i64 fl, .int .i64 pt, .int .i64 ttl, .int .i64 pr, .int .u8 (a0.toNat : Int), .int .u8 (a1.toNat : Int), .int .u8 (a2.toNat : Int), .int .u8 (a3.toNat : Int), .int .u8 (a4.toNat : Int), .int .u8 (a5.toNat : Int), .int .u8 (a6.toNat : Int), .int .u8 (a7.toNat : Int), .slice So no co, .slice Sb nb cb]) rfl (by kernel_rfl) (by kernel_rfl) (by kernel_rfl) (fun _ _ _ h => h) (yieldsIf_load_part (by kernel_rfl) 38 _ rfl (w.heap.size) 0 16 rfl [.int .i64 tos, .int .i64 id, .int .i64 fl, .int .i64 pt, .int .i64 ttl, .int .i64 pr, .int .u8 (a0.toNat : Int), .int .u8 (a1.toNat : Int), .int .u8 (a2.toNat : Int), .int .u8 (a3.toNat : Int), .int .u8 (a4.toNat : Int), .int .u8 (a5.toNat : Int), .int .u8 (a6.toNat : Int), .int .u8 (a7.toNat : Int), .slice So no co, .slice Sb nb cb] 38 (0, 0) (fun W hW => hW) [.int .i64 tos, .int .i64 id, .int .i64 fl, .int .i64 pt, .int .i64 ttl, .int .i64 pr, .int .u8 (a0.toNat : Int), .int .u8 (a1.toNat : Int), .int .u8 (a2.toNat : Int), .int .u8 (a3.toNat : Int), .int .u8 (a4.toNat : Int), .int .u8 (a5.toNat : Int), .int .u8 (a6.toNat : Int), .int .u8 (a7.toNat : Int), .slice So no co, .slice Sb nb cb] rfl _ Tryz.underlying38 rfl (by kernel_rfl)) hH ?_
 simp only [Act.put, List.getElem_toArray, List.getElem_cons_zero, List.setIfInBounds_toArray, List.set_cons_zero, List.set_cons_succ]
 refine wpAnyH_take (i := 2) (v := ?_) rfl (by kernel_rfl) (by kernel_rfl) (by kernel_rfl) (fun _ _ _ h => h) (Or.inl ⟨by rfl, ?_⟩) hH ?_
 rotate_left
 ·((intro W hW; clear hW; go_simp) <;> with_reducible rfl)
 simp only [sq3, sq4]
 refine wpAnyH_take (i := 3) (v := ?_) rfl (by kernel_rfl) (by kernel_rfl) (by kernel_rfl) (fun _ _ _ h => h) (Or.inl ⟨by rfl, ?_⟩) hH ?_
 rotate_left
 ·((intro W hW; have hk := cell_lit (hW) 14 _ rfl; clear hW; go_simp) <;> with_reducible rfl)
 simp only [sq3, sq4]
 have mkzp := zp
 have mksho := ho
 have mkshbf := hbf
 have mkw := bel.size
 refine wpAnyH_ready (rs := [1]) (by kernel_rfl) (by simp) ?_
 refine AllReadyH.cons (o := _) rfl (fun K hK => ?_) AllReadyH.nil
 simp only [sq3]
 go_simp
 with_reducible refine (ends_o tos id fl pt ttl pr a0 a1 a2 a3 a4 a5 a6 a7 So Sb no co nb cb _).mono ?_
 rintro e v41 ⟨v, rfl, hown, b41⟩
 dsimp only
 replace bel := bel.trans (b41.mono bel.size)
 replace hp := (b41.block _ zp).trans hp
 replace zp := Nat.lt_of_lt_of_le zp b41.size
 have mk := b41.size
 have mkb := b41
 replace ho := ho.below b41
 replace hbf := hbf.below b41
 refine hK.out _ _ hp (fun hH41 => ?_)
 clear hK K
 refine wpAnyH_ready (rs := [4]) (by kernel_rfl) (by simp) ?_
 refine AllReadyH.cons (o := _) rfl (fun K hK => ?_) AllReadyH.nil
 simp only [sq3]
 rw [if_pos (by rfl)]
 refine wp_append_bb (.tmp 48) (.tmp 50) 36 rfl (vd.heap.size) 5 ii (.int .u8 0) Tryz.underlying36 hii hz0 hz1 hz2 rfl v (8) ([a0, a1, a2, a3, a4, a5, a6, a7]) rfl hown (So) (no) (co) (lo) rfl ho (by omega) (by omega) ?_
 intro r42 v42 hown2_ bb
 replace hp := (bb.block _ mkzp).trans hp
 replace zp := Nat.lt_of_lt_of_le zp bb.size
 replace bel := bel.trans (bb.mono mkw)
 clear hown
 replace mkb := mkb.trans bb
 replace mk := Nat.le_trans mk bb.size
 clear bb
 replace ho := mksho.below mkb
 replace hbf := mkshbf.below mkb
 have hown2 := hown2_
 clear hown2_
 refine hK.out _ _ hp (fun hH42 => ?_)
 clear hK K
 refine wpAnyH_take (i := 5) (v := ?_) rfl (by kernel_rfl) (by kernel_rfl) (by kernel_rfl) (fun _ _ _ h => h) (Or.inl ⟨by rfl, ?_⟩) hH42 ?_
 rotate_left
 ·((intro W hW; clear hW; go_simp) <;> with_reducible rfl)
 simp only [sq3, sq4]
 refine wpAnyH_done (by kernel_rfl) ?_ _
 obtain ⟨A4, c4, rfl, hbh⟩ := Sl.of_own hown2
 clear hown2
 have hs2 := Sls.two hbf hbh
 replace hp := (Go.heap_alloc_old v42 (.cells #[.slice A3 10 c3, .slice A4 (8 + no) c4] 36) (r := w.heap.size) zp).trans hp
 replace zp := Nat.lt_trans zp (show v42.heap.size < (v42.alloc (.cells #[.slice A3 10 c3, .slice A4 (8 + no) c4] 36)).heap.size by simp)
 replace ho := ho.below ((Below.refl v42.heap.size v42).alloc (Nat.le_refl _) (.cells #[.slice A3 10 c3, .slice A4 (8 + no) c4] 36))
 replace hbf := hbf.below ((Below.refl v42.heap.size v42).alloc (Nat.le_refl _) (.cells #[.slice A3 10 c3, .slice A4 (8 + no) c4] 36))
 replace hbh := hbh.below ((Below.refl v42.heap.size v42).alloc (Nat.le_refl _) (.cells #[.slice A3 10 c3, .slice A4 (8 + no) c4] 36))
 replace bel := bel.alloc bel.size (.cells #[.slice A3 10 c3, .slice A4 (8 + no) c4] 36)
 go_wp2_with fail
 with_reducible refine (many_any _ 2 2 _ _ (by unfold maxLen; omega) hs2).mono ?_
 rintro e _ ⟨rfl, rfl⟩
 clear hs2
 obtain ⟨sm, hsm⟩ : ∃ sm, Hid (ck [BA, [a0, a1, a2, a3, a4, a5, a6, a7] ++ lo].flatten = sm) := ⟨_, Lib.hid rfl⟩
 rw [hsm.out]
 generalize (v42.alloc (.cells #[.slice A3 10 c3, .slice A4 (8 + no) c4] 36)) = v60 at hp zp ho hbf hbh bel ⊢
 go_wp2_with fail
 have m2zp := zp
 have m2sho := ho
 have m2shbf := hbf
 have m2shbh := hbh
 have m2w := bel.size
 with_reducible refine (w16_oto A3 10 12 c3 _ _ _ rfl hbf (by omega)).mono ?_
 rintro e w5 ⟨v2, rfl, hown, m2b⟩
 replace hp := (m2b.block _ zp).trans hp
 replace zp := Nat.lt_of_lt_of_le zp m2b.size
 replace ho := ho.below m2b
 replace hbf := hbf.below m2b
 replace hbh := hbh.below m2b
 have m2 := m2b.size
 replace bel := bel.trans (m2b.mono bel.size)
 go_wp2_with (first | (at_builtin; refine wpList_append_bb _ rfl (.tmp 58) (.tmp 59) 36 rfl (v60.heap.size) 5 ii (.int .u8 0) Tryz.underlying36 hii hz0 hz1 hz2 rfl v2 (12) (BA ++ two sm) rfl hown (A4) (8 + no) (c4) ([a0, a1, a2, a3, a4, a5, a6, a7] ++ lo) rfl hbh ?c1 ?c2 ?_))
 case c1 => omega
 case c2 => exact m2
 intro r6 y6 hown2_ bb
 replace hp := (bb.block _ m2zp).trans hp
 replace zp := Nat.lt_of_lt_of_le zp bb.size
 replace m2b := m2b.trans bb
 replace bel := bel.trans (bb.mono m2w)
 replace m2 := Nat.le_trans m2 bb.size
 clear hown bb
 replace ho := m2sho.below m2b
 replace hbf := m2shbf.below m2b
 replace hbh := m2shbh.below m2b
 have hown2 := hown2_
 clear hown2_
 go_wp2
 go_ret
 exact ⟨r6, rfl, by rw [HBA.out, show 20 + no = 12 + (8 + no) by omega]; have e2 := hsm.out; simp only [List.cons_append, List.nil_append] at e2 ⊢; rw [e2]; simp only [List.map_append, List.map_cons, List.append_assoc] at hown2 ⊢; exact ownsRow_mono hown2 m2w, bel⟩

theorem hd_eq (tos id fl pt ttl pr : Int) (a0 a1 a2 a3 a4 a5 a6 a7 : UInt8) (lo lb : List UInt8) :
  hdA tos id fl pt ttl pr lo.length lb.length ++ two (ck [hdA tos id fl pt ttl pr lo.length lb.length, [a0, a1, a2, a3, a4, a5, a6, a7] ++ lo].flatten) ++ ([a0, a1, a2, a3, a4, a5, a6, a7] ++ lo) ++ lb = ipBytes tos id fl pt ttl pr a0 a1 a2 a3 a4 a5 a6 a7 lo lb := by
 have ec : ck (ipHd tos id fl pt ttl pr a0 a1 a2 a3 a4 a5 a6 a7 lo lb.length) = ck [hdA tos id fl pt ttl pr lo.length lb.length, [a0, a1, a2, a3, a4, a5, a6, a7] ++ lo].flatten := by
  refine ck_of_ws ?_
  have e : ipHd tos id fl pt ttl pr a0 a1 a2 a3 a4 a5 a6 a7 lo lb.length = hdA tos id fl pt ttl pr lo.length lb.length ++ 0 :: 0 :: ([a0, a1, a2, a3, a4, a5, a6, a7] ++ lo) := by
   unfold ipHd hdA two
   simp
  rw [e, ws_at _ _ _ _ (by simp [hdA, two]), List.flatten_cons, List.flatten_cons, List.flatten_nil, List.append_nil, ws_even (hdA tos id fl pt ttl pr lo.length lb.length) _ (by simp [hdA, two])]
  simp
 unfold ipBytes
 rw [ec]
 generalize ck [hdA tos id fl pt ttl pr lo.length lb.length, [a0, a1, a2, a3, a4, a5, a6, a7] ++ lo].flatten = s
 unfold ipHd hdA two
 simp
/-- What Put answers: memory of its own. -/
def PutPost (tos id fl pt ttl pr : Int) (a0 a1 a2 a3 a4 a5 a6 a7 : UInt8) (lo lb : List UInt8) (w : World) (e : Ending) (w' : World) : Prop :=
 ∃ (v : Value) (r : List UInt8) (er : Int), e = .returned (.tuple #[v, .int .i64 er]) ∧ w'.ownsRow w.heap.size 5 1 v r.length (r.map u8v) ∧ Below w.heap.size w w' ∧ (r, er) = ipPut tos id fl pt ttl pr a0 a1 a2 a3 a4 a5 a6 a7 lo lb
open Go.RowKit

theorem Sls.three {w : World} {A B D : Option Addr} {n c m d k q g : Nat} {l t u : List UInt8} {T : TypeId} (h : Sl w A n c l) (h2 : Sl w B m d t) (h3 : Sl w D k q u) (hg : w.heap[g]? = some (.cells #[.slice A n c, .slice B m d, .slice D k q] T (0, 0))) : Sls w (some ⟨g, 0, none⟩) 3 [l, t, u] := by
 refine ⟨rfl, fun _ => ⟨_, _, rfl, fun j x hj => ?_⟩⟩
 match j, hj with
 | 0, hj =>
  obtain rfl : l = x := by simpa using hj
  exact ⟨A, n, c, by simp only [World.cell?, hg]; simp, h⟩
 | 1, hj =>
  obtain rfl : t = x := by simpa using hj
  exact ⟨B, m, d, by simp only [World.cell?, hg]; simp, h2⟩
 | 2, hj =>
  obtain rfl : u = x := by simpa using hj
  exact ⟨D, k, q, by simp only [World.cell?, hg]; simp, h3⟩
 | j + 3, hj => simp at hj
theorem port_any (v : Int) (w : World) : Calls Tryz.prog 54 #[.int .i64 v] w fun e w' => e = .returned (.bool (portOk v)) ∧ w = w' := by
 unfold portOk
 by_cases h0 : 0 ≤ v
 ·rw [decide_eq_true h0, Bool.true_and]
  by_cases h1 : v ≤ 65535
  ·rw [decide_eq_true h1]
   go_enter Tryz.func54, Tryz.ntmps54
   go_wp2
   go_ret
   exact ⟨rfl, rfl⟩
  ·have h2 : decide (v ≤ 65535) = false := decide_eq_false h1
   rw [h2]
   clear h1
   go_enter Tryz.func54, Tryz.ntmps54
   go_wp2
   go_ret
   exact ⟨rfl, rfl⟩
 ·have h2 : decide (0 ≤ v) = false := decide_eq_false h0
  rw [h2, Bool.false_and]
  clear h0
  go_enter Tryz.func54, Tryz.ntmps54
  go_wp2
  go_ret
  exact ⟨rfl, rfl⟩
theorem fitsd (A : Option Addr) (n c : Nat) (l : List UInt8) (w : World) (hl : Sl w A n c l) : Calls Tryz.prog 46 #[.slice A n c] w fun e w' => e = .returned (.bool (decide (ck l = 0))) ∧ Below w.heap.size w w' := by
 by_cases h : ck l = 0
 ·rw [decide_eq_true h]
  exact fits_yes A n c l w hl h
 ·rw [decide_eq_false h]
  exact fits_no A n c l w hl h
theorem udfits_any (tos id fl pt ttl pr : Int) (a0 a1 a2 a3 a4 a5 a6 a7 : UInt8) (So Sb : Option Addr) (no co nb cb : Nat) (k : Nat) (lb : List UInt8) (w : World) (hb : Sl w Sb nb cb lb) (hk : k ≤ nb) (hm : nb ≤ 100000) : Calls Tryz.prog 53 #[.agg #[.int .i64 tos, .int .i64 id, .int .i64 fl, .int .i64 pt, .int .i64 ttl, .int .i64 pr, .int .u8 (a0.toNat : Int), .int .u8 (a1.toNat : Int), .int .u8 (a2.toNat : Int), .int .u8 (a3.toNat : Int), .int .u8 (a4.toNat : Int), .int .u8 (a5.toNat : Int), .int .u8 (a6.toNat : Int), .int .u8 (a7.toNat : Int), .slice So no co, .slice Sb nb cb], .int .i64 (k : Int)] w fun e w' => e = .returned (.bool (decide (ck (l4Ps a0 a1 a2 a3 a4 a5 a6 a7 pr (k : Int) ++ lb.take k) = 0))) ∧ Below w.heap.size w w' := by
 obtain ⟨ii, hii, hz0, hz1, hz2⟩ := info_parts Tryz.info5
 have n0 : (0 : Int) ≤ k := by omega
 have n1 : (k : Int) ≤ nb := by omega
 have n2 : (nb : Int) ≤ 100000 := by omega
 have bel := Below.refl w.heap.size w
 go_enter Tryz.func53, Tryz.ntmps53
 go_wp2_with (first | ((with_reducible show wpList _ _ _ (⟨some 2, _, _, _, _, _⟩ :: _) _ _); refine wpList_box_n rfl 38 (.tmp 0) rfl #[.int .i64 tos, .int .i64 id, .int .i64 fl, .int .i64 pt, .int .i64 ttl, .int .i64 pr, .int .u8 (a0.toNat : Int), .int .u8 (a1.toNat : Int), .int .u8 (a2.toNat : Int), .int .u8 (a3.toNat : Int), .int .u8 (a4.toNat : Int), .int .u8 (a5.toNat : Int), .int .u8 (a6.toNat : Int), .int .u8 (a7.toNat : Int), .slice So no co, .slice Sb nb cb] rfl ?_; intro g2 w1 ge lt hh bb; have av_hb_p := hb.av_new ge; have op := Nat.le_trans bel.size ge; replace hb := hb.below bb; replace bel := bel.trans (bb.mono bel.size); have hp := hh; clear hh lt ge bb))
 replace bel := bel.drew
 replace hp : w1.drew.heap[g2]? = _ := hp
 replace hb := hb.drew
 refine wp_region_held_drew (S := fun W => W.heap[g2]? = some (.cells #[.int .i64 tos, .int .i64 id, .int .i64 fl, .int .i64 pt, .int .i64 ttl, .int .i64 pr, .int .u8 (a0.toNat : Int), .int .u8 (a1.toNat : Int), .int .u8 (a2.toNat : Int), .int .u8 (a3.toNat : Int), .int .u8 (a4.toNat : Int), .int .u8 (a5.toNat : Int), .int .u8 (a6.toNat : Int), .int .u8 (a7.toNat : Int), .slice So no co, .slice Sb nb cb] 38 (0, 0))) (by kernel_rfl) hp (fun hH => ?_)
 generalize w1.drew = w2 at bel hp hb hH ⊢
 refine wpAnyH_take (i := 0) (v := .agg #[.int .i64 tos, .int .i64 id, .int .i64 fl, .int .i64 pt, .int .i64 ttl, .int .i64 pr, .int .u8 (a0.toNat : Int), .int .u8 (a1.toNat : Int), .int .u8 (a2.toNat : Int), .int .u8 (a3.toNat : Int), .int .u8 (a4.toNat : Int), .int .u8 (a5.toNat : Int), .int .u8 (a6.toNat : Int), .int .u8 (a7.toNat : Int), .slice So no co, .slice Sb nb cb]) rfl (by kernel_rfl) (by kernel_rfl) (by kernel_rfl) (fun _ _ _ h => h) (yieldsIf_load_part (by kernel_rfl) 38 _ rfl g2 0 16 rfl _ 38 (0, 0) (fun W hW => hW) _ rfl _ Tryz.underlying38 rfl (by kernel_rfl)) hH ?_
 simp only [Act.put, List.getElem_toArray, List.getElem_cons_zero, List.setIfInBounds_toArray, List.set_cons_zero, List.set_cons_succ]
 refine wpAnyH_take (i := 1) (v := ?_) rfl (by kernel_rfl) (by kernel_rfl) (by kernel_rfl) (fun _ _ _ h => h) (Or.inl ⟨by rfl, ?_⟩) hH ?_
 rotate_left
 ·((intro W hW; clear hW; go_simp) <;> with_reducible rfl)
 simp only [sq3, sq4]
 refine wpAnyH_take (i := 3) (v := ?_) rfl (by kernel_rfl) (by kernel_rfl) (by kernel_rfl) (fun _ _ _ h => h) (Or.inl ⟨by rfl, ?_⟩) hH ?_
 rotate_left
 ·((intro W hW; clear hW; go_simp) <;> with_reducible rfl)
 simp only [sq3, sq4]
 refine wpAnyH_take (i := 4) (v := ?_) rfl (by kernel_rfl) (by kernel_rfl) (by kernel_rfl) (fun _ _ _ h => h) (Or.inl ⟨by rfl, ?_⟩) hH ?_
 rotate_left
 ·((intro W hW; have hk := cell_lit (hW) 15 _ rfl; clear hW; go_simp) <;> with_reducible rfl)
 simp only [sq3, sq4]
 refine wpAnyH_take (i := 5) (v := ?_) rfl (by kernel_rfl) (by kernel_rfl) (by kernel_rfl) (fun _ _ _ h => h) (Or.inl ⟨by rfl, ?_⟩) hH ?_
 rotate_left
 ·((intro W hW; clear hW; go_simp) <;> with_reducible rfl)
 simp only [sq3, sq4]
 obtain ⟨A11, c11, r11, f11, u11⟩ := piece_front hb (k := k) hk
 have pc := f11 _ hb
 have av_pc_p := av_hb_p.sub u11
 clear f11 u11
 refine wpAnyH_take (i := 6) (v := ?_) rfl (by kernel_rfl) (by kernel_rfl) (by kernel_rfl) (fun _ _ _ h => h) (Or.inl ⟨by rfl, ?_⟩) hH ?_
 rotate_left
 ·((intro W hW; clear hW; go_simp) <;> with_reducible rfl)
 simp only [sq3, sq4]
 refine wpAnyH_ready (rs := [2]) (by kernel_rfl) (by simp) ?_
 refine AllReadyH.cons (o := _) rfl (fun K hK => ?_) AllReadyH.nil
 simp only [sq3]
 go_simp
 with_reducible refine (ippseudo_o _ _ _ _ _ _ _ _ _ _ _ _ _ _ _ _ _ _ _ _ _ _).mono ?_
 rintro e w3 ⟨v, rfl, psw, b3⟩
 dsimp only
 have y_ps_p := Lib.hid (hlt hp)
 have bl_hb_ps := hb.bl_new
 have bl_pc_ps := pc.bl_new
 have pslo := bel.size
 have lz_ps := b3.size
 replace hp := blk_u hp b3
 replace hb := hb.below b3
 replace pc := pc.below b3
 replace bel := bel.trans (b3.mono bel.size)
 clear b3
 obtain ⟨Aps, cps, rfl⟩ := own_val psw
 have ps := (own_sl psw).1
 have fr_ps := (own_sl psw).2
 have av_ps_p := fr_ps.av y_ps_p.out
 refine hK.out _ _ hp (fun hH4 => ?_)
 clear hK K
 refine wpAnyH_ready (rs := [7]) (by kernel_rfl) (by simp) ?_
 refine AllReadyH.cons (o := _) rfl (fun K hK => ?_) AllReadyH.nil
 simp only [sq3]
 rw [if_pos (by rfl)]
 refine wp_append_bb (.tmp 7) (.tmp 11) 36 rfl (w2.heap.size) 5 ii (.int .u8 0) Tryz.underlying36 hii hz0 hz1 hz2 rfl _ (12) (l4Ps a0 a1 a2 a3 a4 a5 a6 a7 pr (k : Int)) rfl psw (A11) (k) (c11) ((lb).take (k)) rfl pc (by have := hk; have := hm; omega) lz_ps ?_
 intro v12 w5 own_ bb
 replace hb := hb.under bl_hb_ps bb
 replace pc := pc.under bl_pc_ps bb
 replace hp := blk_under hp bb y_ps_p.out
 replace bel := bel.trans (bb.mono pslo)
 have lz_s12 := Nat.le_trans lz_ps bb.size
 clear bb
 clear ps psw lz_ps
 replace own_ : w5.ownsRow (w2.heap.size) 5 1 v12 (12 + k) ((l4Ps a0 a1 a2 a3 a4 a5 a6 a7 pr (k : Int) ++ ((lb).take (k)) : List UInt8).map u8v) := own_
 obtain ⟨A12, c12, rfl⟩ := own_val own_
 have s12w := own_
 have s12 := (own_sl own_).1
 have fr_s12 := (own_sl own_).2
 clear own_
 have av_s12_p := fr_s12.av y_ps_p.out
 refine hK.out _ _ hp (fun hH6 => ?_)
 clear hK K
 simp only [sq4]
 refine wpAnyH_ready (rs := [8]) (by kernel_rfl) (by simp) ?_
 refine AllReadyH.cons (o := _) rfl (fun K hK => ?_) AllReadyH.nil
 simp only [sq3]
 go_simp
 with_reducible refine (fitsd _ _ _ _ _ s12).mono ?_
 rintro e w7 ⟨rfl, b7⟩
 dsimp only
 replace hp := blk_u hp b7
 replace hb := hb.below b7
 replace pc := pc.below b7
 replace s12 := s12.below b7
 replace s12w := own_under s12w b7
 replace lz_s12 := Nat.le_trans lz_s12 b7.size
 replace bel := bel.trans (b7.mono bel.size)
 clear b7
 refine hK.out _ _ hp (fun hH8 => ?_)
 clear hK K
 refine wpAnyH_take (i := 9) (v := ?_) rfl (by kernel_rfl) (by kernel_rfl) (by kernel_rfl) (fun _ _ _ h => h) (Or.inl ⟨by rfl, ?_⟩) hH8 ?_
 rotate_left
 ·((intro W hW; clear hW; go_simp) <;> with_reducible rfl)
 simp only [sq3, sq4]
 refine wpAnyH_done (by kernel_rfl) ?_ _
 go_wp2_with fail
 go_ret
 exact ⟨rfl, bel⟩
theorem udwrite_z (tos id fl pt ttl pr : Int) (a0 a1 a2 a3 a4 a5 a6 a7 : UInt8) (So Sb : Option Addr) (no co nb cb : Nat) (df dt : Int) (D : Option Addr) (nd cd : Nat) (ld : List UInt8) (sm : Int) (w : World) (hb : Sl w D nd cd ld) (hm : nd ≤ 1472) (hsm : ck [l4Ps a0 a1 a2 a3 a4 a5 a6 a7 pr (8 + (nd : Int)), [] ++ two df ++ two dt ++ two (8 + (nd : Int)), ld].flatten = sm) (hz : sm = 0) : Calls Tryz.prog 55 #[.agg #[.int .i64 tos, .int .i64 id, .int .i64 fl, .int .i64 pt, .int .i64 ttl, .int .i64 pr, .int .u8 (a0.toNat : Int), .int .u8 (a1.toNat : Int), .int .u8 (a2.toNat : Int), .int .u8 (a3.toNat : Int), .int .u8 (a4.toNat : Int), .int .u8 (a5.toNat : Int), .int .u8 (a6.toNat : Int), .int .u8 (a7.toNat : Int), .slice So no co, .slice Sb nb cb], .agg #[.int .i64 df, .int .i64 dt, .slice D nd cd]] w fun e w' => ∃ v, e = .returned v ∧ w'.ownsRow w.heap.size 5 1 v (8 + nd) (([] ++ two df ++ two dt ++ two (8 + (nd : Int)) ++ two 65535 ++ ld).map u8v) ∧ Below w.heap.size w w' := by
 have HS : Hid (ck [l4Ps a0 a1 a2 a3 a4 a5 a6 a7 pr (8 + (nd : Int)), [] ++ two df ++ two dt ++ two (8 + (nd : Int)), ld].flatten = sm) := Lib.hid hsm
 have n0 : (0 : Int) ≤ nd := by omega
 have n1 : (nd : Int) ≤ 1472 := by omega
 clear hsm
 have t0 : (sm == 0) = true := by rw [hz]; rfl
 clear hz
 obtain ⟨ii, hii, hz0, hz1, hz2⟩ := info_parts Tryz.info5
 have bel := Below.refl w.heap.size w
 go_enter Tryz.func55, Tryz.ntmps55
 go_wp2_with (first | ((with_reducible show wpList _ _ _ (⟨some 2, _, _, _, _, _⟩ :: _) _ _); refine wpList_box_n rfl 38 (.tmp 0) rfl #[.int .i64 tos, .int .i64 id, .int .i64 fl, .int .i64 pt, .int .i64 ttl, .int .i64 pr, .int .u8 (a0.toNat : Int), .int .u8 (a1.toNat : Int), .int .u8 (a2.toNat : Int), .int .u8 (a3.toNat : Int), .int .u8 (a4.toNat : Int), .int .u8 (a5.toNat : Int), .int .u8 (a6.toNat : Int), .int .u8 (a7.toNat : Int), .slice So no co, .slice Sb nb cb] rfl ?_; intro g2 w1 ge lt hh bb; have av_hb_p := hb.av_new ge; have op := Nat.le_trans bel.size ge; replace hb := hb.below bb; replace bel := bel.trans (bb.mono bel.size); have hp := hh; clear hh lt ge bb) | ((with_reducible show wpList _ _ _ (⟨some 3, _, _, _, _, _⟩ :: _) _ _); refine wpList_box_n rfl 54 (.tmp 1) rfl #[.int .i64 df, .int .i64 dt, .slice D nd cd] rfl ?_; intro g3 w2 ge lt hh bb; have d_p_d := ne_new (hlt hp) ge; have av_hb_d := hb.av_new ge; have od := Nat.le_trans bel.size ge; replace hp := blk_u hp bb; replace hb := hb.below bb; replace bel := bel.trans (bb.mono bel.size); have hd := hh; clear hh lt ge bb; have R9 := cell_lit hd 2 _ rfl; have R13 := cell_lit hd 0 _ rfl))
 try clear R9
 try clear R13
 with_reducible refine (w16_oto _ 0 2 _ _ _ _ rfl (Sl.nil _) (by omega)).mono ?_
 rintro e w3 ⟨v, rfl, h1w, b3⟩
 have y_h1_p := Lib.hid (hlt hp)
 have y_h1_d := Lib.hid (hlt hd)
 have bl_hb_h1 := hb.bl_new
 have h1lo := bel.size
 have lz_h1 := b3.size
 replace hp := blk_u hp b3
 replace hd := blk_u hd b3
 replace hb := hb.below b3
 replace bel := bel.trans (b3.mono bel.size)
 clear b3
 obtain ⟨Ah1, ch1, rfl⟩ := own_val h1w
 have h1 := (own_sl h1w).1
 have fr_h1 := (own_sl h1w).2
 have av_h1_p := fr_h1.av y_h1_p.out
 have av_h1_d := fr_h1.av y_h1_d.out
 have R17 := cell_lit hd 1 _ rfl
 go_wp2_with fail
 clear R17
 with_reducible refine (w16_oto _ 2 4 _ _ _ _ rfl h1 (by omega)).mono ?_
 rintro e w4 ⟨v, rfl, h2w, b4⟩
 have y_h2_p := Lib.hid (hlt hp)
 have y_h2_d := Lib.hid (hlt hd)
 have bl_hb_h2 := hb.bl_new
 have bl_h1_h2 := h1.bl_new
 have h2lo := bel.size
 have lz_h2 := b4.size
 replace hp := blk_u hp b4
 replace hd := blk_u hd b4
 replace hb := hb.below b4
 replace h1 := h1.below b4
 replace h1w := own_under h1w b4
 replace lz_h1 := Nat.le_trans lz_h1 b4.size
 replace bel := bel.trans (b4.mono bel.size)
 clear b4
 obtain ⟨Ah2, ch2, rfl⟩ := own_val h2w
 have h2 := (own_sl h2w).1
 have fr_h2 := (own_sl h2w).2
 have av_h2_p := fr_h2.av y_h2_p.out
 have av_h2_d := fr_h2.av y_h2_d.out
 go_wp2_with fail
 with_reducible refine (w16_oto _ 4 6 _ _ _ _ rfl h2 (by omega)).mono ?_
 rintro e w5 ⟨v, rfl, h3w, b5⟩
 have y_h3_p := Lib.hid (hlt hp)
 have y_h3_d := Lib.hid (hlt hd)
 have bl_hb_h3 := hb.bl_new
 have bl_h1_h3 := h1.bl_new
 have bl_h2_h3 := h2.bl_new
 have h3lo := bel.size
 have lz_h3 := b5.size
 replace hp := blk_u hp b5
 replace hd := blk_u hd b5
 replace hb := hb.below b5
 replace h1 := h1.below b5
 replace h1w := own_under h1w b5
 replace h2 := h2.below b5
 replace h2w := own_under h2w b5
 replace lz_h1 := Nat.le_trans lz_h1 b5.size
 replace lz_h2 := Nat.le_trans lz_h2 b5.size
 replace bel := bel.trans (b5.mono bel.size)
 clear b5
 obtain ⟨Ah3, ch3, rfl⟩ := own_val h3w
 have h3 := (own_sl h3w).1
 have fr_h3 := (own_sl h3w).2
 have av_h3_p := fr_h3.av y_h3_p.out
 have av_h3_d := fr_h3.av y_h3_d.out
 go_wp2_with fail
 replace bel := bel.drew
 replace hp : w5.drew.heap[g2]? = _ := hp
 replace hd : w5.drew.heap[g3]? = _ := hd
 replace hb := hb.drew
 replace h1 := h1.drew
 replace h1w : w5.drew.ownsRow _ _ _ _ _ _ := h1w
 replace lz_h1 : _ ≤ w5.drew.heap.size := lz_h1
 replace h2 := h2.drew
 replace h2w : w5.drew.ownsRow _ _ _ _ _ _ := h2w
 replace lz_h2 : _ ≤ w5.drew.heap.size := lz_h2
 replace h3 := h3.drew
 replace h3w : w5.drew.ownsRow _ _ _ _ _ _ := h3w
 replace lz_h3 : _ ≤ w5.drew.heap.size := lz_h3
 refine wp_region_held_drew (S := fun W => W.heap[g2]? = some (.cells #[.int .i64 tos, .int .i64 id, .int .i64 fl, .int .i64 pt, .int .i64 ttl, .int .i64 pr, .int .u8 (a0.toNat : Int), .int .u8 (a1.toNat : Int), .int .u8 (a2.toNat : Int), .int .u8 (a3.toNat : Int), .int .u8 (a4.toNat : Int), .int .u8 (a5.toNat : Int), .int .u8 (a6.toNat : Int), .int .u8 (a7.toNat : Int), .slice So no co, .slice Sb nb cb] 38 (0, 0)) ∧ W.heap[g3]? = some (.cells #[.int .i64 df, .int .i64 dt, .slice D nd cd] 54 (0, 0))) (by kernel_rfl) ⟨hp, hd⟩ (fun hH => ?_)
 generalize w5.drew = w6 at bel hp hd hb h1 h2 h3 h1w h2w h3w lz_h1 lz_h2 lz_h3 hH ⊢
 refine wpAnyH_take (i := 0) (v := .agg #[.int .i64 tos, .int .i64 id, .int .i64 fl, .int .i64 pt, .int .i64 ttl, .int .i64 pr, .int .u8 (a0.toNat : Int), .int .u8 (a1.toNat : Int), .int .u8 (a2.toNat : Int), .int .u8 (a3.toNat : Int), .int .u8 (a4.toNat : Int), .int .u8 (a5.toNat : Int), .int .u8 (a6.toNat : Int), .int .u8 (a7.toNat : Int), .slice So no co, .slice Sb nb cb]) rfl (by kernel_rfl) (by kernel_rfl) (by kernel_rfl) (fun _ _ _ h => h) (yieldsIf_load_part (by kernel_rfl) 38 _ rfl g2 0 16 rfl _ 38 (0, 0) (fun W hW => hW.1) _ rfl _ Tryz.underlying38 rfl (by kernel_rfl)) hH ?_
 simp only [Act.put, List.getElem_toArray, List.getElem_cons_zero, List.setIfInBounds_toArray, List.set_cons_zero, List.set_cons_succ]
 refine wpAnyH_take (i := 1) (v := ?_) rfl (by kernel_rfl) (by kernel_rfl) (by kernel_rfl) (fun _ _ _ h => h) (Or.inl ⟨by rfl, ?_⟩) hH ?_
 rotate_left
 ·((intro W hW; clear hW; go_simp) <;> with_reducible rfl)
 simp only [sq3, sq4]
 refine wpAnyH_take (i := 3) (v := ?_) rfl (by kernel_rfl) (by kernel_rfl) (by kernel_rfl) (fun _ _ _ h => h) (Or.inl ⟨by rfl, ?_⟩) hH ?_
 rotate_left
 ·((intro W hW; clear hW; go_simp) <;> with_reducible rfl)
 simp only [sq3, sq4]
 refine wpAnyH_take (i := 4) (v := ?_) rfl (by kernel_rfl) (by kernel_rfl) (by kernel_rfl) (fun _ _ _ h => h) (Or.inl ⟨by rfl, ?_⟩) hH ?_
 rotate_left
 ·((intro W hW; clear hW; go_simp) <;> with_reducible rfl)
 simp only [sq3, sq4]
 refine wpAnyH_take (i := 5) (v := ?_) rfl (by kernel_rfl) (by kernel_rfl) (by kernel_rfl) (fun _ _ _ h => h) (Or.inl ⟨by rfl, ?_⟩) hH ?_
 rotate_left
 ·((intro W hW; have hk := cell_lit (hW.2) 2 _ rfl; clear hW; go_simp) <;> with_reducible rfl)
 simp only [sq3, sq4]
 refine wpAnyH_ready (rs := [2]) (by kernel_rfl) (by simp) ?_
 refine AllReadyH.cons (o := _) rfl (fun K hK => ?_) AllReadyH.nil
 simp only [sq3]
 go_simp
 with_reducible refine (ippseudo_any _ _ _ _ _ _ _ _ _ _ _ _ _ _ _ _ _ _ _ _ _ _).mono ?_
 rintro e w7 ⟨Ap, cp, rfl, ps, b7⟩
 dsimp only
 replace hp := blk_u hp b7
 replace hd := blk_u hd b7
 replace hb := hb.below b7
 replace h1 := h1.below b7
 replace h1w := own_under h1w b7
 replace h2 := h2.below b7
 replace h2w := own_under h2w b7
 replace h3 := h3.below b7
 replace h3w := own_under h3w b7
 replace lz_h1 := Nat.le_trans lz_h1 b7.size
 replace lz_h2 := Nat.le_trans lz_h2 b7.size
 replace lz_h3 := Nat.le_trans lz_h3 b7.size
 replace bel := bel.trans (b7.mono bel.size)
 clear b7
 replace ps : Sl w7 (Ap) (12) (cp) (l4Ps a0 a1 a2 a3 a4 a5 a6 a7 pr (8 + (nd : Int))) := ps
 clear h1 h1w lz_h1
 clear h2 h2w lz_h2
 refine hK.out _ _ ⟨hp, hd⟩ (fun hH8 => ?_)
 clear hK K
 refine wpAnyH_ready (rs := [6]) (by kernel_rfl) (by simp) ?_
 refine AllReadyH.cons (o := _) rfl (fun K hK => ?_) AllReadyH.nil
 simp only [sq3]
 rw [if_pos (by rfl)]
 refine wp_lit_n 173 36 3 _ rfl #[.slice Ap 12 cp, .slice Ah3 6 ch3, .slice D nd cd] (.slice none 0 0) Tryz.underlying173 (by kernel_rfl) 1 (by kernel_rfl) (by decide) (by kernel_rfl) ?_
 intro g28 w9 ge lt hh bb
 have d_p_b28 := ne_new (hlt hp) ge
 have d_d_b28 := ne_new (hlt hd) ge
 have av_hb_b28 := hb.av_new ge
 have av_h3_b28 := h3.av_new ge
 have of_h3_b28 := own_new h3w ge
 have av_ps_b28 := ps.av_new ge
 have ob28 := Nat.le_trans bel.size ge
 replace hp := blk_u hp bb
 replace hd := blk_u hd bb
 replace hb := hb.below bb
 replace h3 := h3.below bb
 replace h3w := own_under h3w bb
 replace ps := ps.below bb
 replace lz_h3 := Nat.le_trans lz_h3 bb.size
 replace bel := bel.trans (bb.mono bel.size)
 have hb28 := hh
 clear hh lt ge bb
 have hs3 : Sls w9 (some ⟨g28, 0, none⟩) 3 [l4Ps a0 a1 a2 a3 a4 a5 a6 a7 pr (8 + (nd : Int)), [] ++ two df ++ two dt ++ two (8 + (nd : Int)), ld] := Sls.three ps h3 hb hb28
 refine hK.out _ _ ⟨hp, hd⟩ (fun hH10 => ?_)
 clear hK K
 simp only [sq4]
 refine wpAnyH_ready (rs := [7]) (by kernel_rfl) (by simp) ?_
 refine AllReadyH.cons (o := _) rfl (fun K hK => ?_) AllReadyH.nil
 simp only [sq3]
 go_simp
 with_reducible refine (many_any _ 3 3 _ _ (by unfold maxLen; omega) hs3).mono ?_
 rintro e _ ⟨rfl, rfl⟩
 dsimp only
 rw [HS.out]
 clear hs3
 refine hK.out _ _ ⟨hp, hd⟩ (fun hH11 => ?_)
 clear hK K
 refine wpAnyH_take (i := 8) (v := ?_) rfl (by kernel_rfl) (by kernel_rfl) (by kernel_rfl) (fun _ _ _ h => h) (Or.inl ⟨by rfl, ?_⟩) hH11 ?_
 rotate_left
 ·((intro W hW; clear hW; go_simp) <;> with_reducible rfl)
 simp only [sq3, sq4]
 refine wpAnyH_done (by kernel_rfl) ?_ _
 go_wp2_with fail
 replace bel := bel.drew
 replace hp : w9.drew.heap[g2]? = _ := hp
 replace hd : w9.drew.heap[g3]? = _ := hd
 replace hb28 : w9.drew.heap[g28]? = _ := hb28
 replace hb := hb.drew
 replace h3 := h3.drew
 replace h3w : w9.drew.ownsRow _ _ _ _ _ _ := h3w
 replace lz_h3 : _ ≤ w9.drew.heap.size := lz_h3
 replace ps := ps.drew
 refine wp_region_held_drew (S := fun W => W.heap[g3]? = some (.cells #[.int .i64 df, .int .i64 dt, .slice D nd cd] 54 (0, 0))) (by kernel_rfl) hd (fun hH => ?_)
 generalize w9.drew = w12 at bel hp hd hb28 hb h3 ps h3w lz_h3 hH ⊢
 refine wpAnyH_take (i := 0) (v := ?_) rfl (by kernel_rfl) (by kernel_rfl) (by kernel_rfl) (fun _ _ _ h => h) (Or.inl ⟨by rfl, ?_⟩) hH ?_
 rotate_left
 ·((intro W hW; clear hW; go_simp) <;> with_reducible rfl)
 simp only [Act.put, List.getElem_toArray, List.getElem_cons_zero, List.setIfInBounds_toArray, List.set_cons_zero, List.set_cons_succ]
 refine wpAnyH_take (i := 1) (v := ?_) rfl (by kernel_rfl) (by kernel_rfl) (by kernel_rfl) (fun _ _ _ h => h) (Or.inl ⟨by rfl, ?_⟩) hH ?_
 rotate_left
 ·((intro W hW; clear hW; go_simp) <;> with_reducible rfl)
 simp only [sq3, sq4]
 refine wpAnyH_take (i := 3) (v := ?_) rfl (by kernel_rfl) (by kernel_rfl) (by kernel_rfl) (fun _ _ _ h => h) (Or.inl ⟨by rfl, ?_⟩) hH ?_
 rotate_left
 ·((intro W hW; clear hW; go_simp) <;> with_reducible rfl)
 simp only [sq3, sq4]
 refine wpAnyH_take (i := 4) (v := ?_) rfl (by kernel_rfl) (by kernel_rfl) (by kernel_rfl) (fun _ _ _ h => h) (Or.inl ⟨by rfl, ?_⟩) hH ?_
 rotate_left
 ·((intro W hW; have hk := cell_lit (hW) 2 _ rfl; clear hW; go_simp) <;> with_reducible rfl)
 simp only [sq3, sq4]
 refine wpAnyH_ready (rs := [2]) (by kernel_rfl) (by simp) ?_
 refine AllReadyH.cons (o := _) rfl (fun K hK => ?_) AllReadyH.nil
 simp only [sq3]
 go_simp
 with_reducible refine (w16_oto _ 6 8 _ _ _ _ rfl h3 (by omega)).mono ?_
 rintro e w13 ⟨v, rfl, h4w, b13⟩
 dsimp only
 have y_h4_p := Lib.hid (hlt hp)
 have y_h4_d := Lib.hid (hlt hd)
 have y_h4_b28 := Lib.hid (hlt hb28)
 have bl_hb_h4 := hb.bl_new
 have bl_h3_h4 := h3.bl_new
 have bl_ps_h4 := ps.bl_new
 have h4lo := bel.size
 have lz_h4 := b13.size
 replace hp := blk_u hp b13
 replace hd := blk_u hd b13
 replace hb28 := blk_u hb28 b13
 replace hb := hb.below b13
 replace h3 := h3.below b13
 replace h3w := own_under h3w b13
 replace ps := ps.below b13
 replace lz_h3 := Nat.le_trans lz_h3 b13.size
 replace bel := bel.trans (b13.mono bel.size)
 clear b13
 obtain ⟨Ah4, ch4, rfl⟩ := own_val h4w
 have h4 := (own_sl h4w).1
 have fr_h4 := (own_sl h4w).2
 have av_h4_p := fr_h4.av y_h4_p.out
 have av_h4_d := fr_h4.av y_h4_d.out
 have av_h4_b28 := fr_h4.av y_h4_b28.out
 refine hK.out _ _ hd (fun hH14 => ?_)
 clear hK K
 refine wpAnyH_ready (rs := [5]) (by kernel_rfl) (by simp) ?_
 refine AllReadyH.cons (o := _) rfl (fun K hK => ?_) AllReadyH.nil
 simp only [sq3]
 rw [if_pos (by rfl)]
 refine wp_append_bb (.tmp 34) (.tmp 36) 36 rfl (w12.heap.size) 5 ii (.int .u8 0) Tryz.underlying36 hii hz0 hz1 hz2 rfl _ (8) ([] ++ two df ++ two dt ++ two (8 + (nd : Int)) ++ two 65535) rfl h4w (D) (nd) (cd) (ld) rfl hb (by omega) lz_h4 ?_
 intro v37 w15 own_ bb
 replace hb := hb.under bl_hb_h4 bb
 replace h3 := h3.under bl_h3_h4 bb
 clear h3w lz_h3
 replace ps := ps.under bl_ps_h4 bb
 replace hp := blk_under hp bb y_h4_p.out
 replace hd := blk_under hd bb y_h4_d.out
 replace hb28 := blk_under hb28 bb y_h4_b28.out
 replace bel := bel.trans (bb.mono h4lo)
 have lz_out := Nat.le_trans lz_h4 bb.size
 clear bb
 clear h4 h4w lz_h4
 replace own_ : w15.ownsRow (w12.heap.size) 5 1 v37 (8 + nd) (([] ++ two df ++ two dt ++ two (8 + (nd : Int)) ++ two 65535 ++ ld : List UInt8).map u8v) := own_
 obtain ⟨A37, c37, rfl⟩ := own_val own_
 have outw := own_
 have out := (own_sl own_).1
 have fr_out := (own_sl own_).2
 clear own_
 have av_out_p := fr_out.av y_h4_p.out
 have av_out_d := fr_out.av y_h4_d.out
 have av_out_b28 := fr_out.av y_h4_b28.out
 refine hK.out _ _ hd (fun hH16 => ?_)
 clear hK K
 simp only [sq4]
 refine wpAnyH_take (i := 6) (v := ?_) rfl (by kernel_rfl) (by kernel_rfl) (by kernel_rfl) (fun _ _ _ h => h) (Or.inl ⟨by rfl, ?_⟩) hH16 ?_
 rotate_left
 ·((intro W hW; clear hW; go_simp) <;> with_reducible rfl)
 simp only [sq3, sq4]
 refine wpAnyH_done (by kernel_rfl) ?_ _
 go_wp2_with fail
 go_ret
 exact ⟨_, rfl, ownsRow_mono outw (Nat.le_trans h4lo (Nat.le_refl _)), bel⟩
theorem udwrite_n (tos id fl pt ttl pr : Int) (a0 a1 a2 a3 a4 a5 a6 a7 : UInt8) (So Sb : Option Addr) (no co nb cb : Nat) (df dt : Int) (D : Option Addr) (nd cd : Nat) (ld : List UInt8) (sm : Int) (w : World) (hb : Sl w D nd cd ld) (hm : nd ≤ 1472) (hsm : ck [l4Ps a0 a1 a2 a3 a4 a5 a6 a7 pr (8 + (nd : Int)), [] ++ two df ++ two dt ++ two (8 + (nd : Int)), ld].flatten = sm) (hz : sm ≠ 0) : Calls Tryz.prog 55 #[.agg #[.int .i64 tos, .int .i64 id, .int .i64 fl, .int .i64 pt, .int .i64 ttl, .int .i64 pr, .int .u8 (a0.toNat : Int), .int .u8 (a1.toNat : Int), .int .u8 (a2.toNat : Int), .int .u8 (a3.toNat : Int), .int .u8 (a4.toNat : Int), .int .u8 (a5.toNat : Int), .int .u8 (a6.toNat : Int), .int .u8 (a7.toNat : Int), .slice So no co, .slice Sb nb cb], .agg #[.int .i64 df, .int .i64 dt, .slice D nd cd]] w fun e w' => ∃ v, e = .returned v ∧ w'.ownsRow w.heap.size 5 1 v (8 + nd) (([] ++ two df ++ two dt ++ two (8 + (nd : Int)) ++ two sm ++ ld).map u8v) ∧ Below w.heap.size w w' := by
 have HS : Hid (ck [l4Ps a0 a1 a2 a3 a4 a5 a6 a7 pr (8 + (nd : Int)), [] ++ two df ++ two dt ++ two (8 + (nd : Int)), ld].flatten = sm) := Lib.hid hsm
 have n0 : (0 : Int) ≤ nd := by omega
 have n1 : (nd : Int) ≤ 1472 := by omega
 clear hsm
 have t0 : (sm == 0) = false := by simpa using hz
 clear hz
 obtain ⟨ii, hii, hz0, hz1, hz2⟩ := info_parts Tryz.info5
 have bel := Below.refl w.heap.size w
 go_enter Tryz.func55, Tryz.ntmps55
 go_wp2_with (first | ((with_reducible show wpList _ _ _ (⟨some 2, _, _, _, _, _⟩ :: _) _ _); refine wpList_box_n rfl 38 (.tmp 0) rfl #[.int .i64 tos, .int .i64 id, .int .i64 fl, .int .i64 pt, .int .i64 ttl, .int .i64 pr, .int .u8 (a0.toNat : Int), .int .u8 (a1.toNat : Int), .int .u8 (a2.toNat : Int), .int .u8 (a3.toNat : Int), .int .u8 (a4.toNat : Int), .int .u8 (a5.toNat : Int), .int .u8 (a6.toNat : Int), .int .u8 (a7.toNat : Int), .slice So no co, .slice Sb nb cb] rfl ?_; intro g2 w1 ge lt hh bb; have av_hb_p := hb.av_new ge; have op := Nat.le_trans bel.size ge; replace hb := hb.below bb; replace bel := bel.trans (bb.mono bel.size); have hp := hh; clear hh lt ge bb) | ((with_reducible show wpList _ _ _ (⟨some 3, _, _, _, _, _⟩ :: _) _ _); refine wpList_box_n rfl 54 (.tmp 1) rfl #[.int .i64 df, .int .i64 dt, .slice D nd cd] rfl ?_; intro g3 w2 ge lt hh bb; have d_p_d := ne_new (hlt hp) ge; have av_hb_d := hb.av_new ge; have od := Nat.le_trans bel.size ge; replace hp := blk_u hp bb; replace hb := hb.below bb; replace bel := bel.trans (bb.mono bel.size); have hd := hh; clear hh lt ge bb; have R9 := cell_lit hd 2 _ rfl; have R13 := cell_lit hd 0 _ rfl))
 try clear R9
 try clear R13
 with_reducible refine (w16_oto _ 0 2 _ _ _ _ rfl (Sl.nil _) (by omega)).mono ?_
 rintro e w3 ⟨v, rfl, h1w, b3⟩
 have y_h1_p := Lib.hid (hlt hp)
 have y_h1_d := Lib.hid (hlt hd)
 have bl_hb_h1 := hb.bl_new
 have h1lo := bel.size
 have lz_h1 := b3.size
 replace hp := blk_u hp b3
 replace hd := blk_u hd b3
 replace hb := hb.below b3
 replace bel := bel.trans (b3.mono bel.size)
 clear b3
 obtain ⟨Ah1, ch1, rfl⟩ := own_val h1w
 have h1 := (own_sl h1w).1
 have fr_h1 := (own_sl h1w).2
 have av_h1_p := fr_h1.av y_h1_p.out
 have av_h1_d := fr_h1.av y_h1_d.out
 have R17 := cell_lit hd 1 _ rfl
 go_wp2_with fail
 clear R17
 with_reducible refine (w16_oto _ 2 4 _ _ _ _ rfl h1 (by omega)).mono ?_
 rintro e w4 ⟨v, rfl, h2w, b4⟩
 have y_h2_p := Lib.hid (hlt hp)
 have y_h2_d := Lib.hid (hlt hd)
 have bl_hb_h2 := hb.bl_new
 have bl_h1_h2 := h1.bl_new
 have h2lo := bel.size
 have lz_h2 := b4.size
 replace hp := blk_u hp b4
 replace hd := blk_u hd b4
 replace hb := hb.below b4
 replace h1 := h1.below b4
 replace h1w := own_under h1w b4
 replace lz_h1 := Nat.le_trans lz_h1 b4.size
 replace bel := bel.trans (b4.mono bel.size)
 clear b4
 obtain ⟨Ah2, ch2, rfl⟩ := own_val h2w
 have h2 := (own_sl h2w).1
 have fr_h2 := (own_sl h2w).2
 have av_h2_p := fr_h2.av y_h2_p.out
 have av_h2_d := fr_h2.av y_h2_d.out
 go_wp2_with fail
 with_reducible refine (w16_oto _ 4 6 _ _ _ _ rfl h2 (by omega)).mono ?_
 rintro e w5 ⟨v, rfl, h3w, b5⟩
 have y_h3_p := Lib.hid (hlt hp)
 have y_h3_d := Lib.hid (hlt hd)
 have bl_hb_h3 := hb.bl_new
 have bl_h1_h3 := h1.bl_new
 have bl_h2_h3 := h2.bl_new
 have h3lo := bel.size
 have lz_h3 := b5.size
 replace hp := blk_u hp b5
 replace hd := blk_u hd b5
 replace hb := hb.below b5
 replace h1 := h1.below b5
 replace h1w := own_under h1w b5
 replace h2 := h2.below b5
 replace h2w := own_under h2w b5
 replace lz_h1 := Nat.le_trans lz_h1 b5.size
 replace lz_h2 := Nat.le_trans lz_h2 b5.size
 replace bel := bel.trans (b5.mono bel.size)
 clear b5
 obtain ⟨Ah3, ch3, rfl⟩ := own_val h3w
 have h3 := (own_sl h3w).1
 have fr_h3 := (own_sl h3w).2
 have av_h3_p := fr_h3.av y_h3_p.out
 have av_h3_d := fr_h3.av y_h3_d.out
 go_wp2_with fail
 replace bel := bel.drew
 replace hp : w5.drew.heap[g2]? = _ := hp
 replace hd : w5.drew.heap[g3]? = _ := hd
 replace hb := hb.drew
 replace h1 := h1.drew
 replace h1w : w5.drew.ownsRow _ _ _ _ _ _ := h1w
 replace lz_h1 : _ ≤ w5.drew.heap.size := lz_h1
 replace h2 := h2.drew
 replace h2w : w5.drew.ownsRow _ _ _ _ _ _ := h2w
 replace lz_h2 : _ ≤ w5.drew.heap.size := lz_h2
 replace h3 := h3.drew
 replace h3w : w5.drew.ownsRow _ _ _ _ _ _ := h3w
 replace lz_h3 : _ ≤ w5.drew.heap.size := lz_h3
 refine wp_region_held_drew (S := fun W => W.heap[g2]? = some (.cells #[.int .i64 tos, .int .i64 id, .int .i64 fl, .int .i64 pt, .int .i64 ttl, .int .i64 pr, .int .u8 (a0.toNat : Int), .int .u8 (a1.toNat : Int), .int .u8 (a2.toNat : Int), .int .u8 (a3.toNat : Int), .int .u8 (a4.toNat : Int), .int .u8 (a5.toNat : Int), .int .u8 (a6.toNat : Int), .int .u8 (a7.toNat : Int), .slice So no co, .slice Sb nb cb] 38 (0, 0)) ∧ W.heap[g3]? = some (.cells #[.int .i64 df, .int .i64 dt, .slice D nd cd] 54 (0, 0))) (by kernel_rfl) ⟨hp, hd⟩ (fun hH => ?_)
 generalize w5.drew = w6 at bel hp hd hb h1 h2 h3 h1w h2w h3w lz_h1 lz_h2 lz_h3 hH ⊢
 refine wpAnyH_take (i := 0) (v := .agg #[.int .i64 tos, .int .i64 id, .int .i64 fl, .int .i64 pt, .int .i64 ttl, .int .i64 pr, .int .u8 (a0.toNat : Int), .int .u8 (a1.toNat : Int), .int .u8 (a2.toNat : Int), .int .u8 (a3.toNat : Int), .int .u8 (a4.toNat : Int), .int .u8 (a5.toNat : Int), .int .u8 (a6.toNat : Int), .int .u8 (a7.toNat : Int), .slice So no co, .slice Sb nb cb]) rfl (by kernel_rfl) (by kernel_rfl) (by kernel_rfl) (fun _ _ _ h => h) (yieldsIf_load_part (by kernel_rfl) 38 _ rfl g2 0 16 rfl _ 38 (0, 0) (fun W hW => hW.1) _ rfl _ Tryz.underlying38 rfl (by kernel_rfl)) hH ?_
 simp only [Act.put, List.getElem_toArray, List.getElem_cons_zero, List.setIfInBounds_toArray, List.set_cons_zero, List.set_cons_succ]
 refine wpAnyH_take (i := 1) (v := ?_) rfl (by kernel_rfl) (by kernel_rfl) (by kernel_rfl) (fun _ _ _ h => h) (Or.inl ⟨by rfl, ?_⟩) hH ?_
 rotate_left
 ·((intro W hW; clear hW; go_simp) <;> with_reducible rfl)
 simp only [sq3, sq4]
 refine wpAnyH_take (i := 3) (v := ?_) rfl (by kernel_rfl) (by kernel_rfl) (by kernel_rfl) (fun _ _ _ h => h) (Or.inl ⟨by rfl, ?_⟩) hH ?_
 rotate_left
 ·((intro W hW; clear hW; go_simp) <;> with_reducible rfl)
 simp only [sq3, sq4]
 refine wpAnyH_take (i := 4) (v := ?_) rfl (by kernel_rfl) (by kernel_rfl) (by kernel_rfl) (fun _ _ _ h => h) (Or.inl ⟨by rfl, ?_⟩) hH ?_
 rotate_left
 ·((intro W hW; clear hW; go_simp) <;> with_reducible rfl)
 simp only [sq3, sq4]
 refine wpAnyH_take (i := 5) (v := ?_) rfl (by kernel_rfl) (by kernel_rfl) (by kernel_rfl) (fun _ _ _ h => h) (Or.inl ⟨by rfl, ?_⟩) hH ?_
 rotate_left
 ·((intro W hW; have hk := cell_lit (hW.2) 2 _ rfl; clear hW; go_simp) <;> with_reducible rfl)
 simp only [sq3, sq4]
 refine wpAnyH_ready (rs := [2]) (by kernel_rfl) (by simp) ?_
 refine AllReadyH.cons (o := _) rfl (fun K hK => ?_) AllReadyH.nil
 simp only [sq3]
 go_simp
 with_reducible refine (ippseudo_any _ _ _ _ _ _ _ _ _ _ _ _ _ _ _ _ _ _ _ _ _ _).mono ?_
 rintro e w7 ⟨Ap, cp, rfl, ps, b7⟩
 dsimp only
 replace hp := blk_u hp b7
 replace hd := blk_u hd b7
 replace hb := hb.below b7
 replace h1 := h1.below b7
 replace h1w := own_under h1w b7
 replace h2 := h2.below b7
 replace h2w := own_under h2w b7
 replace h3 := h3.below b7
 replace h3w := own_under h3w b7
 replace lz_h1 := Nat.le_trans lz_h1 b7.size
 replace lz_h2 := Nat.le_trans lz_h2 b7.size
 replace lz_h3 := Nat.le_trans lz_h3 b7.size
 replace bel := bel.trans (b7.mono bel.size)
 clear b7
 replace ps : Sl w7 (Ap) (12) (cp) (l4Ps a0 a1 a2 a3 a4 a5 a6 a7 pr (8 + (nd : Int))) := ps
 clear h1 h1w lz_h1
 clear h2 h2w lz_h2
 refine hK.out _ _ ⟨hp, hd⟩ (fun hH8 => ?_)
 clear hK K
 refine wpAnyH_ready (rs := [6]) (by kernel_rfl) (by simp) ?_
 refine AllReadyH.cons (o := _) rfl (fun K hK => ?_) AllReadyH.nil
 simp only [sq3]
 rw [if_pos (by rfl)]
 refine wp_lit_n 173 36 3 _ rfl #[.slice Ap 12 cp, .slice Ah3 6 ch3, .slice D nd cd] (.slice none 0 0) Tryz.underlying173 (by kernel_rfl) 1 (by kernel_rfl) (by decide) (by kernel_rfl) ?_
 intro g28 w9 ge lt hh bb
 have d_p_b28 := ne_new (hlt hp) ge
 have d_d_b28 := ne_new (hlt hd) ge
 have av_hb_b28 := hb.av_new ge
 have av_h3_b28 := h3.av_new ge
 have of_h3_b28 := own_new h3w ge
 have av_ps_b28 := ps.av_new ge
 have ob28 := Nat.le_trans bel.size ge
 replace hp := blk_u hp bb
 replace hd := blk_u hd bb
 replace hb := hb.below bb
 replace h3 := h3.below bb
 replace h3w := own_under h3w bb
 replace ps := ps.below bb
 replace lz_h3 := Nat.le_trans lz_h3 bb.size
 replace bel := bel.trans (bb.mono bel.size)
 have hb28 := hh
 clear hh lt ge bb
 have hs3 : Sls w9 (some ⟨g28, 0, none⟩) 3 [l4Ps a0 a1 a2 a3 a4 a5 a6 a7 pr (8 + (nd : Int)), [] ++ two df ++ two dt ++ two (8 + (nd : Int)), ld] := Sls.three ps h3 hb hb28
 refine hK.out _ _ ⟨hp, hd⟩ (fun hH10 => ?_)
 clear hK K
 simp only [sq4]
 refine wpAnyH_ready (rs := [7]) (by kernel_rfl) (by simp) ?_
 refine AllReadyH.cons (o := _) rfl (fun K hK => ?_) AllReadyH.nil
 simp only [sq3]
 go_simp
 with_reducible refine (many_any _ 3 3 _ _ (by unfold maxLen; omega) hs3).mono ?_
 rintro e _ ⟨rfl, rfl⟩
 dsimp only
 rw [HS.out]
 clear hs3
 refine hK.out _ _ ⟨hp, hd⟩ (fun hH11 => ?_)
 clear hK K
 refine wpAnyH_take (i := 8) (v := ?_) rfl (by kernel_rfl) (by kernel_rfl) (by kernel_rfl) (fun _ _ _ h => h) (Or.inl ⟨by rfl, ?_⟩) hH11 ?_
 rotate_left
 ·((intro W hW; clear hW; go_simp) <;> with_reducible rfl)
 simp only [sq3, sq4]
 refine wpAnyH_done (by kernel_rfl) ?_ _
 go_wp2_with fail
 replace bel := bel.drew
 replace hp : w9.drew.heap[g2]? = _ := hp
 replace hd : w9.drew.heap[g3]? = _ := hd
 replace hb28 : w9.drew.heap[g28]? = _ := hb28
 replace hb := hb.drew
 replace h3 := h3.drew
 replace h3w : w9.drew.ownsRow _ _ _ _ _ _ := h3w
 replace lz_h3 : _ ≤ w9.drew.heap.size := lz_h3
 replace ps := ps.drew
 refine wp_region_held_drew (S := fun W => W.heap[g3]? = some (.cells #[.int .i64 df, .int .i64 dt, .slice D nd cd] 54 (0, 0))) (by kernel_rfl) hd (fun hH => ?_)
 generalize w9.drew = w12 at bel hp hd hb28 hb h3 ps h3w lz_h3 hH ⊢
 refine wpAnyH_take (i := 0) (v := ?_) rfl (by kernel_rfl) (by kernel_rfl) (by kernel_rfl) (fun _ _ _ h => h) (Or.inl ⟨by rfl, ?_⟩) hH ?_
 rotate_left
 ·((intro W hW; clear hW; go_simp) <;> with_reducible rfl)
 simp only [Act.put, List.getElem_toArray, List.getElem_cons_zero, List.setIfInBounds_toArray, List.set_cons_zero, List.set_cons_succ]
 refine wpAnyH_take (i := 1) (v := ?_) rfl (by kernel_rfl) (by kernel_rfl) (by kernel_rfl) (fun _ _ _ h => h) (Or.inl ⟨by rfl, ?_⟩) hH ?_
 rotate_left
 ·((intro W hW; clear hW; go_simp) <;> with_reducible rfl)
 simp only [sq3, sq4]
 refine wpAnyH_take (i := 3) (v := ?_) rfl (by kernel_rfl) (by kernel_rfl) (by kernel_rfl) (fun _ _ _ h => h) (Or.inl ⟨by rfl, ?_⟩) hH ?_
 rotate_left
 ·((intro W hW; clear hW; go_simp) <;> with_reducible rfl)
 simp only [sq3, sq4]
 refine wpAnyH_take (i := 4) (v := ?_) rfl (by kernel_rfl) (by kernel_rfl) (by kernel_rfl) (fun _ _ _ h => h) (Or.inl ⟨by rfl, ?_⟩) hH ?_
 rotate_left
 ·((intro W hW; have hk := cell_lit (hW) 2 _ rfl; clear hW; go_simp) <;> with_reducible rfl)
 simp only [sq3, sq4]
 refine wpAnyH_ready (rs := [2]) (by kernel_rfl) (by simp) ?_
 refine AllReadyH.cons (o := _) rfl (fun K hK => ?_) AllReadyH.nil
 simp only [sq3]
 go_simp
 with_reducible refine (w16_oto _ 6 8 _ _ _ _ rfl h3 (by omega)).mono ?_
 rintro e w13 ⟨v, rfl, h4w, b13⟩
 dsimp only
 have y_h4_p := Lib.hid (hlt hp)
 have y_h4_d := Lib.hid (hlt hd)
 have y_h4_b28 := Lib.hid (hlt hb28)
 have bl_hb_h4 := hb.bl_new
 have bl_h3_h4 := h3.bl_new
 have bl_ps_h4 := ps.bl_new
 have h4lo := bel.size
 have lz_h4 := b13.size
 replace hp := blk_u hp b13
 replace hd := blk_u hd b13
 replace hb28 := blk_u hb28 b13
 replace hb := hb.below b13
 replace h3 := h3.below b13
 replace h3w := own_under h3w b13
 replace ps := ps.below b13
 replace lz_h3 := Nat.le_trans lz_h3 b13.size
 replace bel := bel.trans (b13.mono bel.size)
 clear b13
 obtain ⟨Ah4, ch4, rfl⟩ := own_val h4w
 have h4 := (own_sl h4w).1
 have fr_h4 := (own_sl h4w).2
 have av_h4_p := fr_h4.av y_h4_p.out
 have av_h4_d := fr_h4.av y_h4_d.out
 have av_h4_b28 := fr_h4.av y_h4_b28.out
 refine hK.out _ _ hd (fun hH14 => ?_)
 clear hK K
 refine wpAnyH_ready (rs := [5]) (by kernel_rfl) (by simp) ?_
 refine AllReadyH.cons (o := _) rfl (fun K hK => ?_) AllReadyH.nil
 simp only [sq3]
 rw [if_pos (by rfl)]
 refine wp_append_bb (.tmp 34) (.tmp 36) 36 rfl (w12.heap.size) 5 ii (.int .u8 0) Tryz.underlying36 hii hz0 hz1 hz2 rfl _ (8) ([] ++ two df ++ two dt ++ two (8 + (nd : Int)) ++ two sm) rfl h4w (D) (nd) (cd) (ld) rfl hb (by omega) lz_h4 ?_
 intro v37 w15 own_ bb
 replace hb := hb.under bl_hb_h4 bb
 replace h3 := h3.under bl_h3_h4 bb
 clear h3w lz_h3
 replace ps := ps.under bl_ps_h4 bb
 replace hp := blk_under hp bb y_h4_p.out
 replace hd := blk_under hd bb y_h4_d.out
 replace hb28 := blk_under hb28 bb y_h4_b28.out
 replace bel := bel.trans (bb.mono h4lo)
 have lz_out := Nat.le_trans lz_h4 bb.size
 clear bb
 clear h4 h4w lz_h4
 replace own_ : w15.ownsRow (w12.heap.size) 5 1 v37 (8 + nd) (([] ++ two df ++ two dt ++ two (8 + (nd : Int)) ++ two sm ++ ld : List UInt8).map u8v) := own_
 obtain ⟨A37, c37, rfl⟩ := own_val own_
 have outw := own_
 have out := (own_sl own_).1
 have fr_out := (own_sl own_).2
 clear own_
 have av_out_p := fr_out.av y_h4_p.out
 have av_out_d := fr_out.av y_h4_d.out
 have av_out_b28 := fr_out.av y_h4_b28.out
 refine hK.out _ _ hd (fun hH16 => ?_)
 clear hK K
 simp only [sq4]
 refine wpAnyH_take (i := 6) (v := ?_) rfl (by kernel_rfl) (by kernel_rfl) (by kernel_rfl) (fun _ _ _ h => h) (Or.inl ⟨by rfl, ?_⟩) hH16 ?_
 rotate_left
 ·((intro W hW; clear hW; go_simp) <;> with_reducible rfl)
 simp only [sq3, sq4]
 refine wpAnyH_done (by kernel_rfl) ?_ _
 go_wp2_with fail
 go_ret
 exact ⟨_, rfl, ownsRow_mono outw (Nat.le_trans h4lo (Nat.le_refl _)), bel⟩
theorem udwrite_any (tos id fl pt ttl : Int) (a0 a1 a2 a3 a4 a5 a6 a7 : UInt8) (So Sb : Option Addr) (no co nb cb : Nat) (df dt : Int) (D : Option Addr) (nd cd : Nat) (ld : List UInt8) (w : World) (hb : Sl w D nd cd ld) (hm : nd ≤ 1472) : Calls Tryz.prog 55 #[.agg #[.int .i64 tos, .int .i64 id, .int .i64 fl, .int .i64 pt, .int .i64 ttl, .int .i64 17, .int .u8 (a0.toNat : Int), .int .u8 (a1.toNat : Int), .int .u8 (a2.toNat : Int), .int .u8 (a3.toNat : Int), .int .u8 (a4.toNat : Int), .int .u8 (a5.toNat : Int), .int .u8 (a6.toNat : Int), .int .u8 (a7.toNat : Int), .slice So no co, .slice Sb nb cb], .agg #[.int .i64 df, .int .i64 dt, .slice D nd cd]] w fun e w' => ∃ v, e = .returned v ∧ w'.ownsRow w.heap.size 5 1 v (8 + nd) ((udBytes a0 a1 a2 a3 a4 a5 a6 a7 df dt ld).map u8v) ∧ Below w.heap.size w w' := by
 have hl := hb.1
 subst hl
 by_cases hz : ck [l4Ps a0 a1 a2 a3 a4 a5 a6 a7 17 (8 + (ld.length : Int)), [] ++ two df ++ two dt ++ two (8 + (ld.length : Int)), ld].flatten = 0
 ·refine (udwrite_z tos id fl pt ttl 17 a0 a1 a2 a3 a4 a5 a6 a7 So Sb no co nb cb df dt D _ cd ld _ w hb hm rfl hz).mono ?_
  rintro e w' ⟨v, rfl, ho, bel⟩
  refine ⟨v, rfl, ?_, bel⟩
  have e1 : udSum a0 a1 a2 a3 a4 a5 a6 a7 df dt ld = 65535 := if_pos hz
  unfold udBytes
  rw [e1]
  exact ho
 ·refine (udwrite_n tos id fl pt ttl 17 a0 a1 a2 a3 a4 a5 a6 a7 So Sb no co nb cb df dt D _ cd ld _ w hb hm rfl hz).mono ?_
  rintro e w' ⟨v, rfl, ho, bel⟩
  refine ⟨v, rfl, ?_, bel⟩
  have e1 : udSum a0 a1 a2 a3 a4 a5 a6 a7 df dt ld = ck [l4Ps a0 a1 a2 a3 a4 a5 a6 a7 17 (8 + (ld.length : Int)), [] ++ two df ++ two dt ++ two (8 + (ld.length : Int)), ld].flatten := if_neg hz
  unfold udBytes
  rw [e1]
  exact ho
theorem udput_ok (tos id fl pt ttl pr : Int) (a0 a1 a2 a3 a4 a5 a6 a7 : UInt8) (So Sb : Option Addr) (no co nb cb : Nat) (df dt : Int) (D : Option Addr) (nd cd : Nat) (lo ld : List UInt8) (w : World) (ho : Sl w So no co lo) (hb : Sl w D nd cd ld) (h1 : portOk df = true) (h2 : portOk dt = true) (hn : nd ≤ 1472) (hno : no ≤ 100000) : Calls Tryz.prog 25 #[.agg #[.int .i64 tos, .int .i64 id, .int .i64 fl, .int .i64 pt, .int .i64 ttl, .int .i64 pr, .int .u8 (a0.toNat : Int), .int .u8 (a1.toNat : Int), .int .u8 (a2.toNat : Int), .int .u8 (a3.toNat : Int), .int .u8 (a4.toNat : Int), .int .u8 (a5.toNat : Int), .int .u8 (a6.toNat : Int), .int .u8 (a7.toNat : Int), .slice So no co, .slice Sb nb cb], .agg #[.int .i64 df, .int .i64 dt, .slice D nd cd]] w (PkPost (udPut tos id fl pt ttl a0 a1 a2 a3 a4 a5 a6 a7 lo df dt ld) w) := by
 obtain ⟨ii, hii, hz0, hz1, hz2⟩ := info_parts Tryz.info5
 have H1 := Lib.hid h1
 have H2 := Lib.hid h2
 have HL1 := Lib.hid ho.1
 have HL2 : Hid ((udBytes a0 a1 a2 a3 a4 a5 a6 a7 df dt ld).length = 8 + nd) := Lib.hid (by rw [udBytes_len, hb.1])
 have HP : Hid (udPut tos id fl pt ttl a0 a1 a2 a3 a4 a5 a6 a7 lo df dt ld = (([tos, id, fl, pt, ttl, 17], [a0, a1, a2, a3, a4, a5, a6, a7]), (lo, udBytes a0 a1 a2 a3 a4 a5 a6 a7 df dt ld), 0)) := Lib.hid (by unfold udPut; rw [if_neg (by rw [h1, h2]; decide), if_neg (by rw [hb.1]; omega)])
 have t0 : decide ((1472 : Int) < nd) = false := decide_eq_false (by omega)
 have HN := Lib.hid hn
 have HNO := Lib.hid hno
 clear h1 h2 hn hno
 have bel := Below.refl w.heap.size w
 go_enter Tryz.func25, Tryz.ntmps25
 go_wp2_with (first | ((with_reducible show wpList _ _ _ (⟨some 2, _, _, _, _, _⟩ :: _) _ _); refine wpList_box_n rfl 38 (.tmp 0) rfl #[.int .i64 tos, .int .i64 id, .int .i64 fl, .int .i64 pt, .int .i64 ttl, .int .i64 pr, .int .u8 (a0.toNat : Int), .int .u8 (a1.toNat : Int), .int .u8 (a2.toNat : Int), .int .u8 (a3.toNat : Int), .int .u8 (a4.toNat : Int), .int .u8 (a5.toNat : Int), .int .u8 (a6.toNat : Int), .int .u8 (a7.toNat : Int), .slice So no co, .slice Sb nb cb] rfl ?_; intro g2 w1 ge lt hh bb; have av_ho_p := ho.av_new ge; have av_hb_p := hb.av_new ge; have op := Nat.le_trans bel.size ge; replace ho := ho.below bb; replace hb := hb.below bb; replace bel := bel.trans (bb.mono bel.size); have hp := hh; clear hh lt ge bb) | ((with_reducible show wpList _ _ _ (⟨some 3, _, _, _, _, _⟩ :: _) _ _); refine wpList_box_n rfl 54 (.tmp 1) rfl #[.int .i64 df, .int .i64 dt, .slice D nd cd] rfl ?_; intro g3 w2 ge lt hh bb; have d_p_d := ne_new (hlt hp) ge; have av_ho_d := ho.av_new ge; have av_hb_d := hb.av_new ge; have od := Nat.le_trans bel.size ge; replace hp := blk_u hp bb; replace ho := ho.below bb; replace hb := hb.below bb; replace bel := bel.trans (bb.mono bel.size); have hd := hh; clear hh lt ge bb) | ((with_reducible show wpList _ _ _ (⟨some 4, _, _, _, _, _⟩ :: _) _ _); refine wpList_new_a rfl 38 rfl #[.int .i64 0, .int .i64 0, .int .i64 0, .int .i64 0, .int .i64 0, .int .i64 0, .int .u8 0, .int .u8 0, .int .u8 0, .int .u8 0, .int .u8 0, .int .u8 0, .int .u8 0, .int .u8 0, .slice none 0 0, .slice none 0 0] (by kernel_rfl) ?_; intro g4 w3 ge hh bb; have d_p_z := ne_new (hlt hp) ge; have d_d_z := ne_new (hlt hd) ge; have av_ho_z := ho.av_new ge; have av_hb_z := hb.av_new ge; have oz := Nat.le_trans bel.size ge; replace hp := blk_u hp bb; replace hd := blk_u hd bb; replace ho := ho.below bb; replace hb := hb.below bb; replace bel := bel.trans (bb.mono bel.size); have hz := hh; clear hh ge bb; have R7 := cell_lit hd 0 _ rfl))
 try clear R7
 with_reducible refine (port_any _ _).mono ?_
 rintro e _ ⟨rfl, rfl⟩
 rw [H1.out]
 have R12 := cell_lit hd 1 _ rfl
 go_wp2_with fail
 clear R12
 with_reducible refine (port_any _ _).mono ?_
 rintro e _ ⟨rfl, rfl⟩
 rw [H2.out]
 have R18 := cell_lit hd 2 _ rfl
 go_wp2_with (first | ((with_reducible show wpList _ _ _ (⟨none, Op.store _ (.tmp 22) _, _, _, _, _⟩ :: _) _ _); refine wpList_store_part rfl 3 (.tmp 22) (.const (.int .i64 17)) rfl g2 5 rfl [.int .i64 17] rfl [.int .i64 tos, .int .i64 id, .int .i64 fl, .int .i64 pt, .int .i64 ttl, .int .i64 pr, .int .u8 (a0.toNat : Int), .int .u8 (a1.toNat : Int), .int .u8 (a2.toNat : Int), .int .u8 (a3.toNat : Int), .int .u8 (a4.toNat : Int), .int .u8 (a5.toNat : Int), .int .u8 (a6.toNat : Int), .int .u8 (a7.toNat : Int), .slice So no co, .slice Sb nb cb] 38 hp (by simp) [.int .i64 tos, .int .i64 id, .int .i64 fl, .int .i64 pt, .int .i64 ttl, .int .i64 17, .int .u8 (a0.toNat : Int), .int .u8 (a1.toNat : Int), .int .u8 (a2.toNat : Int), .int .u8 (a3.toNat : Int), .int .u8 (a4.toNat : Int), .int .u8 (a5.toNat : Int), .int .u8 (a6.toNat : Int), .int .u8 (a7.toNat : Int), .slice So no co, .slice Sb nb cb] rfl (by kernel_rfl) (by rfl) ?_; intro w4 hq gr; replace ho := ho.away av_ho_p gr; replace hb := hb.away av_hb_p gr; replace hd := blk_a hd gr (ne_symm d_p_d); replace hz := blk_a hz gr (ne_symm d_p_z); replace bel := below_grown bel gr op bel.size; clear hp; have hp := hq; clear hq gr) | ((with_reducible show wpList _ _ _ (⟨some 23, _, _, _, _, _⟩ :: _) _ _); refine wpList_lit_n rfl 36 5 0 _ rfl #[] (.int .u8 0) Tryz.underlying36 (by kernel_rfl) 1 (by kernel_rfl) (by decide) (by kernel_rfl) ?_; intro g23 w5 ge lt hh bb; have hl : w5.heap[g23]? = some (.cells (([] : List UInt8).map u8v).toArray 5 (0, 0)) := (by simpa [u8v, byteOf_val] using hh); have e0w := own_lit (B := w4.heap.size) ([]) hl ge 0 rfl (by simp [maxLen]); have e0 := (own_sl e0w).1; have e0lo := bel.size; clear hl; have e0ge := ge; have lz_e0 := bb.size; have y_e0_p := Lib.hid (hlt hp); have y_e0_d := Lib.hid (hlt hd); have y_e0_z := Lib.hid (hlt hz); have bl_ho_e0 := ho.bl_new; have bl_hb_e0 := hb.bl_new; replace hp := blk_u hp bb; replace hd := blk_u hd bb; replace hz := blk_u hz bb; replace ho := ho.below bb; replace hb := hb.below bb; replace bel := bel.trans (bb.mono bel.size); clear hh lt ge bb; have av_e0_p := (own_sl e0w).2.av y_e0_p.out; have av_e0_d := (own_sl e0w).2.av y_e0_d.out; have av_e0_z := (own_sl e0w).2.av y_e0_z.out; have R25 := cell_lit hp 14 _ rfl) | ((with_reducible show wpList _ _ _ (⟨some 26, _, _, _, _, _⟩ :: _) _ _); refine wpList_append_bb _ rfl (.tmp 23) (.tmp 25) 36 rfl (w4.heap.size) 5 ii (.int .u8 0) Tryz.underlying36 hii hz0 hz1 hz2 rfl _ (0) ([]) rfl e0w (So) (no) (co) (lo) rfl ho (by have := HNO.out; omega) lz_e0 ?_; intro v26 w6 own_ bb; replace ho := ho.under bl_ho_e0 bb; replace hb := hb.under bl_hb_e0 bb; replace hp := blk_under hp bb y_e0_p.out; replace hd := blk_under hd bb y_e0_d.out; replace hz := blk_under hz bb y_e0_z.out; replace bel := bel.trans (bb.mono e0lo); have lz_so := Nat.le_trans lz_e0 bb.size; clear bb; clear e0 e0w lz_e0; replace own_ : w6.ownsRow (w4.heap.size) 5 1 v26 (no) ((lo : List UInt8).map u8v) := (by simpa using own_); obtain ⟨A26, c26, rfl⟩ := own_val own_; have sow := own_; have so := (own_sl own_).1; have fr_so := (own_sl own_).2; clear own_; have av_so_p := fr_so.av y_e0_p.out; have av_so_d := fr_so.av y_e0_d.out; have av_so_z := fr_so.av y_e0_z.out) | ((with_reducible show wpList _ _ _ (⟨none, Op.store _ (.tmp 27) _, _, _, _, _⟩ :: _) _ _); refine wpList_store_part rfl 36 (.tmp 27) (.tmp 26) rfl g2 14 rfl [.slice A26 no c26] rfl [.int .i64 tos, .int .i64 id, .int .i64 fl, .int .i64 pt, .int .i64 ttl, .int .i64 17, .int .u8 (a0.toNat : Int), .int .u8 (a1.toNat : Int), .int .u8 (a2.toNat : Int), .int .u8 (a3.toNat : Int), .int .u8 (a4.toNat : Int), .int .u8 (a5.toNat : Int), .int .u8 (a6.toNat : Int), .int .u8 (a7.toNat : Int), .slice So no co, .slice Sb nb cb] 38 hp (by simp) [.int .i64 tos, .int .i64 id, .int .i64 fl, .int .i64 pt, .int .i64 ttl, .int .i64 17, .int .u8 (a0.toNat : Int), .int .u8 (a1.toNat : Int), .int .u8 (a2.toNat : Int), .int .u8 (a3.toNat : Int), .int .u8 (a4.toNat : Int), .int .u8 (a5.toNat : Int), .int .u8 (a6.toNat : Int), .int .u8 (a7.toNat : Int), .slice A26 no c26, .slice Sb nb cb] rfl (by kernel_rfl) (by rfl) ?_; intro w7 hq gr; replace ho := ho.away av_ho_p gr; replace hb := hb.away av_hb_p gr; replace so := so.away av_so_p gr; replace sow := own_away sow y_e0_p.out gr; replace lz_so := Nat.le_trans lz_so gr.size; replace hd := blk_a hd gr (ne_symm d_p_d); replace hz := blk_a hz gr (ne_symm d_p_z); replace bel := below_grown bel gr op bel.size; clear hp; have hp := hq; clear hq gr; have R28 := Lib.hid (range_lit hp 0 16 [.int .i64 tos, .int .i64 id, .int .i64 fl, .int .i64 pt, .int .i64 ttl, .int .i64 17, .int .u8 (a0.toNat : Int), .int .u8 (a1.toNat : Int), .int .u8 (a2.toNat : Int), .int .u8 (a3.toNat : Int), .int .u8 (a4.toNat : Int), .int .u8 (a5.toNat : Int), .int .u8 (a6.toNat : Int), .int .u8 (a7.toNat : Int), .slice A26 no c26, .slice Sb nb cb] rfl)) | ((with_reducible show wpList _ _ _ (⟨some 28, _, _, _, _, _⟩ :: _) _ _); refine wpList_load_rng 38 (.tmp 2) rfl (by kernel_rfl) _ _ rfl _ R28.out _ Tryz.underlying38 rfl (by kernel_rfl) ?_; have R29 := Lib.hid (range_lit hd 0 3 [.int .i64 df, .int .i64 dt, .slice D nd cd] rfl)) | ((with_reducible show wpList _ _ _ (⟨some 29, _, _, _, _, _⟩ :: _) _ _); refine wpList_load_rng 54 (.tmp 3) rfl (by kernel_rfl) _ _ rfl _ R29.out _ Tryz.underlying54 rfl (by kernel_rfl) ?_))
 try clear R18
 try clear R25
 try clear R28
 try clear R29
 with_reducible refine (udwrite_any _ _ _ _ _ _ _ _ _ _ _ _ _ _ _ _ _ _ _ _ _ _ _ _ ld _ hb HN.out).mono ?_
 rintro e w8 ⟨v, rfl, sbw, b8⟩
 have y_sb_p := Lib.hid (hlt hp)
 have y_sb_d := Lib.hid (hlt hd)
 have y_sb_z := Lib.hid (hlt hz)
 have bl_ho_sb := ho.bl_new
 have bl_hb_sb := hb.bl_new
 have bl_so_sb := so.bl_new
 have sblo := bel.size
 have lz_sb := b8.size
 replace hp := blk_u hp b8
 replace hd := blk_u hd b8
 replace hz := blk_u hz b8
 replace ho := ho.below b8
 replace hb := hb.below b8
 replace so := so.below b8
 replace sow := own_under sow b8
 replace lz_so := Nat.le_trans lz_so b8.size
 replace bel := bel.trans (b8.mono bel.size)
 clear b8
 obtain ⟨Asb, csb, rfl⟩ := own_val sbw
 have sb := (own_sl sbw).1
 have fr_sb := (own_sl sbw).2
 have av_sb_p := fr_sb.av y_sb_p.out
 have av_sb_d := fr_sb.av y_sb_d.out
 have av_sb_z := fr_sb.av y_sb_z.out
 go_wp2_with (first | ((with_reducible show wpList _ _ _ (⟨none, Op.store _ (.tmp 31) _, _, _, _, _⟩ :: _) _ _); refine wpList_store_part rfl 36 (.tmp 31) (.tmp 30) rfl g2 15 rfl [.slice Asb (8 + nd) csb] rfl [.int .i64 tos, .int .i64 id, .int .i64 fl, .int .i64 pt, .int .i64 ttl, .int .i64 17, .int .u8 (a0.toNat : Int), .int .u8 (a1.toNat : Int), .int .u8 (a2.toNat : Int), .int .u8 (a3.toNat : Int), .int .u8 (a4.toNat : Int), .int .u8 (a5.toNat : Int), .int .u8 (a6.toNat : Int), .int .u8 (a7.toNat : Int), .slice A26 no c26, .slice Sb nb cb] 38 hp (by simp) [.int .i64 tos, .int .i64 id, .int .i64 fl, .int .i64 pt, .int .i64 ttl, .int .i64 17, .int .u8 (a0.toNat : Int), .int .u8 (a1.toNat : Int), .int .u8 (a2.toNat : Int), .int .u8 (a3.toNat : Int), .int .u8 (a4.toNat : Int), .int .u8 (a5.toNat : Int), .int .u8 (a6.toNat : Int), .int .u8 (a7.toNat : Int), .slice A26 no c26, .slice Asb (8 + nd) csb] rfl (by kernel_rfl) (by rfl) ?_; intro w9 hq gr; replace ho := ho.away av_ho_p gr; replace hb := hb.away av_hb_p gr; replace so := so.away av_so_p gr; replace sow := own_away sow y_e0_p.out gr; replace sb := sb.away av_sb_p gr; replace sbw := own_away sbw y_sb_p.out gr; replace lz_so := Nat.le_trans lz_so gr.size; replace lz_sb := Nat.le_trans lz_sb gr.size; replace hd := blk_a hd gr (ne_symm d_p_d); replace hz := blk_a hz gr (ne_symm d_p_z); replace bel := below_grown bel gr op bel.size; clear hp; have hp := hq; clear hq gr; have R32 := Lib.hid (range_lit hp 0 16 [.int .i64 tos, .int .i64 id, .int .i64 fl, .int .i64 pt, .int .i64 ttl, .int .i64 17, .int .u8 (a0.toNat : Int), .int .u8 (a1.toNat : Int), .int .u8 (a2.toNat : Int), .int .u8 (a3.toNat : Int), .int .u8 (a4.toNat : Int), .int .u8 (a5.toNat : Int), .int .u8 (a6.toNat : Int), .int .u8 (a7.toNat : Int), .slice A26 no c26, .slice Asb (8 + nd) csb] rfl)) | ((with_reducible show wpList _ _ _ (⟨some 32, _, _, _, _, _⟩ :: _) _ _); refine wpList_load_rng 38 (.tmp 2) rfl (by kernel_rfl) _ _ rfl _ R32.out _ Tryz.underlying38 rfl (by kernel_rfl) ?_) | ((with_reducible show wpList _ _ _ (⟨none, Op.store _ (.tmp 4) _, _, _, _, _⟩ :: _) _ _); refine wpList_store_blk rfl 38 (.tmp 4) (.tmp 32) rfl g4 rfl _ rfl _ 38 hz (by rfl) (by kernel_rfl) (by kernel_rfl) ?_; intro w10 hq gr; replace ho := ho.away av_ho_z gr; replace hb := hb.away av_hb_z gr; replace so := so.away av_so_z gr; replace sow := own_away sow y_e0_z.out gr; replace sb := sb.away av_sb_z gr; replace sbw := own_away sbw y_sb_z.out gr; replace lz_so := Nat.le_trans lz_so gr.size; replace lz_sb := Nat.le_trans lz_sb gr.size; replace hp := blk_a hp gr d_p_z; replace hd := blk_a hd gr d_d_z; replace bel := below_grown bel gr oz bel.size; clear hz; have hz := hq; clear hq gr))
 try clear R32
 exact bodyPost_ret (results_cell_tmp_row rfl _ _ _ _ _ _ _ rfl hz Tryz.underlying38 rfl (by kernel_rfl) _ rfl) rfl ⟨tos, id, fl, pt, ttl, 17, a0, a1, a2, a3, a4, a5, a6, a7, lo, udBytes a0 a1 a2 a3 a4 a5 a6 a7 df dt ld, A26, Asb, c26, csb, 0, by rw [HL1.out, HL2.out]; rfl, by rw [HL1.out]; exact so, by rw [HL2.out]; exact sb, by rw [HL1.out]; exact fr_so.mono e0lo, by rw [HL2.out]; exact fr_sb.mono sblo, bel, HP.out.symm⟩
open Go.RowKit

theorem udget_7 (tos id fl pt ttl : Int) (a0 a1 a2 a3 a4 a5 a6 a7 : UInt8) (So Sb : Option Addr) (no co nb cb : Nat) (h0 h1 h2 h3 h4 h5 h6 h7 : UInt8) (r : List UInt8) (ln sm : Nat) (w : World) (hb : Sl w Sb nb cb (h0 :: h1 :: h2 :: h3 :: h4 :: h5 :: h6 :: h7 :: r)) (hm : nb ≤ 100000) (hln : be [h4, h5] = ln) (hsm : be [h6, h7] = sm) (hw : (decide (pt = 0) && decide (fl % 2 = 0)) = true) (hx : ln ≤ nb) (hy : 8 ≤ ln) (hz : sm = 0) : Calls Tryz.prog 24 #[.agg #[.int .i64 tos, .int .i64 id, .int .i64 fl, .int .i64 pt, .int .i64 ttl, .int .i64 17, .int .u8 (a0.toNat : Int), .int .u8 (a1.toNat : Int), .int .u8 (a2.toNat : Int), .int .u8 (a3.toNat : Int), .int .u8 (a4.toNat : Int), .int .u8 (a5.toNat : Int), .int .u8 (a6.toNat : Int), .int .u8 (a7.toNat : Int), .slice So no co, .slice Sb nb cb]] w (UdPost (udGet fl pt 17 a0 a1 a2 a3 a4 a5 a6 a7 (h0 :: h1 :: h2 :: h3 :: h4 :: h5 :: h6 :: h7 :: r)) w) := by
 have HLN := Lib.hid hln
 have HSM := Lib.hid hsm
 have HM := Lib.hid hm
 have HW := Lib.hid hw
 have HL := Lib.hid hb.1
 have t0 : decide (nb < ln) = false := decide_eq_false (by omega)
 have t1 : decide ((ln : Int) < 8) = false := decide_eq_false (by omega)
 have HX := Lib.hid hx
 obtain ⟨k, hk⟩ : ∃ k, ln = k + 8 := ⟨ln - 8, by omega⟩
 have hkr : k ≤ r.length := by have := hb.1; simp at this; omega
 have HP : Hid (udGet fl pt 17 a0 a1 a2 a3 a4 a5 a6 a7 (h0 :: h1 :: h2 :: h3 :: h4 :: h5 :: h6 :: h7 :: r) = ((((be [h0, h1] : Nat) : Int), ((be [h2, h3] : Nat) : Int)), r.take k, 0)) := Lib.hid (ud_ok (by rw [ud_at hln hsm hw, if_neg (by rw [hb.1]; omega), if_neg (by omega), if_neg fun h => h.1 hz]) hln hk)
 have HKR := Lib.hid hkr
 have HKL : Hid ((r.take k).length = k) := Lib.hid (by rw [List.length_take]; omega)
 have hk8 : IntKind.i64.wrap ((ln : Int) - 8) = (k : Int) := by rw [show (ln : Int) - 8 = (k : Int) by omega]; exact IntWalk.i64_in _ (by have := hb.1; have := hb.2.2.1; unfold maxLen at this; simp only [List.length_cons] at *; omega)
 clear hk hkr
 have t2 : ((sm : Int) == 0) = true := by simpa using hz
 have t3 : ((sm : Int) != 0) = false := by simpa using hz
 clear hln hsm hm hw hx hy hz
 have bel := Below.refl w.heap.size w
 go_enter Tryz.func24, Tryz.ntmps24
 go_wp2_with (first | ((with_reducible show wpList _ _ _ (⟨some 1, _, _, _, _, _⟩ :: _) _ _); refine wpList_box_n rfl 38 (.tmp 0) rfl #[.int .i64 tos, .int .i64 id, .int .i64 fl, .int .i64 pt, .int .i64 ttl, .int .i64 17, .int .u8 (a0.toNat : Int), .int .u8 (a1.toNat : Int), .int .u8 (a2.toNat : Int), .int .u8 (a3.toNat : Int), .int .u8 (a4.toNat : Int), .int .u8 (a5.toNat : Int), .int .u8 (a6.toNat : Int), .int .u8 (a7.toNat : Int), .slice So no co, .slice Sb nb cb] rfl ?_; intro g1 w1 ge lt hh bb; have av_hb_p := hb.av_new ge; have op := Nat.le_trans bel.size ge; replace hb := hb.below bb; replace bel := bel.trans (bb.mono bel.size); have hp := hh; clear hh lt ge bb) | ((with_reducible show wpList _ _ _ (⟨some 2, _, _, _, _, _⟩ :: _) _ _); refine wpList_new_a rfl 54 rfl #[.int .i64 0, .int .i64 0, .slice none 0 0] (by kernel_rfl) ?_; intro g2 w2 ge hh bb; have d_p_z := ne_new (hlt hp) ge; have av_hb_z := hb.av_new ge; have oz := Nat.le_trans bel.size ge; replace hp := blk_u hp bb; replace hb := hb.below bb; replace bel := bel.trans (bb.mono bel.size); have hz := hh; clear hh ge bb; have R9 := cell_lit hp 5 _ rfl; have R12 := Lib.hid (range_lit hp 0 16 [.int .i64 tos, .int .i64 id, .int .i64 fl, .int .i64 pt, .int .i64 ttl, .int .i64 17, .int .u8 (a0.toNat : Int), .int .u8 (a1.toNat : Int), .int .u8 (a2.toNat : Int), .int .u8 (a3.toNat : Int), .int .u8 (a4.toNat : Int), .int .u8 (a5.toNat : Int), .int .u8 (a6.toNat : Int), .int .u8 (a7.toNat : Int), .slice So no co, .slice Sb nb cb] rfl)) | ((with_reducible show wpList _ _ _ (⟨some 12, _, _, _, _, _⟩ :: _) _ _); refine wpList_load_rng 38 (.tmp 1) rfl (by kernel_rfl) _ _ rfl _ R12.out _ Tryz.underlying38 rfl (by kernel_rfl) ?_))
 try clear R9
 try clear R12
 with_reducible refine (ipwhole_any _ _ _ _ _ _ _ _ _ _ _ _ _ _ _ _ _ _ _ _ _).mono ?_
 rintro e w3 ⟨rfl, b3⟩
 replace hp := blk_u hp b3
 replace hz := blk_u hz b3
 replace hb := hb.below b3
 replace bel := bel.trans (b3.mono bel.size)
 clear b3
 rw [HW.out]
 have R17 := cell_lit hp 15 _ rfl
 go_wp2_with fail
 clear R17
 with_reducible refine (rd_read _ _ _ _ _ hb (by have := HM.out; omega)).mono ?_
 rintro e w4 ⟨gr, Ar3, cr3, rfl, ge, hh, rest, frr, avr, b4⟩
 have av_rest_p := frr.av (hlt hp)
 have av_rest_z := frr.av (hlt hz)
 have d_p_r := ne_new (hlt hp) ge
 have d_z_r := ne_new (hlt hz) ge
 have av_hb_r := hb.av_new ge
 have or := Nat.le_trans bel.size ge
 replace hp := blk_u hp b4
 replace hz := blk_u hz b4
 replace hb := hb.below b4
 replace bel := bel.trans (b4.mono bel.size)
 have hr := hh
 clear hh ge b4
 replace rest : Sl w4 (Ar3) (nb) (cr3) (h0 :: h1 :: h2 :: h3 :: h4 :: h5 :: h6 :: h7 :: r) := rest
 go_wp2_with fail
 with_reducible refine (rd_u16c _ _ _ _ _ _ _ _ _ hr rest).mono ?_
 rintro e w5 ⟨A4, n4, c4, rfl, hq, sq, uq, b5⟩
 replace hb := hb.away av_hb_r b5
 replace hp := blk_a hp b5 d_p_r
 replace hz := blk_a hz b5 d_z_r
 replace bel := below_grown bel b5 or bel.size
 clear b5
 clear hr rest
 have hr := hq
 have rest := sq
 clear hq sq
 have av4_rest_p := av_rest_p.sub uq
 have av4_rest_z := av_rest_z.sub uq
 have av4_rest_r := avr.sub uq
 clear uq
 go_wp2_with fail
 with_reducible refine (rd_u16c _ _ _ _ _ _ _ _ _ hr rest).mono ?_
 rintro e w6 ⟨A5, n5, c5, rfl, hq, sq, uq, b6⟩
 replace hb := hb.away av_hb_r b6
 replace hp := blk_a hp b6 d_p_r
 replace hz := blk_a hz b6 d_z_r
 replace bel := below_grown bel b6 or bel.size
 clear b6
 clear hr rest
 have hr := hq
 have rest := sq
 clear hq sq
 have av5_rest_p := av4_rest_p.sub uq
 have av5_rest_z := av4_rest_z.sub uq
 have av5_rest_r := av4_rest_r.sub uq
 clear uq
 go_wp2_with (first | ((with_reducible show wpList _ _ _ (⟨some 5, _, _, _, _, _⟩ :: _) _ _); refine wpList_new_a rfl 54 rfl #[.int .i64 0, .int .i64 0, .slice none 0 0] (by kernel_rfl) ?_; intro g5 w7 ge hh bb; have d_p_d := ne_new (hlt hp) ge; have d_z_d := ne_new (hlt hz) ge; have d_r_d := ne_new (hlt hr) ge; have av_hb_d := hb.av_new ge; have av_rest_d := rest.av_new ge; have od := Nat.le_trans bel.size ge; replace hp := blk_u hp bb; replace hz := blk_u hz bb; replace hr := blk_u hr bb; replace hb := hb.below bb; replace rest := rest.below bb; replace bel := bel.trans (bb.mono bel.size); have hd := hh; clear hh ge bb) | ((with_reducible show wpList _ _ _ (⟨none, Op.store _ (.tmp 5) _, _, _, _, _⟩ :: _) _ _); refine wpList_store_blk rfl 54 (.tmp 5) (.tmp 23) rfl g5 rfl _ rfl _ 54 hd (by rfl) (by kernel_rfl) (by kernel_rfl) ?_; intro w8 hq gr; replace hb := hb.away av_hb_d gr; replace rest := rest.away av_rest_d gr; replace hp := blk_a hp gr d_p_d; replace hz := blk_a hz gr d_z_d; replace hr := blk_a hr gr d_r_d; replace bel := below_grown bel gr od bel.size; clear hd; have hd := hq; clear hq gr))
 with_reducible refine (rd_u16c _ _ _ _ _ _ _ _ _ hr rest).mono ?_
 rintro e w9 ⟨A8, n8, c8, rfl, hq, sq, uq, b9⟩
 replace hb := hb.away av_hb_r b9
 replace hp := blk_a hp b9 d_p_r
 replace hz := blk_a hz b9 d_z_r
 replace hd := blk_a hd b9 (ne_symm d_r_d)
 replace bel := below_grown bel b9 or bel.size
 clear b9
 clear hr rest
 have hr := hq
 have rest := sq
 clear hq sq
 have av8_rest_p := av5_rest_p.sub uq
 have av8_rest_z := av5_rest_z.sub uq
 have av8_rest_r := av5_rest_r.sub uq
 have av8_rest_d := av_rest_d.sub uq
 clear uq
 rw [HLN.out]
 go_wp2_with fail
 with_reducible refine (rd_u16c _ _ _ _ _ _ _ _ _ hr rest).mono ?_
 rintro e w10 ⟨A9, n9, c9, rfl, hq, sq, uq, b10⟩
 replace hb := hb.away av_hb_r b10
 replace hp := blk_a hp b10 d_p_r
 replace hz := blk_a hz b10 d_z_r
 replace hd := blk_a hd b10 (ne_symm d_r_d)
 replace bel := below_grown bel b10 or bel.size
 clear b10
 clear hr rest
 have hr := hq
 have rest := sq
 clear hq sq
 have av9_rest_p := av8_rest_p.sub uq
 have av9_rest_z := av8_rest_z.sub uq
 have av9_rest_r := av8_rest_r.sub uq
 have av9_rest_d := av8_rest_d.sub uq
 clear uq
 rw [HSM.out]
 go_wp2_with fail
 with_reducible refine (rd_short _ _ _ _ _ _ _ hr rest).mono ?_
 rintro e _ ⟨rfl, rfl⟩
 have R33 := cell_lit hp 15 _ rfl
 go_wp2_with fail
 clear R33
 have ob := bel.size
 with_reducible refine (rd_bytes (k) _ _ _ _ _ _ _ hr rest (HKR.out) (by have hl := HL.out; simp only [List.length_cons] at hl; have := HKR.out; have := HM.out; omega)).mono ?_
 rintro e w11 ⟨Asb, csb, A10, n10, c10, rfl, hq, sq, uq, sb, frsb, b11⟩
 have av_sb_p := frsb.av (hlt hp)
 have av_sb_z := frsb.av (hlt hz)
 have av_sb_r := frsb.av (hlt hr)
 have av_sb_d := frsb.av (hlt hd)
 replace hb := hb.away av_hb_r b11
 replace hp := blk_a hp b11 d_p_r
 replace hz := blk_a hz b11 d_z_r
 replace hd := blk_a hd b11 (ne_symm d_r_d)
 replace bel := below_grown bel b11 or bel.size
 clear b11
 clear hr rest
 have hr := hq
 have rest := sq
 clear hq sq
 have av10_rest_p := av9_rest_p.sub uq
 have av10_rest_z := av9_rest_z.sub uq
 have av10_rest_r := av9_rest_r.sub uq
 have av10_rest_d := av9_rest_d.sub uq
 clear uq
 have frb := frsb.mono ob
 go_wp2_with (first | ((with_reducible show wpList _ _ _ (⟨none, Op.store _ (.tmp 54) _, _, _, _, _⟩ :: _) _ _); refine wpList_store_part rfl 36 (.tmp 54) (.tmp 53) rfl g5 2 rfl [.slice Asb k csb] rfl [.int .i64 ((be [h0, h1] : Nat) : Int), .int .i64 ((be [h2, h3] : Nat) : Int), .slice none 0 0] 54 hd (by simp) [.int .i64 ((be [h0, h1] : Nat) : Int), .int .i64 ((be [h2, h3] : Nat) : Int), .slice Asb k csb] rfl (by kernel_rfl) (by rfl) ?_; intro w12 hq gr; replace hb := hb.away av_hb_d gr; replace rest := rest.away av10_rest_d gr; replace sb := sb.away av_sb_d gr; replace hp := blk_a hp gr d_p_d; replace hz := blk_a hz gr d_z_d; replace hr := blk_a hr gr d_r_d; replace bel := below_grown bel gr od bel.size; clear hd; have hd := hq; clear hq gr; have R55 := Lib.hid (range_lit hd 0 3 [.int .i64 ((be [h0, h1] : Nat) : Int), .int .i64 ((be [h2, h3] : Nat) : Int), .slice Asb k csb] rfl)) | ((with_reducible show wpList _ _ _ (⟨some 55, _, _, _, _, _⟩ :: _) _ _); refine wpList_load_rng 54 (.tmp 5) rfl (by kernel_rfl) _ _ rfl _ R55.out _ Tryz.underlying54 rfl (by kernel_rfl) ?_) | ((with_reducible show wpList _ _ _ (⟨none, Op.store _ (.tmp 2) _, _, _, _, _⟩ :: _) _ _); refine wpList_store_blk rfl 54 (.tmp 2) (.tmp 55) rfl g2 rfl _ rfl _ 54 hz (by rfl) (by kernel_rfl) (by kernel_rfl) ?_; intro w13 hq gr; replace hb := hb.away av_hb_z gr; replace rest := rest.away av10_rest_z gr; replace sb := sb.away av_sb_z gr; replace hp := blk_a hp gr d_p_z; replace hr := blk_a hr gr (ne_symm d_z_r); replace hd := blk_a hd gr (ne_symm d_z_d); replace bel := below_grown bel gr oz bel.size; clear hz; have hz := hq; clear hq gr))
 try clear R55
 exact bodyPost_ret (results_cell_tmp_row rfl _ _ _ _ _ _ _ rfl hz Tryz.underlying54 rfl (by kernel_rfl) (.int .i64 0) rfl) rfl ⟨((be [h0, h1] : Nat) : Int), ((be [h2, h3] : Nat) : Int), r.take k, Asb, csb, 0, by rw [HKL.out], by rw [HKL.out]; exact sb, by rw [HKL.out]; exact frb, bel, HP.out.symm⟩
theorem udget_8 (tos id fl pt ttl : Int) (a0 a1 a2 a3 a4 a5 a6 a7 : UInt8) (So Sb : Option Addr) (no co nb cb : Nat) (h0 h1 h2 h3 h4 h5 h6 h7 : UInt8) (r : List UInt8) (ln sm : Nat) (w : World) (hb : Sl w Sb nb cb (h0 :: h1 :: h2 :: h3 :: h4 :: h5 :: h6 :: h7 :: r)) (hm : nb ≤ 100000) (hln : be [h4, h5] = ln) (hsm : be [h6, h7] = sm) (hw : (decide (pt = 0) && decide (fl % 2 = 0)) = true) (hx : ln ≤ nb) (hy : 8 ≤ ln) (hz : sm ≠ 0) (hc : ck (l4Ps a0 a1 a2 a3 a4 a5 a6 a7 17 (ln : Int) ++ (h0 :: h1 :: h2 :: h3 :: h4 :: h5 :: h6 :: h7 :: r).take ln) = 0) : Calls Tryz.prog 24 #[.agg #[.int .i64 tos, .int .i64 id, .int .i64 fl, .int .i64 pt, .int .i64 ttl, .int .i64 17, .int .u8 (a0.toNat : Int), .int .u8 (a1.toNat : Int), .int .u8 (a2.toNat : Int), .int .u8 (a3.toNat : Int), .int .u8 (a4.toNat : Int), .int .u8 (a5.toNat : Int), .int .u8 (a6.toNat : Int), .int .u8 (a7.toNat : Int), .slice So no co, .slice Sb nb cb]] w (UdPost (udGet fl pt 17 a0 a1 a2 a3 a4 a5 a6 a7 (h0 :: h1 :: h2 :: h3 :: h4 :: h5 :: h6 :: h7 :: r)) w) := by
 have HLN := Lib.hid hln
 have HSM := Lib.hid hsm
 have HM := Lib.hid hm
 have HW := Lib.hid hw
 have HL := Lib.hid hb.1
 have t0 : decide (nb < ln) = false := decide_eq_false (by omega)
 have t1 : decide ((ln : Int) < 8) = false := decide_eq_false (by omega)
 have HX := Lib.hid hx
 obtain ⟨k, hk⟩ : ∃ k, ln = k + 8 := ⟨ln - 8, by omega⟩
 have hkr : k ≤ r.length := by have := hb.1; simp at this; omega
 have HP : Hid (udGet fl pt 17 a0 a1 a2 a3 a4 a5 a6 a7 (h0 :: h1 :: h2 :: h3 :: h4 :: h5 :: h6 :: h7 :: r) = ((((be [h0, h1] : Nat) : Int), ((be [h2, h3] : Nat) : Int)), r.take k, 0)) := Lib.hid (ud_ok (by rw [ud_at hln hsm hw, if_neg (by rw [hb.1]; omega), if_neg (by omega), if_neg fun h => h.2 hc]) hln hk)
 have HKR := Lib.hid hkr
 have HKL : Hid ((r.take k).length = k) := Lib.hid (by rw [List.length_take]; omega)
 have hk8 : IntKind.i64.wrap ((ln : Int) - 8) = (k : Int) := by rw [show (ln : Int) - 8 = (k : Int) by omega]; exact IntWalk.i64_in _ (by have := hb.1; have := hb.2.2.1; unfold maxLen at this; simp only [List.length_cons] at *; omega)
 clear hk hkr
 have HC : Hid (decide (ck (l4Ps a0 a1 a2 a3 a4 a5 a6 a7 17 (ln : Int) ++ (h0 :: h1 :: h2 :: h3 :: h4 :: h5 :: h6 :: h7 :: r).take ln) = 0) = true) := Lib.hid (decide_eq_true hc)
 have t2 : ((sm : Int) == 0) = false := by simpa using hz
 have t3 : ((sm : Int) != 0) = true := by simpa using hz
 clear hln hsm hm hw hx hy hz hc
 have bel := Below.refl w.heap.size w
 go_enter Tryz.func24, Tryz.ntmps24
 go_wp2_with (first | ((with_reducible show wpList _ _ _ (⟨some 1, _, _, _, _, _⟩ :: _) _ _); refine wpList_box_n rfl 38 (.tmp 0) rfl #[.int .i64 tos, .int .i64 id, .int .i64 fl, .int .i64 pt, .int .i64 ttl, .int .i64 17, .int .u8 (a0.toNat : Int), .int .u8 (a1.toNat : Int), .int .u8 (a2.toNat : Int), .int .u8 (a3.toNat : Int), .int .u8 (a4.toNat : Int), .int .u8 (a5.toNat : Int), .int .u8 (a6.toNat : Int), .int .u8 (a7.toNat : Int), .slice So no co, .slice Sb nb cb] rfl ?_; intro g1 w1 ge lt hh bb; have av_hb_p := hb.av_new ge; have op := Nat.le_trans bel.size ge; replace hb := hb.below bb; replace bel := bel.trans (bb.mono bel.size); have hp := hh; clear hh lt ge bb) | ((with_reducible show wpList _ _ _ (⟨some 2, _, _, _, _, _⟩ :: _) _ _); refine wpList_new_a rfl 54 rfl #[.int .i64 0, .int .i64 0, .slice none 0 0] (by kernel_rfl) ?_; intro g2 w2 ge hh bb; have d_p_z := ne_new (hlt hp) ge; have av_hb_z := hb.av_new ge; have oz := Nat.le_trans bel.size ge; replace hp := blk_u hp bb; replace hb := hb.below bb; replace bel := bel.trans (bb.mono bel.size); have hz := hh; clear hh ge bb; have R9 := cell_lit hp 5 _ rfl; have R12 := Lib.hid (range_lit hp 0 16 [.int .i64 tos, .int .i64 id, .int .i64 fl, .int .i64 pt, .int .i64 ttl, .int .i64 17, .int .u8 (a0.toNat : Int), .int .u8 (a1.toNat : Int), .int .u8 (a2.toNat : Int), .int .u8 (a3.toNat : Int), .int .u8 (a4.toNat : Int), .int .u8 (a5.toNat : Int), .int .u8 (a6.toNat : Int), .int .u8 (a7.toNat : Int), .slice So no co, .slice Sb nb cb] rfl)) | ((with_reducible show wpList _ _ _ (⟨some 12, _, _, _, _, _⟩ :: _) _ _); refine wpList_load_rng 38 (.tmp 1) rfl (by kernel_rfl) _ _ rfl _ R12.out _ Tryz.underlying38 rfl (by kernel_rfl) ?_))
 try clear R9
 try clear R12
 with_reducible refine (ipwhole_any _ _ _ _ _ _ _ _ _ _ _ _ _ _ _ _ _ _ _ _ _).mono ?_
 rintro e w3 ⟨rfl, b3⟩
 replace hp := blk_u hp b3
 replace hz := blk_u hz b3
 replace hb := hb.below b3
 replace bel := bel.trans (b3.mono bel.size)
 clear b3
 rw [HW.out]
 have R17 := cell_lit hp 15 _ rfl
 go_wp2_with fail
 clear R17
 with_reducible refine (rd_read _ _ _ _ _ hb (by have := HM.out; omega)).mono ?_
 rintro e w4 ⟨gr, Ar3, cr3, rfl, ge, hh, rest, frr, avr, b4⟩
 have av_rest_p := frr.av (hlt hp)
 have av_rest_z := frr.av (hlt hz)
 have d_p_r := ne_new (hlt hp) ge
 have d_z_r := ne_new (hlt hz) ge
 have av_hb_r := hb.av_new ge
 have or := Nat.le_trans bel.size ge
 replace hp := blk_u hp b4
 replace hz := blk_u hz b4
 replace hb := hb.below b4
 replace bel := bel.trans (b4.mono bel.size)
 have hr := hh
 clear hh ge b4
 replace rest : Sl w4 (Ar3) (nb) (cr3) (h0 :: h1 :: h2 :: h3 :: h4 :: h5 :: h6 :: h7 :: r) := rest
 go_wp2_with fail
 with_reducible refine (rd_u16c _ _ _ _ _ _ _ _ _ hr rest).mono ?_
 rintro e w5 ⟨A4, n4, c4, rfl, hq, sq, uq, b5⟩
 replace hb := hb.away av_hb_r b5
 replace hp := blk_a hp b5 d_p_r
 replace hz := blk_a hz b5 d_z_r
 replace bel := below_grown bel b5 or bel.size
 clear b5
 clear hr rest
 have hr := hq
 have rest := sq
 clear hq sq
 have av4_rest_p := av_rest_p.sub uq
 have av4_rest_z := av_rest_z.sub uq
 have av4_rest_r := avr.sub uq
 clear uq
 go_wp2_with fail
 with_reducible refine (rd_u16c _ _ _ _ _ _ _ _ _ hr rest).mono ?_
 rintro e w6 ⟨A5, n5, c5, rfl, hq, sq, uq, b6⟩
 replace hb := hb.away av_hb_r b6
 replace hp := blk_a hp b6 d_p_r
 replace hz := blk_a hz b6 d_z_r
 replace bel := below_grown bel b6 or bel.size
 clear b6
 clear hr rest
 have hr := hq
 have rest := sq
 clear hq sq
 have av5_rest_p := av4_rest_p.sub uq
 have av5_rest_z := av4_rest_z.sub uq
 have av5_rest_r := av4_rest_r.sub uq
 clear uq
 go_wp2_with (first | ((with_reducible show wpList _ _ _ (⟨some 5, _, _, _, _, _⟩ :: _) _ _); refine wpList_new_a rfl 54 rfl #[.int .i64 0, .int .i64 0, .slice none 0 0] (by kernel_rfl) ?_; intro g5 w7 ge hh bb; have d_p_d := ne_new (hlt hp) ge; have d_z_d := ne_new (hlt hz) ge; have d_r_d := ne_new (hlt hr) ge; have av_hb_d := hb.av_new ge; have av_rest_d := rest.av_new ge; have od := Nat.le_trans bel.size ge; replace hp := blk_u hp bb; replace hz := blk_u hz bb; replace hr := blk_u hr bb; replace hb := hb.below bb; replace rest := rest.below bb; replace bel := bel.trans (bb.mono bel.size); have hd := hh; clear hh ge bb) | ((with_reducible show wpList _ _ _ (⟨none, Op.store _ (.tmp 5) _, _, _, _, _⟩ :: _) _ _); refine wpList_store_blk rfl 54 (.tmp 5) (.tmp 23) rfl g5 rfl _ rfl _ 54 hd (by rfl) (by kernel_rfl) (by kernel_rfl) ?_; intro w8 hq gr; replace hb := hb.away av_hb_d gr; replace rest := rest.away av_rest_d gr; replace hp := blk_a hp gr d_p_d; replace hz := blk_a hz gr d_z_d; replace hr := blk_a hr gr d_r_d; replace bel := below_grown bel gr od bel.size; clear hd; have hd := hq; clear hq gr))
 with_reducible refine (rd_u16c _ _ _ _ _ _ _ _ _ hr rest).mono ?_
 rintro e w9 ⟨A8, n8, c8, rfl, hq, sq, uq, b9⟩
 replace hb := hb.away av_hb_r b9
 replace hp := blk_a hp b9 d_p_r
 replace hz := blk_a hz b9 d_z_r
 replace hd := blk_a hd b9 (ne_symm d_r_d)
 replace bel := below_grown bel b9 or bel.size
 clear b9
 clear hr rest
 have hr := hq
 have rest := sq
 clear hq sq
 have av8_rest_p := av5_rest_p.sub uq
 have av8_rest_z := av5_rest_z.sub uq
 have av8_rest_r := av5_rest_r.sub uq
 have av8_rest_d := av_rest_d.sub uq
 clear uq
 rw [HLN.out]
 go_wp2_with fail
 with_reducible refine (rd_u16c _ _ _ _ _ _ _ _ _ hr rest).mono ?_
 rintro e w10 ⟨A9, n9, c9, rfl, hq, sq, uq, b10⟩
 replace hb := hb.away av_hb_r b10
 replace hp := blk_a hp b10 d_p_r
 replace hz := blk_a hz b10 d_z_r
 replace hd := blk_a hd b10 (ne_symm d_r_d)
 replace bel := below_grown bel b10 or bel.size
 clear b10
 clear hr rest
 have hr := hq
 have rest := sq
 clear hq sq
 have av9_rest_p := av8_rest_p.sub uq
 have av9_rest_z := av8_rest_z.sub uq
 have av9_rest_r := av8_rest_r.sub uq
 have av9_rest_d := av8_rest_d.sub uq
 clear uq
 rw [HSM.out]
 go_wp2_with fail
 with_reducible refine (rd_short _ _ _ _ _ _ _ hr rest).mono ?_
 rintro e _ ⟨rfl, rfl⟩
 have R33 := cell_lit hp 15 _ rfl
 have R44 := Lib.hid (range_lit hp 0 16 [.int .i64 tos, .int .i64 id, .int .i64 fl, .int .i64 pt, .int .i64 ttl, .int .i64 17, .int .u8 (a0.toNat : Int), .int .u8 (a1.toNat : Int), .int .u8 (a2.toNat : Int), .int .u8 (a3.toNat : Int), .int .u8 (a4.toNat : Int), .int .u8 (a5.toNat : Int), .int .u8 (a6.toNat : Int), .int .u8 (a7.toNat : Int), .slice So no co, .slice Sb nb cb] rfl)
 go_wp2_with (first | ((with_reducible show wpList _ _ _ (⟨some 44, _, _, _, _, _⟩ :: _) _ _); refine wpList_load_rng 38 (.tmp 1) rfl (by kernel_rfl) _ _ rfl _ R44.out _ Tryz.underlying38 rfl (by kernel_rfl) ?_))
 try clear R33
 try clear R44
 with_reducible refine (udfits_any _ _ _ _ _ 17 _ _ _ _ _ _ _ _ _ _ _ _ _ _ ln _ _ hb HX.out HM.out).mono ?_
 rintro e w11 ⟨rfl, b11⟩
 replace hp := blk_u hp b11
 replace hz := blk_u hz b11
 replace hr := blk_u hr b11
 replace hd := blk_u hd b11
 replace hb := hb.below b11
 replace rest := rest.below b11
 replace bel := bel.trans (b11.mono bel.size)
 clear b11
 rw [HC.out]
 go_wp2_with fail
 have ob := bel.size
 with_reducible refine (rd_bytes (k) _ _ _ _ _ _ _ hr rest (HKR.out) (by have hl := HL.out; simp only [List.length_cons] at hl; have := HKR.out; have := HM.out; omega)).mono ?_
 rintro e w12 ⟨Asb, csb, A11, n11, c11, rfl, hq, sq, uq, sb, frsb, b12⟩
 have av_sb_p := frsb.av (hlt hp)
 have av_sb_z := frsb.av (hlt hz)
 have av_sb_r := frsb.av (hlt hr)
 have av_sb_d := frsb.av (hlt hd)
 replace hb := hb.away av_hb_r b12
 replace hp := blk_a hp b12 d_p_r
 replace hz := blk_a hz b12 d_z_r
 replace hd := blk_a hd b12 (ne_symm d_r_d)
 replace bel := below_grown bel b12 or bel.size
 clear b12
 clear hr rest
 have hr := hq
 have rest := sq
 clear hq sq
 have av11_rest_p := av9_rest_p.sub uq
 have av11_rest_z := av9_rest_z.sub uq
 have av11_rest_r := av9_rest_r.sub uq
 have av11_rest_d := av9_rest_d.sub uq
 clear uq
 have frb := frsb.mono ob
 go_wp2_with (first | ((with_reducible show wpList _ _ _ (⟨none, Op.store _ (.tmp 54) _, _, _, _, _⟩ :: _) _ _); refine wpList_store_part rfl 36 (.tmp 54) (.tmp 53) rfl g5 2 rfl [.slice Asb k csb] rfl [.int .i64 ((be [h0, h1] : Nat) : Int), .int .i64 ((be [h2, h3] : Nat) : Int), .slice none 0 0] 54 hd (by simp) [.int .i64 ((be [h0, h1] : Nat) : Int), .int .i64 ((be [h2, h3] : Nat) : Int), .slice Asb k csb] rfl (by kernel_rfl) (by rfl) ?_; intro w13 hq gr; replace hb := hb.away av_hb_d gr; replace rest := rest.away av11_rest_d gr; replace sb := sb.away av_sb_d gr; replace hp := blk_a hp gr d_p_d; replace hz := blk_a hz gr d_z_d; replace hr := blk_a hr gr d_r_d; replace bel := below_grown bel gr od bel.size; clear hd; have hd := hq; clear hq gr; have R55 := Lib.hid (range_lit hd 0 3 [.int .i64 ((be [h0, h1] : Nat) : Int), .int .i64 ((be [h2, h3] : Nat) : Int), .slice Asb k csb] rfl)) | ((with_reducible show wpList _ _ _ (⟨some 55, _, _, _, _, _⟩ :: _) _ _); refine wpList_load_rng 54 (.tmp 5) rfl (by kernel_rfl) _ _ rfl _ R55.out _ Tryz.underlying54 rfl (by kernel_rfl) ?_) | ((with_reducible show wpList _ _ _ (⟨none, Op.store _ (.tmp 2) _, _, _, _, _⟩ :: _) _ _); refine wpList_store_blk rfl 54 (.tmp 2) (.tmp 55) rfl g2 rfl _ rfl _ 54 hz (by rfl) (by kernel_rfl) (by kernel_rfl) ?_; intro w14 hq gr; replace hb := hb.away av_hb_z gr; replace rest := rest.away av11_rest_z gr; replace sb := sb.away av_sb_z gr; replace hp := blk_a hp gr d_p_z; replace hr := blk_a hr gr (ne_symm d_z_r); replace hd := blk_a hd gr (ne_symm d_z_d); replace bel := below_grown bel gr oz bel.size; clear hz; have hz := hq; clear hq gr))
 try clear R55
 exact bodyPost_ret (results_cell_tmp_row rfl _ _ _ _ _ _ _ rfl hz Tryz.underlying54 rfl (by kernel_rfl) (.int .i64 0) rfl) rfl ⟨((be [h0, h1] : Nat) : Int), ((be [h2, h3] : Nat) : Int), r.take k, Asb, csb, 0, by rw [HKL.out], by rw [HKL.out]; exact sb, by rw [HKL.out]; exact frb, bel, HP.out.symm⟩
open Go.RowKit

theorem port_of {v : Int} (h : portOk v = true) : 0 ≤ v ∧ v ≤ 65535 := by
 unfold portOk at h
 simpa using h
theorem be2_two (v : Int) (h0 : 0 ≤ v) (h1 : v ≤ 65535) : (be (two v) : Int) = v := by
 rw [be_byteOf]
 omega
/-- The sum over what stands round the two bytes of the sum, and these. -/
theorem l4_around (P M b : List UInt8) (x y : UInt8) (hp : P.length % 2 = 0) (hm : M.length % 2 = 0) : ws true (P ++ (M ++ [x, y] ++ b)) = ws true (P ++ M ++ b) + (x.toNat * 256 + y.toNat) := by
 have hpm : (P ++ M).length % 2 = 0 := by rw [List.length_append]; omega
 rw [show P ++ (M ++ [x, y] ++ b) = (P ++ M) ++ x :: y :: b by simp, ws_at _ _ _ _ hpm, ws_even (P ++ M) b hpm]
 omega
theorem ps_pos (a0 a1 a2 a3 a4 a5 a6 a7 : UInt8) (pr k : Int) (l : List UInt8) (h : 0 < (byteOf pr).toNat) : 0 < ws true (l4Ps a0 a1 a2 a3 a4 a5 a6 a7 pr k ++ l) := by
 unfold l4Ps two
 simp only [List.cons_append, List.nil_append, ws_pair]
 omega
/-- The two bytes of a sum. -/
theorem two_val (s : Int) (h0 : 0 ≤ s) (h1 : s ≤ 65535) : ((byteOf (s / 256)).toNat : Int) * 256 + (byteOf s).toNat = s := by
 rw [byteOf_val, byteOf_val]
 omega
theorem sum_seals (W : Nat) (s : Int) (hW : 0 < W) (hs : s = if 65535 - (nrm W : Int) = 0 then 65535 else 65535 - (nrm W : Int)) (x y : UInt8) (hxy : (x.toNat : Int) * 256 + y.toNat = s) : 0 < W + (x.toNat * 256 + y.toNat) ∧ (W + (x.toNat * 256 + y.toNat)) % 65535 = 0 := by
 have h1 := nrm_mod W
 have h2 := nrm_le W
 split at hs <;> omega
theorem udBytes_eq (a0 a1 a2 a3 a4 a5 a6 a7 : UInt8) (df dt : Int) (b : List UInt8) : udBytes a0 a1 a2 a3 a4 a5 a6 a7 df dt b = byteOf (df / 256) :: byteOf df :: byteOf (dt / 256) :: byteOf dt :: byteOf ((8 + (b.length : Int)) / 256) :: byteOf (8 + (b.length : Int)) :: byteOf (udSum a0 a1 a2 a3 a4 a5 a6 a7 df dt b / 256) :: byteOf (udSum a0 a1 a2 a3 a4 a5 a6 a7 df dt b) :: b := rfl
theorem udSum_range (a0 a1 a2 a3 a4 a5 a6 a7 : UInt8) (df dt : Int) (b : List UInt8) : 0 < udSum a0 a1 a2 a3 a4 a5 a6 a7 df dt b ∧ udSum a0 a1 a2 a3 a4 a5 a6 a7 df dt b ≤ 65535 := by
 have h := ck_bounds [l4Ps a0 a1 a2 a3 a4 a5 a6 a7 17 (8 + (b.length : Int)), udHd df dt b.length, b].flatten
 unfold udSum
 split <;> omega
theorem be_two_eq (v : Int) : be [byteOf (v / 256), byteOf v] = be (two v) := rfl
theorem be_len (n : Nat) (h : n ≤ 60000) : be [byteOf ((8 + (n : Int)) / 256), byteOf (8 + (n : Int))] = 8 + n := by
 have h := be2_two (8 + (n : Int)) (by omega) (by omega)
 rw [be_two_eq]
 omega
theorem be_port {v : Int} (h : portOk v = true) : (be [byteOf (v / 256), byteOf v] : Int) = v := be2_two v (port_of h).1 (port_of h).2
/-- The whole of it fits. -/
theorem udp_sealed (a0 a1 a2 a3 a4 a5 a6 a7 : UInt8) (df dt : Int) (b : List UInt8) : ck (l4Ps a0 a1 a2 a3 a4 a5 a6 a7 17 (8 + (b.length : Int)) ++ udBytes a0 a1 a2 a3 a4 a5 a6 a7 df dt b) = 0 := by
 have hr := udSum_range a0 a1 a2 a3 a4 a5 a6 a7 df dt b
 have hv := two_val _ (Int.le_of_lt hr.1) hr.2
 have hp := ps_pos a0 a1 a2 a3 a4 a5 a6 a7 17 (8 + (b.length : Int)) (udHd df dt b.length ++ b) (by decide)
 rw [← List.append_assoc] at hp
 have hs : udSum a0 a1 a2 a3 a4 a5 a6 a7 df dt b = if 65535 - (nrm (ws true (l4Ps a0 a1 a2 a3 a4 a5 a6 a7 17 (8 + (b.length : Int)) ++ udHd df dt b.length ++ b)) : Int) = 0 then 65535 else 65535 - (nrm (ws true (l4Ps a0 a1 a2 a3 a4 a5 a6 a7 17 (8 + (b.length : Int)) ++ udHd df dt b.length ++ b)) : Int) := by
  unfold udSum ck
  rw [show [l4Ps a0 a1 a2 a3 a4 a5 a6 a7 17 (8 + (b.length : Int)), udHd df dt b.length, b].flatten = l4Ps a0 a1 a2 a3 a4 a5 a6 a7 17 (8 + (b.length : Int)) ++ udHd df dt b.length ++ b by simp]
 have h := sum_seals _ _ hp hs _ _ hv
 rw [ck_zero]
 unfold udBytes
 rw [show two (udSum a0 a1 a2 a3 a4 a5 a6 a7 df dt b) = [byteOf (udSum a0 a1 a2 a3 a4 a5 a6 a7 df dt b / 256), byteOf (udSum a0 a1 a2 a3 a4 a5 a6 a7 df dt b)] from rfl, l4_around _ _ _ _ _ (by simp [l4Ps, two]) (by simp [udHd, two])]
 exact h
/-- What was put is read back. -/
theorem udp_back {fl pt : Int} (hw : (decide (pt = 0) && decide (fl % 2 = 0)) = true) (a0 a1 a2 a3 a4 a5 a6 a7 : UInt8) {df dt : Int} (h1 : portOk df = true) (h2 : portOk dt = true) (b : List UInt8) (hn : b.length ≤ 1472) :
  udGet fl pt 17 a0 a1 a2 a3 a4 a5 a6 a7 (udBytes a0 a1 a2 a3 a4 a5 a6 a7 df dt b) = ((df, dt), b, 0) := by
 have hsl := udp_sealed a0 a1 a2 a3 a4 a5 a6 a7 df dt b
 have hlen := udBytes_len a0 a1 a2 a3 a4 a5 a6 a7 df dt b
 rw [udBytes_eq] at hsl hlen ⊢
 have e : udErr fl pt 17 a0 a1 a2 a3 a4 a5 a6 a7 (byteOf (df / 256) :: byteOf df :: byteOf (dt / 256) :: byteOf dt :: byteOf ((8 + (b.length : Int)) / 256) :: byteOf (8 + (b.length : Int)) :: byteOf (udSum a0 a1 a2 a3 a4 a5 a6 a7 df dt b / 256) :: byteOf (udSum a0 a1 a2 a3 a4 a5 a6 a7 df dt b) :: b) = 0 := by
  rw [ud_at (be_len b.length (by omega)) rfl hw, hlen, if_neg (by omega), if_neg (by omega), if_neg]
  rintro ⟨_, h⟩
  apply h
  rw [List.take_of_length_le (by rw [hlen]; exact Nat.le_refl _)]
  rw [show ((8 + b.length : Nat) : Int) = 8 + (b.length : Int) from rfl]
  exact hsl
 rw [ud_ok e (be_len b.length (by omega)) (by omega : 8 + b.length = b.length + 8), be_port h1, be_port h2, List.take_of_length_le (Nat.le_refl _)]
end Go.Proofs.YtbdaejodbcjmfaaGreat
