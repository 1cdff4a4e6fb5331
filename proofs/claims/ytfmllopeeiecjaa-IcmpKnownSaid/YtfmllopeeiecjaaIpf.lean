/- Layer 6: ip4's header, Put. -/
import Derived.Test.YtfmllopeeiecjaaIpe
import Derived.Deep.RegionHeld3
namespace Go.Proofs.Ytfmllopeeiecjaa
open Go.RowKit

theorem own_drew {w : World} {B : Nat} {e : TypeId} {v : Value} {n : Nat} {xs : List Value} (h : w.ownsRow B e 1 v n xs) : w.drew.ownsRow B e 1 v n xs := h
theorem w16_to (A : Option Addr) (n m c : Nat) (l : List UInt8) (v : Int) (w : World) (hm : n + 2 = m) (hl : Sl w A n c l) (hs : n + 2 ≤ 140737488355328) :
    Calls Try.prog 53 #[.slice A n c, .int .i64 v] w fun e w' => ∃ A' c', e = .returned (.slice A' m c') ∧ Sl w' A' m c' (l ++ two v) ∧ Below w.heap.size w w' := by
  subst hm; exact w16_any A n c l v w hl hs
theorem w16_oto (A : Option Addr) (n m c : Nat) (l : List UInt8) (v0 : Int) (w : World) (hm : n + 2 = m) (hl : Sl w A n c l) (hs : n + 2 ≤ 140737488355328) :
    Calls Try.prog 53 #[.slice A n c, .int .i64 v0] w fun e w' => ∃ v, e = .returned v ∧ w'.ownsRow w.heap.size 5 1 v m ((l ++ two v0).map u8v) ∧ Below w.heap.size w w' := by
  subst hm; exact w16_o A n c l v0 w hl hs
theorem or64 (q : Int) (h0 : 0 ≤ q) (h1 : q < 64) : bits .or .i64 64 q = 64 + q := by
  obtain ⟨k, rfl⟩ : ∃ k : Nat, q = k := ⟨q.toNat, by omega⟩
  show IntKind.i64.wrap ((BitVec.ofInt 64 64 ||| BitVec.ofInt 64 (k : Int)).toNat : Int) = _
  rw [BitVec.toNat_or, BitVec.ofInt_natCast, BitVec.toNat_ofNat, show (BitVec.ofInt 64 64).toNat = 1 * 64 from rfl, Nat.mod_eq_of_lt (by omega)]
  have := Nat.two_pow_add_eq_or_of_lt (i := 6) (b := k) (by omega) 1
  rw [show 1 * 64 ||| k = 64 + k by rw [show (1 * 64 : Nat) = 2 ^ 6 * 1 by rfl]; omega]
  rw [IntKind.wrap_i64]
  omega
theorem or8192 (f p : Int) (f0 : 0 ≤ f) (f1 : f ≤ 7) (p0 : 0 ≤ p) (p1 : p ≤ 8191) : bits .or .i64 (f * 8192) p = f * 8192 + p := by
  obtain ⟨k, rfl⟩ : ∃ k : Nat, f = k := ⟨f.toNat, by omega⟩
  obtain ⟨j, rfl⟩ : ∃ j : Nat, p = j := ⟨p.toNat, by omega⟩
  rw [show (k : Int) * 8192 = ((k * 8192 : Nat) : Int) by omega]
  show IntKind.i64.wrap ((BitVec.ofInt 64 ((k * 8192 : Nat) : Int) ||| BitVec.ofInt 64 (j : Int)).toNat : Int) = _
  rw [BitVec.toNat_or, BitVec.ofInt_natCast, BitVec.ofInt_natCast, BitVec.toNat_ofNat, BitVec.toNat_ofNat, Nat.mod_eq_of_lt (by omega), Nat.mod_eq_of_lt (by omega)]
  have := Nat.two_pow_add_eq_or_of_lt (i := 13) (b := j) (by omega) k
  rw [show k * 8192 ||| j = k * 8192 + j by rw [Nat.mul_comm k 8192, show (8192 : Nat) = 2 ^ 13 by rfl]; omega]
  rw [IntKind.wrap_i64]
  omega
/-- What stands ahead of the sum, and behind it. -/
def hdA (tos id fl pt ttl pr : Int) (no nb : Nat) : List UInt8 := [byteOf (64 + (20 + (no : Int)) / 4), byteOf tos] ++ two (20 + (no : Int) + nb) ++ two id ++ two (fl * 8192 + pt) ++ [byteOf ttl, byteOf pr]
set_option maxRecDepth 100000 in
set_option maxHeartbeats 16000000 in
theorem header_o (tos id fl pt ttl pr : Int) (a0 a1 a2 a3 a4 a5 a6 a7 : UInt8) (So Sb : Option Addr) (no co nb cb : Nat) (lo : List UInt8) (w : World) (ho : Sl w So no co lo) (f0 : 0 ≤ fl) (f1 : fl ≤ 7) (p0 : 0 ≤ pt) (p1 : pt ≤ 8191) (o1 : no ≤ 40) (hn : 20 + no + nb ≤ 1500) :
    Calls Try.prog 31 #[.agg #[.int .i64 tos, .int .i64 id, .int .i64 fl, .int .i64 pt, .int .i64 ttl, .int .i64 pr, .int .u8 (a0.toNat : Int), .int .u8 (a1.toNat : Int), .int .u8 (a2.toNat : Int), .int .u8 (a3.toNat : Int), .int .u8 (a4.toNat : Int), .int .u8 (a5.toNat : Int), .int .u8 (a6.toNat : Int), .int .u8 (a7.toNat : Int), .slice So no co, .slice Sb nb cb]] w fun e w' => ∃ v, e = .returned v ∧ w'.ownsRow w.heap.size 5 1 v (20 + no) ((hdA tos id fl pt ttl pr no nb ++ two (ck [hdA tos id fl pt ttl pr no nb, [a0, a1, a2, a3, a4, a5, a6, a7] ++ lo].flatten) ++ ([a0, a1, a2, a3, a4, a5, a6, a7] ++ lo)).map u8v) ∧ Below w.heap.size w w' := by
  obtain ⟨ii, hii, hz0, hz1, hz2⟩ := info_parts Try.info5
  obtain ⟨X, HX⟩ : ∃ X, Hid (64 + (20 + (no : Int)) / 4 = X) := ⟨_, Lib.hid rfl⟩
  have hor : bits .or .i64 64 ((20 + (no : Int)) / 4) = X := by rw [← HX.out]; exact or64 _ (by omega) (by omega)
  have hof := or8192 fl pt f0 f1 p0 p1
  obtain ⟨BA, HBA⟩ : ∃ BA, Hid (hdA tos id fl pt ttl pr no nb = BA) := ⟨_, Lib.hid rfl⟩
  replace HBA : Hid (hdA tos id fl pt ttl pr no nb = BA) ∧ Hid (BA = [byteOf X, byteOf tos] ++ two (20 + (no : Int) + nb) ++ two id ++ two (fl * 8192 + pt) ++ [byteOf ttl, byteOf pr]) := ⟨HBA, Lib.hid (by rw [← HBA.out, ← HX.out]; rfl)⟩
  have HBB := HBA.2
  replace HBA := HBA.1
  have n0 : (0 : Int) ≤ no := by omega
  have n1 : (no : Int) ≤ 40 := by omega
  have n2 : (0 : Int) ≤ nb := by omega
  have n3 : (nb : Int) ≤ 1500 := by omega
  have n4 : 20 + (no : Int) + nb ≤ 1500 := by omega
  clear p0 p1 o1 hn
  have bel := Below.refl w.heap.size w
  have hp : (w.alloc (.cells #[.int .i64 tos, .int .i64 id, .int .i64 fl, .int .i64 pt, .int .i64 ttl, .int .i64 pr, .int .u8 (a0.toNat : Int), .int .u8 (a1.toNat : Int), .int .u8 (a2.toNat : Int), .int .u8 (a3.toNat : Int), .int .u8 (a4.toNat : Int), .int .u8 (a5.toNat : Int), .int .u8 (a6.toNat : Int), .int .u8 (a7.toNat : Int), .slice So no co, .slice Sb nb cb] 27)).heap[w.heap.size]? = some (.cells #[.int .i64 tos, .int .i64 id, .int .i64 fl, .int .i64 pt, .int .i64 ttl, .int .i64 pr, .int .u8 (a0.toNat : Int), .int .u8 (a1.toNat : Int), .int .u8 (a2.toNat : Int), .int .u8 (a3.toNat : Int), .int .u8 (a4.toNat : Int), .int .u8 (a5.toNat : Int), .int .u8 (a6.toNat : Int), .int .u8 (a7.toNat : Int), .slice So no co, .slice Sb nb cb] 27 (0, 0)) := by have := heap_alloc_new w (.cells #[.int .i64 tos, .int .i64 id, .int .i64 fl, .int .i64 pt, .int .i64 ttl, .int .i64 pr, .int .u8 (a0.toNat : Int), .int .u8 (a1.toNat : Int), .int .u8 (a2.toNat : Int), .int .u8 (a3.toNat : Int), .int .u8 (a4.toNat : Int), .int .u8 (a5.toNat : Int), .int .u8 (a6.toNat : Int), .int .u8 (a7.toNat : Int), .slice So no co, .slice Sb nb cb] 27); simpa using this
  have zp : w.heap.size < (w.alloc (.cells #[.int .i64 tos, .int .i64 id, .int .i64 fl, .int .i64 pt, .int .i64 ttl, .int .i64 pr, .int .u8 (a0.toNat : Int), .int .u8 (a1.toNat : Int), .int .u8 (a2.toNat : Int), .int .u8 (a3.toNat : Int), .int .u8 (a4.toNat : Int), .int .u8 (a5.toNat : Int), .int .u8 (a6.toNat : Int), .int .u8 (a7.toNat : Int), .slice So no co, .slice Sb nb cb] 27)).heap.size := by simp
  replace bel := bel.alloc bel.size (.cells #[.int .i64 tos, .int .i64 id, .int .i64 fl, .int .i64 pt, .int .i64 ttl, .int .i64 pr, .int .u8 (a0.toNat : Int), .int .u8 (a1.toNat : Int), .int .u8 (a2.toNat : Int), .int .u8 (a3.toNat : Int), .int .u8 (a4.toNat : Int), .int .u8 (a5.toNat : Int), .int .u8 (a6.toNat : Int), .int .u8 (a7.toNat : Int), .slice So no co, .slice Sb nb cb] 27)
  replace ho := ho.below bel
  go_enter Try.func31, Try.ntmps31
  have R7 := cell_lit hp 14 _ rfl
  have R15 := cell_lit hp 0 _ rfl
  have hm := made_b2 X tos (w.alloc (.cells #[.int .i64 tos, .int .i64 id, .int .i64 fl, .int .i64 pt, .int .i64 ttl, .int .i64 pr, .int .u8 (a0.toNat : Int), .int .u8 (a1.toNat : Int), .int .u8 (a2.toNat : Int), .int .u8 (a3.toNat : Int), .int .u8 (a4.toNat : Int), .int .u8 (a5.toNat : Int), .int .u8 (a6.toNat : Int), .int .u8 (a7.toNat : Int), .slice So no co, .slice Sb nb cb] 27))
  rw [show (w.alloc (.cells #[.int .i64 tos, .int .i64 id, .int .i64 fl, .int .i64 pt, .int .i64 ttl, .int .i64 pr, .int .u8 (a0.toNat : Int), .int .u8 (a1.toNat : Int), .int .u8 (a2.toNat : Int), .int .u8 (a3.toNat : Int), .int .u8 (a4.toNat : Int), .int .u8 (a5.toNat : Int), .int .u8 (a6.toNat : Int), .int .u8 (a7.toNat : Int), .slice So no co, .slice Sb nb cb] 27)).heap.size = w.heap.size + 1 by simp] at hm
  replace hp := (Go.heap_alloc_old (w.alloc (.cells #[.int .i64 tos, .int .i64 id, .int .i64 fl, .int .i64 pt, .int .i64 ttl, .int .i64 pr, .int .u8 (a0.toNat : Int), .int .u8 (a1.toNat : Int), .int .u8 (a2.toNat : Int), .int .u8 (a3.toNat : Int), .int .u8 (a4.toNat : Int), .int .u8 (a5.toNat : Int), .int .u8 (a6.toNat : Int), .int .u8 (a7.toNat : Int), .slice So no co, .slice Sb nb cb] 27)) (.cells #[.int .u8 (X % 256), .int .u8 (tos % 256)] 5) (r := w.heap.size) zp).trans hp
  replace zp := Nat.lt_trans zp (show (w.alloc (.cells #[.int .i64 tos, .int .i64 id, .int .i64 fl, .int .i64 pt, .int .i64 ttl, .int .i64 pr, .int .u8 (a0.toNat : Int), .int .u8 (a1.toNat : Int), .int .u8 (a2.toNat : Int), .int .u8 (a3.toNat : Int), .int .u8 (a4.toNat : Int), .int .u8 (a5.toNat : Int), .int .u8 (a6.toNat : Int), .int .u8 (a7.toNat : Int), .slice So no co, .slice Sb nb cb] 27)).heap.size < ((w.alloc (.cells #[.int .i64 tos, .int .i64 id, .int .i64 fl, .int .i64 pt, .int .i64 ttl, .int .i64 pr, .int .u8 (a0.toNat : Int), .int .u8 (a1.toNat : Int), .int .u8 (a2.toNat : Int), .int .u8 (a3.toNat : Int), .int .u8 (a4.toNat : Int), .int .u8 (a5.toNat : Int), .int .u8 (a6.toNat : Int), .int .u8 (a7.toNat : Int), .slice So no co, .slice Sb nb cb] 27)).alloc (.cells #[.int .u8 (X % 256), .int .u8 (tos % 256)] 5)).heap.size by simp)
  replace ho := ho.below ((Below.refl (w.alloc (.cells #[.int .i64 tos, .int .i64 id, .int .i64 fl, .int .i64 pt, .int .i64 ttl, .int .i64 pr, .int .u8 (a0.toNat : Int), .int .u8 (a1.toNat : Int), .int .u8 (a2.toNat : Int), .int .u8 (a3.toNat : Int), .int .u8 (a4.toNat : Int), .int .u8 (a5.toNat : Int), .int .u8 (a6.toNat : Int), .int .u8 (a7.toNat : Int), .slice So no co, .slice Sb nb cb] 27)).heap.size (w.alloc (.cells #[.int .i64 tos, .int .i64 id, .int .i64 fl, .int .i64 pt, .int .i64 ttl, .int .i64 pr, .int .u8 (a0.toNat : Int), .int .u8 (a1.toNat : Int), .int .u8 (a2.toNat : Int), .int .u8 (a3.toNat : Int), .int .u8 (a4.toNat : Int), .int .u8 (a5.toNat : Int), .int .u8 (a6.toNat : Int), .int .u8 (a7.toNat : Int), .slice So no co, .slice Sb nb cb] 27))).alloc (Nat.le_refl _) (.cells #[.int .u8 (X % 256), .int .u8 (tos % 256)] 5))
  replace bel := bel.alloc bel.size (.cells #[.int .u8 (X % 256), .int .u8 (tos % 256)] 5)
  have R21 := cell_lit hp 15 _ rfl
  go_wp2_with fail
  with_reducible refine (w16_to _ 2 4 2 _ _ _ rfl hm (by omega)).mono ?_
  clear R7 R15 R21
  rintro e w1 ⟨A1, c1, rfl, h1_, b1⟩
  replace hp := (b1.block _ zp).trans hp
  replace zp := Nat.lt_of_lt_of_le zp b1.size
  clear hm
  replace ho := ho.below b1
  replace bel := bel.trans (b1.mono bel.size)
  clear b1
  have h1 := h1_
  clear h1_
  have R27 := cell_lit hp 1 _ rfl
  go_wp2_with fail
  with_reducible refine (w16_to A1 4 6 c1 _ _ _ rfl h1 (by omega)).mono ?_
  clear R27
  rintro e w2 ⟨A2, c2, rfl, h2_, b2⟩
  replace hp := (b2.block _ zp).trans hp
  replace zp := Nat.lt_of_lt_of_le zp b2.size
  clear h1
  replace ho := ho.below b2
  replace bel := bel.trans (b2.mono bel.size)
  clear b2
  have h2 := h2_
  clear h2_
  have R31 := cell_lit hp 2 _ rfl
  have R34 := cell_lit hp 3 _ rfl
  go_wp2_with fail
  have m1zp := zp
  have m1sho := ho
  have m1sh2 := h2
  have m1w := bel.size
  with_reducible refine (w16_oto A2 6 8 c2 _ _ _ rfl h2 (by omega)).mono ?_
  clear R31 R34
  rintro e w3 ⟨v1, rfl, hown, m1b⟩
  replace hp := (m1b.block _ zp).trans hp
  replace zp := Nat.lt_of_lt_of_le zp m1b.size
  replace ho := ho.below m1b
  replace h2 := h2.below m1b
  have m1 := m1b.size
  replace bel := bel.trans (m1b.mono bel.size)
  clear h2 m1sh2
  have R39 := cell_lit hp 4 _ rfl
  have R42 := cell_lit hp 5 _ rfl
  have hm := made_b2 ttl pr w3
  replace hp := (Go.heap_alloc_old w3 (.cells #[.int .u8 (ttl % 256), .int .u8 (pr % 256)] 5) (r := w.heap.size) zp).trans hp
  replace zp := Nat.lt_trans zp (show w3.heap.size < (w3.alloc (.cells #[.int .u8 (ttl % 256), .int .u8 (pr % 256)] 5)).heap.size by simp)
  replace ho := ho.below ((Below.refl w3.heap.size w3).alloc (Nat.le_refl _) (.cells #[.int .u8 (ttl % 256), .int .u8 (pr % 256)] 5))
  replace hown := hown.alloc (.cells #[.int .u8 (ttl % 256), .int .u8 (pr % 256)] 5)
  replace m1b := m1b.alloc m1 (.cells #[.int .u8 (ttl % 256), .int .u8 (pr % 256)] 5)
  replace m1 : _ ≤ (w3.alloc (.cells #[.int .u8 (ttl % 256), .int .u8 (pr % 256)] 5)).heap.size := Nat.le_trans m1 (by simp)
  replace bel := bel.alloc bel.size (.cells #[.int .u8 (ttl % 256), .int .u8 (pr % 256)] 5)
  go_wp2_with (first | (at_builtin; refine wpList_append_bb _ rfl (.tmp 38) (.tmp 45) 25 rfl (w2.heap.size) 5 ii (.int .u8 0) Try.underlying25 hii hz0 hz1 hz2 rfl v1 (8) ([byteOf X, byteOf tos] ++ two (20 + (no : Int) + nb) ++ two id ++ two (fl * 8192 + pt)) rfl hown (_) (2) (2) ([byteOf ttl, byteOf pr]) rfl hm ?c1 ?c2 ?_))
  case c1 => omega
  case c2 => exact m1
  intro r4 y4 hown2_ bb
  replace hp := (bb.block _ m1zp).trans hp
  replace zp := Nat.lt_of_lt_of_le zp bb.size
  replace m1b := m1b.trans bb
  replace bel := bel.trans (bb.mono m1w)
  replace m1 := Nat.le_trans m1 bb.size
  clear hown bb
  replace ho := m1sho.below m1b
  have hown2 := hown2_
  clear hown2_
  clear R39 R42 hm
  replace hown2 : y4.ownsRow w2.heap.size 5 1 r4 10 ((BA).map u8v) := by rw [HBB.out]; exact hown2
  obtain ⟨A3, c3, rfl, hbf⟩ := Sl.of_own hown2
  clear hown2
  clear m1 m1b m1zp m1w m1sho
  go_wp2_with fail
  replace bel := bel.drew
  replace hp : y4.drew.heap[w.heap.size]? = some (.cells #[.int .i64 tos, .int .i64 id, .int .i64 fl, .int .i64 pt, .int .i64 ttl, .int .i64 pr, .int .u8 (a0.toNat : Int), .int .u8 (a1.toNat : Int), .int .u8 (a2.toNat : Int), .int .u8 (a3.toNat : Int), .int .u8 (a4.toNat : Int), .int .u8 (a5.toNat : Int), .int .u8 (a6.toNat : Int), .int .u8 (a7.toNat : Int), .slice So no co, .slice Sb nb cb] 27 (0, 0)) := hp
  replace zp : w.heap.size < y4.drew.heap.size := zp
  refine wp_region_held_drew (S := fun W => W.heap[w.heap.size]? = some (.cells #[.int .i64 tos, .int .i64 id, .int .i64 fl, .int .i64 pt, .int .i64 ttl, .int .i64 pr, .int .u8 (a0.toNat : Int), .int .u8 (a1.toNat : Int), .int .u8 (a2.toNat : Int), .int .u8 (a3.toNat : Int), .int .u8 (a4.toNat : Int), .int .u8 (a5.toNat : Int), .int .u8 (a6.toNat : Int), .int .u8 (a7.toNat : Int), .slice So no co, .slice Sb nb cb] 27 (0, 0))) (by kernel_rfl) hp (fun hH => ?_)
  replace ho := ho.drew
  replace hbf := hbf.drew
  generalize y4.drew = vd at bel hp zp ho hbf hH ⊢
  refine wpAnyH_take (i := 0) (v := .agg #[.int .i64 tos, .int .i64 id, .int .i64 fl, .int .i64 pt, .int .i64 ttl, .int .i64 pr, .int .u8 (a0.toNat : Int), .int .u8 (a1.toNat : Int), .int .u8 (a2.toNat : Int), .int .u8 (a3.toNat : Int), .int .u8 (a4.toNat : Int), .int .u8 (a5.toNat : Int), .int .u8 (a6.toNat : Int), .int .u8 (a7.toNat : Int), .slice So no co, .slice Sb nb cb]) rfl (by kernel_rfl) (by kernel_rfl) (by kernel_rfl) (fun _ _ _ h => h) (yieldsIf_load_part (by kernel_rfl) 27 _ rfl (w.heap.size) 0 16 rfl [.int .i64 tos, .int .i64 id, .int .i64 fl, .int .i64 pt, .int .i64 ttl, .int .i64 pr, .int .u8 (a0.toNat : Int), .int .u8 (a1.toNat : Int), .int .u8 (a2.toNat : Int), .int .u8 (a3.toNat : Int), .int .u8 (a4.toNat : Int), .int .u8 (a5.toNat : Int), .int .u8 (a6.toNat : Int), .int .u8 (a7.toNat : Int), .slice So no co, .slice Sb nb cb] 27 (0, 0) (fun W hW => hW) [.int .i64 tos, .int .i64 id, .int .i64 fl, .int .i64 pt, .int .i64 ttl, .int .i64 pr, .int .u8 (a0.toNat : Int), .int .u8 (a1.toNat : Int), .int .u8 (a2.toNat : Int), .int .u8 (a3.toNat : Int), .int .u8 (a4.toNat : Int), .int .u8 (a5.toNat : Int), .int .u8 (a6.toNat : Int), .int .u8 (a7.toNat : Int), .slice So no co, .slice Sb nb cb] rfl _ Try.underlying27 rfl (by kernel_rfl)) hH ?_
  simp only [Act.put, List.getElem_toArray, List.getElem_cons_zero, List.setIfInBounds_toArray, List.set_cons_zero, List.set_cons_succ]
  refine wpAnyH_take (i := 2) (v := ?_) rfl (by kernel_rfl) (by kernel_rfl) (by kernel_rfl) (fun _ _ _ h => h) (Or.inl ⟨by rfl, ?_⟩) hH ?_
  rotate_left
  · ((intro W hW; clear hW; go_simp) <;> with_reducible rfl)
  simp only [Act.put, List.getElem_toArray, List.getElem_cons_zero, List.getElem_cons_succ, List.setIfInBounds_toArray, List.set_cons_zero, List.set_cons_succ]
  refine wpAnyH_take (i := 3) (v := ?_) rfl (by kernel_rfl) (by kernel_rfl) (by kernel_rfl) (fun _ _ _ h => h) (Or.inl ⟨by rfl, ?_⟩) hH ?_
  rotate_left
  · ((intro W hW; have hk := cell_lit (hW) 14 _ rfl; clear hW; go_simp) <;> with_reducible rfl)
  simp only [Act.put, List.getElem_toArray, List.getElem_cons_zero, List.getElem_cons_succ, List.setIfInBounds_toArray, List.set_cons_zero, List.set_cons_succ]
  have mkzp := zp
  have mksho := ho
  have mkshbf := hbf
  have mkw := bel.size
  refine wpAnyH_ready (rs := [1]) (by kernel_rfl) (by simp) ?_
  refine AllReadyH.cons (o := _) rfl (fun K hK => ?_) AllReadyH.nil
  simp only [List.getElem_toArray, List.getElem_cons_zero, List.getElem_cons_succ]
  go_simp
  with_reducible refine (ends_o tos id fl pt ttl pr a0 a1 a2 a3 a4 a5 a6 a7 So Sb no co nb cb _).mono ?_
  rintro e v41 ⟨v, rfl, hown, b41⟩
  dsimp only
  replace bel := bel.trans (b41.mono bel.size)
  replace hp := (b41.block _ zp).trans hp
  replace zp := Nat.lt_of_lt_of_le zp b41.size
  have mk := b41.size
  have mkb := b41
  replace ho := ho.below b41
  replace hbf := hbf.below b41
  refine hK.out _ _ hp (fun hH41 => ?_)
  clear hK K
  refine wpAnyH_ready (rs := [4]) (by kernel_rfl) (by simp) ?_
  refine AllReadyH.cons (o := _) rfl (fun K hK => ?_) AllReadyH.nil
  simp only [List.getElem_toArray, List.getElem_cons_zero, List.getElem_cons_succ]
  rw [if_pos (by rfl)]
  refine wp_append_bb (.tmp 48) (.tmp 50) 25 rfl (vd.heap.size) 5 ii (.int .u8 0) Try.underlying25 hii hz0 hz1 hz2 rfl v (8) ([a0, a1, a2, a3, a4, a5, a6, a7]) rfl hown (So) (no) (co) (lo) rfl ho (by omega) (by omega) ?_
  intro r42 v42 hown2_ bb
  replace hp := (bb.block _ mkzp).trans hp
  replace zp := Nat.lt_of_lt_of_le zp bb.size
  replace bel := bel.trans (bb.mono mkw)
  clear hown
  replace mkb := mkb.trans bb
  replace mk := Nat.le_trans mk bb.size
  clear bb
  replace ho := mksho.below mkb
  replace hbf := mkshbf.below mkb
  have hown2 := hown2_
  clear hown2_
  refine hK.out _ _ hp (fun hH42 => ?_)
  clear hK K
  refine wpAnyH_take (i := 5) (v := ?_) rfl (by kernel_rfl) (by kernel_rfl) (by kernel_rfl) (fun _ _ _ h => h) (Or.inl ⟨by rfl, ?_⟩) hH42 ?_
  rotate_left
  · ((intro W hW; clear hW; go_simp) <;> with_reducible rfl)
  simp only [Act.put, List.getElem_toArray, List.getElem_cons_zero, List.getElem_cons_succ, List.setIfInBounds_toArray, List.set_cons_zero, List.set_cons_succ]
  refine wpAnyH_done (by kernel_rfl) ?_ _
  obtain ⟨A4, c4, rfl, hbh⟩ := Sl.of_own hown2
  clear hown2
  have hs2 := Sls.two hbf hbh
  replace hp := (Go.heap_alloc_old v42 (.cells #[.slice A3 10 c3, .slice A4 (8 + no) c4] 25) (r := w.heap.size) zp).trans hp
  replace zp := Nat.lt_trans zp (show v42.heap.size < (v42.alloc (.cells #[.slice A3 10 c3, .slice A4 (8 + no) c4] 25)).heap.size by simp)
  replace ho := ho.below ((Below.refl v42.heap.size v42).alloc (Nat.le_refl _) (.cells #[.slice A3 10 c3, .slice A4 (8 + no) c4] 25))
  replace hbf := hbf.below ((Below.refl v42.heap.size v42).alloc (Nat.le_refl _) (.cells #[.slice A3 10 c3, .slice A4 (8 + no) c4] 25))
  replace hbh := hbh.below ((Below.refl v42.heap.size v42).alloc (Nat.le_refl _) (.cells #[.slice A3 10 c3, .slice A4 (8 + no) c4] 25))
  replace bel := bel.alloc bel.size (.cells #[.slice A3 10 c3, .slice A4 (8 + no) c4] 25)
  go_wp2_with fail
  with_reducible refine (many_any _ 2 2 _ _ (by unfold maxLen; omega) hs2).mono ?_
  rintro e _ ⟨rfl, rfl⟩
  clear hs2
  obtain ⟨sm, hsm⟩ : ∃ sm, Hid (ck [BA, [a0, a1, a2, a3, a4, a5, a6, a7] ++ lo].flatten = sm) := ⟨_, Lib.hid rfl⟩
  rw [hsm.out]
  generalize (v42.alloc (.cells #[.slice A3 10 c3, .slice A4 (8 + no) c4] 25)) = v60 at hp zp ho hbf hbh bel ⊢
  go_wp2_with fail
  have m2zp := zp
  have m2sho := ho
  have m2shbf := hbf
  have m2shbh := hbh
  have m2w := bel.size
  with_reducible refine (w16_oto A3 10 12 c3 _ _ _ rfl hbf (by omega)).mono ?_
  rintro e w5 ⟨v2, rfl, hown, m2b⟩
  replace hp := (m2b.block _ zp).trans hp
  replace zp := Nat.lt_of_lt_of_le zp m2b.size
  replace ho := ho.below m2b
  replace hbf := hbf.below m2b
  replace hbh := hbh.below m2b
  have m2 := m2b.size
  replace bel := bel.trans (m2b.mono bel.size)
  go_wp2_with (first | (at_builtin; refine wpList_append_bb _ rfl (.tmp 58) (.tmp 59) 25 rfl (v60.heap.size) 5 ii (.int .u8 0) Try.underlying25 hii hz0 hz1 hz2 rfl v2 (12) (BA ++ two sm) rfl hown (A4) (8 + no) (c4) ([a0, a1, a2, a3, a4, a5, a6, a7] ++ lo) rfl hbh ?c1 ?c2 ?_))
  case c1 => omega
  case c2 => exact m2
  intro r6 y6 hown2_ bb
  replace hp := (bb.block _ m2zp).trans hp
  replace zp := Nat.lt_of_lt_of_le zp bb.size
  replace m2b := m2b.trans bb
  replace bel := bel.trans (bb.mono m2w)
  replace m2 := Nat.le_trans m2 bb.size
  clear hown bb
  replace ho := m2sho.below m2b
  replace hbf := m2shbf.below m2b
  replace hbh := m2shbh.below m2b
  have hown2 := hown2_
  clear hown2_
  go_wp2
  go_ret
  exact ⟨r6, rfl, by rw [HBA.out, show 20 + no = 12 + (8 + no) by omega]; have e2 := hsm.out; simp only [List.cons_append, List.nil_append] at e2 ⊢; rw [e2]; simp only [List.map_append, List.map_cons, List.append_assoc] at hown2 ⊢; exact ownsRow_mono hown2 m2w, bel⟩

theorem hd_eq (tos id fl pt ttl pr : Int) (a0 a1 a2 a3 a4 a5 a6 a7 : UInt8) (lo lb : List UInt8) :
    hdA tos id fl pt ttl pr lo.length lb.length ++ two (ck [hdA tos id fl pt ttl pr lo.length lb.length, [a0, a1, a2, a3, a4, a5, a6, a7] ++ lo].flatten) ++ ([a0, a1, a2, a3, a4, a5, a6, a7] ++ lo) ++ lb = ipBytes tos id fl pt ttl pr a0 a1 a2 a3 a4 a5 a6 a7 lo lb := by
  have ec : ck (ipHd tos id fl pt ttl pr a0 a1 a2 a3 a4 a5 a6 a7 lo lb.length) = ck [hdA tos id fl pt ttl pr lo.length lb.length, [a0, a1, a2, a3, a4, a5, a6, a7] ++ lo].flatten := by
    refine ck_of_ws ?_
    have e : ipHd tos id fl pt ttl pr a0 a1 a2 a3 a4 a5 a6 a7 lo lb.length = hdA tos id fl pt ttl pr lo.length lb.length ++ 0 :: 0 :: ([a0, a1, a2, a3, a4, a5, a6, a7] ++ lo) := by
      unfold ipHd hdA two
      simp
    rw [e, ws_at _ _ _ _ (by simp [hdA, two]), List.flatten_cons, List.flatten_cons, List.flatten_nil, List.append_nil, ws_even (hdA tos id fl pt ttl pr lo.length lb.length) _ (by simp [hdA, two])]
    simp
  unfold ipBytes
  rw [ec]
  generalize ck [hdA tos id fl pt ttl pr lo.length lb.length, [a0, a1, a2, a3, a4, a5, a6, a7] ++ lo].flatten = s
  unfold ipHd hdA two
  simp
/-- What Put answers: memory of its own. -/
def PutPost (tos id fl pt ttl pr : Int) (a0 a1 a2 a3 a4 a5 a6 a7 : UInt8) (lo lb : List UInt8) (w : World) (e : Ending) (w' : World) : Prop :=
  ∃ (v : Value) (r : List UInt8) (er : Int), e = .returned (.tuple #[v, .int .i64 er]) ∧ w'.ownsRow w.heap.size 5 1 v r.length (r.map u8v) ∧ Below w.heap.size w w' ∧ (r, er) = ipPut tos id fl pt ttl pr a0 a1 a2 a3 a4 a5 a6 a7 lo lb
set_option maxRecDepth 100000 in
set_option maxHeartbeats 16000000 in
theorem ipput_bad (tos id fl pt ttl pr : Int) (a0 a1 a2 a3 a4 a5 a6 a7 : UInt8) (So Sb : Option Addr) (no co nb cb : Nat) (lo lb : List UInt8) (w : World) (ho : Sl w So no co lo) (hf : ipFits tos id fl pt ttl pr lo = false) :
    Calls Try.prog 13 #[.agg #[.int .i64 tos, .int .i64 id, .int .i64 fl, .int .i64 pt, .int .i64 ttl, .int .i64 pr, .int .u8 (a0.toNat : Int), .int .u8 (a1.toNat : Int), .int .u8 (a2.toNat : Int), .int .u8 (a3.toNat : Int), .int .u8 (a4.toNat : Int), .int .u8 (a5.toNat : Int), .int .u8 (a6.toNat : Int), .int .u8 (a7.toNat : Int), .slice So no co, .slice Sb nb cb]] w (PutPost tos id fl pt ttl pr a0 a1 a2 a3 a4 a5 a6 a7 lo lb w) := by
  have HLO := Lib.hid ho.1
  have HF := Lib.hid hf
  have HP : Hid (([], 1) = ipPut tos id fl pt ttl pr a0 a1 a2 a3 a4 a5 a6 a7 lo lb) := Lib.hid (by unfold ipPut; rw [if_pos hf])
  clear hf ho
  have bel := Below.refl w.heap.size w
  have hp : (w.alloc (.cells #[.int .i64 tos, .int .i64 id, .int .i64 fl, .int .i64 pt, .int .i64 ttl, .int .i64 pr, .int .u8 (a0.toNat : Int), .int .u8 (a1.toNat : Int), .int .u8 (a2.toNat : Int), .int .u8 (a3.toNat : Int), .int .u8 (a4.toNat : Int), .int .u8 (a5.toNat : Int), .int .u8 (a6.toNat : Int), .int .u8 (a7.toNat : Int), .slice So no co, .slice Sb nb cb] 27)).heap[w.heap.size]? = some (.cells #[.int .i64 tos, .int .i64 id, .int .i64 fl, .int .i64 pt, .int .i64 ttl, .int .i64 pr, .int .u8 (a0.toNat : Int), .int .u8 (a1.toNat : Int), .int .u8 (a2.toNat : Int), .int .u8 (a3.toNat : Int), .int .u8 (a4.toNat : Int), .int .u8 (a5.toNat : Int), .int .u8 (a6.toNat : Int), .int .u8 (a7.toNat : Int), .slice So no co, .slice Sb nb cb] 27 (0, 0)) := by have := heap_alloc_new w (.cells #[.int .i64 tos, .int .i64 id, .int .i64 fl, .int .i64 pt, .int .i64 ttl, .int .i64 pr, .int .u8 (a0.toNat : Int), .int .u8 (a1.toNat : Int), .int .u8 (a2.toNat : Int), .int .u8 (a3.toNat : Int), .int .u8 (a4.toNat : Int), .int .u8 (a5.toNat : Int), .int .u8 (a6.toNat : Int), .int .u8 (a7.toNat : Int), .slice So no co, .slice Sb nb cb] 27); simpa using this
  have zp : w.heap.size < (w.alloc (.cells #[.int .i64 tos, .int .i64 id, .int .i64 fl, .int .i64 pt, .int .i64 ttl, .int .i64 pr, .int .u8 (a0.toNat : Int), .int .u8 (a1.toNat : Int), .int .u8 (a2.toNat : Int), .int .u8 (a3.toNat : Int), .int .u8 (a4.toNat : Int), .int .u8 (a5.toNat : Int), .int .u8 (a6.toNat : Int), .int .u8 (a7.toNat : Int), .slice So no co, .slice Sb nb cb] 27)).heap.size := by simp
  replace bel := bel.alloc bel.size (.cells #[.int .i64 tos, .int .i64 id, .int .i64 fl, .int .i64 pt, .int .i64 ttl, .int .i64 pr, .int .u8 (a0.toNat : Int), .int .u8 (a1.toNat : Int), .int .u8 (a2.toNat : Int), .int .u8 (a3.toNat : Int), .int .u8 (a4.toNat : Int), .int .u8 (a5.toNat : Int), .int .u8 (a6.toNat : Int), .int .u8 (a7.toNat : Int), .slice So no co, .slice Sb nb cb] 27)
  go_enter Try.func13, Try.ntmps13
  have R1 := Lib.hid (range_lit hp 0 16 [.int .i64 tos, .int .i64 id, .int .i64 fl, .int .i64 pt, .int .i64 ttl, .int .i64 pr, .int .u8 (a0.toNat : Int), .int .u8 (a1.toNat : Int), .int .u8 (a2.toNat : Int), .int .u8 (a3.toNat : Int), .int .u8 (a4.toNat : Int), .int .u8 (a5.toNat : Int), .int .u8 (a6.toNat : Int), .int .u8 (a7.toNat : Int), .slice So no co, .slice Sb nb cb] rfl)
  go_wp2_with (first | ((with_reducible show wpList _ _ _ (⟨some 4, _, _, _, _, _⟩ :: _) _ _); refine wpList_load_rng 27 (.tmp 1) rfl (by kernel_rfl) _ _ rfl _ R1.out _ Try.underlying27 rfl (by kernel_rfl) ?_))
  with_reducible refine (fits_any tos id fl pt ttl pr a0 a1 a2 a3 a4 a5 a6 a7 So Sb no co nb cb lo _ HLO.out).mono ?_
  clear R1
  rintro e w1 ⟨rfl, b1⟩
  replace hp := (b1.block _ zp).trans hp
  replace zp := Nat.lt_of_lt_of_le zp b1.size
  replace bel := bel.trans (b1.mono bel.size)
  clear b1
  rw [HF.out]
  go_wp2
  exact bodyPost_ret (v := .tuple #[.slice none 0 0, .int .i64 1]) (by simp [results, Try.results13, go_sem]) rfl ⟨_, [], 1, rfl, World.ownsRow_nil _ _ _ _, bel, HP.out⟩
set_option maxRecDepth 100000 in
set_option maxHeartbeats 16000000 in
theorem ipput_long (tos id fl pt ttl pr : Int) (a0 a1 a2 a3 a4 a5 a6 a7 : UInt8) (So Sb : Option Addr) (no co nb cb : Nat) (lo lb : List UInt8) (w : World) (ho : Sl w So no co lo) (hb : Sl w Sb nb cb lb) (hf : ipFits tos id fl pt ttl pr lo = true) (hn : 1500 < 20 + no + nb) (hm : nb ≤ 140737488355328) :
    Calls Try.prog 13 #[.agg #[.int .i64 tos, .int .i64 id, .int .i64 fl, .int .i64 pt, .int .i64 ttl, .int .i64 pr, .int .u8 (a0.toNat : Int), .int .u8 (a1.toNat : Int), .int .u8 (a2.toNat : Int), .int .u8 (a3.toNat : Int), .int .u8 (a4.toNat : Int), .int .u8 (a5.toNat : Int), .int .u8 (a6.toNat : Int), .int .u8 (a7.toNat : Int), .slice So no co, .slice Sb nb cb]] w (PutPost tos id fl pt ttl pr a0 a1 a2 a3 a4 a5 a6 a7 lo lb w) := by
  have HLO := Lib.hid ho.1
  have HF := Lib.hid hf
  have HP : Hid (([], 2) = ipPut tos id fl pt ttl pr a0 a1 a2 a3 a4 a5 a6 a7 lo lb) := Lib.hid (by unfold ipPut; rw [if_neg (by rw [hf]; decide), if_pos (by rw [ho.1, hb.1]; exact hn)])
  have n0 : (0 : Int) ≤ no := by omega
  have n1 : (no : Int) ≤ 40 := by obtain ⟨_, _, _, _, _, _, h, _⟩ := of_decide_eq_true hf; rw [ho.1] at h; omega
  have n2 : (0 : Int) ≤ nb := by omega
  have n3 : (nb : Int) ≤ 140737488355328 := by omega
  have n4 : (1500 : Int) < 20 + (no : Int) + nb := by omega
  clear hf ho hb hn hm
  have bel := Below.refl w.heap.size w
  have hp : (w.alloc (.cells #[.int .i64 tos, .int .i64 id, .int .i64 fl, .int .i64 pt, .int .i64 ttl, .int .i64 pr, .int .u8 (a0.toNat : Int), .int .u8 (a1.toNat : Int), .int .u8 (a2.toNat : Int), .int .u8 (a3.toNat : Int), .int .u8 (a4.toNat : Int), .int .u8 (a5.toNat : Int), .int .u8 (a6.toNat : Int), .int .u8 (a7.toNat : Int), .slice So no co, .slice Sb nb cb] 27)).heap[w.heap.size]? = some (.cells #[.int .i64 tos, .int .i64 id, .int .i64 fl, .int .i64 pt, .int .i64 ttl, .int .i64 pr, .int .u8 (a0.toNat : Int), .int .u8 (a1.toNat : Int), .int .u8 (a2.toNat : Int), .int .u8 (a3.toNat : Int), .int .u8 (a4.toNat : Int), .int .u8 (a5.toNat : Int), .int .u8 (a6.toNat : Int), .int .u8 (a7.toNat : Int), .slice So no co, .slice Sb nb cb] 27 (0, 0)) := by have := heap_alloc_new w (.cells #[.int .i64 tos, .int .i64 id, .int .i64 fl, .int .i64 pt, .int .i64 ttl, .int .i64 pr, .int .u8 (a0.toNat : Int), .int .u8 (a1.toNat : Int), .int .u8 (a2.toNat : Int), .int .u8 (a3.toNat : Int), .int .u8 (a4.toNat : Int), .int .u8 (a5.toNat : Int), .int .u8 (a6.toNat : Int), .int .u8 (a7.toNat : Int), .slice So no co, .slice Sb nb cb] 27); simpa using this
  have zp : w.heap.size < (w.alloc (.cells #[.int .i64 tos, .int .i64 id, .int .i64 fl, .int .i64 pt, .int .i64 ttl, .int .i64 pr, .int .u8 (a0.toNat : Int), .int .u8 (a1.toNat : Int), .int .u8 (a2.toNat : Int), .int .u8 (a3.toNat : Int), .int .u8 (a4.toNat : Int), .int .u8 (a5.toNat : Int), .int .u8 (a6.toNat : Int), .int .u8 (a7.toNat : Int), .slice So no co, .slice Sb nb cb] 27)).heap.size := by simp
  replace bel := bel.alloc bel.size (.cells #[.int .i64 tos, .int .i64 id, .int .i64 fl, .int .i64 pt, .int .i64 ttl, .int .i64 pr, .int .u8 (a0.toNat : Int), .int .u8 (a1.toNat : Int), .int .u8 (a2.toNat : Int), .int .u8 (a3.toNat : Int), .int .u8 (a4.toNat : Int), .int .u8 (a5.toNat : Int), .int .u8 (a6.toNat : Int), .int .u8 (a7.toNat : Int), .slice So no co, .slice Sb nb cb] 27)
  go_enter Try.func13, Try.ntmps13
  have R1 := Lib.hid (range_lit hp 0 16 [.int .i64 tos, .int .i64 id, .int .i64 fl, .int .i64 pt, .int .i64 ttl, .int .i64 pr, .int .u8 (a0.toNat : Int), .int .u8 (a1.toNat : Int), .int .u8 (a2.toNat : Int), .int .u8 (a3.toNat : Int), .int .u8 (a4.toNat : Int), .int .u8 (a5.toNat : Int), .int .u8 (a6.toNat : Int), .int .u8 (a7.toNat : Int), .slice So no co, .slice Sb nb cb] rfl)
  go_wp2_with (first | ((with_reducible show wpList _ _ _ (⟨some 4, _, _, _, _, _⟩ :: _) _ _); refine wpList_load_rng 27 (.tmp 1) rfl (by kernel_rfl) _ _ rfl _ R1.out _ Try.underlying27 rfl (by kernel_rfl) ?_))
  with_reducible refine (fits_any tos id fl pt ttl pr a0 a1 a2 a3 a4 a5 a6 a7 So Sb no co nb cb lo _ HLO.out).mono ?_
  clear R1
  rintro e w1 ⟨rfl, b1⟩
  replace hp := (b1.block _ zp).trans hp
  replace zp := Nat.lt_of_lt_of_le zp b1.size
  replace bel := bel.trans (b1.mono bel.size)
  clear b1
  rw [HF.out]
  have R7 := cell_lit hp 14 _ rfl
  have R11 := cell_lit hp 15 _ rfl
  go_wp2
  exact bodyPost_ret (v := .tuple #[.slice none 0 0, .int .i64 2]) (by simp [results, Try.results13, go_sem]) rfl ⟨_, [], 2, rfl, World.ownsRow_nil _ _ _ _, bel, HP.out⟩
set_option maxRecDepth 100000 in
set_option maxHeartbeats 16000000 in
theorem ipput_ok (tos id fl pt ttl pr : Int) (a0 a1 a2 a3 a4 a5 a6 a7 : UInt8) (So Sb : Option Addr) (no co nb cb : Nat) (lo lb : List UInt8) (w : World) (ho : Sl w So no co lo) (hb : Sl w Sb nb cb lb) (hf : ipFits tos id fl pt ttl pr lo = true) (hn : 20 + no + nb ≤ 1500) :
    Calls Try.prog 13 #[.agg #[.int .i64 tos, .int .i64 id, .int .i64 fl, .int .i64 pt, .int .i64 ttl, .int .i64 pr, .int .u8 (a0.toNat : Int), .int .u8 (a1.toNat : Int), .int .u8 (a2.toNat : Int), .int .u8 (a3.toNat : Int), .int .u8 (a4.toNat : Int), .int .u8 (a5.toNat : Int), .int .u8 (a6.toNat : Int), .int .u8 (a7.toNat : Int), .slice So no co, .slice Sb nb cb]] w (PutPost tos id fl pt ttl pr a0 a1 a2 a3 a4 a5 a6 a7 lo lb w) := by
  obtain ⟨ii, hii, hz0, hz1, hz2⟩ := info_parts Try.info5
  have hl1 := ho.1
  have hl2 := hb.1
  have HLO := Lib.hid hl1
  have HF := Lib.hid hf
  obtain ⟨HDR, HH⟩ : ∃ HDR, Hid (hdA tos id fl pt ttl pr no nb ++ two (ck [hdA tos id fl pt ttl pr no nb, [a0, a1, a2, a3, a4, a5, a6, a7] ++ lo].flatten) ++ ([a0, a1, a2, a3, a4, a5, a6, a7] ++ lo) = HDR) := ⟨_, Lib.hid rfl⟩
  have he := hd_eq tos id fl pt ttl pr a0 a1 a2 a3 a4 a5 a6 a7 lo lb
  rw [hl1, hl2, HH.out] at he
  have HP : Hid ((HDR ++ lb, 0) = ipPut tos id fl pt ttl pr a0 a1 a2 a3 a4 a5 a6 a7 lo lb) := Lib.hid (by unfold ipPut; rw [if_neg (by rw [hf]; decide), if_neg (by omega), he])
  have HL : Hid ((HDR ++ lb).length = 20 + no + nb) := Lib.hid (by rw [he, ← hl1, ← hl2]; exact (put_good hf (by omega) []).2.2.1)
  have HQ : Hid (0 ≤ fl ∧ fl ≤ 7 ∧ 0 ≤ pt ∧ pt ≤ 8191 ∧ no ≤ 40) := Lib.hid (by obtain ⟨_, _, h3, h4, _, _, h, _⟩ := of_decide_eq_true hf; rw [hl1] at h; exact ⟨h3.1, h3.2, h4.1, h4.2, h⟩)
  have n0 : (0 : Int) ≤ no := by omega
  have n1 : (no : Int) ≤ 40 := by have := HQ.out.2.2.2.2; omega
  have n2 : (0 : Int) ≤ nb := by omega
  have n4 : decide ((1500 : Int) < 20 + (no : Int) + nb) = false := decide_eq_false (by omega)
  have n5 : (nb : Int) ≤ 1500 := by omega
  have HN := Lib.hid hn
  have HO := Lib.hid fun W (h : Below w.heap.size w W) => ho.below h
  have HB := Lib.hid fun W (h : Below w.heap.size w W) => hb.below h
  clear hf hn he hl1 hl2 ho hb
  have bel := Below.refl w.heap.size w
  have hp : (w.alloc (.cells #[.int .i64 tos, .int .i64 id, .int .i64 fl, .int .i64 pt, .int .i64 ttl, .int .i64 pr, .int .u8 (a0.toNat : Int), .int .u8 (a1.toNat : Int), .int .u8 (a2.toNat : Int), .int .u8 (a3.toNat : Int), .int .u8 (a4.toNat : Int), .int .u8 (a5.toNat : Int), .int .u8 (a6.toNat : Int), .int .u8 (a7.toNat : Int), .slice So no co, .slice Sb nb cb] 27)).heap[w.heap.size]? = some (.cells #[.int .i64 tos, .int .i64 id, .int .i64 fl, .int .i64 pt, .int .i64 ttl, .int .i64 pr, .int .u8 (a0.toNat : Int), .int .u8 (a1.toNat : Int), .int .u8 (a2.toNat : Int), .int .u8 (a3.toNat : Int), .int .u8 (a4.toNat : Int), .int .u8 (a5.toNat : Int), .int .u8 (a6.toNat : Int), .int .u8 (a7.toNat : Int), .slice So no co, .slice Sb nb cb] 27 (0, 0)) := by have := heap_alloc_new w (.cells #[.int .i64 tos, .int .i64 id, .int .i64 fl, .int .i64 pt, .int .i64 ttl, .int .i64 pr, .int .u8 (a0.toNat : Int), .int .u8 (a1.toNat : Int), .int .u8 (a2.toNat : Int), .int .u8 (a3.toNat : Int), .int .u8 (a4.toNat : Int), .int .u8 (a5.toNat : Int), .int .u8 (a6.toNat : Int), .int .u8 (a7.toNat : Int), .slice So no co, .slice Sb nb cb] 27); simpa using this
  have zp : w.heap.size < (w.alloc (.cells #[.int .i64 tos, .int .i64 id, .int .i64 fl, .int .i64 pt, .int .i64 ttl, .int .i64 pr, .int .u8 (a0.toNat : Int), .int .u8 (a1.toNat : Int), .int .u8 (a2.toNat : Int), .int .u8 (a3.toNat : Int), .int .u8 (a4.toNat : Int), .int .u8 (a5.toNat : Int), .int .u8 (a6.toNat : Int), .int .u8 (a7.toNat : Int), .slice So no co, .slice Sb nb cb] 27)).heap.size := by simp
  replace bel := bel.alloc bel.size (.cells #[.int .i64 tos, .int .i64 id, .int .i64 fl, .int .i64 pt, .int .i64 ttl, .int .i64 pr, .int .u8 (a0.toNat : Int), .int .u8 (a1.toNat : Int), .int .u8 (a2.toNat : Int), .int .u8 (a3.toNat : Int), .int .u8 (a4.toNat : Int), .int .u8 (a5.toNat : Int), .int .u8 (a6.toNat : Int), .int .u8 (a7.toNat : Int), .slice So no co, .slice Sb nb cb] 27)
  go_enter Try.func13, Try.ntmps13
  have R1 := Lib.hid (range_lit hp 0 16 [.int .i64 tos, .int .i64 id, .int .i64 fl, .int .i64 pt, .int .i64 ttl, .int .i64 pr, .int .u8 (a0.toNat : Int), .int .u8 (a1.toNat : Int), .int .u8 (a2.toNat : Int), .int .u8 (a3.toNat : Int), .int .u8 (a4.toNat : Int), .int .u8 (a5.toNat : Int), .int .u8 (a6.toNat : Int), .int .u8 (a7.toNat : Int), .slice So no co, .slice Sb nb cb] rfl)
  go_wp2_with (first | ((with_reducible show wpList _ _ _ (⟨some 4, _, _, _, _, _⟩ :: _) _ _); refine wpList_load_rng 27 (.tmp 1) rfl (by kernel_rfl) _ _ rfl _ R1.out _ Try.underlying27 rfl (by kernel_rfl) ?_))
  with_reducible refine (fits_any tos id fl pt ttl pr a0 a1 a2 a3 a4 a5 a6 a7 So Sb no co nb cb lo _ HLO.out).mono ?_
  clear R1
  rintro e w1 ⟨rfl, b1⟩
  replace hp := (b1.block _ zp).trans hp
  replace zp := Nat.lt_of_lt_of_le zp b1.size
  replace bel := bel.trans (b1.mono bel.size)
  clear b1
  rw [HF.out]
  have R7 := cell_lit hp 14 _ rfl
  have R11 := cell_lit hp 15 _ rfl
  have ho1 := HO.out _ bel
  have hb1 := HB.out _ bel
  go_wp2_with fail
  clear R7 R11
  replace bel := bel.drew
  replace hp : w1.drew.heap[w.heap.size]? = some (.cells #[.int .i64 tos, .int .i64 id, .int .i64 fl, .int .i64 pt, .int .i64 ttl, .int .i64 pr, .int .u8 (a0.toNat : Int), .int .u8 (a1.toNat : Int), .int .u8 (a2.toNat : Int), .int .u8 (a3.toNat : Int), .int .u8 (a4.toNat : Int), .int .u8 (a5.toNat : Int), .int .u8 (a6.toNat : Int), .int .u8 (a7.toNat : Int), .slice So no co, .slice Sb nb cb] 27 (0, 0)) := hp
  replace zp : w.heap.size < w1.drew.heap.size := zp
  refine wp_region_held_drew (S := fun W => W.heap[w.heap.size]? = some (.cells #[.int .i64 tos, .int .i64 id, .int .i64 fl, .int .i64 pt, .int .i64 ttl, .int .i64 pr, .int .u8 (a0.toNat : Int), .int .u8 (a1.toNat : Int), .int .u8 (a2.toNat : Int), .int .u8 (a3.toNat : Int), .int .u8 (a4.toNat : Int), .int .u8 (a5.toNat : Int), .int .u8 (a6.toNat : Int), .int .u8 (a7.toNat : Int), .slice So no co, .slice Sb nb cb] 27 (0, 0))) (by kernel_rfl) hp (fun hH => ?_)
  replace ho1 := ho1.drew
  replace hb1 := hb1.drew
  generalize w1.drew = vd at bel hp zp ho1 hb1 hH ⊢
  refine wpAnyH_take (i := 0) (v := .agg #[.int .i64 tos, .int .i64 id, .int .i64 fl, .int .i64 pt, .int .i64 ttl, .int .i64 pr, .int .u8 (a0.toNat : Int), .int .u8 (a1.toNat : Int), .int .u8 (a2.toNat : Int), .int .u8 (a3.toNat : Int), .int .u8 (a4.toNat : Int), .int .u8 (a5.toNat : Int), .int .u8 (a6.toNat : Int), .int .u8 (a7.toNat : Int), .slice So no co, .slice Sb nb cb]) rfl (by kernel_rfl) (by kernel_rfl) (by kernel_rfl) (fun _ _ _ h => h) (yieldsIf_load_part (by kernel_rfl) 27 _ rfl (w.heap.size) 0 16 rfl [.int .i64 tos, .int .i64 id, .int .i64 fl, .int .i64 pt, .int .i64 ttl, .int .i64 pr, .int .u8 (a0.toNat : Int), .int .u8 (a1.toNat : Int), .int .u8 (a2.toNat : Int), .int .u8 (a3.toNat : Int), .int .u8 (a4.toNat : Int), .int .u8 (a5.toNat : Int), .int .u8 (a6.toNat : Int), .int .u8 (a7.toNat : Int), .slice So no co, .slice Sb nb cb] 27 (0, 0) (fun W hW => hW) [.int .i64 tos, .int .i64 id, .int .i64 fl, .int .i64 pt, .int .i64 ttl, .int .i64 pr, .int .u8 (a0.toNat : Int), .int .u8 (a1.toNat : Int), .int .u8 (a2.toNat : Int), .int .u8 (a3.toNat : Int), .int .u8 (a4.toNat : Int), .int .u8 (a5.toNat : Int), .int .u8 (a6.toNat : Int), .int .u8 (a7.toNat : Int), .slice So no co, .slice Sb nb cb] rfl _ Try.underlying27 rfl (by kernel_rfl)) hH ?_
  simp only [Act.put, List.getElem_toArray, List.getElem_cons_zero, List.setIfInBounds_toArray, List.set_cons_zero, List.set_cons_succ]
  refine wpAnyH_take (i := 2) (v := ?_) rfl (by kernel_rfl) (by kernel_rfl) (by kernel_rfl) (fun _ _ _ h => h) (Or.inl ⟨by rfl, ?_⟩) hH ?_
  rotate_left
  · ((intro W hW; clear hW; go_simp) <;> with_reducible rfl)
  simp only [Act.put, List.getElem_toArray, List.getElem_cons_zero, List.getElem_cons_succ, List.setIfInBounds_toArray, List.set_cons_zero, List.set_cons_succ]
  refine wpAnyH_take (i := 3) (v := ?_) rfl (by kernel_rfl) (by kernel_rfl) (by kernel_rfl) (fun _ _ _ h => h) (Or.inl ⟨by rfl, ?_⟩) hH ?_
  rotate_left
  · ((intro W hW; have hk := cell_lit (hW) 15 _ rfl; clear hW; go_simp) <;> with_reducible rfl)
  simp only [Act.put, List.getElem_toArray, List.getElem_cons_zero, List.getElem_cons_succ, List.setIfInBounds_toArray, List.set_cons_zero, List.set_cons_succ]
  have mkzp := zp
  have mksho1 := ho1
  have mkshb1 := hb1
  have mkw := bel.size
  refine wpAnyH_ready (rs := [1]) (by kernel_rfl) (by simp) ?_
  refine AllReadyH.cons (o := _) rfl (fun K hK => ?_) AllReadyH.nil
  simp only [List.getElem_toArray, List.getElem_cons_zero, List.getElem_cons_succ]
  go_simp
  with_reducible refine (header_o tos id fl pt ttl pr a0 a1 a2 a3 a4 a5 a6 a7 So Sb no co nb cb lo _ ho1 HQ.out.1 HQ.out.2.1 HQ.out.2.2.1 HQ.out.2.2.2.1 HQ.out.2.2.2.2 HN.out).mono ?_
  rintro e v21 ⟨v, rfl, hown, b21⟩
  dsimp only
  replace bel := bel.trans (b21.mono bel.size)
  replace hp := (b21.block _ zp).trans hp
  replace zp := Nat.lt_of_lt_of_le zp b21.size
  have mk := b21.size
  have mkb := b21
  replace ho1 := ho1.below b21
  replace hb1 := hb1.below b21
  replace hown : _ := hown
  rw [HH.out] at hown
  refine hK.out _ _ hp (fun hH21 => ?_)
  clear hK K
  refine wpAnyH_ready (rs := [4]) (by kernel_rfl) (by simp) ?_
  refine AllReadyH.cons (o := _) rfl (fun K hK => ?_) AllReadyH.nil
  simp only [List.getElem_toArray, List.getElem_cons_zero, List.getElem_cons_succ]
  rw [if_pos (by rfl)]
  refine wp_append_bb (.tmp 17) (.tmp 19) 25 rfl (vd.heap.size) 5 ii (.int .u8 0) Try.underlying25 hii hz0 hz1 hz2 rfl v (20 + no) (HDR) rfl hown (Sb) (nb) (cb) (lb) rfl hb1 (by have := HN.out; omega) (by omega) ?_
  intro r22 v22 hown2_ bb
  replace hp := (bb.block _ mkzp).trans hp
  replace zp := Nat.lt_of_lt_of_le zp bb.size
  replace bel := bel.trans (bb.mono mkw)
  clear hown
  replace mkb := mkb.trans bb
  replace mk := Nat.le_trans mk bb.size
  clear bb
  replace ho1 := mksho1.below mkb
  replace hb1 := mkshb1.below mkb
  have hown2 := hown2_
  clear hown2_
  refine hK.out _ _ hp (fun hH22 => ?_)
  clear hK K
  refine wpAnyH_take (i := 5) (v := ?_) rfl (by kernel_rfl) (by kernel_rfl) (by kernel_rfl) (fun _ _ _ h => h) (Or.inl ⟨by rfl, ?_⟩) hH22 ?_
  rotate_left
  · ((intro W hW; clear hW; go_simp) <;> with_reducible rfl)
  simp only [Act.put, List.getElem_toArray, List.getElem_cons_zero, List.getElem_cons_succ, List.setIfInBounds_toArray, List.set_cons_zero, List.set_cons_succ]
  refine wpAnyH_take (i := 6) (v := ?_) rfl (by kernel_rfl) (by kernel_rfl) (by kernel_rfl) (fun _ _ _ h => h) (Or.inl ⟨by rfl, ?_⟩) hH22 ?_
  rotate_left
  · ((intro W hW; clear hW; go_simp) <;> with_reducible rfl)
  simp only [Act.put, List.getElem_toArray, List.getElem_cons_zero, List.getElem_cons_succ, List.setIfInBounds_toArray, List.set_cons_zero, List.set_cons_succ]
  refine wpAnyH_done (by kernel_rfl) ?_ _
  go_wp2
  exact bodyPost_ret (v := .tuple #[r22, .int .i64 0]) (by simp [results, Try.results13, go_sem]) rfl ⟨_, HDR ++ lb, 0, rfl, by rw [HL.out]; exact ownsRow_mono hown2 mkw, bel, HP.out⟩
theorem ipput_any (tos id fl pt ttl pr : Int) (a0 a1 a2 a3 a4 a5 a6 a7 : UInt8) (So Sb : Option Addr) (no co nb cb : Nat) (lo lb : List UInt8) (w : World) (ho : Sl w So no co lo) (hb : Sl w Sb nb cb lb) (hm : nb ≤ 140737488355328) :
    Calls Try.prog 13 #[.agg #[.int .i64 tos, .int .i64 id, .int .i64 fl, .int .i64 pt, .int .i64 ttl, .int .i64 pr, .int .u8 (a0.toNat : Int), .int .u8 (a1.toNat : Int), .int .u8 (a2.toNat : Int), .int .u8 (a3.toNat : Int), .int .u8 (a4.toNat : Int), .int .u8 (a5.toNat : Int), .int .u8 (a6.toNat : Int), .int .u8 (a7.toNat : Int), .slice So no co, .slice Sb nb cb]] w (PutPost tos id fl pt ttl pr a0 a1 a2 a3 a4 a5 a6 a7 lo lb w) := by
  rcases (by decide : ∀ b : Bool, b = true ∨ b = false) (ipFits tos id fl pt ttl pr lo) with h | h
  · by_cases hn : 20 + no + nb ≤ 1500
    · exact ipput_ok tos id fl pt ttl pr a0 a1 a2 a3 a4 a5 a6 a7 So Sb no co nb cb lo lb w ho hb h hn
    · exact ipput_long tos id fl pt ttl pr a0 a1 a2 a3 a4 a5 a6 a7 So Sb no co nb cb lo lb w ho hb h (by omega) hm
  · exact ipput_bad tos id fl pt ttl pr a0 a1 a2 a3 a4 a5 a6 a7 So Sb no co nb cb lo lb w ho h
end Go.Proofs.Ytfmllopeeiecjaa
