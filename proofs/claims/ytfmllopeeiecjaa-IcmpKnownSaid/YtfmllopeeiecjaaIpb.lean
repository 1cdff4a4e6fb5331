/- Layer 6: ip4's fields, Get. -/
import Derived.Test.YtfmllopeeiecjaaIpa
import Derived.Test.YtfmllopeeiecjaaRdo
import Derived.Test.YtfmllopeeiecjaaStp
namespace Go.Proofs.Ytfmllopeeiecjaa
open Go.RowKit

set_option maxRecDepth 100000 in
set_option maxHeartbeats 16000000 in
theorem fields_any (A : Option Addr) (n c : Nat) (h0 h1 h2 h3 h4 h5 h6 h7 h8 h9 h10 h11 h12 h13 h14 h15 h16 h17 h18 h19 : UInt8) (r : List UInt8) (w : World) (hl : Sl w A n c (h0 :: h1 :: h2 :: h3 :: h4 :: h5 :: h6 :: h7 :: h8 :: h9 :: h10 :: h11 :: h12 :: h13 :: h14 :: h15 :: h16 :: h17 :: h18 :: h19 :: r)) : Calls Try.prog 57 #[.slice A n c] w fun e w' => e = .returned (.agg #[.int .i64 (h1.toNat : Int), .int .i64 (be [h4, h5] : Nat), .int .i64 ((be [h6, h7] : Nat) / 8192), .int .i64 ((be [h6, h7] : Nat) % 8192), .int .i64 (h8.toNat : Int), .int .i64 (h9.toNat : Int), .int .u8 (h12.toNat : Int), .int .u8 (h13.toNat : Int), .int .u8 (h14.toNat : Int), .int .u8 (h15.toNat : Int), .int .u8 (h16.toNat : Int), .int .u8 (h17.toNat : Int), .int .u8 (h18.toNat : Int), .int .u8 (h19.toNat : Int), .slice none 0 0, .slice none 0 0]) ∧ Below w.heap.size w w' := by
  obtain ⟨AF, cF, sF, hF⟩ := slice_front hl (k := 20) (by have := hl.1; simp at this; omega)
  replace sF : ∀ W, (Instr.slice 25 (.slice A n c) none (some (.int .i64 20)) none).run Try.prog W = .ok (.slice AF 20 cF) W := sF
  replace hF : Sl w AF 20 cF [h0, h1, h2, h3, h4, h5, h6, h7, h8, h9, h10, h11, h12, h13, h14, h15, h16, h17, h18, h19] := hF
  obtain ⟨id, hid⟩ : ∃ id, Hid (be [h4, h5] = id) := ⟨_, Lib.hid rfl⟩
  obtain ⟨xx, hxx⟩ : ∃ xx, Hid (be [h6, h7] = xx) := ⟨_, Lib.hid rfl⟩
  rw [hid.out, hxx.out]
  have bx : xx < 65536 := by have := be_lt 2 [h6, h7] rfl; rw [hxx.out] at this; omega
  have ean := Lib.hid (and8191 xx bx)
  have x2 : (0 : Int) ≤ xx := by omega
  have x3 : (xx : Int) < 65536 := by omega
  clear hl bx
  have bel := Below.refl w.heap.size w
  have hz : (w.alloc (.cells #[.int .i64 0, .int .i64 0, .int .i64 0, .int .i64 0, .int .i64 0, .int .i64 0, .int .u8 0, .int .u8 0, .int .u8 0, .int .u8 0, .int .u8 0, .int .u8 0, .int .u8 0, .int .u8 0, .slice none 0 0, .slice none 0 0] 27)).heap[w.heap.size]? = some (.cells #[.int .i64 0, .int .i64 0, .int .i64 0, .int .i64 0, .int .i64 0, .int .i64 0, .int .u8 0, .int .u8 0, .int .u8 0, .int .u8 0, .int .u8 0, .int .u8 0, .int .u8 0, .int .u8 0, .slice none 0 0, .slice none 0 0] 27 (0, 0)) := by have := heap_alloc_new w (.cells #[.int .i64 0, .int .i64 0, .int .i64 0, .int .i64 0, .int .i64 0, .int .i64 0, .int .u8 0, .int .u8 0, .int .u8 0, .int .u8 0, .int .u8 0, .int .u8 0, .int .u8 0, .int .u8 0, .slice none 0 0, .slice none 0 0] 27); simpa using this
  have zz : w.heap.size < (w.alloc (.cells #[.int .i64 0, .int .i64 0, .int .i64 0, .int .i64 0, .int .i64 0, .int .i64 0, .int .u8 0, .int .u8 0, .int .u8 0, .int .u8 0, .int .u8 0, .int .u8 0, .int .u8 0, .int .u8 0, .slice none 0 0, .slice none 0 0] 27)).heap.size := by simp
  replace bel := bel.alloc bel.size (.cells #[.int .i64 0, .int .i64 0, .int .i64 0, .int .i64 0, .int .i64 0, .int .i64 0, .int .u8 0, .int .u8 0, .int .u8 0, .int .u8 0, .int .u8 0, .int .u8 0, .int .u8 0, .int .u8 0, .slice none 0 0, .slice none 0 0] 27)
  replace hz := (Go.heap_alloc_old (w.alloc (.cells #[.int .i64 0, .int .i64 0, .int .i64 0, .int .i64 0, .int .i64 0, .int .i64 0, .int .u8 0, .int .u8 0, .int .u8 0, .int .u8 0, .int .u8 0, .int .u8 0, .int .u8 0, .int .u8 0, .slice none 0 0, .slice none 0 0] 27)) (.cells #[.int .i64 0, .int .i64 0, .int .i64 0, .int .i64 0, .int .i64 0, .int .i64 0, .int .u8 0, .int .u8 0, .int .u8 0, .int .u8 0, .int .u8 0, .int .u8 0, .int .u8 0, .int .u8 0, .slice none 0 0, .slice none 0 0] 27) (r := w.heap.size) zz).trans hz
  have hp : ((w.alloc (.cells #[.int .i64 0, .int .i64 0, .int .i64 0, .int .i64 0, .int .i64 0, .int .i64 0, .int .u8 0, .int .u8 0, .int .u8 0, .int .u8 0, .int .u8 0, .int .u8 0, .int .u8 0, .int .u8 0, .slice none 0 0, .slice none 0 0] 27)).alloc (.cells #[.int .i64 0, .int .i64 0, .int .i64 0, .int .i64 0, .int .i64 0, .int .i64 0, .int .u8 0, .int .u8 0, .int .u8 0, .int .u8 0, .int .u8 0, .int .u8 0, .int .u8 0, .int .u8 0, .slice none 0 0, .slice none 0 0] 27)).heap[w.heap.size + 1]? = some (.cells #[.int .i64 0, .int .i64 0, .int .i64 0, .int .i64 0, .int .i64 0, .int .i64 0, .int .u8 0, .int .u8 0, .int .u8 0, .int .u8 0, .int .u8 0, .int .u8 0, .int .u8 0, .int .u8 0, .slice none 0 0, .slice none 0 0] 27 (0, 0)) := by have := heap_alloc_new (w.alloc (.cells #[.int .i64 0, .int .i64 0, .int .i64 0, .int .i64 0, .int .i64 0, .int .i64 0, .int .u8 0, .int .u8 0, .int .u8 0, .int .u8 0, .int .u8 0, .int .u8 0, .int .u8 0, .int .u8 0, .slice none 0 0, .slice none 0 0] 27)) (.cells #[.int .i64 0, .int .i64 0, .int .i64 0, .int .i64 0, .int .i64 0, .int .i64 0, .int .u8 0, .int .u8 0, .int .u8 0, .int .u8 0, .int .u8 0, .int .u8 0, .int .u8 0, .int .u8 0, .slice none 0 0, .slice none 0 0] 27); simpa using this
  replace zz := Nat.lt_trans zz (show (w.alloc (.cells #[.int .i64 0, .int .i64 0, .int .i64 0, .int .i64 0, .int .i64 0, .int .i64 0, .int .u8 0, .int .u8 0, .int .u8 0, .int .u8 0, .int .u8 0, .int .u8 0, .int .u8 0, .int .u8 0, .slice none 0 0, .slice none 0 0] 27)).heap.size < ((w.alloc (.cells #[.int .i64 0, .int .i64 0, .int .i64 0, .int .i64 0, .int .i64 0, .int .i64 0, .int .u8 0, .int .u8 0, .int .u8 0, .int .u8 0, .int .u8 0, .int .u8 0, .int .u8 0, .int .u8 0, .slice none 0 0, .slice none 0 0] 27)).alloc (.cells #[.int .i64 0, .int .i64 0, .int .i64 0, .int .i64 0, .int .i64 0, .int .i64 0, .int .u8 0, .int .u8 0, .int .u8 0, .int .u8 0, .int .u8 0, .int .u8 0, .int .u8 0, .int .u8 0, .slice none 0 0, .slice none 0 0] 27)).heap.size by simp)
  have zp : w.heap.size + 1 < ((w.alloc (.cells #[.int .i64 0, .int .i64 0, .int .i64 0, .int .i64 0, .int .i64 0, .int .i64 0, .int .u8 0, .int .u8 0, .int .u8 0, .int .u8 0, .int .u8 0, .int .u8 0, .int .u8 0, .int .u8 0, .slice none 0 0, .slice none 0 0] 27)).alloc (.cells #[.int .i64 0, .int .i64 0, .int .i64 0, .int .i64 0, .int .i64 0, .int .i64 0, .int .u8 0, .int .u8 0, .int .u8 0, .int .u8 0, .int .u8 0, .int .u8 0, .int .u8 0, .int .u8 0, .slice none 0 0, .slice none 0 0] 27)).heap.size := by simp
  replace bel := bel.alloc bel.size (.cells #[.int .i64 0, .int .i64 0, .int .i64 0, .int .i64 0, .int .i64 0, .int .i64 0, .int .u8 0, .int .u8 0, .int .u8 0, .int .u8 0, .int .u8 0, .int .u8 0, .int .u8 0, .int .u8 0, .slice none 0 0, .slice none 0 0] 27)
  replace hF := hF.below bel
  go_enter Try.func57, Try.ntmps57
  go_wp2_with fail
  generalize ((w.alloc (.cells #[.int .i64 0, .int .i64 0, .int .i64 0, .int .i64 0, .int .i64 0, .int .i64 0, .int .u8 0, .int .u8 0, .int .u8 0, .int .u8 0, .int .u8 0, .int .u8 0, .int .u8 0, .int .u8 0, .slice none 0 0, .slice none 0 0] 27)).alloc (.cells #[.int .i64 0, .int .i64 0, .int .i64 0, .int .i64 0, .int .i64 0, .int .i64 0, .int .u8 0, .int .u8 0, .int .u8 0, .int .u8 0, .int .u8 0, .int .u8 0, .int .u8 0, .int .u8 0, .slice none 0 0, .slice none 0 0] 27)) = v0 at hz zz hp zp bel hF ⊢
  with_reducible refine (read_q AF 20 cF _ _ hF (by omega)).mono ?_
  rintro e w1 ⟨g, rfl, hr, b1, hg⟩
  clear sF hF
  replace hz := (b1.block _ zz).trans hz
  replace hp := (b1.block _ zp).trans hp
  replace bel := bel.trans (b1.mono bel.size)
  have zz0 := zz
  have zp0 := zp
  replace zz := Nat.lt_of_lt_of_le zz b1.size
  replace zp := Nat.lt_of_lt_of_le zp b1.size
  clear b1
  obtain ⟨ok, hok⟩ : ∃ ok : Nat → Prop, ok = fun k => v0.heap.size ≤ k := ⟨_, rfl⟩
  rw [← hok] at hr
  have nok : ¬ ok (w.heap.size + 1) := by rw [hok]; show ¬ _ ≤ _; omega
  clear hok
  go_wp2_with fail
  with_reducible refine (u8_q1 g ok h0 _ false _ hr).mono ?_
  rintro e w2 ⟨rfl, qhr, g2⟩
  replace hz := (g2.block _ zz (by intro e; injection e with e; omega)).trans hz
  replace hp := (g2.block _ zp (by intro e; injection e with e; omega)).trans hp
  replace zz := Nat.lt_of_lt_of_le zz g2.size
  replace zp := Nat.lt_of_lt_of_le zp g2.size
  clear hr
  have hr : Ro w2 88 g ok ([h1, h2, h3, h4, h5, h6, h7, h8, h9, h10, h11, h12, h13, h14, h15, h16, h17, h18, h19]) false := qhr
  clear qhr
  replace bel := below_grown bel g2 (by omega) bel.size
  clear g2
  go_wp2_with fail
  with_reducible refine (u8_q1 g ok h1 _ false _ hr).mono ?_
  rintro e w3 ⟨rfl, qhr, g3⟩
  replace hz := (g3.block _ zz (by intro e; injection e with e; omega)).trans hz
  replace hp := (g3.block _ zp (by intro e; injection e with e; omega)).trans hp
  replace zz := Nat.lt_of_lt_of_le zz g3.size
  replace zp := Nat.lt_of_lt_of_le zp g3.size
  clear hr
  have hr : Ro w3 88 g ok ([h2, h3, h4, h5, h6, h7, h8, h9, h10, h11, h12, h13, h14, h15, h16, h17, h18, h19]) false := qhr
  clear qhr
  replace bel := below_grown bel g3 (by omega) bel.size
  clear g3
  go_wp2_with (first | ((with_reducible show wpList _ _ _ (⟨none, Op.store _ _ _, _, _, _, _⟩ :: _) _ _); refine wpList_store_part rfl 3 _ _ rfl (w.heap.size + 1) 0 rfl [.int .i64 (h1.toNat : Int)] rfl [.int .i64 0, .int .i64 0, .int .i64 0, .int .i64 0, .int .i64 0, .int .i64 0, .int .u8 0, .int .u8 0, .int .u8 0, .int .u8 0, .int .u8 0, .int .u8 0, .int .u8 0, .int .u8 0, .slice none 0 0, .slice none 0 0] 27 hp (by simp) [.int .i64 (h1.toNat : Int), .int .i64 0, .int .i64 0, .int .i64 0, .int .i64 0, .int .i64 0, .int .u8 0, .int .u8 0, .int .u8 0, .int .u8 0, .int .u8 0, .int .u8 0, .int .u8 0, .int .u8 0, .slice none 0 0, .slice none 0 0] rfl (by kernel_rfl) (by rfl) ?_; intro x4 qp gp; replace hz := (gp.block _ zz (by intro e; injection e with e; omega)).trans hz; replace zz := Nat.lt_of_lt_of_le zz gp.size; replace zp := Nat.lt_of_lt_of_le zp gp.size; clear hp; have hp := qp; clear qp; replace hr := hr.grown gp nok (by omega); replace bel := below_grown bel gp (by omega) bel.size; clear gp))
  with_reducible refine (u16_q2 g ok h2 h3 _ false _ hr).mono ?_
  rintro e w5 ⟨rfl, qhr, g5⟩
  replace hz := (g5.block _ zz (by intro e; injection e with e; omega)).trans hz
  replace hp := (g5.block _ zp (by intro e; injection e with e; omega)).trans hp
  replace zz := Nat.lt_of_lt_of_le zz g5.size
  replace zp := Nat.lt_of_lt_of_le zp g5.size
  clear hr
  have hr : Ro w5 88 g ok ([h4, h5, h6, h7, h8, h9, h10, h11, h12, h13, h14, h15, h16, h17, h18, h19]) false := qhr
  clear qhr
  replace bel := below_grown bel g5 (by omega) bel.size
  clear g5
  go_wp2_with fail
  with_reducible refine (u16_q2 g ok h4 h5 _ false _ hr).mono ?_
  rintro e w6 ⟨rfl, qhr, g6⟩
  replace hz := (g6.block _ zz (by intro e; injection e with e; omega)).trans hz
  replace hp := (g6.block _ zp (by intro e; injection e with e; omega)).trans hp
  replace zz := Nat.lt_of_lt_of_le zz g6.size
  replace zp := Nat.lt_of_lt_of_le zp g6.size
  clear hr
  have hr : Ro w6 88 g ok ([h6, h7, h8, h9, h10, h11, h12, h13, h14, h15, h16, h17, h18, h19]) false := qhr
  clear qhr
  replace bel := below_grown bel g6 (by omega) bel.size
  clear g6
  rw [hid.out]
  go_wp2_with (first | ((with_reducible show wpList _ _ _ (⟨none, Op.store _ _ _, _, _, _, _⟩ :: _) _ _); refine wpList_store_part rfl 3 _ _ rfl (w.heap.size + 1) 1 rfl [.int .i64 (id : Int)] rfl [.int .i64 (h1.toNat : Int), .int .i64 0, .int .i64 0, .int .i64 0, .int .i64 0, .int .i64 0, .int .u8 0, .int .u8 0, .int .u8 0, .int .u8 0, .int .u8 0, .int .u8 0, .int .u8 0, .int .u8 0, .slice none 0 0, .slice none 0 0] 27 hp (by simp) [.int .i64 (h1.toNat : Int), .int .i64 (id : Int), .int .i64 0, .int .i64 0, .int .i64 0, .int .i64 0, .int .u8 0, .int .u8 0, .int .u8 0, .int .u8 0, .int .u8 0, .int .u8 0, .int .u8 0, .int .u8 0, .slice none 0 0, .slice none 0 0] rfl (by kernel_rfl) (by rfl) ?_; intro x7 qp gp; replace hz := (gp.block _ zz (by intro e; injection e with e; omega)).trans hz; replace zz := Nat.lt_of_lt_of_le zz gp.size; replace zp := Nat.lt_of_lt_of_le zp gp.size; clear hp; have hp := qp; clear qp; replace hr := hr.grown gp nok (by omega); replace bel := below_grown bel gp (by omega) bel.size; clear gp))
  with_reducible refine (u16_q2 g ok h6 h7 _ false _ hr).mono ?_
  rintro e w8 ⟨rfl, qhr, g8⟩
  replace hz := (g8.block _ zz (by intro e; injection e with e; omega)).trans hz
  replace hp := (g8.block _ zp (by intro e; injection e with e; omega)).trans hp
  replace zz := Nat.lt_of_lt_of_le zz g8.size
  replace zp := Nat.lt_of_lt_of_le zp g8.size
  clear hr
  have hr : Ro w8 88 g ok ([h8, h9, h10, h11, h12, h13, h14, h15, h16, h17, h18, h19]) false := qhr
  clear qhr
  replace bel := below_grown bel g8 (by omega) bel.size
  clear g8
  rw [hxx.out]
  have ea := ean.out
  go_wp2_with (first | ((with_reducible show wpList _ _ _ (⟨none, Op.store _ _ _, _, _, _, _⟩ :: _) _ _); refine wpList_store_part rfl 3 _ _ rfl (w.heap.size + 1) 2 rfl [.int .i64 ((xx : Int) / 8192)] rfl [.int .i64 (h1.toNat : Int), .int .i64 (id : Int), .int .i64 0, .int .i64 0, .int .i64 0, .int .i64 0, .int .u8 0, .int .u8 0, .int .u8 0, .int .u8 0, .int .u8 0, .int .u8 0, .int .u8 0, .int .u8 0, .slice none 0 0, .slice none 0 0] 27 hp (by simp) [.int .i64 (h1.toNat : Int), .int .i64 (id : Int), .int .i64 ((xx : Int) / 8192), .int .i64 0, .int .i64 0, .int .i64 0, .int .u8 0, .int .u8 0, .int .u8 0, .int .u8 0, .int .u8 0, .int .u8 0, .int .u8 0, .int .u8 0, .slice none 0 0, .slice none 0 0] rfl (by kernel_rfl) (by rfl) ?_; intro x9 qp gp; replace hz := (gp.block _ zz (by intro e; injection e with e; omega)).trans hz; replace zz := Nat.lt_of_lt_of_le zz gp.size; replace zp := Nat.lt_of_lt_of_le zp gp.size; clear hp; have hp := qp; clear qp; replace hr := hr.grown gp nok (by omega); replace bel := below_grown bel gp (by omega) bel.size; clear gp) | ((with_reducible show wpList _ _ _ (⟨none, Op.store _ _ _, _, _, _, _⟩ :: _) _ _); refine wpList_store_part rfl 3 _ _ rfl (w.heap.size + 1) 3 rfl [.int .i64 ((xx : Int) % 8192)] rfl [.int .i64 (h1.toNat : Int), .int .i64 (id : Int), .int .i64 ((xx : Int) / 8192), .int .i64 0, .int .i64 0, .int .i64 0, .int .u8 0, .int .u8 0, .int .u8 0, .int .u8 0, .int .u8 0, .int .u8 0, .int .u8 0, .int .u8 0, .slice none 0 0, .slice none 0 0] 27 hp (by simp) [.int .i64 (h1.toNat : Int), .int .i64 (id : Int), .int .i64 ((xx : Int) / 8192), .int .i64 ((xx : Int) % 8192), .int .i64 0, .int .i64 0, .int .u8 0, .int .u8 0, .int .u8 0, .int .u8 0, .int .u8 0, .int .u8 0, .int .u8 0, .int .u8 0, .slice none 0 0, .slice none 0 0] rfl (by kernel_rfl) (by rfl) ?_; intro x10 qp gp; replace hz := (gp.block _ zz (by intro e; injection e with e; omega)).trans hz; replace zz := Nat.lt_of_lt_of_le zz gp.size; replace zp := Nat.lt_of_lt_of_le zp gp.size; clear hp; have hp := qp; clear qp; replace hr := hr.grown gp nok (by omega); replace bel := below_grown bel gp (by omega) bel.size; clear gp))
  with_reducible refine (u8_q1 g ok h8 _ false _ hr).mono ?_
  rintro e w11 ⟨rfl, qhr, g11⟩
  replace hz := (g11.block _ zz (by intro e; injection e with e; omega)).trans hz
  replace hp := (g11.block _ zp (by intro e; injection e with e; omega)).trans hp
  replace zz := Nat.lt_of_lt_of_le zz g11.size
  replace zp := Nat.lt_of_lt_of_le zp g11.size
  clear hr
  have hr : Ro w11 88 g ok ([h9, h10, h11, h12, h13, h14, h15, h16, h17, h18, h19]) false := qhr
  clear qhr
  replace bel := below_grown bel g11 (by omega) bel.size
  clear g11
  clear ea
  go_wp2_with (first | ((with_reducible show wpList _ _ _ (⟨none, Op.store _ _ _, _, _, _, _⟩ :: _) _ _); refine wpList_store_part rfl 3 _ _ rfl (w.heap.size + 1) 4 rfl [.int .i64 (h8.toNat : Int)] rfl [.int .i64 (h1.toNat : Int), .int .i64 (id : Int), .int .i64 ((xx : Int) / 8192), .int .i64 ((xx : Int) % 8192), .int .i64 0, .int .i64 0, .int .u8 0, .int .u8 0, .int .u8 0, .int .u8 0, .int .u8 0, .int .u8 0, .int .u8 0, .int .u8 0, .slice none 0 0, .slice none 0 0] 27 hp (by simp) [.int .i64 (h1.toNat : Int), .int .i64 (id : Int), .int .i64 ((xx : Int) / 8192), .int .i64 ((xx : Int) % 8192), .int .i64 (h8.toNat : Int), .int .i64 0, .int .u8 0, .int .u8 0, .int .u8 0, .int .u8 0, .int .u8 0, .int .u8 0, .int .u8 0, .int .u8 0, .slice none 0 0, .slice none 0 0] rfl (by kernel_rfl) (by rfl) ?_; intro x12 qp gp; replace hz := (gp.block _ zz (by intro e; injection e with e; omega)).trans hz; replace zz := Nat.lt_of_lt_of_le zz gp.size; replace zp := Nat.lt_of_lt_of_le zp gp.size; clear hp; have hp := qp; clear qp; replace hr := hr.grown gp nok (by omega); replace bel := below_grown bel gp (by omega) bel.size; clear gp))
  with_reducible refine (u8_q1 g ok h9 _ false _ hr).mono ?_
  rintro e w13 ⟨rfl, qhr, g13⟩
  replace hz := (g13.block _ zz (by intro e; injection e with e; omega)).trans hz
  replace hp := (g13.block _ zp (by intro e; injection e with e; omega)).trans hp
  replace zz := Nat.lt_of_lt_of_le zz g13.size
  replace zp := Nat.lt_of_lt_of_le zp g13.size
  clear hr
  have hr : Ro w13 88 g ok ([h10, h11, h12, h13, h14, h15, h16, h17, h18, h19]) false := qhr
  clear qhr
  replace bel := below_grown bel g13 (by omega) bel.size
  clear g13
  go_wp2_with (first | ((with_reducible show wpList _ _ _ (⟨none, Op.store _ _ _, _, _, _, _⟩ :: _) _ _); refine wpList_store_part rfl 3 _ _ rfl (w.heap.size + 1) 5 rfl [.int .i64 (h9.toNat : Int)] rfl [.int .i64 (h1.toNat : Int), .int .i64 (id : Int), .int .i64 ((xx : Int) / 8192), .int .i64 ((xx : Int) % 8192), .int .i64 (h8.toNat : Int), .int .i64 0, .int .u8 0, .int .u8 0, .int .u8 0, .int .u8 0, .int .u8 0, .int .u8 0, .int .u8 0, .int .u8 0, .slice none 0 0, .slice none 0 0] 27 hp (by simp) [.int .i64 (h1.toNat : Int), .int .i64 (id : Int), .int .i64 ((xx : Int) / 8192), .int .i64 ((xx : Int) % 8192), .int .i64 (h8.toNat : Int), .int .i64 (h9.toNat : Int), .int .u8 0, .int .u8 0, .int .u8 0, .int .u8 0, .int .u8 0, .int .u8 0, .int .u8 0, .int .u8 0, .slice none 0 0, .slice none 0 0] rfl (by kernel_rfl) (by rfl) ?_; intro x14 qp gp; replace hz := (gp.block _ zz (by intro e; injection e with e; omega)).trans hz; replace zz := Nat.lt_of_lt_of_le zz gp.size; replace zp := Nat.lt_of_lt_of_le zp gp.size; clear hp; have hp := qp; clear qp; replace hr := hr.grown gp nok (by omega); replace bel := below_grown bel gp (by omega) bel.size; clear gp))
  with_reducible refine (u16_q2 g ok h10 h11 _ false _ hr).mono ?_
  rintro e w15 ⟨rfl, qhr, g15⟩
  replace hz := (g15.block _ zz (by intro e; injection e with e; omega)).trans hz
  replace hp := (g15.block _ zp (by intro e; injection e with e; omega)).trans hp
  replace zz := Nat.lt_of_lt_of_le zz g15.size
  replace zp := Nat.lt_of_lt_of_le zp g15.size
  clear hr
  have hr : Ro w15 88 g ok ([h12, h13, h14, h15, h16, h17, h18, h19]) false := qhr
  clear qhr
  replace bel := below_grown bel g15 (by omega) bel.size
  clear g15
  go_wp2_with fail
  with_reducible refine (u32_q4 g ok h12 h13 h14 h15 _ false _ hr).mono ?_
  rintro e w16 ⟨rfl, qhr, g16⟩
  replace hz := (g16.block _ zz (by intro e; injection e with e; omega)).trans hz
  replace hp := (g16.block _ zp (by intro e; injection e with e; omega)).trans hp
  replace zz := Nat.lt_of_lt_of_le zz g16.size
  replace zp := Nat.lt_of_lt_of_le zp g16.size
  clear hr
  have hr : Ro w16 88 g ok ([h16, h17, h18, h19]) false := qhr
  clear qhr
  replace bel := below_grown bel g16 (by omega) bel.size
  clear g16
  go_wp2_with fail
  with_reducible refine (aof_four h12 h13 h14 h15 _).mono ?_
  rintro e w17 ⟨rfl, b17⟩
  replace hz := (b17.block _ zz).trans hz
  replace zz := Nat.lt_of_lt_of_le zz b17.size
  replace hp := (b17.block _ zp).trans hp
  replace zp := Nat.lt_of_lt_of_le zp b17.size
  replace hr := hr.below b17
  replace bel := bel.trans (b17.mono bel.size)
  clear b17
  go_wp2_with (first | ((with_reducible show wpList _ _ _ (⟨none, Op.store _ _ _, _, _, _, _⟩ :: _) _ _); refine wpList_store_part rfl 24 _ _ rfl (w.heap.size + 1) 6 rfl [.int .u8 (h12.toNat : Int), .int .u8 (h13.toNat : Int), .int .u8 (h14.toNat : Int), .int .u8 (h15.toNat : Int)] rfl [.int .i64 (h1.toNat : Int), .int .i64 (id : Int), .int .i64 ((xx : Int) / 8192), .int .i64 ((xx : Int) % 8192), .int .i64 (h8.toNat : Int), .int .i64 (h9.toNat : Int), .int .u8 0, .int .u8 0, .int .u8 0, .int .u8 0, .int .u8 0, .int .u8 0, .int .u8 0, .int .u8 0, .slice none 0 0, .slice none 0 0] 27 hp (by simp) [.int .i64 (h1.toNat : Int), .int .i64 (id : Int), .int .i64 ((xx : Int) / 8192), .int .i64 ((xx : Int) % 8192), .int .i64 (h8.toNat : Int), .int .i64 (h9.toNat : Int), .int .u8 (h12.toNat : Int), .int .u8 (h13.toNat : Int), .int .u8 (h14.toNat : Int), .int .u8 (h15.toNat : Int), .int .u8 0, .int .u8 0, .int .u8 0, .int .u8 0, .slice none 0 0, .slice none 0 0] rfl (by kernel_rfl) (by rfl) ?_; intro x18 qp gp; replace hz := (gp.block _ zz (by intro e; injection e with e; omega)).trans hz; replace zz := Nat.lt_of_lt_of_le zz gp.size; replace zp := Nat.lt_of_lt_of_le zp gp.size; clear hp; have hp := qp; clear qp; replace hr := hr.grown gp nok (by omega); replace bel := below_grown bel gp (by omega) bel.size; clear gp))
  with_reducible refine (u32_q4 g ok h16 h17 h18 h19 _ false _ hr).mono ?_
  rintro e w19 ⟨rfl, qhr, g19⟩
  replace hz := (g19.block _ zz (by intro e; injection e with e; omega)).trans hz
  replace hp := (g19.block _ zp (by intro e; injection e with e; omega)).trans hp
  replace zz := Nat.lt_of_lt_of_le zz g19.size
  replace zp := Nat.lt_of_lt_of_le zp g19.size
  clear hr
  have hr : Ro w19 88 g ok ([]) false := qhr
  clear qhr
  replace bel := below_grown bel g19 (by omega) bel.size
  clear g19
  go_wp2_with fail
  with_reducible refine (aof_four h16 h17 h18 h19 _).mono ?_
  rintro e w20 ⟨rfl, b20⟩
  replace hz := (b20.block _ zz).trans hz
  replace zz := Nat.lt_of_lt_of_le zz b20.size
  replace hp := (b20.block _ zp).trans hp
  replace zp := Nat.lt_of_lt_of_le zp b20.size
  replace hr := hr.below b20
  replace bel := bel.trans (b20.mono bel.size)
  clear b20
  go_wp2_with (first | ((with_reducible show wpList _ _ _ (⟨none, Op.store _ _ _, _, _, _, _⟩ :: _) _ _); refine wpList_store_part rfl 24 _ _ rfl (w.heap.size + 1) 10 rfl [.int .u8 (h16.toNat : Int), .int .u8 (h17.toNat : Int), .int .u8 (h18.toNat : Int), .int .u8 (h19.toNat : Int)] rfl [.int .i64 (h1.toNat : Int), .int .i64 (id : Int), .int .i64 ((xx : Int) / 8192), .int .i64 ((xx : Int) % 8192), .int .i64 (h8.toNat : Int), .int .i64 (h9.toNat : Int), .int .u8 (h12.toNat : Int), .int .u8 (h13.toNat : Int), .int .u8 (h14.toNat : Int), .int .u8 (h15.toNat : Int), .int .u8 0, .int .u8 0, .int .u8 0, .int .u8 0, .slice none 0 0, .slice none 0 0] 27 hp (by simp) [.int .i64 (h1.toNat : Int), .int .i64 (id : Int), .int .i64 ((xx : Int) / 8192), .int .i64 ((xx : Int) % 8192), .int .i64 (h8.toNat : Int), .int .i64 (h9.toNat : Int), .int .u8 (h12.toNat : Int), .int .u8 (h13.toNat : Int), .int .u8 (h14.toNat : Int), .int .u8 (h15.toNat : Int), .int .u8 (h16.toNat : Int), .int .u8 (h17.toNat : Int), .int .u8 (h18.toNat : Int), .int .u8 (h19.toNat : Int), .slice none 0 0, .slice none 0 0] rfl (by kernel_rfl) (by rfl) ?_; intro x21 qp gp; replace hz := (gp.block _ zz (by intro e; injection e with e; omega)).trans hz; replace zz := Nat.lt_of_lt_of_le zz gp.size; replace zp := Nat.lt_of_lt_of_le zp gp.size; clear hp; have hp := qp; clear qp; replace hr := hr.grown gp nok (by omega); replace bel := below_grown bel gp (by omega) bel.size; clear gp; have R3 := Lib.hid (range_lit hp 0 16 [.int .i64 (h1.toNat : Int), .int .i64 (id : Int), .int .i64 ((xx : Int) / 8192), .int .i64 ((xx : Int) % 8192), .int .i64 (h8.toNat : Int), .int .i64 (h9.toNat : Int), .int .u8 (h12.toNat : Int), .int .u8 (h13.toNat : Int), .int .u8 (h14.toNat : Int), .int .u8 (h15.toNat : Int), .int .u8 (h16.toNat : Int), .int .u8 (h17.toNat : Int), .int .u8 (h18.toNat : Int), .int .u8 (h19.toNat : Int), .slice none 0 0, .slice none 0 0] rfl)) | ((with_reducible show wpList _ _ _ (⟨some 43, _, _, _, _, _⟩ :: _) _ _); refine wpList_load_rng 27 (.tmp 3) rfl (by kernel_rfl) _ _ rfl _ R3.out _ Try.underlying27 rfl (by kernel_rfl) ?_) | ((with_reducible show wpList _ _ _ (⟨none, Op.store _ _ _, _, _, _, _⟩ :: _) _ _); refine wpList_store_blk rfl 27 _ _ rfl (w.heap.size) rfl #[.int .i64 (h1.toNat : Int), .int .i64 (id : Int), .int .i64 ((xx : Int) / 8192), .int .i64 ((xx : Int) % 8192), .int .i64 (h8.toNat : Int), .int .i64 (h9.toNat : Int), .int .u8 (h12.toNat : Int), .int .u8 (h13.toNat : Int), .int .u8 (h14.toNat : Int), .int .u8 (h15.toNat : Int), .int .u8 (h16.toNat : Int), .int .u8 (h17.toNat : Int), .int .u8 (h18.toNat : Int), .int .u8 (h19.toNat : Int), .slice none 0 0, .slice none 0 0] rfl _ 27 hz (by rfl) (by kernel_rfl) (by kernel_rfl) ?_; intro wz hrz gz; replace bel := below_grown bel gz (Nat.le_refl _) bel.size; clear gz hz))
  exact bodyPost_ret (results_cell_row' rfl _ _ _ _ _ _ _ rfl hrz Try.underlying27 rfl (by kernel_rfl)) rfl ⟨rfl, bel⟩
set_option maxRecDepth 100000 in
set_option maxHeartbeats 16000000 in
theorem ipget_err (A : Option Addr) (n c : Nat) (l : List UInt8) (w : World) (hl : Sl w A n c l) (hm : n ≤ 100000) (he : ipErr l ≠ 0) :
    Calls Try.prog 32 #[.slice A n c] w fun e w' => e = .returned (.tuple #[packz, .int .i64 (ipErr l)]) ∧ Below w.heap.size w w' := by
  obtain ⟨er, HE⟩ : ∃ er, Hid (ipErr l = er) := ⟨_, Lib.hid rfl⟩
  have ne1 : (er == 0) = false := by rw [← HE.out]; simpa using he
  have ne2 : (er != 0) = true := by rw [← HE.out]; simpa using he
  rw [show Ending.returned (.tuple #[packz, .int .i64 (ipErr l)]) = .returned (.tuple #[packz, .int .i64 er]) by rw [HE.out]]
  have bel := Below.refl w.heap.size w
  have hz : (w.alloc (.cells #[.int .i64 0, .int .i64 0, .int .i64 0, .int .i64 0, .int .i64 0, .int .i64 0, .int .u8 0, .int .u8 0, .int .u8 0, .int .u8 0, .int .u8 0, .int .u8 0, .int .u8 0, .int .u8 0, .slice none 0 0, .slice none 0 0] 27)).heap[w.heap.size]? = some (.cells #[.int .i64 0, .int .i64 0, .int .i64 0, .int .i64 0, .int .i64 0, .int .i64 0, .int .u8 0, .int .u8 0, .int .u8 0, .int .u8 0, .int .u8 0, .int .u8 0, .int .u8 0, .int .u8 0, .slice none 0 0, .slice none 0 0] 27 (0, 0)) := by have := heap_alloc_new w (.cells #[.int .i64 0, .int .i64 0, .int .i64 0, .int .i64 0, .int .i64 0, .int .i64 0, .int .u8 0, .int .u8 0, .int .u8 0, .int .u8 0, .int .u8 0, .int .u8 0, .int .u8 0, .int .u8 0, .slice none 0 0, .slice none 0 0] 27); simpa using this
  have zz : w.heap.size < (w.alloc (.cells #[.int .i64 0, .int .i64 0, .int .i64 0, .int .i64 0, .int .i64 0, .int .i64 0, .int .u8 0, .int .u8 0, .int .u8 0, .int .u8 0, .int .u8 0, .int .u8 0, .int .u8 0, .int .u8 0, .slice none 0 0, .slice none 0 0] 27)).heap.size := by simp
  replace bel := bel.alloc bel.size (.cells #[.int .i64 0, .int .i64 0, .int .i64 0, .int .i64 0, .int .i64 0, .int .i64 0, .int .u8 0, .int .u8 0, .int .u8 0, .int .u8 0, .int .u8 0, .int .u8 0, .int .u8 0, .int .u8 0, .slice none 0 0, .slice none 0 0] 27)
  go_enter Try.func32, Try.ntmps32
  go_wp2_with fail
  with_reducible refine (sz_err A n c l _ (hl.below bel) hm he).mono ?_
  rintro e w1 ⟨rfl, b1⟩
  replace hz := (b1.block _ zz).trans hz
  replace zz := Nat.lt_of_lt_of_le zz b1.size
  replace bel := bel.trans (b1.mono bel.size)
  clear b1
  rw [HE.out]
  go_wp2_with (first | ((with_reducible show wpList _ _ _ (⟨none, Op.store _ _ _, _, _, _, _⟩ :: _) _ _); refine wpList_store_blk rfl 27 _ _ rfl (w.heap.size) rfl #[.int .i64 0, .int .i64 0, .int .i64 0, .int .i64 0, .int .i64 0, .int .i64 0, .int .u8 0, .int .u8 0, .int .u8 0, .int .u8 0, .int .u8 0, .int .u8 0, .int .u8 0, .int .u8 0, .slice none 0 0, .slice none 0 0] rfl _ 27 hz (by rfl) (by kernel_rfl) (by kernel_rfl) ?_; intro wz hrz gz; replace bel := below_grown bel gz (Nat.le_refl _) bel.size; clear gz hz))
  exact bodyPost_ret (results_cell_tmp_row rfl _ _ _ _ _ _ _ rfl hrz Try.underlying27 rfl (by kernel_rfl) _ rfl) rfl ⟨rfl, bel⟩
set_option maxRecDepth 100000 in
set_option maxHeartbeats 16000000 in
theorem ipget_ok (A : Option Addr) (n c : Nat) (h0 h1 h2 h3 h4 h5 h6 h7 h8 h9 h10 h11 h12 h13 h14 h15 h16 h17 h18 h19 : UInt8) (r : List UInt8) (w : World) (hl : Sl w A n c (h0 :: h1 :: h2 :: h3 :: h4 :: h5 :: h6 :: h7 :: h8 :: h9 :: h10 :: h11 :: h12 :: h13 :: h14 :: h15 :: h16 :: h17 :: h18 :: h19 :: r)) (hm : n ≤ 100000) (he : ipErr (h0 :: h1 :: h2 :: h3 :: h4 :: h5 :: h6 :: h7 :: h8 :: h9 :: h10 :: h11 :: h12 :: h13 :: h14 :: h15 :: h16 :: h17 :: h18 :: h19 :: r) = 0) :
    Calls Try.prog 32 #[.slice A n c] w fun e w' => ∃ Ao co Ab cb, e = .returned (.tuple #[.agg #[.int .i64 (h1.toNat : Int), .int .i64 (be [h4, h5] : Nat), .int .i64 ((be [h6, h7] : Nat) / 8192), .int .i64 ((be [h6, h7] : Nat) % 8192), .int .i64 (h8.toNat : Int), .int .i64 (h9.toNat : Int), .int .u8 (h12.toNat : Int), .int .u8 (h13.toNat : Int), .int .u8 (h14.toNat : Int), .int .u8 (h15.toNat : Int), .int .u8 (h16.toNat : Int), .int .u8 (h17.toNat : Int), .int .u8 (h18.toNat : Int), .int .u8 (h19.toNat : Int), .slice Ao (hlen h0 - 20) co, .slice Ab (be [h2, h3] - hlen h0) cb], .int .i64 0]) ∧ Sl w' Ao (hlen h0 - 20) co (r.take (hlen h0 - 20)) ∧ Sl w' Ab (be [h2, h3] - hlen h0) cb (((h0 :: h1 :: h2 :: h3 :: h4 :: h5 :: h6 :: h7 :: h8 :: h9 :: h10 :: h11 :: h12 :: h13 :: h14 :: h15 :: h16 :: h17 :: h18 :: h19 :: r).drop (hlen h0)).take (be [h2, h3] - hlen h0)) ∧ Below w.heap.size w w' := by
  have HM := Lib.hid hm
  have SZ := Lib.hid fun W (h : Below w.heap.size w W) => sz_good A n c h0 h1 h2 h3 h4 h5 h6 h7 h8 h9 h10 h11 h12 h13 h14 h15 h16 h17 h18 h19 r W (hl.below h) hm he
  have FL := Lib.hid fun W (h : Below w.heap.size w W) => fields_any A n c h0 h1 h2 h3 h4 h5 h6 h7 h8 h9 h10 h11 h12 h13 h14 h15 h16 h17 h18 h19 r W (hl.below h)
  obtain ⟨g1, g2, g3, g4, g5, g6⟩ := ok_parts he
  have hL := hl.1
  rw [hL] at g3 g6
  obtain ⟨H, HH⟩ : ∃ H, Hid (hlen h0 = H) := ⟨_, Lib.hid rfl⟩
  obtain ⟨nn, hnn⟩ : ∃ nn, Hid (be [h2, h3] = nn) := ⟨_, Lib.hid rfl⟩
  rw [HH.out] at g2 g3 g5
  rw [hnn.out] at g5 g6
  have hH60 : H ≤ 60 := by have := HH.out; unfold hlen at this; omega
  have HN2 := Lib.hid g6
  obtain ⟨K, hK⟩ : ∃ K, H = K + 20 := ⟨H - 20, by omega⟩
  obtain ⟨AQ, cQ, sQ, hQ⟩ := slice_mid hl (p := 20) (k := nn - 20) (by omega)
  rw [show ((20 : Nat) : Int) + ((nn - 20 : Nat) : Int) = (nn : Int) by omega] at sQ
  replace sQ : ∀ W, (Instr.slice 25 (.slice A n c) (some (.int .i64 20)) (some (.int .i64 (nn : Int))) none).run Try.prog W = .ok (.slice AQ (nn - 20) cQ) W := sQ
  replace hQ : Sl w AQ (nn - 20) cQ (r.take (nn - 20)) := hQ
  have hrl : r.length + 20 = n := by simpa using hL
  obtain ⟨L1, HL1⟩ : ∃ L1, Hid (r.take (nn - 20) = L1) := ⟨_, Lib.hid rfl⟩
  obtain ⟨L2, HL2⟩ : ∃ L2, Hid (L1.drop K = L2) := ⟨_, Lib.hid rfl⟩
  have hl1n : L1.length = nn - 20 := by rw [← HL1.out, List.length_take]; omega
  have HKL := Lib.hid (show K ≤ L1.length by omega)
  have HL2n : Hid (L2.length = nn - H) := Lib.hid (by rw [← HL2.out, List.length_drop]; omega)
  have HK60 := Lib.hid (show K ≤ 40 by omega)
  have HLO : Hid (L1.take K = r.take K) := Lib.hid (by rw [← HL1.out, List.take_take, Nat.min_eq_left (by omega)])
  have HLB : Hid (((h0 :: h1 :: h2 :: h3 :: h4 :: h5 :: h6 :: h7 :: h8 :: h9 :: h10 :: h11 :: h12 :: h13 :: h14 :: h15 :: h16 :: h17 :: h18 :: h19 :: r).drop H).take (nn - H) = L2) := Lib.hid (by
    rw [drop20 H (by omega), ← HL2.out, ← HL1.out, List.drop_take, show H - 20 = K by omega, show nn - 20 - K = nn - H by omega])
  rw [HH.out, hnn.out, HLB.out, show H - 20 = K by omega, ← HL2n.out]
  have hsb : (H : Int) - 20 = (K : Int) := by omega
  have h20 : (20 : Int) ≤ H := by omega
  have h60 : (H : Int) ≤ 60 := by omega
  have n0 : (20 : Int) ≤ nn := by omega
  have n1 : (nn : Int) ≤ 100000 := by omega
  clear hl g1 g2 g3 g4 g5 g6 hL he hm hH60 hrl hl1n hK
  have bel := Below.refl w.heap.size w
  have hz : (w.alloc (.cells #[.int .i64 0, .int .i64 0, .int .i64 0, .int .i64 0, .int .i64 0, .int .i64 0, .int .u8 0, .int .u8 0, .int .u8 0, .int .u8 0, .int .u8 0, .int .u8 0, .int .u8 0, .int .u8 0, .slice none 0 0, .slice none 0 0] 27)).heap[w.heap.size]? = some (.cells #[.int .i64 0, .int .i64 0, .int .i64 0, .int .i64 0, .int .i64 0, .int .i64 0, .int .u8 0, .int .u8 0, .int .u8 0, .int .u8 0, .int .u8 0, .int .u8 0, .int .u8 0, .int .u8 0, .slice none 0 0, .slice none 0 0] 27 (0, 0)) := by have := heap_alloc_new w (.cells #[.int .i64 0, .int .i64 0, .int .i64 0, .int .i64 0, .int .i64 0, .int .i64 0, .int .u8 0, .int .u8 0, .int .u8 0, .int .u8 0, .int .u8 0, .int .u8 0, .int .u8 0, .int .u8 0, .slice none 0 0, .slice none 0 0] 27); simpa using this
  have zz : w.heap.size < (w.alloc (.cells #[.int .i64 0, .int .i64 0, .int .i64 0, .int .i64 0, .int .i64 0, .int .i64 0, .int .u8 0, .int .u8 0, .int .u8 0, .int .u8 0, .int .u8 0, .int .u8 0, .int .u8 0, .int .u8 0, .slice none 0 0, .slice none 0 0] 27)).heap.size := by simp
  replace bel := bel.alloc bel.size (.cells #[.int .i64 0, .int .i64 0, .int .i64 0, .int .i64 0, .int .i64 0, .int .i64 0, .int .u8 0, .int .u8 0, .int .u8 0, .int .u8 0, .int .u8 0, .int .u8 0, .int .u8 0, .int .u8 0, .slice none 0 0, .slice none 0 0] 27)
  go_enter Try.func32, Try.ntmps32
  go_wp2_with fail
  with_reducible refine (SZ.out _ bel).mono ?_
  rintro e w1 ⟨rfl, b1⟩
  replace hz := (b1.block _ zz).trans hz
  replace zz := Nat.lt_of_lt_of_le zz b1.size
  replace bel := bel.trans (b1.mono bel.size)
  clear b1
  rw [HH.out, hnn.out]
  go_wp2_with fail
  with_reducible refine (FL.out _ bel).mono ?_
  rintro e w2 ⟨rfl, b2⟩
  replace hz := (b2.block _ zz).trans hz
  replace zz := Nat.lt_of_lt_of_le zz b2.size
  replace bel := bel.trans (b2.mono bel.size)
  clear b2
  clear SZ FL
  have zzq := zz
  have nq := heap_alloc_new w2 (.cells #[.int .i64 0, .int .i64 0, .int .i64 0, .int .i64 0, .int .i64 0, .int .i64 0, .int .u8 0, .int .u8 0, .int .u8 0, .int .u8 0, .int .u8 0, .int .u8 0, .int .u8 0, .int .u8 0, .slice none 0 0, .slice none 0 0] 27)
  have bqq := (Below.refl w2.heap.size w2).alloc (Nat.le_refl _) (.cells #[.int .i64 0, .int .i64 0, .int .i64 0, .int .i64 0, .int .i64 0, .int .i64 0, .int .u8 0, .int .u8 0, .int .u8 0, .int .u8 0, .int .u8 0, .int .u8 0, .int .u8 0, .int .u8 0, .slice none 0 0, .slice none 0 0] 27)
  go_wp2_with (first | ((with_reducible show wpList _ _ _ (⟨none, Op.store _ _ _, _, _, _, _⟩ :: _) _ _); refine wpList_store_blk rfl 27 _ _ rfl (w2.heap.size) rfl #[.int .i64 (h1.toNat : Int), .int .i64 (be [h4, h5] : Nat), .int .i64 ((be [h6, h7] : Nat) / 8192), .int .i64 ((be [h6, h7] : Nat) % 8192), .int .i64 (h8.toNat : Int), .int .i64 (h9.toNat : Int), .int .u8 (h12.toNat : Int), .int .u8 (h13.toNat : Int), .int .u8 (h14.toNat : Int), .int .u8 (h15.toNat : Int), .int .u8 (h16.toNat : Int), .int .u8 (h17.toNat : Int), .int .u8 (h18.toNat : Int), .int .u8 (h19.toNat : Int), .slice none 0 0, .slice none 0 0] rfl _ 27 nq (by rfl) (by kernel_rfl) (by kernel_rfl) ?_; intro x3 hq gq; have bz := below_grown bqq gq (Nat.le_refl _) bqq.size; replace hz := (bz.block _ zz).trans hz; replace zz := Nat.lt_of_lt_of_le zz bz.size; replace bel := bel.trans (bz.mono bel.size); have zq := (Array.getElem?_eq_some_iff.1 hq).1; clear nq bqq bz gq))
  with_reducible refine (read_q AQ (nn - 20) cQ _ _ (hQ.below bel) (by have := HM.out; have := HN2.out; omega)).mono ?_
  rintro e w10 ⟨g, rfl, hr, b1, hg⟩
  clear sQ
  replace hz := (b1.block _ zz).trans hz
  replace hq := (b1.block _ zq).trans hq
  obtain ⟨ok, hok⟩ : ∃ ok : Nat → Prop, ok = fun k => x3.heap.size ≤ k := ⟨_, rfl⟩
  rw [← hok] at hr
  have nok : ¬ ok (w2.heap.size) := by rw [hok]; show ¬ _ ≤ _; omega
  have nokz : ¬ ok w.heap.size := by rw [hok]; show ¬ _ ≤ _; omega
  clear hok
  replace bel := bel.trans (b1.mono bel.size)
  have zqg : w2.heap.size < g := by omega
  have zzg : w.heap.size < g := by omega
  replace zz := Nat.lt_of_lt_of_le zz b1.size
  replace zq := Nat.lt_of_lt_of_le zq b1.size
  clear b1 hg
  replace hr : Ro w10 88 g ok L1 false := by rw [← HL1.out]; exact hr
  have zg1 := hr.rd.lt
  have zz1 := zz
  have zq1 := zq
  go_wp2_with fail
  with_reducible refine (bytes_q g ok L1 false K _ hr HKL.out (by have := HK60.out; omega)).mono ?_
  rintro e w11 ⟨Ao, co, rfl, so, qhr, g11, fo⟩
  replace hz := (g11.block _ zz (by intro e; injection e with e; omega)).trans hz
  replace hq := (g11.block _ zq (by intro e; injection e with e; omega)).trans hq
  replace zz := Nat.lt_of_lt_of_le zz g11.size
  replace zq := Nat.lt_of_lt_of_le zq g11.size
  clear hr
  have hr : Ro w11 88 g ok (L2) false := by rw [HL2.out] at qhr; exact qhr
  clear qhr
  replace bel := below_grown bel g11 (by omega) bel.size
  clear g11
  go_wp2_with (first | ((with_reducible show wpList _ _ _ (⟨none, Op.store _ _ _, _, _, _, _⟩ :: _) _ _); refine wpList_store_part rfl 25 _ _ rfl (w2.heap.size) 14 rfl [.slice Ao K co] rfl [.int .i64 (h1.toNat : Int), .int .i64 (be [h4, h5] : Nat), .int .i64 ((be [h6, h7] : Nat) / 8192), .int .i64 ((be [h6, h7] : Nat) % 8192), .int .i64 (h8.toNat : Int), .int .i64 (h9.toNat : Int), .int .u8 (h12.toNat : Int), .int .u8 (h13.toNat : Int), .int .u8 (h14.toNat : Int), .int .u8 (h15.toNat : Int), .int .u8 (h16.toNat : Int), .int .u8 (h17.toNat : Int), .int .u8 (h18.toNat : Int), .int .u8 (h19.toNat : Int), .slice none 0 0, .slice none 0 0] 27 hq (by simp) [.int .i64 (h1.toNat : Int), .int .i64 (be [h4, h5] : Nat), .int .i64 ((be [h6, h7] : Nat) / 8192), .int .i64 ((be [h6, h7] : Nat) % 8192), .int .i64 (h8.toNat : Int), .int .i64 (h9.toNat : Int), .int .u8 (h12.toNat : Int), .int .u8 (h13.toNat : Int), .int .u8 (h14.toNat : Int), .int .u8 (h15.toNat : Int), .int .u8 (h16.toNat : Int), .int .u8 (h17.toNat : Int), .int .u8 (h18.toNat : Int), .int .u8 (h19.toNat : Int), .slice Ao K co, .slice none 0 0] rfl (by kernel_rfl) (by rfl) ?_; intro x12 qq gp; replace hz := (gp.block _ zz (by intro e; injection e with e; omega)).trans hz; replace zz := Nat.lt_of_lt_of_le zz gp.size; replace zq := Nat.lt_of_lt_of_le zq gp.size; clear hq; have hq := qq; clear qq; replace hr := hr.grown gp nok (by omega); replace so := so.grown fo gp (by omega); replace bel := below_grown bel gp (by omega) bel.size; clear gp))
  with_reducible refine (left_any g L2 false _ hr.rd).mono ?_
  rintro e _ ⟨rfl, rfl⟩
  go_wp2_with fail
  have zg2 := hr.rd.lt
  have zz2 := zz
  have zq2 := zq
  with_reducible refine (bytes_q g ok L2 false L2.length _ hr (Nat.le_refl _) (by have := HL2n.out; omega)).mono ?_
  rintro e w13 ⟨Ab, cb, rfl, sb, qhr, g13, fb⟩
  replace hz := (g13.block _ zz (by intro e; injection e with e; omega)).trans hz
  replace hq := (g13.block _ zq (by intro e; injection e with e; omega)).trans hq
  replace zz := Nat.lt_of_lt_of_le zz g13.size
  replace zq := Nat.lt_of_lt_of_le zq g13.size
  replace so := so.grown fo g13 (by omega)
  replace bel := below_grown bel g13 (by omega) bel.size
  clear g13 hr qhr
  go_wp2_with (first | ((with_reducible show wpList _ _ _ (⟨none, Op.store _ _ _, _, _, _, _⟩ :: _) _ _); refine wpList_store_part rfl 25 _ _ rfl (w2.heap.size) 15 rfl [.slice Ab L2.length cb] rfl [.int .i64 (h1.toNat : Int), .int .i64 (be [h4, h5] : Nat), .int .i64 ((be [h6, h7] : Nat) / 8192), .int .i64 ((be [h6, h7] : Nat) % 8192), .int .i64 (h8.toNat : Int), .int .i64 (h9.toNat : Int), .int .u8 (h12.toNat : Int), .int .u8 (h13.toNat : Int), .int .u8 (h14.toNat : Int), .int .u8 (h15.toNat : Int), .int .u8 (h16.toNat : Int), .int .u8 (h17.toNat : Int), .int .u8 (h18.toNat : Int), .int .u8 (h19.toNat : Int), .slice Ao K co, .slice none 0 0] 27 hq (by simp) [.int .i64 (h1.toNat : Int), .int .i64 (be [h4, h5] : Nat), .int .i64 ((be [h6, h7] : Nat) / 8192), .int .i64 ((be [h6, h7] : Nat) % 8192), .int .i64 (h8.toNat : Int), .int .i64 (h9.toNat : Int), .int .u8 (h12.toNat : Int), .int .u8 (h13.toNat : Int), .int .u8 (h14.toNat : Int), .int .u8 (h15.toNat : Int), .int .u8 (h16.toNat : Int), .int .u8 (h17.toNat : Int), .int .u8 (h18.toNat : Int), .int .u8 (h19.toNat : Int), .slice Ao K co, .slice Ab L2.length cb] rfl (by kernel_rfl) (by rfl) ?_; intro x14 qq gp; replace hz := (gp.block _ zz (by intro e; injection e with e; omega)).trans hz; replace zz := Nat.lt_of_lt_of_le zz gp.size; replace zq := Nat.lt_of_lt_of_le zq gp.size; clear hq; have hq := qq; clear qq; replace so := so.grown fo gp (by omega); replace sb := sb.grown fb gp (by omega); replace bel := below_grown bel gp (by omega) bel.size; clear gp; have R7 := Lib.hid (range_lit hq 0 16 [.int .i64 (h1.toNat : Int), .int .i64 (be [h4, h5] : Nat), .int .i64 ((be [h6, h7] : Nat) / 8192), .int .i64 ((be [h6, h7] : Nat) % 8192), .int .i64 (h8.toNat : Int), .int .i64 (h9.toNat : Int), .int .u8 (h12.toNat : Int), .int .u8 (h13.toNat : Int), .int .u8 (h14.toNat : Int), .int .u8 (h15.toNat : Int), .int .u8 (h16.toNat : Int), .int .u8 (h17.toNat : Int), .int .u8 (h18.toNat : Int), .int .u8 (h19.toNat : Int), .slice Ao K co, .slice Ab L2.length cb] rfl)) | ((with_reducible show wpList _ _ _ (⟨some 35, _, _, _, _, _⟩ :: _) _ _); refine wpList_load_rng 27 (.tmp 7) rfl (by kernel_rfl) _ _ rfl _ R7.out _ Try.underlying27 rfl (by kernel_rfl) ?_) | ((with_reducible show wpList _ _ _ (⟨none, Op.store _ _ _, _, _, _, _⟩ :: _) _ _); refine wpList_store_blk rfl 27 _ _ rfl (w.heap.size) rfl #[.int .i64 (h1.toNat : Int), .int .i64 (be [h4, h5] : Nat), .int .i64 ((be [h6, h7] : Nat) / 8192), .int .i64 ((be [h6, h7] : Nat) % 8192), .int .i64 (h8.toNat : Int), .int .i64 (h9.toNat : Int), .int .u8 (h12.toNat : Int), .int .u8 (h13.toNat : Int), .int .u8 (h14.toNat : Int), .int .u8 (h15.toNat : Int), .int .u8 (h16.toNat : Int), .int .u8 (h17.toNat : Int), .int .u8 (h18.toNat : Int), .int .u8 (h19.toNat : Int), .slice Ao K co, .slice Ab L2.length cb] rfl _ 27 hz (by rfl) (by kernel_rfl) (by kernel_rfl) ?_; intro wz hrz gz; replace so := so.grown fo gz (by omega); replace sb := sb.grown fb gz (by omega); replace bel := below_grown bel gz (Nat.le_refl _) bel.size; clear gz hz))
  exact bodyPost_ret (results_cell_tmp_row rfl _ _ _ _ _ _ _ rfl hrz Try.underlying27 rfl (by kernel_rfl) _ rfl) rfl ⟨Ao, co, Ab, cb, rfl, by rw [HLO.out] at so; exact so, by rw [List.take_length] at sb; exact sb, bel⟩

theorem ipErr_20 {l : List UInt8} (h : ipErr l = 0) : 20 ≤ l.length := Nat.le_of_not_lt fun g => by unfold ipErr at h; rw [if_pos g] at h; cases h
theorem ipget_any (A : Option Addr) (n c : Nat) (l : List UInt8) (w : World) (hl : Sl w A n c l) (hm : n ≤ 100000) : Calls Try.prog 32 #[.slice A n c] w (IpPost l w) := by
  by_cases he : ipErr l = 0
  · obtain ⟨h0, h1, h2, h3, h4, h5, h6, h7, h8, h9, h10, h11, h12, h13, h14, h15, h16, h17, h18, h19, r, rfl⟩ := list20 l (ipErr_20 he)
    refine (ipget_ok A n c h0 h1 h2 h3 h4 h5 h6 h7 h8 h9 h10 h11 h12 h13 h14 h15 h16 h17 h18 h19 r w hl hm he).mono ?_
    rintro e w' ⟨Ao, co, Ab, cb, rfl, ho, hb, bel⟩
    have eo := ho.1
    have eb := hb.1
    refine ⟨_, _, _, _, _, _, h12, h13, h14, h15, h16, h17, h18, h19, r.take (hlen h0 - 20), ((h0 :: h1 :: h2 :: h3 :: h4 :: h5 :: h6 :: h7 :: h8 :: h9 :: h10 :: h11 :: h12 :: h13 :: h14 :: h15 :: h16 :: h17 :: h18 :: h19 :: r).drop (hlen h0)).take (be [h2, h3] - hlen h0), Ao, Ab, co, cb, 0, by rw [eo, eb], by rw [eo]; exact ho, by rw [eb]; exact hb, bel, ?_⟩
    unfold ipGet
    rw [if_neg (by rw [he]; simp)]
    rfl
  · refine (ipget_err A n c l w hl hm he).mono ?_
    rintro e w' ⟨rfl, bel⟩
    exact IpPost.err rfl he bel
end Go.Proofs.Ytfmllopeeiecjaa
