/- Texts put together: Ipb, Icm, Ic4, Ipy, Sli, Law19j. -/
import Derived.Test.YtbdaejodbcjmfaaGreatK1
import Derived.Test.YtbdaejodbcjmfaaGreatK6
import Derived.Test.YtbdaejodbcjmfaaGreatK7
import Derived.Test.YtbdaejodbcjmfaaGreatK8
import Derived.Test.YtbdaejodbcjmfaaGreatK12
import Derived.Test.YtbdaejodbcjmfaaGreatK13
import Derived.Test.YtbdaejodbcjmfaaGreatK15
namespace Go.Proofs.YtbdaejodbcjmfaaGreat
open Go.RowKit
set_option linter.unusedVariables false
set_option linter.unusedSimpArgs false
set_option maxRecDepth 100000
set_option maxHeartbeats 16000000

theorem fields_any (A : Option Addr) (n c : Nat) (h0 h1 h2 h3 h4 h5 h6 h7 h8 h9 h10 h11 h12 h13 h14 h15 h16 h17 h18 h19 : UInt8) (r : List UInt8) (w : World) (hl : Sl w A n c (h0 :: h1 :: h2 :: h3 :: h4 :: h5 :: h6 :: h7 :: h8 :: h9 :: h10 :: h11 :: h12 :: h13 :: h14 :: h15 :: h16 :: h17 :: h18 :: h19 :: r)) : Calls Tryz.prog 88 #[.slice A n c] w fun e w' => e = .returned (.agg #[.int .i64 (h1.toNat : Int), .int .i64 (be [h4, h5] : Nat), .int .i64 ((be [h6, h7] : Nat) / 8192), .int .i64 ((be [h6, h7] : Nat) % 8192), .int .i64 (h8.toNat : Int), .int .i64 (h9.toNat : Int), .int .u8 (h12.toNat : Int), .int .u8 (h13.toNat : Int), .int .u8 (h14.toNat : Int), .int .u8 (h15.toNat : Int), .int .u8 (h16.toNat : Int), .int .u8 (h17.toNat : Int), .int .u8 (h18.toNat : Int), .int .u8 (h19.toNat : Int), .slice none 0 0, .slice none 0 0]) ∧ Below w.heap.size w w' := by
 obtain ⟨AF, cF, sF, hF⟩ := slice_front hl (k := 20) (by have := hl.1; simp at this; omega)
 replace sF : ∀ W, (Instr.slice 36 (.slice A n c) none (some (.int .i64 20)) none).run Tryz.prog W = .ok (.slice AF 20 cF) W := sF
 replace hF : Sl w AF 20 cF [h0, h1, h2, h3, h4, h5, h6, h7, h8, h9, h10, h11, h12, h13, h14, h15, h16, h17, h18, h19] := hF
 obtain ⟨id, hid⟩ : ∃ id, Hid (be [h4, h5] = id) := ⟨_, Lib.hid rfl⟩
 obtain ⟨xx, hxx⟩ : ∃ xx, Hid (be [h6, h7] = xx) := ⟨_, Lib.hid rfl⟩
 rw [hid.out, hxx.out]
 have bx : xx < 65536 := by have := be_lt 2 [h6, h7] rfl; rw [hxx.out] at this; omega
 have ean := Lib.hid (and8191 xx bx)
 have x2 : (0 : Int) ≤ xx := by omega
 have x3 : (xx : Int) < 65536 := by omega
 clear hl bx
 have bel := Below.refl w.heap.size w
 have hz : (w.alloc (.cells #[.int .i64 0, .int .i64 0, .int .i64 0, .int .i64 0, .int .i64 0, .int .i64 0, .int .u8 0, .int .u8 0, .int .u8 0, .int .u8 0, .int .u8 0, .int .u8 0, .int .u8 0, .int .u8 0, .slice none 0 0, .slice none 0 0] 38)).heap[w.heap.size]? = some (.cells #[.int .i64 0, .int .i64 0, .int .i64 0, .int .i64 0, .int .i64 0, .int .i64 0, .int .u8 0, .int .u8 0, .int .u8 0, .int .u8 0, .int .u8 0, .int .u8 0, .int .u8 0, .int .u8 0, .slice none 0 0, .slice none 0 0] 38 (0, 0)) := by have := heap_alloc_new w (.cells #[.int .i64 0, .int .i64 0, .int .i64 0, .int .i64 0, .int .i64 0, .int .i64 0, .int .u8 0, .int .u8 0, .int .u8 0, .int .u8 0, .int .u8 0, .int .u8 0, .int .u8 0, .int .u8 0, .slice none 0 0, .slice none 0 0] 38); simpa using this
 have zz : w.heap.size < (w.alloc (.cells #[.int .i64 0, .int .i64 0, .int .i64 0, .int .i64 0, .int .i64 0, .int .i64 0, .int .u8 0, .int .u8 0, .int .u8 0, .int .u8 0, .int .u8 0, .int .u8 0, .int .u8 0, .int .u8 0, .slice none 0 0, .slice none 0 0] 38)).heap.size := by simp
 replace bel := bel.alloc bel.size (.cells #[.int .i64 0, .int .i64 0, .int .i64 0, .int .i64 0, .int .i64 0, .int .i64 0, .int .u8 0, .int .u8 0, .int .u8 0, .int .u8 0, .int .u8 0, .int .u8 0, .int .u8 0, .int .u8 0, .slice none 0 0, .slice none 0 0] 38)
 replace hz := (Go.heap_alloc_old (w.alloc (.cells #[.int .i64 0, .int .i64 0, .int .i64 0, .int .i64 0, .int .i64 0, .int .i64 0, .int .u8 0, .int .u8 0, .int .u8 0, .int .u8 0, .int .u8 0, .int .u8 0, .int .u8 0, .int .u8 0, .slice none 0 0, .slice none 0 0] 38)) (.cells #[.int .i64 0, .int .i64 0, .int .i64 0, .int .i64 0, .int .i64 0, .int .i64 0, .int .u8 0, .int .u8 0, .int .u8 0, .int .u8 0, .int .u8 0, .int .u8 0, .int .u8 0, .int .u8 0, .slice none 0 0, .slice none 0 0] 38) (r := w.heap.size) zz).trans hz
 have hp : ((w.alloc (.cells #[.int .i64 0, .int .i64 0, .int .i64 0, .int .i64 0, .int .i64 0, .int .i64 0, .int .u8 0, .int .u8 0, .int .u8 0, .int .u8 0, .int .u8 0, .int .u8 0, .int .u8 0, .int .u8 0, .slice none 0 0, .slice none 0 0] 38)).alloc (.cells #[.int .i64 0, .int .i64 0, .int .i64 0, .int .i64 0, .int .i64 0, .int .i64 0, .int .u8 0, .int .u8 0, .int .u8 0, .int .u8 0, .int .u8 0, .int .u8 0, .int .u8 0, .int .u8 0, .slice none 0 0, .slice none 0 0] 38)).heap[w.heap.size + 1]? = some (.cells #[.int .i64 0, .int .i64 0, .int .i64 0, .int .i64 0, .int .i64 0, .int .i64 0, .int .u8 0, .int .u8 0, .int .u8 0, .int .u8 0, .int .u8 0, .int .u8 0, .int .u8 0, .int .u8 0, .slice none 0 0, .slice none 0 0] 38 (0, 0)) := by have := heap_alloc_new (w.alloc (.cells #[.int .i64 0, .int .i64 0, .int .i64 0, .int .i64 0, .int .i64 0, .int .i64 0, .int .u8 0, .int .u8 0, .int .u8 0, .int .u8 0, .int .u8 0, .int .u8 0, .int .u8 0, .int .u8 0, .slice none 0 0, .slice none 0 0] 38)) (.cells #[.int .i64 0, .int .i64 0, .int .i64 0, .int .i64 0, .int .i64 0, .int .i64 0, .int .u8 0, .int .u8 0, .int .u8 0, .int .u8 0, .int .u8 0, .int .u8 0, .int .u8 0, .int .u8 0, .slice none 0 0, .slice none 0 0] 38); simpa using this
 replace zz := Nat.lt_trans zz (show (w.alloc (.cells #[.int .i64 0, .int .i64 0, .int .i64 0, .int .i64 0, .int .i64 0, .int .i64 0, .int .u8 0, .int .u8 0, .int .u8 0, .int .u8 0, .int .u8 0, .int .u8 0, .int .u8 0, .int .u8 0, .slice none 0 0, .slice none 0 0] 38)).heap.size < ((w.alloc (.cells #[.int .i64 0, .int .i64 0, .int .i64 0, .int .i64 0, .int .i64 0, .int .i64 0, .int .u8 0, .int .u8 0, .int .u8 0, .int .u8 0, .int .u8 0, .int .u8 0, .int .u8 0, .int .u8 0, .slice none 0 0, .slice none 0 0] 38)).alloc (.cells #[.int .i64 0, .int .i64 0, .int .i64 0, .int .i64 0, .int .i64 0, .int .i64 0, .int .u8 0, .int .u8 0, .int .u8 0, .int .u8 0, .int .u8 0, .int .u8 0, .int .u8 0, .int .u8 0, .slice none 0 0, .slice none 0 0] 38)).heap.size by simp)
 have zp : w.heap.size + 1 < ((w.alloc (.cells #[.int .i64 0, .int .i64 0, .int .i64 0, .int .i64 0, .int .i64 0, .int .i64 0, .int .u8 0, .int .u8 0, .int .u8 0, .int .u8 0, .int .u8 0, .int .u8 0, .int .u8 0, .int .u8 0, .slice none 0 0, .slice none 0 0] 38)).alloc (.cells #[.int .i64 0, .int .i64 0, .int .i64 0, .int .i64 0, .int .i64 0, .int .i64 0, .int .u8 0, .int .u8 0, .int .u8 0, .int .u8 0, .int .u8 0, .int .u8 0, .int .u8 0, .int .u8 0, .slice none 0 0, .slice none 0 0] 38)).heap.size := by simp
 replace bel := bel.alloc bel.size (.cells #[.int .i64 0, .int .i64 0, .int .i64 0, .int .i64 0, .int .i64 0, .int .i64 0, .int .u8 0, .int .u8 0, .int .u8 0, .int .u8 0, .int .u8 0, .int .u8 0, .int .u8 0, .int .u8 0, .slice none 0 0, .slice none 0 0] 38)
 replace hF := hF.below bel
 go_enter Tryz.func88, Tryz.ntmps88
 go_wp2_with fail
 generalize ((w.alloc (.cells #[.int .i64 0, .int .i64 0, .int .i64 0, .int .i64 0, .int .i64 0, .int .i64 0, .int .u8 0, .int .u8 0, .int .u8 0, .int .u8 0, .int .u8 0, .int .u8 0, .int .u8 0, .int .u8 0, .slice none 0 0, .slice none 0 0] 38)).alloc (.cells #[.int .i64 0, .int .i64 0, .int .i64 0, .int .i64 0, .int .i64 0, .int .i64 0, .int .u8 0, .int .u8 0, .int .u8 0, .int .u8 0, .int .u8 0, .int .u8 0, .int .u8 0, .int .u8 0, .slice none 0 0, .slice none 0 0] 38)) = v0 at hz zz hp zp bel hF ⊢
 with_reducible refine (read_q AF 20 cF _ _ hF (by omega)).mono ?_
 rintro e w1 ⟨g, rfl, hr, b1, hg⟩
 clear sF hF
 replace hz := (b1.block _ zz).trans hz
 replace hp := (b1.block _ zp).trans hp
 replace bel := bel.trans (b1.mono bel.size)
 have zz0 := zz
 have zp0 := zp
 replace zz := Nat.lt_of_lt_of_le zz b1.size
 replace zp := Nat.lt_of_lt_of_le zp b1.size
 clear b1
 obtain ⟨ok, hok⟩ : ∃ ok : Nat → Prop, ok = fun k => v0.heap.size ≤ k := ⟨_, rfl⟩
 rw [← hok] at hr
 have nok : ¬ ok (w.heap.size + 1) := by rw [hok]; show ¬ _ ≤ _; omega
 clear hok
 go_wp2_with fail
 with_reducible refine (u8_q1 g ok h0 _ false _ hr).mono ?_
 rintro e w2 ⟨rfl, qhr, g2⟩
 replace hz := (g2.block _ zz (by intro e; injection e with e; omega)).trans hz
 replace hp := (g2.block _ zp (by intro e; injection e with e; omega)).trans hp
 replace zz := Nat.lt_of_lt_of_le zz g2.size
 replace zp := Nat.lt_of_lt_of_le zp g2.size
 clear hr
 have hr : Ro w2 134 g ok ([h1, h2, h3, h4, h5, h6, h7, h8, h9, h10, h11, h12, h13, h14, h15, h16, h17, h18, h19]) false := qhr
 clear qhr
 replace bel := below_grown bel g2 (by omega) bel.size
 clear g2
 go_wp2_with fail
 with_reducible refine (u8_q1 g ok h1 _ false _ hr).mono ?_
 rintro e w3 ⟨rfl, qhr, g3⟩
 replace hz := (g3.block _ zz (by intro e; injection e with e; omega)).trans hz
 replace hp := (g3.block _ zp (by intro e; injection e with e; omega)).trans hp
 replace zz := Nat.lt_of_lt_of_le zz g3.size
 replace zp := Nat.lt_of_lt_of_le zp g3.size
 clear hr
 have hr : Ro w3 134 g ok ([h2, h3, h4, h5, h6, h7, h8, h9, h10, h11, h12, h13, h14, h15, h16, h17, h18, h19]) false := qhr
 clear qhr
 replace bel := below_grown bel g3 (by omega) bel.size
 clear g3
 go_wp2_with (first | ((with_reducible show wpList _ _ _ (⟨none, Op.store _ _ _, _, _, _, _⟩ :: _) _ _); refine wpList_store_part rfl 3 _ _ rfl (w.heap.size + 1) 0 rfl [.int .i64 (h1.toNat : Int)] rfl [.int .i64 0, .int .i64 0, .int .i64 0, .int .i64 0, .int .i64 0, .int .i64 0, .int .u8 0, .int .u8 0, .int .u8 0, .int .u8 0, .int .u8 0, .int .u8 0, .int .u8 0, .int .u8 0, .slice none 0 0, .slice none 0 0] 38 hp (by simp) [.int .i64 (h1.toNat : Int), .int .i64 0, .int .i64 0, .int .i64 0, .int .i64 0, .int .i64 0, .int .u8 0, .int .u8 0, .int .u8 0, .int .u8 0, .int .u8 0, .int .u8 0, .int .u8 0, .int .u8 0, .slice none 0 0, .slice none 0 0] rfl (by kernel_rfl) (by rfl) ?_; intro x4 qp gp; replace hz := (gp.block _ zz (by intro e; injection e with e; omega)).trans hz; replace zz := Nat.lt_of_lt_of_le zz gp.size; replace zp := Nat.lt_of_lt_of_le zp gp.size; clear hp; have hp := qp; clear qp; replace hr := hr.grown gp nok (by omega); replace bel := below_grown bel gp (by omega) bel.size; clear gp))
 with_reducible refine (u16_q2 g ok h2 h3 _ false _ hr).mono ?_
 rintro e w5 ⟨rfl, qhr, g5⟩
 replace hz := (g5.block _ zz (by intro e; injection e with e; omega)).trans hz
 replace hp := (g5.block _ zp (by intro e; injection e with e; omega)).trans hp
 replace zz := Nat.lt_of_lt_of_le zz g5.size
 replace zp := Nat.lt_of_lt_of_le zp g5.size
 clear hr
 have hr : Ro w5 134 g ok ([h4, h5, h6, h7, h8, h9, h10, h11, h12, h13, h14, h15, h16, h17, h18, h19]) false := qhr
 clear qhr
 replace bel := below_grown bel g5 (by omega) bel.size
 clear g5
 go_wp2_with fail
 with_reducible refine (u16_q2 g ok h4 h5 _ false _ hr).mono ?_
 rintro e w6 ⟨rfl, qhr, g6⟩
 replace hz := (g6.block _ zz (by intro e; injection e with e; omega)).trans hz
 replace hp := (g6.block _ zp (by intro e; injection e with e; omega)).trans hp
 replace zz := Nat.lt_of_lt_of_le zz g6.size
 replace zp := Nat.lt_of_lt_of_le zp g6.size
 clear hr
 have hr : Ro w6 134 g ok ([h6, h7, h8, h9, h10, h11, h12, h13, h14, h15, h16, h17, h18, h19]) false := qhr
 clear qhr
 replace bel := below_grown bel g6 (by omega) bel.size
 clear g6
 rw [hid.out]
 go_wp2_with (first | ((with_reducible show wpList _ _ _ (⟨none, Op.store _ _ _, _, _, _, _⟩ :: _) _ _); refine wpList_store_part rfl 3 _ _ rfl (w.heap.size + 1) 1 rfl [.int .i64 (id : Int)] rfl [.int .i64 (h1.toNat : Int), .int .i64 0, .int .i64 0, .int .i64 0, .int .i64 0, .int .i64 0, .int .u8 0, .int .u8 0, .int .u8 0, .int .u8 0, .int .u8 0, .int .u8 0, .int .u8 0, .int .u8 0, .slice none 0 0, .slice none 0 0] 38 hp (by simp) [.int .i64 (h1.toNat : Int), .int .i64 (id : Int), .int .i64 0, .int .i64 0, .int .i64 0, .int .i64 0, .int .u8 0, .int .u8 0, .int .u8 0, .int .u8 0, .int .u8 0, .int .u8 0, .int .u8 0, .int .u8 0, .slice none 0 0, .slice none 0 0] rfl (by kernel_rfl) (by rfl) ?_; intro x7 qp gp; replace hz := (gp.block _ zz (by intro e; injection e with e; omega)).trans hz; replace zz := Nat.lt_of_lt_of_le zz gp.size; replace zp := Nat.lt_of_lt_of_le zp gp.size; clear hp; have hp := qp; clear qp; replace hr := hr.grown gp nok (by omega); replace bel := below_grown bel gp (by omega) bel.size; clear gp))
 with_reducible refine (u16_q2 g ok h6 h7 _ false _ hr).mono ?_
 rintro e w8 ⟨rfl, qhr, g8⟩
 replace hz := (g8.block _ zz (by intro e; injection e with e; omega)).trans hz
 replace hp := (g8.block _ zp (by intro e; injection e with e; omega)).trans hp
 replace zz := Nat.lt_of_lt_of_le zz g8.size
 replace zp := Nat.lt_of_lt_of_le zp g8.size
 clear hr
 have hr : Ro w8 134 g ok ([h8, h9, h10, h11, h12, h13, h14, h15, h16, h17, h18, h19]) false := qhr
 clear qhr
 replace bel := below_grown bel g8 (by omega) bel.size
 clear g8
 rw [hxx.out]
 have ea := ean.out
 go_wp2_with (first | ((with_reducible show wpList _ _ _ (⟨none, Op.store _ _ _, _, _, _, _⟩ :: _) _ _); refine wpList_store_part rfl 3 _ _ rfl (w.heap.size + 1) 2 rfl [.int .i64 ((xx : Int) / 8192)] rfl [.int .i64 (h1.toNat : Int), .int .i64 (id : Int), .int .i64 0, .int .i64 0, .int .i64 0, .int .i64 0, .int .u8 0, .int .u8 0, .int .u8 0, .int .u8 0, .int .u8 0, .int .u8 0, .int .u8 0, .int .u8 0, .slice none 0 0, .slice none 0 0] 38 hp (by simp) [.int .i64 (h1.toNat : Int), .int .i64 (id : Int), .int .i64 ((xx : Int) / 8192), .int .i64 0, .int .i64 0, .int .i64 0, .int .u8 0, .int .u8 0, .int .u8 0, .int .u8 0, .int .u8 0, .int .u8 0, .int .u8 0, .int .u8 0, .slice none 0 0, .slice none 0 0] rfl (by kernel_rfl) (by rfl) ?_; intro x9 qp gp; replace hz := (gp.block _ zz (by intro e; injection e with e; omega)).trans hz; replace zz := Nat.lt_of_lt_of_le zz gp.size; replace zp := Nat.lt_of_lt_of_le zp gp.size; clear hp; have hp := qp; clear qp; replace hr := hr.grown gp nok (by omega); replace bel := below_grown bel gp (by omega) bel.size; clear gp) | ((with_reducible show wpList _ _ _ (⟨none, Op.store _ _ _, _, _, _, _⟩ :: _) _ _); refine wpList_store_part rfl 3 _ _ rfl (w.heap.size + 1) 3 rfl [.int .i64 ((xx : Int) % 8192)] rfl [.int .i64 (h1.toNat : Int), .int .i64 (id : Int), .int .i64 ((xx : Int) / 8192), .int .i64 0, .int .i64 0, .int .i64 0, .int .u8 0, .int .u8 0, .int .u8 0, .int .u8 0, .int .u8 0, .int .u8 0, .int .u8 0, .int .u8 0, .slice none 0 0, .slice none 0 0] 38 hp (by simp) [.int .i64 (h1.toNat : Int), .int .i64 (id : Int), .int .i64 ((xx : Int) / 8192), .int .i64 ((xx : Int) % 8192), .int .i64 0, .int .i64 0, .int .u8 0, .int .u8 0, .int .u8 0, .int .u8 0, .int .u8 0, .int .u8 0, .int .u8 0, .int .u8 0, .slice none 0 0, .slice none 0 0] rfl (by kernel_rfl) (by rfl) ?_; intro x10 qp gp; replace hz := (gp.block _ zz (by intro e; injection e with e; omega)).trans hz; replace zz := Nat.lt_of_lt_of_le zz gp.size; replace zp := Nat.lt_of_lt_of_le zp gp.size; clear hp; have hp := qp; clear qp; replace hr := hr.grown gp nok (by omega); replace bel := below_grown bel gp (by omega) bel.size; clear gp))
 with_reducible refine (u8_q1 g ok h8 _ false _ hr).mono ?_
 rintro e w11 ⟨rfl, qhr, g11⟩
 replace hz := (g11.block _ zz (by intro e; injection e with e; omega)).trans hz
 replace hp := (g11.block _ zp (by intro e; injection e with e; omega)).trans hp
 replace zz := Nat.lt_of_lt_of_le zz g11.size
 replace zp := Nat.lt_of_lt_of_le zp g11.size
 clear hr
 have hr : Ro w11 134 g ok ([h9, h10, h11, h12, h13, h14, h15, h16, h17, h18, h19]) false := qhr
 clear qhr
 replace bel := below_grown bel g11 (by omega) bel.size
 clear g11
 clear ea
 go_wp2_with (first | ((with_reducible show wpList _ _ _ (⟨none, Op.store _ _ _, _, _, _, _⟩ :: _) _ _); refine wpList_store_part rfl 3 _ _ rfl (w.heap.size + 1) 4 rfl [.int .i64 (h8.toNat : Int)] rfl [.int .i64 (h1.toNat : Int), .int .i64 (id : Int), .int .i64 ((xx : Int) / 8192), .int .i64 ((xx : Int) % 8192), .int .i64 0, .int .i64 0, .int .u8 0, .int .u8 0, .int .u8 0, .int .u8 0, .int .u8 0, .int .u8 0, .int .u8 0, .int .u8 0, .slice none 0 0, .slice none 0 0] 38 hp (by simp) [.int .i64 (h1.toNat : Int), .int .i64 (id : Int), .int .i64 ((xx : Int) / 8192), .int .i64 ((xx : Int) % 8192), .int .i64 (h8.toNat : Int), .int .i64 0, .int .u8 0, .int .u8 0, .int .u8 0, .int .u8 0, .int .u8 0, .int .u8 0, .int .u8 0, .int .u8 0, .slice none 0 0, .slice none 0 0] rfl (by kernel_rfl) (by rfl) ?_; intro x12 qp gp; replace hz := (gp.block _ zz (by intro e; injection e with e; omega)).trans hz; replace zz := Nat.lt_of_lt_of_le zz gp.size; replace zp := Nat.lt_of_lt_of_le zp gp.size; clear hp; have hp := qp; clear qp; replace hr := hr.grown gp nok (by omega); replace bel := below_grown bel gp (by omega) bel.size; clear gp))
 with_reducible refine (u8_q1 g ok h9 _ false _ hr).mono ?_
 rintro e w13 ⟨rfl, qhr, g13⟩
 replace hz := (g13.block _ zz (by intro e; injection e with e; omega)).trans hz
 replace hp := (g13.block _ zp (by intro e; injection e with e; omega)).trans hp
 replace zz := Nat.lt_of_lt_of_le zz g13.size
 replace zp := Nat.lt_of_lt_of_le zp g13.size
 clear hr
 have hr : Ro w13 134 g ok ([h10, h11, h12, h13, h14, h15, h16, h17, h18, h19]) false := qhr
 clear qhr
 replace bel := below_grown bel g13 (by omega) bel.size
 clear g13
 go_wp2_with (first | ((with_reducible show wpList _ _ _ (⟨none, Op.store _ _ _, _, _, _, _⟩ :: _) _ _); refine wpList_store_part rfl 3 _ _ rfl (w.heap.size + 1) 5 rfl [.int .i64 (h9.toNat : Int)] rfl [.int .i64 (h1.toNat : Int), .int .i64 (id : Int), .int .i64 ((xx : Int) / 8192), .int .i64 ((xx : Int) % 8192), .int .i64 (h8.toNat : Int), .int .i64 0, .int .u8 0, .int .u8 0, .int .u8 0, .int .u8 0, .int .u8 0, .int .u8 0, .int .u8 0, .int .u8 0, .slice none 0 0, .slice none 0 0] 38 hp (by simp) [.int .i64 (h1.toNat : Int), .int .i64 (id : Int), .int .i64 ((xx : Int) / 8192), .int .i64 ((xx : Int) % 8192), .int .i64 (h8.toNat : Int), .int .i64 (h9.toNat : Int), .int .u8 0, .int .u8 0, .int .u8 0, .int .u8 0, .int .u8 0, .int .u8 0, .int .u8 0, .int .u8 0, .slice none 0 0, .slice none 0 0] rfl (by kernel_rfl) (by rfl) ?_; intro x14 qp gp; replace hz := (gp.block _ zz (by intro e; injection e with e; omega)).trans hz; replace zz := Nat.lt_of_lt_of_le zz gp.size; replace zp := Nat.lt_of_lt_of_le zp gp.size; clear hp; have hp := qp; clear qp; replace hr := hr.grown gp nok (by omega); replace bel := below_grown bel gp (by omega) bel.size; clear gp))
 with_reducible refine (u16_q2 g ok h10 h11 _ false _ hr).mono ?_
 rintro e w15 ⟨rfl, qhr, g15⟩
 replace hz := (g15.block _ zz (by intro e; injection e with e; omega)).trans hz
 replace hp := (g15.block _ zp (by intro e; injection e with e; omega)).trans hp
 replace zz := Nat.lt_of_lt_of_le zz g15.size
 replace zp := Nat.lt_of_lt_of_le zp g15.size
 clear hr
 have hr : Ro w15 134 g ok ([h12, h13, h14, h15, h16, h17, h18, h19]) false := qhr
 clear qhr
 replace bel := below_grown bel g15 (by omega) bel.size
 clear g15
 go_wp2_with fail
 with_reducible refine (u32_q4 g ok h12 h13 h14 h15 _ false _ hr).mono ?_
 rintro e w16 ⟨rfl, qhr, g16⟩
 replace hz := (g16.block _ zz (by intro e; injection e with e; omega)).trans hz
 replace hp := (g16.block _ zp (by intro e; injection e with e; omega)).trans hp
 replace zz := Nat.lt_of_lt_of_le zz g16.size
 replace zp := Nat.lt_of_lt_of_le zp g16.size
 clear hr
 have hr : Ro w16 134 g ok ([h16, h17, h18, h19]) false := qhr
 clear qhr
 replace bel := below_grown bel g16 (by omega) bel.size
 clear g16
 go_wp2_with fail
 with_reducible refine (aof_four h12 h13 h14 h15 _).mono ?_
 rintro e w17 ⟨rfl, b17⟩
 replace hz := (b17.block _ zz).trans hz
 replace zz := Nat.lt_of_lt_of_le zz b17.size
 replace hp := (b17.block _ zp).trans hp
 replace zp := Nat.lt_of_lt_of_le zp b17.size
 replace hr := hr.below b17
 replace bel := bel.trans (b17.mono bel.size)
 clear b17
 go_wp2_with (first | ((with_reducible show wpList _ _ _ (⟨none, Op.store _ _ _, _, _, _, _⟩ :: _) _ _); refine wpList_store_part rfl 35 _ _ rfl (w.heap.size + 1) 6 rfl [.int .u8 (h12.toNat : Int), .int .u8 (h13.toNat : Int), .int .u8 (h14.toNat : Int), .int .u8 (h15.toNat : Int)] rfl [.int .i64 (h1.toNat : Int), .int .i64 (id : Int), .int .i64 ((xx : Int) / 8192), .int .i64 ((xx : Int) % 8192), .int .i64 (h8.toNat : Int), .int .i64 (h9.toNat : Int), .int .u8 0, .int .u8 0, .int .u8 0, .int .u8 0, .int .u8 0, .int .u8 0, .int .u8 0, .int .u8 0, .slice none 0 0, .slice none 0 0] 38 hp (by simp) [.int .i64 (h1.toNat : Int), .int .i64 (id : Int), .int .i64 ((xx : Int) / 8192), .int .i64 ((xx : Int) % 8192), .int .i64 (h8.toNat : Int), .int .i64 (h9.toNat : Int), .int .u8 (h12.toNat : Int), .int .u8 (h13.toNat : Int), .int .u8 (h14.toNat : Int), .int .u8 (h15.toNat : Int), .int .u8 0, .int .u8 0, .int .u8 0, .int .u8 0, .slice none 0 0, .slice none 0 0] rfl (by kernel_rfl) (by rfl) ?_; intro x18 qp gp; replace hz := (gp.block _ zz (by intro e; injection e with e; omega)).trans hz; replace zz := Nat.lt_of_lt_of_le zz gp.size; replace zp := Nat.lt_of_lt_of_le zp gp.size; clear hp; have hp := qp; clear qp; replace hr := hr.grown gp nok (by omega); replace bel := below_grown bel gp (by omega) bel.size; clear gp))
 with_reducible refine (u32_q4 g ok h16 h17 h18 h19 _ false _ hr).mono ?_
 rintro e w19 ⟨rfl, qhr, g19⟩
 replace hz := (g19.block _ zz (by intro e; injection e with e; omega)).trans hz
 replace hp := (g19.block _ zp (by intro e; injection e with e; omega)).trans hp
 replace zz := Nat.lt_of_lt_of_le zz g19.size
 replace zp := Nat.lt_of_lt_of_le zp g19.size
 clear hr
 have hr : Ro w19 134 g ok ([]) false := qhr
 clear qhr
 replace bel := below_grown bel g19 (by omega) bel.size
 clear g19
 go_wp2_with fail
 with_reducible refine (aof_four h16 h17 h18 h19 _).mono ?_
 rintro e w20 ⟨rfl, b20⟩
 replace hz := (b20.block _ zz).trans hz
 replace zz := Nat.lt_of_lt_of_le zz b20.size
 replace hp := (b20.block _ zp).trans hp
 replace zp := Nat.lt_of_lt_of_le zp b20.size
 replace hr := hr.below b20
 replace bel := bel.trans (b20.mono bel.size)
 clear b20
 go_wp2_with (first | ((with_reducible show wpList _ _ _ (⟨none, Op.store _ _ _, _, _, _, _⟩ :: _) _ _); refine wpList_store_part rfl 35 _ _ rfl (w.heap.size + 1) 10 rfl [.int .u8 (h16.toNat : Int), .int .u8 (h17.toNat : Int), .int .u8 (h18.toNat : Int), .int .u8 (h19.toNat : Int)] rfl [.int .i64 (h1.toNat : Int), .int .i64 (id : Int), .int .i64 ((xx : Int) / 8192), .int .i64 ((xx : Int) % 8192), .int .i64 (h8.toNat : Int), .int .i64 (h9.toNat : Int), .int .u8 (h12.toNat : Int), .int .u8 (h13.toNat : Int), .int .u8 (h14.toNat : Int), .int .u8 (h15.toNat : Int), .int .u8 0, .int .u8 0, .int .u8 0, .int .u8 0, .slice none 0 0, .slice none 0 0] 38 hp (by simp) [.int .i64 (h1.toNat : Int), .int .i64 (id : Int), .int .i64 ((xx : Int) / 8192), .int .i64 ((xx : Int) % 8192), .int .i64 (h8.toNat : Int), .int .i64 (h9.toNat : Int), .int .u8 (h12.toNat : Int), .int .u8 (h13.toNat : Int), .int .u8 (h14.toNat : Int), .int .u8 (h15.toNat : Int), .int .u8 (h16.toNat : Int), .int .u8 (h17.toNat : Int), .int .u8 (h18.toNat : Int), .int .u8 (h19.toNat : Int), .slice none 0 0, .slice none 0 0] rfl (by kernel_rfl) (by rfl) ?_; intro x21 qp gp; replace hz := (gp.block _ zz (by intro e; injection e with e; omega)).trans hz; replace zz := Nat.lt_of_lt_of_le zz gp.size; replace zp := Nat.lt_of_lt_of_le zp gp.size; clear hp; have hp := qp; clear qp; replace hr := hr.grown gp nok (by omega); replace bel := below_grown bel gp (by omega) bel.size; clear gp; have R3 := Lib.hid (range_lit hp 0 16 [.int .i64 (h1.toNat : Int), .int .i64 (id : Int), .int .i64 ((xx : Int) / 8192), .int .i64 ((xx : Int) % 8192), .int .i64 (h8.toNat : Int), .int .i64 (h9.toNat : Int), .int .u8 (h12.toNat : Int), .int .u8 (h13.toNat : Int), .int .u8 (h14.toNat : Int), .int .u8 (h15.toNat : Int), .int .u8 (h16.toNat : Int), .int .u8 (h17.toNat : Int), .int .u8 (h18.toNat : Int), .int .u8 (h19.toNat : Int), .slice none 0 0, .slice none 0 0] rfl)) | ((with_reducible show wpList _ _ _ (⟨some 43, _, _, _, _, _⟩ :: _) _ _); refine wpList_load_rng 38 (.tmp 3) rfl (by kernel_rfl) _ _ rfl _ R3.out _ Tryz.underlying38 rfl (by kernel_rfl) ?_) | ((with_reducible show wpList _ _ _ (⟨none, Op.store _ _ _, _, _, _, _⟩ :: _) _ _); refine wpList_store_blk rfl 38 _ _ rfl (w.heap.size) rfl #[.int .i64 (h1.toNat : Int), .int .i64 (id : Int), .int .i64 ((xx : Int) / 8192), .int .i64 ((xx : Int) % 8192), .int .i64 (h8.toNat : Int), .int .i64 (h9.toNat : Int), .int .u8 (h12.toNat : Int), .int .u8 (h13.toNat : Int), .int .u8 (h14.toNat : Int), .int .u8 (h15.toNat : Int), .int .u8 (h16.toNat : Int), .int .u8 (h17.toNat : Int), .int .u8 (h18.toNat : Int), .int .u8 (h19.toNat : Int), .slice none 0 0, .slice none 0 0] rfl _ 38 hz (by rfl) (by kernel_rfl) (by kernel_rfl) ?_; intro wz hrz gz; replace bel := below_grown bel gz (Nat.le_refl _) bel.size; clear gz hz))
 exact bodyPost_ret (results_cell_row' rfl _ _ _ _ _ _ _ rfl hrz Tryz.underlying38 rfl (by kernel_rfl)) rfl ⟨rfl, bel⟩
theorem ipget_err (A : Option Addr) (n c : Nat) (l : List UInt8) (w : World) (hl : Sl w A n c l) (hm : n ≤ 100000) (he : ipErr l ≠ 0) :
  Calls Tryz.prog 51 #[.slice A n c] w fun e w' => e = .returned (.tuple #[packz, .int .i64 (ipErr l)]) ∧ Below w.heap.size w w' := by
 obtain ⟨er, HE⟩ : ∃ er, Hid (ipErr l = er) := ⟨_, Lib.hid rfl⟩
 have ne1 : (er == 0) = false := by rw [← HE.out]; simpa using he
 have ne2 : (er != 0) = true := by rw [← HE.out]; simpa using he
 rw [show Ending.returned (.tuple #[packz, .int .i64 (ipErr l)]) = .returned (.tuple #[packz, .int .i64 er]) by rw [HE.out]]
 have bel := Below.refl w.heap.size w
 have hz : (w.alloc (.cells #[.int .i64 0, .int .i64 0, .int .i64 0, .int .i64 0, .int .i64 0, .int .i64 0, .int .u8 0, .int .u8 0, .int .u8 0, .int .u8 0, .int .u8 0, .int .u8 0, .int .u8 0, .int .u8 0, .slice none 0 0, .slice none 0 0] 38)).heap[w.heap.size]? = some (.cells #[.int .i64 0, .int .i64 0, .int .i64 0, .int .i64 0, .int .i64 0, .int .i64 0, .int .u8 0, .int .u8 0, .int .u8 0, .int .u8 0, .int .u8 0, .int .u8 0, .int .u8 0, .int .u8 0, .slice none 0 0, .slice none 0 0] 38 (0, 0)) := by have := heap_alloc_new w (.cells #[.int .i64 0, .int .i64 0, .int .i64 0, .int .i64 0, .int .i64 0, .int .i64 0, .int .u8 0, .int .u8 0, .int .u8 0, .int .u8 0, .int .u8 0, .int .u8 0, .int .u8 0, .int .u8 0, .slice none 0 0, .slice none 0 0] 38); simpa using this
 have zz : w.heap.size < (w.alloc (.cells #[.int .i64 0, .int .i64 0, .int .i64 0, .int .i64 0, .int .i64 0, .int .i64 0, .int .u8 0, .int .u8 0, .int .u8 0, .int .u8 0, .int .u8 0, .int .u8 0, .int .u8 0, .int .u8 0, .slice none 0 0, .slice none 0 0] 38)).heap.size := by simp
 replace bel := bel.alloc bel.size (.cells #[.int .i64 0, .int .i64 0, .int .i64 0, .int .i64 0, .int .i64 0, .int .i64 0, .int .u8 0, .int .u8 0, .int .u8 0, .int .u8 0, .int .u8 0, .int .u8 0, .int .u8 0, .int .u8 0, .slice none 0 0, .slice none 0 0] 38)
 go_enter Tryz.func51, Tryz.ntmps51
 go_wp2_with fail
 with_reducible refine (sz_err A n c l _ (hl.below bel) hm he).mono ?_
 rintro e w1 ⟨rfl, b1⟩
 replace hz := (b1.block _ zz).trans hz
 replace zz := Nat.lt_of_lt_of_le zz b1.size
 replace bel := bel.trans (b1.mono bel.size)
 clear b1
 rw [HE.out]
 go_wp2_with (first | ((with_reducible show wpList _ _ _ (⟨none, Op.store _ _ _, _, _, _, _⟩ :: _) _ _); refine wpList_store_blk rfl 38 _ _ rfl (w.heap.size) rfl #[.int .i64 0, .int .i64 0, .int .i64 0, .int .i64 0, .int .i64 0, .int .i64 0, .int .u8 0, .int .u8 0, .int .u8 0, .int .u8 0, .int .u8 0, .int .u8 0, .int .u8 0, .int .u8 0, .slice none 0 0, .slice none 0 0] rfl _ 38 hz (by rfl) (by kernel_rfl) (by kernel_rfl) ?_; intro wz hrz gz; replace bel := below_grown bel gz (Nat.le_refl _) bel.size; clear gz hz))
 exact bodyPost_ret (results_cell_tmp_row rfl _ _ _ _ _ _ _ rfl hrz Tryz.underlying38 rfl (by kernel_rfl) _ rfl) rfl ⟨rfl, bel⟩
theorem ipget_ok (A : Option Addr) (n c : Nat) (h0 h1 h2 h3 h4 h5 h6 h7 h8 h9 h10 h11 h12 h13 h14 h15 h16 h17 h18 h19 : UInt8) (r : List UInt8) (w : World) (hl : Sl w A n c (h0 :: h1 :: h2 :: h3 :: h4 :: h5 :: h6 :: h7 :: h8 :: h9 :: h10 :: h11 :: h12 :: h13 :: h14 :: h15 :: h16 :: h17 :: h18 :: h19 :: r)) (hm : n ≤ 100000) (he : ipErr (h0 :: h1 :: h2 :: h3 :: h4 :: h5 :: h6 :: h7 :: h8 :: h9 :: h10 :: h11 :: h12 :: h13 :: h14 :: h15 :: h16 :: h17 :: h18 :: h19 :: r) = 0) :
  Calls Tryz.prog 51 #[.slice A n c] w fun e w' => ∃ Ao co Ab cb, e = .returned (.tuple #[.agg #[.int .i64 (h1.toNat : Int), .int .i64 (be [h4, h5] : Nat), .int .i64 ((be [h6, h7] : Nat) / 8192), .int .i64 ((be [h6, h7] : Nat) % 8192), .int .i64 (h8.toNat : Int), .int .i64 (h9.toNat : Int), .int .u8 (h12.toNat : Int), .int .u8 (h13.toNat : Int), .int .u8 (h14.toNat : Int), .int .u8 (h15.toNat : Int), .int .u8 (h16.toNat : Int), .int .u8 (h17.toNat : Int), .int .u8 (h18.toNat : Int), .int .u8 (h19.toNat : Int), .slice Ao (hlen h0 - 20) co, .slice Ab (be [h2, h3] - hlen h0) cb], .int .i64 0]) ∧ Sl w' Ao (hlen h0 - 20) co (r.take (hlen h0 - 20)) ∧ Sl w' Ab (be [h2, h3] - hlen h0) cb (((h0 :: h1 :: h2 :: h3 :: h4 :: h5 :: h6 :: h7 :: h8 :: h9 :: h10 :: h11 :: h12 :: h13 :: h14 :: h15 :: h16 :: h17 :: h18 :: h19 :: r).drop (hlen h0)).take (be [h2, h3] - hlen h0)) ∧ Below w.heap.size w w' := by
 have HM := Lib.hid hm
 have SZ := Lib.hid fun W (h : Below w.heap.size w W) => sz_good A n c h0 h1 h2 h3 h4 h5 h6 h7 h8 h9 h10 h11 h12 h13 h14 h15 h16 h17 h18 h19 r W (hl.below h) hm he
 have FL := Lib.hid fun W (h : Below w.heap.size w W) => fields_any A n c h0 h1 h2 h3 h4 h5 h6 h7 h8 h9 h10 h11 h12 h13 h14 h15 h16 h17 h18 h19 r W (hl.below h)
 obtain ⟨g1, g2, g3, g4, g5, g6⟩ := ok_parts he
 have hL := hl.1
 rw [hL] at g3 g6
 obtain ⟨H, HH⟩ : ∃ H, Hid (hlen h0 = H) := ⟨_, Lib.hid rfl⟩
 obtain ⟨nn, hnn⟩ : ∃ nn, Hid (be [h2, h3] = nn) := ⟨_, Lib.hid rfl⟩
 rw [HH.out] at g2 g3 g5
 rw [hnn.out] at g5 g6
 have hH60 : H ≤ 60 := by have := HH.out; unfold hlen at this; omega
 have HN2 := Lib.hid g6
 obtain ⟨K, hK⟩ : ∃ K, H = K + 20 := ⟨H - 20, by omega⟩
 obtain ⟨AQ, cQ, sQ, hQ⟩ := slice_mid hl (p := 20) (k := nn - 20) (by omega)
 rw [show ((20 : Nat) : Int) + ((nn - 20 : Nat) : Int) = (nn : Int) by omega] at sQ
 replace sQ : ∀ W, (Instr.slice 36 (.slice A n c) (some (.int .i64 20)) (some (.int .i64 (nn : Int))) none).run Tryz.prog W = .ok (.slice AQ (nn - 20) cQ) W := sQ
 replace hQ : Sl w AQ (nn - 20) cQ (r.take (nn - 20)) := hQ
 have hrl : r.length + 20 = n := by simpa using hL
 obtain ⟨L1, HL1⟩ : ∃ L1, Hid (r.take (nn - 20) = L1) := ⟨_, Lib.hid rfl⟩
 obtain ⟨L2, HL2⟩ : ∃ L2, Hid (L1.drop K = L2) := ⟨_, Lib.hid rfl⟩
 have hl1n : L1.length = nn - 20 := by rw [← HL1.out, List.length_take]; omega
 have HKL := Lib.hid (show K ≤ L1.length by omega)
 have HL2n : Hid (L2.length = nn - H) := Lib.hid (by rw [← HL2.out, List.length_drop]; omega)
 have HK60 := Lib.hid (show K ≤ 40 by omega)
 have HLO : Hid (L1.take K = r.take K) := Lib.hid (by rw [← HL1.out, List.take_take, Nat.min_eq_left (by omega)])
 have HLB : Hid (((h0 :: h1 :: h2 :: h3 :: h4 :: h5 :: h6 :: h7 :: h8 :: h9 :: h10 :: h11 :: h12 :: h13 :: h14 :: h15 :: h16 :: h17 :: h18 :: h19 :: r).drop H).take (nn - H) = L2) := Lib.hid (by
  rw [drop20 H (by omega), ← HL2.out, ← HL1.out, List.drop_take, show H - 20 = K by omega, show nn - 20 - K = nn - H by omega])
 rw [HH.out, hnn.out, HLB.out, show H - 20 = K by omega, ← HL2n.out]
 have hsb : (H : Int) - 20 = (K : Int) := by omega
 have h20 : (20 : Int) ≤ H := by omega
 have h60 : (H : Int) ≤ 60 := by omega
 have n0 : (20 : Int) ≤ nn := by omega
 have n1 : (nn : Int) ≤ 100000 := by omega
 clear hl g1 g2 g3 g4 g5 g6 hL he hm hH60 hrl hl1n hK
 have bel := Below.refl w.heap.size w
 have hz : (w.alloc (.cells #[.int .i64 0, .int .i64 0, .int .i64 0, .int .i64 0, .int .i64 0, .int .i64 0, .int .u8 0, .int .u8 0, .int .u8 0, .int .u8 0, .int .u8 0, .int .u8 0, .int .u8 0, .int .u8 0, .slice none 0 0, .slice none 0 0] 38)).heap[w.heap.size]? = some (.cells #[.int .i64 0, .int .i64 0, .int .i64 0, .int .i64 0, .int .i64 0, .int .i64 0, .int .u8 0, .int .u8 0, .int .u8 0, .int .u8 0, .int .u8 0, .int .u8 0, .int .u8 0, .int .u8 0, .slice none 0 0, .slice none 0 0] 38 (0, 0)) := by have := heap_alloc_new w (.cells #[.int .i64 0, .int .i64 0, .int .i64 0, .int .i64 0, .int .i64 0, .int .i64 0, .int .u8 0, .int .u8 0, .int .u8 0, .int .u8 0, .int .u8 0, .int .u8 0, .int .u8 0, .int .u8 0, .slice none 0 0, .slice none 0 0] 38); simpa using this
 have zz : w.heap.size < (w.alloc (.cells #[.int .i64 0, .int .i64 0, .int .i64 0, .int .i64 0, .int .i64 0, .int .i64 0, .int .u8 0, .int .u8 0, .int .u8 0, .int .u8 0, .int .u8 0, .int .u8 0, .int .u8 0, .int .u8 0, .slice none 0 0, .slice none 0 0] 38)).heap.size := by simp
 replace bel := bel.alloc bel.size (.cells #[.int .i64 0, .int .i64 0, .int .i64 0, .int .i64 0, .int .i64 0, .int .i64 0, .int .u8 0, .int .u8 0, .int .u8 0, .int .u8 0, .int .u8 0, .int .u8 0, .int .u8 0, .int .u8 0, .slice none 0 0, .slice none 0 0] 38)
 go_enter Tryz.func51, Tryz.ntmps51
 go_wp2_with fail
 with_reducible refine (SZ.out _ bel).mono ?_
 rintro e w1 ⟨rfl, b1⟩
 replace hz := (b1.block _ zz).trans hz
 replace zz := Nat.lt_of_lt_of_le zz b1.size
 replace bel := bel.trans (b1.mono bel.size)
 clear b1
 rw [HH.out, hnn.out]
 go_wp2_with fail
 with_reducible refine (FL.out _ bel).mono ?_
 rintro e w2 ⟨rfl, b2⟩
 replace hz := (b2.block _ zz).trans hz
 replace zz := Nat.lt_of_lt_of_le zz b2.size
 replace bel := bel.trans (b2.mono bel.size)
 clear b2
 clear SZ FL
 have zzq := zz
 have nq := heap_alloc_new w2 (.cells #[.int .i64 0, .int .i64 0, .int .i64 0, .int .i64 0, .int .i64 0, .int .i64 0, .int .u8 0, .int .u8 0, .int .u8 0, .int .u8 0, .int .u8 0, .int .u8 0, .int .u8 0, .int .u8 0, .slice none 0 0, .slice none 0 0] 38)
 have bqq := (Below.refl w2.heap.size w2).alloc (Nat.le_refl _) (.cells #[.int .i64 0, .int .i64 0, .int .i64 0, .int .i64 0, .int .i64 0, .int .i64 0, .int .u8 0, .int .u8 0, .int .u8 0, .int .u8 0, .int .u8 0, .int .u8 0, .int .u8 0, .int .u8 0, .slice none 0 0, .slice none 0 0] 38)
 go_wp2_with (first | ((with_reducible show wpList _ _ _ (⟨none, Op.store _ _ _, _, _, _, _⟩ :: _) _ _); refine wpList_store_blk rfl 38 _ _ rfl (w2.heap.size) rfl #[.int .i64 (h1.toNat : Int), .int .i64 (be [h4, h5] : Nat), .int .i64 ((be [h6, h7] : Nat) / 8192), .int .i64 ((be [h6, h7] : Nat) % 8192), .int .i64 (h8.toNat : Int), .int .i64 (h9.toNat : Int), .int .u8 (h12.toNat : Int), .int .u8 (h13.toNat : Int), .int .u8 (h14.toNat : Int), .int .u8 (h15.toNat : Int), .int .u8 (h16.toNat : Int), .int .u8 (h17.toNat : Int), .int .u8 (h18.toNat : Int), .int .u8 (h19.toNat : Int), .slice none 0 0, .slice none 0 0] rfl _ 38 nq (by rfl) (by kernel_rfl) (by kernel_rfl) ?_; intro x3 hq gq; have bz := below_grown bqq gq (Nat.le_refl _) bqq.size; replace hz := (bz.block _ zz).trans hz; replace zz := Nat.lt_of_lt_of_le zz bz.size; replace bel := bel.trans (bz.mono bel.size); have zq := (Array.getElem?_eq_some_iff.1 hq).1; clear nq bqq bz gq))
 with_reducible refine (read_q AQ (nn - 20) cQ _ _ (hQ.below bel) (by have := HM.out; have := HN2.out; omega)).mono ?_
 rintro e w10 ⟨g, rfl, hr, b1, hg⟩
 clear sQ
 replace hz := (b1.block _ zz).trans hz
 replace hq := (b1.block _ zq).trans hq
 obtain ⟨ok, hok⟩ : ∃ ok : Nat → Prop, ok = fun k => x3.heap.size ≤ k := ⟨_, rfl⟩
 rw [← hok] at hr
 have nok : ¬ ok (w2.heap.size) := by rw [hok]; show ¬ _ ≤ _; omega
 have nokz : ¬ ok w.heap.size := by rw [hok]; show ¬ _ ≤ _; omega
 clear hok
 replace bel := bel.trans (b1.mono bel.size)
 have zqg : w2.heap.size < g := by omega
 have zzg : w.heap.size < g := by omega
 replace zz := Nat.lt_of_lt_of_le zz b1.size
 replace zq := Nat.lt_of_lt_of_le zq b1.size
 clear b1 hg
 replace hr : Ro w10 134 g ok L1 false := by rw [← HL1.out]; exact hr
 have zg1 := hr.rd.lt
 have zz1 := zz
 have zq1 := zq
 go_wp2_with fail
 with_reducible refine (bytes_q g ok L1 false K _ hr HKL.out (by have := HK60.out; omega)).mono ?_
 rintro e w11 ⟨Ao, co, rfl, so, qhr, g11, fo⟩
 replace hz := (g11.block _ zz (by intro e; injection e with e; omega)).trans hz
 replace hq := (g11.block _ zq (by intro e; injection e with e; omega)).trans hq
 replace zz := Nat.lt_of_lt_of_le zz g11.size
 replace zq := Nat.lt_of_lt_of_le zq g11.size
 clear hr
 have hr : Ro w11 134 g ok (L2) false := by rw [HL2.out] at qhr; exact qhr
 clear qhr
 replace bel := below_grown bel g11 (by omega) bel.size
 clear g11
 go_wp2_with (first | ((with_reducible show wpList _ _ _ (⟨none, Op.store _ _ _, _, _, _, _⟩ :: _) _ _); refine wpList_store_part rfl 36 _ _ rfl (w2.heap.size) 14 rfl [.slice Ao K co] rfl [.int .i64 (h1.toNat : Int), .int .i64 (be [h4, h5] : Nat), .int .i64 ((be [h6, h7] : Nat) / 8192), .int .i64 ((be [h6, h7] : Nat) % 8192), .int .i64 (h8.toNat : Int), .int .i64 (h9.toNat : Int), .int .u8 (h12.toNat : Int), .int .u8 (h13.toNat : Int), .int .u8 (h14.toNat : Int), .int .u8 (h15.toNat : Int), .int .u8 (h16.toNat : Int), .int .u8 (h17.toNat : Int), .int .u8 (h18.toNat : Int), .int .u8 (h19.toNat : Int), .slice none 0 0, .slice none 0 0] 38 hq (by simp) [.int .i64 (h1.toNat : Int), .int .i64 (be [h4, h5] : Nat), .int .i64 ((be [h6, h7] : Nat) / 8192), .int .i64 ((be [h6, h7] : Nat) % 8192), .int .i64 (h8.toNat : Int), .int .i64 (h9.toNat : Int), .int .u8 (h12.toNat : Int), .int .u8 (h13.toNat : Int), .int .u8 (h14.toNat : Int), .int .u8 (h15.toNat : Int), .int .u8 (h16.toNat : Int), .int .u8 (h17.toNat : Int), .int .u8 (h18.toNat : Int), .int .u8 (h19.toNat : Int), .slice Ao K co, .slice none 0 0] rfl (by kernel_rfl) (by rfl) ?_; intro x12 qq gp; replace hz := (gp.block _ zz (by intro e; injection e with e; omega)).trans hz; replace zz := Nat.lt_of_lt_of_le zz gp.size; replace zq := Nat.lt_of_lt_of_le zq gp.size; clear hq; have hq := qq; clear qq; replace hr := hr.grown gp nok (by omega); replace so := so.grown fo gp (by omega); replace bel := below_grown bel gp (by omega) bel.size; clear gp))
 with_reducible refine (left_any g L2 false _ hr.rd).mono ?_
 rintro e _ ⟨rfl, rfl⟩
 go_wp2_with fail
 have zg2 := hr.rd.lt
 have zz2 := zz
 have zq2 := zq
 with_reducible refine (bytes_q g ok L2 false L2.length _ hr (Nat.le_refl _) (by have := HL2n.out; omega)).mono ?_
 rintro e w13 ⟨Ab, cb, rfl, sb, qhr, g13, fb⟩
 replace hz := (g13.block _ zz (by intro e; injection e with e; omega)).trans hz
 replace hq := (g13.block _ zq (by intro e; injection e with e; omega)).trans hq
 replace zz := Nat.lt_of_lt_of_le zz g13.size
 replace zq := Nat.lt_of_lt_of_le zq g13.size
 replace so := so.grown fo g13 (by omega)
 replace bel := below_grown bel g13 (by omega) bel.size
 clear g13 hr qhr
 go_wp2_with (first | ((with_reducible show wpList _ _ _ (⟨none, Op.store _ _ _, _, _, _, _⟩ :: _) _ _); refine wpList_store_part rfl 36 _ _ rfl (w2.heap.size) 15 rfl [.slice Ab L2.length cb] rfl [.int .i64 (h1.toNat : Int), .int .i64 (be [h4, h5] : Nat), .int .i64 ((be [h6, h7] : Nat) / 8192), .int .i64 ((be [h6, h7] : Nat) % 8192), .int .i64 (h8.toNat : Int), .int .i64 (h9.toNat : Int), .int .u8 (h12.toNat : Int), .int .u8 (h13.toNat : Int), .int .u8 (h14.toNat : Int), .int .u8 (h15.toNat : Int), .int .u8 (h16.toNat : Int), .int .u8 (h17.toNat : Int), .int .u8 (h18.toNat : Int), .int .u8 (h19.toNat : Int), .slice Ao K co, .slice none 0 0] 38 hq (by simp) [.int .i64 (h1.toNat : Int), .int .i64 (be [h4, h5] : Nat), .int .i64 ((be [h6, h7] : Nat) / 8192), .int .i64 ((be [h6, h7] : Nat) % 8192), .int .i64 (h8.toNat : Int), .int .i64 (h9.toNat : Int), .int .u8 (h12.toNat : Int), .int .u8 (h13.toNat : Int), .int .u8 (h14.toNat : Int), .int .u8 (h15.toNat : Int), .int .u8 (h16.toNat : Int), .int .u8 (h17.toNat : Int), .int .u8 (h18.toNat : Int), .int .u8 (h19.toNat : Int), .slice Ao K co, .slice Ab L2.length cb] rfl (by kernel_rfl) (by rfl) ?_; intro x14 qq gp; replace hz := (gp.block _ zz (by intro e; injection e with e; omega)).trans hz; replace zz := Nat.lt_of_lt_of_le zz gp.size; replace zq := Nat.lt_of_lt_of_le zq gp.size; clear hq; have hq := qq; clear qq; replace so := so.grown fo gp (by omega); replace sb := sb.grown fb gp (by omega); replace bel := below_grown bel gp (by omega) bel.size; clear gp; have R7 := Lib.hid (range_lit hq 0 16 [.int .i64 (h1.toNat : Int), .int .i64 (be [h4, h5] : Nat), .int .i64 ((be [h6, h7] : Nat) / 8192), .int .i64 ((be [h6, h7] : Nat) % 8192), .int .i64 (h8.toNat : Int), .int .i64 (h9.toNat : Int), .int .u8 (h12.toNat : Int), .int .u8 (h13.toNat : Int), .int .u8 (h14.toNat : Int), .int .u8 (h15.toNat : Int), .int .u8 (h16.toNat : Int), .int .u8 (h17.toNat : Int), .int .u8 (h18.toNat : Int), .int .u8 (h19.toNat : Int), .slice Ao K co, .slice Ab L2.length cb] rfl)) | ((with_reducible show wpList _ _ _ (⟨some 35, _, _, _, _, _⟩ :: _) _ _); refine wpList_load_rng 38 (.tmp 7) rfl (by kernel_rfl) _ _ rfl _ R7.out _ Tryz.underlying38 rfl (by kernel_rfl) ?_) | ((with_reducible show wpList _ _ _ (⟨none, Op.store _ _ _, _, _, _, _⟩ :: _) _ _); refine wpList_store_blk rfl 38 _ _ rfl (w.heap.size) rfl #[.int .i64 (h1.toNat : Int), .int .i64 (be [h4, h5] : Nat), .int .i64 ((be [h6, h7] : Nat) / 8192), .int .i64 ((be [h6, h7] : Nat) % 8192), .int .i64 (h8.toNat : Int), .int .i64 (h9.toNat : Int), .int .u8 (h12.toNat : Int), .int .u8 (h13.toNat : Int), .int .u8 (h14.toNat : Int), .int .u8 (h15.toNat : Int), .int .u8 (h16.toNat : Int), .int .u8 (h17.toNat : Int), .int .u8 (h18.toNat : Int), .int .u8 (h19.toNat : Int), .slice Ao K co, .slice Ab L2.length cb] rfl _ 38 hz (by rfl) (by kernel_rfl) (by kernel_rfl) ?_; intro wz hrz gz; replace so := so.grown fo gz (by omega); replace sb := sb.grown fb gz (by omega); replace bel := below_grown bel gz (Nat.le_refl _) bel.size; clear gz hz))
 exact bodyPost_ret (results_cell_tmp_row rfl _ _ _ _ _ _ _ rfl hrz Tryz.underlying38 rfl (by kernel_rfl) _ rfl) rfl ⟨Ao, co, Ab, cb, rfl, by rw [HLO.out] at so; exact so, by rw [List.take_length] at sb; exact sb, bel⟩

theorem ipErr_20 {l : List UInt8} (h : ipErr l = 0) : 20 ≤ l.length := Nat.le_of_not_lt fun g => by unfold ipErr at h; rw [if_pos g] at h; cases h
theorem ipget_any (A : Option Addr) (n c : Nat) (l : List UInt8) (w : World) (hl : Sl w A n c l) (hm : n ≤ 100000) : Calls Tryz.prog 51 #[.slice A n c] w (IpPost l w) := by
 by_cases he : ipErr l = 0
 ·obtain ⟨h0, h1, h2, h3, h4, h5, h6, h7, h8, h9, h10, h11, h12, h13, h14, h15, h16, h17, h18, h19, r, rfl⟩ := list20 l (ipErr_20 he)
  refine (ipget_ok A n c h0 h1 h2 h3 h4 h5 h6 h7 h8 h9 h10 h11 h12 h13 h14 h15 h16 h17 h18 h19 r w hl hm he).mono ?_
  rintro e w' ⟨Ao, co, Ab, cb, rfl, ho, hb, bel⟩
  have eo := ho.1
  have eb := hb.1
  refine ⟨_, _, _, _, _, _, h12, h13, h14, h15, h16, h17, h18, h19, r.take (hlen h0 - 20), ((h0 :: h1 :: h2 :: h3 :: h4 :: h5 :: h6 :: h7 :: h8 :: h9 :: h10 :: h11 :: h12 :: h13 :: h14 :: h15 :: h16 :: h17 :: h18 :: h19 :: r).drop (hlen h0)).take (be [h2, h3] - hlen h0), Ao, Ab, co, cb, 0, by rw [eo, eb], by rw [eo]; exact ho, by rw [eb]; exact hb, bel, ?_⟩
  unfold ipGet
  rw [if_neg (by rw [he]; simp)]
  rfl
 ·refine (ipget_err A n c l w hl hm he).mono ?_
  rintro e w' ⟨rfl, bel⟩
  exact IpPost.err rfl he bel
open Go.RowKit

theorem ipget_len {l : List UInt8} {fs : List Int} {ad lo lb : List UInt8} (h : ipGet l = ((fs, ad), (lo, lb), 0)) : 20 + lo.length + lb.length ≤ l.length := by
 have he : ipErr l = 0 := by
  by_cases he : ipErr l = 0
  ·exact he
  ·exfalso
   unfold ipGet at h
   rw [if_pos he] at h
   simp only [Prod.mk.injEq] at h
   exact he h.2.2
 have h20 : 20 ≤ l.length := Nat.le_of_not_lt fun g => by unfold ipErr at he; rw [if_pos g] at he; cases he
 obtain ⟨h0, h1, h2, h3, h4, h5, h6, h7, h8, h9, h10, h11, h12, h13, h14, h15, h16, h17, h18, h19, r, rfl⟩ := list20 l h20
 rw [ipGet_at he] at h
 obtain ⟨g1, g2, g3, g4, g5, g6⟩ := ok_parts he
 simp only [Prod.mk.injEq] at h
 obtain ⟨_, ⟨rfl, rfl⟩, _⟩ := h
 simp only [List.length_take, List.length_drop, List.length_cons] at *
 omega
theorem neq4z (a b c d : UInt8) (W : World) : (binOp .neq 35 (.agg #[.int .u8 (a.toNat : Int), .int .u8 (b.toNat : Int), .int .u8 (c.toNat : Int), .int .u8 (d.toNat : Int)]) (.agg #[.int .u8 0, .int .u8 0, .int .u8 0, .int .u8 0])).run Tryz.prog W = .ok (.bool (!([a, b, c, d] == [0, 0, 0, 0]))) W := by
 have h := run_equalIn_bytes (P := Tryz.prog) W 9998 35 5 4 (by kernel_rfl) (by kernel_rfl) (fun w => by kernel_rfl) [a, b, c, d] [0, 0, 0, 0] rfl rfl
 rw [run_neq_struct]
 have h2 : (Op.equalIn 10000 35 (.agg #[.int .u8 (a.toNat : Int), .int .u8 (b.toNat : Int), .int .u8 (c.toNat : Int), .int .u8 (d.toNat : Int)]) (.agg #[.int .u8 0, .int .u8 0, .int .u8 0, .int .u8 0])).run Tryz.prog W = .ok ([a, b, c, d] == [0, 0, 0, 0]) W := h
 rw [h2]
 rfl
theorem ipget_n (A : Option Addr) (n c : Nat) (l : List UInt8) (f0 f1 f2 f3 f4 f5 : Int) (a0 a1 a2 a3 a4 a5 a6 a7 : UInt8) (lo lb : List UInt8) (no nb : Nat) (er : Int) (w : World) (hl : Sl w A n c l) (hm : n ≤ 100000) (hg : ipGet l = (([f0, f1, f2, f3, f4, f5], [a0, a1, a2, a3, a4, a5, a6, a7]), (lo, lb), er)) (h1 : lo.length = no) (h2 : lb.length = nb) : Calls Tryz.prog 51 #[.slice A n c] w fun e w' => ∃ Ao co Ab cb, e = .returned (.tuple #[.agg #[.int .i64 f0, .int .i64 f1, .int .i64 f2, .int .i64 f3, .int .i64 f4, .int .i64 f5, .int .u8 (a0.toNat : Int), .int .u8 (a1.toNat : Int), .int .u8 (a2.toNat : Int), .int .u8 (a3.toNat : Int), .int .u8 (a4.toNat : Int), .int .u8 (a5.toNat : Int), .int .u8 (a6.toNat : Int), .int .u8 (a7.toNat : Int), .slice Ao no co, .slice Ab nb cb], .int .i64 er]) ∧ Sl w' Ao no co lo ∧ Sl w' Ab nb cb lb ∧ Below w.heap.size w w' := by
 subst h1
 subst h2
 refine (ipget_any A n c l w hl hm).mono ?_
 rintro e w' ⟨g0, g1, g2, g3, g4, g5, b0, b1, b2, b3, b4, b5, b6, b7, lo', lb', Ao, Ab, co, cb, er', rfl, ho, hb, bel, hq⟩
 rw [hg] at hq
 simp only [Prod.mk.injEq, List.cons.injEq, and_true] at hq
 obtain ⟨⟨⟨rfl, rfl, rfl, rfl, rfl, rfl⟩, rfl, rfl, rfl, rfl, rfl, rfl, rfl, rfl⟩, ⟨rfl, rfl⟩, rfl⟩ := hq
 exact ⟨Ao, co, Ab, cb, rfl, ho, hb, bel⟩
open Go.RowKit

theorem ishost_0 (o0 o1 o2 o3 : UInt8) (h0 : ([o0, o1, o2, o3] == [0, 0, 0, 0]) = true) (w : World) : Calls Tryz.prog 89 #[.agg #[.int .u8 (o0.toNat : Int), .int .u8 (o1.toNat : Int), .int .u8 (o2.toNat : Int), .int .u8 (o3.toNat : Int)]] w fun e w' => e = .returned (.bool false) ∧ Below w.heap.size w w' := by
 have q : ∀ W, (binOp .neq 35 (.agg #[.int .u8 (o0.toNat : Int), .int .u8 (o1.toNat : Int), .int .u8 (o2.toNat : Int), .int .u8 (o3.toNat : Int)]) (.agg #[.int .u8 0, .int .u8 0, .int .u8 0, .int .u8 0])).run Tryz.prog W = .ok (.bool false) W := fun W => by rw [neq4z, h0]; rfl
 have g := guard4
 clear h0
 have bel := Below.refl w.heap.size w
 go_enter Tryz.func89, Tryz.ntmps89
 go_wp2_with (first | ((with_reducible show wpList _ _ _ (⟨some 1, _, _, _, _, _⟩ :: _) _ _); refine wpList_box_n rfl 35 (.tmp 0) rfl #[.int .u8 (o0.toNat : Int), .int .u8 (o1.toNat : Int), .int .u8 (o2.toNat : Int), .int .u8 (o3.toNat : Int)] rfl ?_; intro g1 w1 ge lt hh bb; have oa := Nat.le_trans bel.size ge; replace bel := bel.trans (bb.mono bel.size); have ha := hh; clear hh lt ge bb; have R3 := Lib.hid (range_lit ha 0 4 [.int .u8 (o0.toNat : Int), .int .u8 (o1.toNat : Int), .int .u8 (o2.toNat : Int), .int .u8 (o3.toNat : Int)] rfl)) | ((with_reducible show wpList _ _ _ (⟨some 3, _, _, _, _, _⟩ :: _) _ _); refine wpList_load_rng 35 (.tmp 1) rfl (by kernel_rfl) _ _ rfl _ R3.out _ Tryz.underlying35 rfl (by kernel_rfl) ?_))
 try clear R3
 go_ret
 exact ⟨rfl, bel⟩
theorem ishost_1 (o0 o1 o2 o3 : UInt8) (h0 : ([o0, o1, o2, o3] == [0, 0, 0, 0]) = false) (h1 : o0.toNat ≤ 223) (w : World) : Calls Tryz.prog 89 #[.agg #[.int .u8 (o0.toNat : Int), .int .u8 (o1.toNat : Int), .int .u8 (o2.toNat : Int), .int .u8 (o3.toNat : Int)]] w fun e w' => e = .returned (.bool true) ∧ Below w.heap.size w w' := by
 have q : ∀ W, (binOp .neq 35 (.agg #[.int .u8 (o0.toNat : Int), .int .u8 (o1.toNat : Int), .int .u8 (o2.toNat : Int), .int .u8 (o3.toNat : Int)]) (.agg #[.int .u8 0, .int .u8 0, .int .u8 0, .int .u8 0])).run Tryz.prog W = .ok (.bool true) W := fun W => by rw [neq4z, h0]; rfl
 have g := guard4
 clear h0
 have t0 : (o0.toNat : Int) ≤ 223 := by omega
 clear h1
 have bel := Below.refl w.heap.size w
 go_enter Tryz.func89, Tryz.ntmps89
 go_wp2_with (first | ((with_reducible show wpList _ _ _ (⟨some 1, _, _, _, _, _⟩ :: _) _ _); refine wpList_box_n rfl 35 (.tmp 0) rfl #[.int .u8 (o0.toNat : Int), .int .u8 (o1.toNat : Int), .int .u8 (o2.toNat : Int), .int .u8 (o3.toNat : Int)] rfl ?_; intro g1 w1 ge lt hh bb; have oa := Nat.le_trans bel.size ge; replace bel := bel.trans (bb.mono bel.size); have ha := hh; clear hh lt ge bb; have R3 := Lib.hid (range_lit ha 0 4 [.int .u8 (o0.toNat : Int), .int .u8 (o1.toNat : Int), .int .u8 (o2.toNat : Int), .int .u8 (o3.toNat : Int)] rfl)) | ((with_reducible show wpList _ _ _ (⟨some 3, _, _, _, _, _⟩ :: _) _ _); refine wpList_load_rng 35 (.tmp 1) rfl (by kernel_rfl) _ _ rfl _ R3.out _ Tryz.underlying35 rfl (by kernel_rfl) ?_; have R8 := cell_lit ha 0 _ rfl))
 try clear R3
 try clear R8
 go_ret
 exact ⟨rfl, bel⟩
theorem ishost_2 (o0 o1 o2 o3 : UInt8) (h0 : ([o0, o1, o2, o3] == [0, 0, 0, 0]) = false) (h1 : 223 < o0.toNat) (w : World) : Calls Tryz.prog 89 #[.agg #[.int .u8 (o0.toNat : Int), .int .u8 (o1.toNat : Int), .int .u8 (o2.toNat : Int), .int .u8 (o3.toNat : Int)]] w fun e w' => e = .returned (.bool false) ∧ Below w.heap.size w w' := by
 have q : ∀ W, (binOp .neq 35 (.agg #[.int .u8 (o0.toNat : Int), .int .u8 (o1.toNat : Int), .int .u8 (o2.toNat : Int), .int .u8 (o3.toNat : Int)]) (.agg #[.int .u8 0, .int .u8 0, .int .u8 0, .int .u8 0])).run Tryz.prog W = .ok (.bool true) W := fun W => by rw [neq4z, h0]; rfl
 have g := guard4
 clear h0
 have t0 : decide ((o0.toNat : Int) ≤ 223) = false := decide_eq_false (by omega)
 clear h1
 have bel := Below.refl w.heap.size w
 go_enter Tryz.func89, Tryz.ntmps89
 go_wp2_with (first | ((with_reducible show wpList _ _ _ (⟨some 1, _, _, _, _, _⟩ :: _) _ _); refine wpList_box_n rfl 35 (.tmp 0) rfl #[.int .u8 (o0.toNat : Int), .int .u8 (o1.toNat : Int), .int .u8 (o2.toNat : Int), .int .u8 (o3.toNat : Int)] rfl ?_; intro g1 w1 ge lt hh bb; have oa := Nat.le_trans bel.size ge; replace bel := bel.trans (bb.mono bel.size); have ha := hh; clear hh lt ge bb; have R3 := Lib.hid (range_lit ha 0 4 [.int .u8 (o0.toNat : Int), .int .u8 (o1.toNat : Int), .int .u8 (o2.toNat : Int), .int .u8 (o3.toNat : Int)] rfl)) | ((with_reducible show wpList _ _ _ (⟨some 3, _, _, _, _, _⟩ :: _) _ _); refine wpList_load_rng 35 (.tmp 1) rfl (by kernel_rfl) _ _ rfl _ R3.out _ Tryz.underlying35 rfl (by kernel_rfl) ?_; have R8 := cell_lit ha 0 _ rfl))
 try clear R3
 try clear R8
 go_ret
 exact ⟨rfl, bel⟩
theorem ishost_any (o0 o1 o2 o3 : UInt8) (w : World) : Calls Tryz.prog 89 #[.agg #[.int .u8 (o0.toNat : Int), .int .u8 (o1.toNat : Int), .int .u8 (o2.toNat : Int), .int .u8 (o3.toNat : Int)]] w fun e w' => e = .returned (.bool (hostOk o0 o1 o2 o3)) ∧ Below w.heap.size w w' := by
 unfold hostOk
 rcases (by decide : ∀ b : Bool, b = true ∨ b = false) ([o0, o1, o2, o3] == [0, 0, 0, 0]) with h0 | h0
 ·rw [h0]
  exact ishost_0 o0 o1 o2 o3 h0 w
 ·rw [h0]
  by_cases h1 : o0.toNat ≤ 223
  ·rw [decide_eq_true h1]
   exact ishost_1 o0 o1 o2 o3 h0 h1 w
  ·rw [decide_eq_false h1]
   exact ishost_2 o0 o1 o2 o3 h0 (by omega) w
theorem answer_0 (tos id fl pt ttl pr : Int) (a0 a1 a2 a3 a4 a5 a6 a7 : UInt8) (So Sb : Option Addr) (no co nb cb : Nat) (w : World) (h0 : 0 < pt) : Calls Tryz.prog 52 #[.agg #[.int .i64 tos, .int .i64 id, .int .i64 fl, .int .i64 pt, .int .i64 ttl, .int .i64 pr, .int .u8 (a0.toNat : Int), .int .u8 (a1.toNat : Int), .int .u8 (a2.toNat : Int), .int .u8 (a3.toNat : Int), .int .u8 (a4.toNat : Int), .int .u8 (a5.toNat : Int), .int .u8 (a6.toNat : Int), .int .u8 (a7.toNat : Int), .slice So no co, .slice Sb nb cb]] w fun e w' => e = .returned (.bool false) ∧ Below w.heap.size w w' := by
 have t0 : (0 : Int) < pt := h0
 clear h0
 have bel := Below.refl w.heap.size w
 go_enter Tryz.func52, Tryz.ntmps52
 go_wp2_with (first | ((with_reducible show wpList _ _ _ (⟨some 1, _, _, _, _, _⟩ :: _) _ _); refine wpList_box_n rfl 38 (.tmp 0) rfl #[.int .i64 tos, .int .i64 id, .int .i64 fl, .int .i64 pt, .int .i64 ttl, .int .i64 pr, .int .u8 (a0.toNat : Int), .int .u8 (a1.toNat : Int), .int .u8 (a2.toNat : Int), .int .u8 (a3.toNat : Int), .int .u8 (a4.toNat : Int), .int .u8 (a5.toNat : Int), .int .u8 (a6.toNat : Int), .int .u8 (a7.toNat : Int), .slice So no co, .slice Sb nb cb] rfl ?_; intro g1 w1 ge lt hh bb; have op := Nat.le_trans bel.size ge; replace bel := bel.trans (bb.mono bel.size); have hp := hh; clear hh lt ge bb; have R4 := cell_lit hp 3 _ rfl))
 try clear R4
 go_ret
 exact ⟨rfl, bel⟩
theorem answer_1 (tos id fl pt ttl pr : Int) (a0 a1 a2 a3 a4 a5 a6 a7 : UInt8) (So Sb : Option Addr) (no co nb cb : Nat) (w : World) (h0 : ¬ 0 < pt) (h1 : hostOk a0 a1 a2 a3 = false) : Calls Tryz.prog 52 #[.agg #[.int .i64 tos, .int .i64 id, .int .i64 fl, .int .i64 pt, .int .i64 ttl, .int .i64 pr, .int .u8 (a0.toNat : Int), .int .u8 (a1.toNat : Int), .int .u8 (a2.toNat : Int), .int .u8 (a3.toNat : Int), .int .u8 (a4.toNat : Int), .int .u8 (a5.toNat : Int), .int .u8 (a6.toNat : Int), .int .u8 (a7.toNat : Int), .slice So no co, .slice Sb nb cb]] w fun e w' => e = .returned (.bool false) ∧ Below w.heap.size w w' := by
 have t0 : decide ((0 : Int) < pt) = false := decide_eq_false h0
 have H1 := Lib.hid h1
 clear h0 h1
 have bel := Below.refl w.heap.size w
 go_enter Tryz.func52, Tryz.ntmps52
 go_wp2_with (first | ((with_reducible show wpList _ _ _ (⟨some 1, _, _, _, _, _⟩ :: _) _ _); refine wpList_box_n rfl 38 (.tmp 0) rfl #[.int .i64 tos, .int .i64 id, .int .i64 fl, .int .i64 pt, .int .i64 ttl, .int .i64 pr, .int .u8 (a0.toNat : Int), .int .u8 (a1.toNat : Int), .int .u8 (a2.toNat : Int), .int .u8 (a3.toNat : Int), .int .u8 (a4.toNat : Int), .int .u8 (a5.toNat : Int), .int .u8 (a6.toNat : Int), .int .u8 (a7.toNat : Int), .slice So no co, .slice Sb nb cb] rfl ?_; intro g1 w1 ge lt hh bb; have op := Nat.le_trans bel.size ge; replace bel := bel.trans (bb.mono bel.size); have hp := hh; clear hh lt ge bb; have R4 := cell_lit hp 3 _ rfl; have R8 := Lib.hid (range_lit hp 6 4 [.int .u8 (a0.toNat : Int), .int .u8 (a1.toNat : Int), .int .u8 (a2.toNat : Int), .int .u8 (a3.toNat : Int)] rfl)) | ((with_reducible show wpList _ _ _ (⟨some 8, _, _, _, _, _⟩ :: _) _ _); refine wpList_load_rng 35 (.tmp 7) rfl (by kernel_rfl) _ _ rfl _ R8.out _ Tryz.underlying35 rfl (by kernel_rfl) ?_))
 try clear R4
 try clear R8
 with_reducible refine (ishost_any _ _ _ _ _).mono ?_
 rintro e w2 ⟨rfl, b2⟩
 replace hp := blk_u hp b2
 replace bel := bel.trans (b2.mono bel.size)
 clear b2
 rw [H1.out]
 go_wp2_with fail
 go_ret
 exact ⟨rfl, bel⟩
theorem answer_2 (tos id fl pt ttl pr : Int) (a0 a1 a2 a3 a4 a5 a6 a7 : UInt8) (So Sb : Option Addr) (no co nb cb : Nat) (w : World) (h0 : ¬ 0 < pt) (h1 : hostOk a0 a1 a2 a3 = true) (h2 : hostOk a4 a5 a6 a7 = false) : Calls Tryz.prog 52 #[.agg #[.int .i64 tos, .int .i64 id, .int .i64 fl, .int .i64 pt, .int .i64 ttl, .int .i64 pr, .int .u8 (a0.toNat : Int), .int .u8 (a1.toNat : Int), .int .u8 (a2.toNat : Int), .int .u8 (a3.toNat : Int), .int .u8 (a4.toNat : Int), .int .u8 (a5.toNat : Int), .int .u8 (a6.toNat : Int), .int .u8 (a7.toNat : Int), .slice So no co, .slice Sb nb cb]] w fun e w' => e = .returned (.bool false) ∧ Below w.heap.size w w' := by
 have t0 : decide ((0 : Int) < pt) = false := decide_eq_false h0
 have H1 := Lib.hid h1
 have H2 := Lib.hid h2
 clear h0 h1 h2
 have bel := Below.refl w.heap.size w
 go_enter Tryz.func52, Tryz.ntmps52
 go_wp2_with (first | ((with_reducible show wpList _ _ _ (⟨some 1, _, _, _, _, _⟩ :: _) _ _); refine wpList_box_n rfl 38 (.tmp 0) rfl #[.int .i64 tos, .int .i64 id, .int .i64 fl, .int .i64 pt, .int .i64 ttl, .int .i64 pr, .int .u8 (a0.toNat : Int), .int .u8 (a1.toNat : Int), .int .u8 (a2.toNat : Int), .int .u8 (a3.toNat : Int), .int .u8 (a4.toNat : Int), .int .u8 (a5.toNat : Int), .int .u8 (a6.toNat : Int), .int .u8 (a7.toNat : Int), .slice So no co, .slice Sb nb cb] rfl ?_; intro g1 w1 ge lt hh bb; have op := Nat.le_trans bel.size ge; replace bel := bel.trans (bb.mono bel.size); have hp := hh; clear hh lt ge bb; have R4 := cell_lit hp 3 _ rfl; have R8 := Lib.hid (range_lit hp 6 4 [.int .u8 (a0.toNat : Int), .int .u8 (a1.toNat : Int), .int .u8 (a2.toNat : Int), .int .u8 (a3.toNat : Int)] rfl)) | ((with_reducible show wpList _ _ _ (⟨some 8, _, _, _, _, _⟩ :: _) _ _); refine wpList_load_rng 35 (.tmp 7) rfl (by kernel_rfl) _ _ rfl _ R8.out _ Tryz.underlying35 rfl (by kernel_rfl) ?_))
 try clear R4
 try clear R8
 with_reducible refine (ishost_any _ _ _ _ _).mono ?_
 rintro e w2 ⟨rfl, b2⟩
 replace hp := blk_u hp b2
 replace bel := bel.trans (b2.mono bel.size)
 clear b2
 rw [H1.out]
 have R14 := Lib.hid (range_lit hp 10 4 [.int .u8 (a4.toNat : Int), .int .u8 (a5.toNat : Int), .int .u8 (a6.toNat : Int), .int .u8 (a7.toNat : Int)] rfl)
 go_wp2_with (first | ((with_reducible show wpList _ _ _ (⟨some 14, _, _, _, _, _⟩ :: _) _ _); refine wpList_load_rng 35 (.tmp 13) rfl (by kernel_rfl) _ _ rfl _ R14.out _ Tryz.underlying35 rfl (by kernel_rfl) ?_))
 try clear R14
 with_reducible refine (ishost_any _ _ _ _ _).mono ?_
 rintro e w3 ⟨rfl, b3⟩
 replace hp := blk_u hp b3
 replace bel := bel.trans (b3.mono bel.size)
 clear b3
 rw [H2.out]
 go_wp2_with fail
 go_ret
 exact ⟨rfl, bel⟩
theorem answer_3 (tos id fl pt ttl pr : Int) (a0 a1 a2 a3 a4 a5 a6 a7 : UInt8) (So Sb : Option Addr) (no co nb cb : Nat) (w : World) (h0 : ¬ 0 < pt) (h1 : hostOk a0 a1 a2 a3 = true) (h2 : hostOk a4 a5 a6 a7 = true) (h3 : pr ≠ 1) : Calls Tryz.prog 52 #[.agg #[.int .i64 tos, .int .i64 id, .int .i64 fl, .int .i64 pt, .int .i64 ttl, .int .i64 pr, .int .u8 (a0.toNat : Int), .int .u8 (a1.toNat : Int), .int .u8 (a2.toNat : Int), .int .u8 (a3.toNat : Int), .int .u8 (a4.toNat : Int), .int .u8 (a5.toNat : Int), .int .u8 (a6.toNat : Int), .int .u8 (a7.toNat : Int), .slice So no co, .slice Sb nb cb]] w fun e w' => e = .returned (.bool true) ∧ Below w.heap.size w w' := by
 have t0 : decide ((0 : Int) < pt) = false := decide_eq_false h0
 have H1 := Lib.hid h1
 have H2 := Lib.hid h2
 have t1 : (pr == 1) = false := by simpa using h3
 have t2 : (pr != 1) = true := by simpa using h3
 clear h0 h1 h2 h3
 have bel := Below.refl w.heap.size w
 go_enter Tryz.func52, Tryz.ntmps52
 go_wp2_with (first | ((with_reducible show wpList _ _ _ (⟨some 1, _, _, _, _, _⟩ :: _) _ _); refine wpList_box_n rfl 38 (.tmp 0) rfl #[.int .i64 tos, .int .i64 id, .int .i64 fl, .int .i64 pt, .int .i64 ttl, .int .i64 pr, .int .u8 (a0.toNat : Int), .int .u8 (a1.toNat : Int), .int .u8 (a2.toNat : Int), .int .u8 (a3.toNat : Int), .int .u8 (a4.toNat : Int), .int .u8 (a5.toNat : Int), .int .u8 (a6.toNat : Int), .int .u8 (a7.toNat : Int), .slice So no co, .slice Sb nb cb] rfl ?_; intro g1 w1 ge lt hh bb; have op := Nat.le_trans bel.size ge; replace bel := bel.trans (bb.mono bel.size); have hp := hh; clear hh lt ge bb; have R4 := cell_lit hp 3 _ rfl; have R8 := Lib.hid (range_lit hp 6 4 [.int .u8 (a0.toNat : Int), .int .u8 (a1.toNat : Int), .int .u8 (a2.toNat : Int), .int .u8 (a3.toNat : Int)] rfl)) | ((with_reducible show wpList _ _ _ (⟨some 8, _, _, _, _, _⟩ :: _) _ _); refine wpList_load_rng 35 (.tmp 7) rfl (by kernel_rfl) _ _ rfl _ R8.out _ Tryz.underlying35 rfl (by kernel_rfl) ?_))
 try clear R4
 try clear R8
 with_reducible refine (ishost_any _ _ _ _ _).mono ?_
 rintro e w2 ⟨rfl, b2⟩
 replace hp := blk_u hp b2
 replace bel := bel.trans (b2.mono bel.size)
 clear b2
 rw [H1.out]
 have R14 := Lib.hid (range_lit hp 10 4 [.int .u8 (a4.toNat : Int), .int .u8 (a5.toNat : Int), .int .u8 (a6.toNat : Int), .int .u8 (a7.toNat : Int)] rfl)
 go_wp2_with (first | ((with_reducible show wpList _ _ _ (⟨some 14, _, _, _, _, _⟩ :: _) _ _); refine wpList_load_rng 35 (.tmp 13) rfl (by kernel_rfl) _ _ rfl _ R14.out _ Tryz.underlying35 rfl (by kernel_rfl) ?_))
 try clear R14
 with_reducible refine (ishost_any _ _ _ _ _).mono ?_
 rintro e w3 ⟨rfl, b3⟩
 replace hp := blk_u hp b3
 replace bel := bel.trans (b3.mono bel.size)
 clear b3
 rw [H2.out]
 have R19 := cell_lit hp 5 _ rfl
 go_wp2_with fail
 clear R19
 go_ret
 exact ⟨rfl, bel⟩
theorem answer_4 (tos id fl pt ttl : Int) (a0 a1 a2 a3 a4 a5 a6 a7 : UInt8) (So Sb : Option Addr) (no co nb cb : Nat) (w : World) (h0 : ¬ 0 < pt) (h1 : hostOk a0 a1 a2 a3 = true) (h2 : hostOk a4 a5 a6 a7 = true) (h3 : nb < 8) : Calls Tryz.prog 52 #[.agg #[.int .i64 tos, .int .i64 id, .int .i64 fl, .int .i64 pt, .int .i64 ttl, .int .i64 1, .int .u8 (a0.toNat : Int), .int .u8 (a1.toNat : Int), .int .u8 (a2.toNat : Int), .int .u8 (a3.toNat : Int), .int .u8 (a4.toNat : Int), .int .u8 (a5.toNat : Int), .int .u8 (a6.toNat : Int), .int .u8 (a7.toNat : Int), .slice So no co, .slice Sb nb cb]] w fun e w' => e = .returned (.bool false) ∧ Below w.heap.size w w' := by
 have t0 : decide ((0 : Int) < pt) = false := decide_eq_false h0
 have H1 := Lib.hid h1
 have H2 := Lib.hid h2
 have t1 : decide ((8 : Int) ≤ nb) = false := decide_eq_false (by omega)
 clear h0 h1 h2 h3
 have bel := Below.refl w.heap.size w
 go_enter Tryz.func52, Tryz.ntmps52
 go_wp2_with (first | ((with_reducible show wpList _ _ _ (⟨some 1, _, _, _, _, _⟩ :: _) _ _); refine wpList_box_n rfl 38 (.tmp 0) rfl #[.int .i64 tos, .int .i64 id, .int .i64 fl, .int .i64 pt, .int .i64 ttl, .int .i64 1, .int .u8 (a0.toNat : Int), .int .u8 (a1.toNat : Int), .int .u8 (a2.toNat : Int), .int .u8 (a3.toNat : Int), .int .u8 (a4.toNat : Int), .int .u8 (a5.toNat : Int), .int .u8 (a6.toNat : Int), .int .u8 (a7.toNat : Int), .slice So no co, .slice Sb nb cb] rfl ?_; intro g1 w1 ge lt hh bb; have op := Nat.le_trans bel.size ge; replace bel := bel.trans (bb.mono bel.size); have hp := hh; clear hh lt ge bb; have R4 := cell_lit hp 3 _ rfl; have R8 := Lib.hid (range_lit hp 6 4 [.int .u8 (a0.toNat : Int), .int .u8 (a1.toNat : Int), .int .u8 (a2.toNat : Int), .int .u8 (a3.toNat : Int)] rfl)) | ((with_reducible show wpList _ _ _ (⟨some 8, _, _, _, _, _⟩ :: _) _ _); refine wpList_load_rng 35 (.tmp 7) rfl (by kernel_rfl) _ _ rfl _ R8.out _ Tryz.underlying35 rfl (by kernel_rfl) ?_))
 try clear R4
 try clear R8
 with_reducible refine (ishost_any _ _ _ _ _).mono ?_
 rintro e w2 ⟨rfl, b2⟩
 replace hp := blk_u hp b2
 replace bel := bel.trans (b2.mono bel.size)
 clear b2
 rw [H1.out]
 have R14 := Lib.hid (range_lit hp 10 4 [.int .u8 (a4.toNat : Int), .int .u8 (a5.toNat : Int), .int .u8 (a6.toNat : Int), .int .u8 (a7.toNat : Int)] rfl)
 go_wp2_with (first | ((with_reducible show wpList _ _ _ (⟨some 14, _, _, _, _, _⟩ :: _) _ _); refine wpList_load_rng 35 (.tmp 13) rfl (by kernel_rfl) _ _ rfl _ R14.out _ Tryz.underlying35 rfl (by kernel_rfl) ?_))
 try clear R14
 with_reducible refine (ishost_any _ _ _ _ _).mono ?_
 rintro e w3 ⟨rfl, b3⟩
 replace hp := blk_u hp b3
 replace bel := bel.trans (b3.mono bel.size)
 clear b3
 rw [H2.out]
 have R19 := cell_lit hp 5 _ rfl
 have R23 := cell_lit hp 15 _ rfl
 go_wp2_with fail
 clear R19 R23
 go_ret
 exact ⟨rfl, bel⟩
theorem answer_5 (tos id fl pt ttl : Int) (a0 a1 a2 a3 a4 a5 a6 a7 : UInt8) (So : Option Addr) (gB oB : Nat) (no co nb cb : Nat) (w : World) (x : UInt8) (r : List UInt8) (hb : Sl w (some ⟨gB, oB, none⟩) nb cb (x :: r)) (h0 : ¬ 0 < pt) (h1 : hostOk a0 a1 a2 a3 = true) (h2 : hostOk a4 a5 a6 a7 = true) (h3 : 8 ≤ nb) : Calls Tryz.prog 52 #[.agg #[.int .i64 tos, .int .i64 id, .int .i64 fl, .int .i64 pt, .int .i64 ttl, .int .i64 1, .int .u8 (a0.toNat : Int), .int .u8 (a1.toNat : Int), .int .u8 (a2.toNat : Int), .int .u8 (a3.toNat : Int), .int .u8 (a4.toNat : Int), .int .u8 (a5.toNat : Int), .int .u8 (a6.toNat : Int), .int .u8 (a7.toNat : Int), .slice So no co, .slice (some ⟨gB, oB, none⟩) nb cb]] w fun e w' => e = .returned (.bool (echoT (x.toNat : Int))) ∧ Below w.heap.size w w' := by
 have t0 : decide ((0 : Int) < pt) = false := decide_eq_false h0
 have H1 := Lib.hid h1
 have H2 := Lib.hid h2
 have t1 : (8 : Int) ≤ nb := by omega
 have m0 : 0 < nb := by omega
 have v0 : (0 : Int) ≤ x.toNat := by omega
 have v1 : (x.toNat : Int) < 256 := by have := x.toNat_lt; omega
 clear h0 h1 h2 h3
 have bel := Below.refl w.heap.size w
 go_enter Tryz.func52, Tryz.ntmps52
 go_wp2_with (first | ((with_reducible show wpList _ _ _ (⟨some 1, _, _, _, _, _⟩ :: _) _ _); refine wpList_box_n rfl 38 (.tmp 0) rfl #[.int .i64 tos, .int .i64 id, .int .i64 fl, .int .i64 pt, .int .i64 ttl, .int .i64 1, .int .u8 (a0.toNat : Int), .int .u8 (a1.toNat : Int), .int .u8 (a2.toNat : Int), .int .u8 (a3.toNat : Int), .int .u8 (a4.toNat : Int), .int .u8 (a5.toNat : Int), .int .u8 (a6.toNat : Int), .int .u8 (a7.toNat : Int), .slice So no co, .slice (some ⟨gB, oB, none⟩) nb cb] rfl ?_; intro g1 w1 ge lt hh bb; have av_hb_p := hb.av_new ge; have op := Nat.le_trans bel.size ge; replace hb := hb.below bb; replace bel := bel.trans (bb.mono bel.size); have hp := hh; clear hh lt ge bb; have R4 := cell_lit hp 3 _ rfl; have R8 := Lib.hid (range_lit hp 6 4 [.int .u8 (a0.toNat : Int), .int .u8 (a1.toNat : Int), .int .u8 (a2.toNat : Int), .int .u8 (a3.toNat : Int)] rfl)) | ((with_reducible show wpList _ _ _ (⟨some 8, _, _, _, _, _⟩ :: _) _ _); refine wpList_load_rng 35 (.tmp 7) rfl (by kernel_rfl) _ _ rfl _ R8.out _ Tryz.underlying35 rfl (by kernel_rfl) ?_))
 try clear R4
 try clear R8
 with_reducible refine (ishost_any _ _ _ _ _).mono ?_
 rintro e w2 ⟨rfl, b2⟩
 replace hp := blk_u hp b2
 replace hb := hb.below b2
 replace bel := bel.trans (b2.mono bel.size)
 clear b2
 rw [H1.out]
 have R14 := Lib.hid (range_lit hp 10 4 [.int .u8 (a4.toNat : Int), .int .u8 (a5.toNat : Int), .int .u8 (a6.toNat : Int), .int .u8 (a7.toNat : Int)] rfl)
 go_wp2_with (first | ((with_reducible show wpList _ _ _ (⟨some 14, _, _, _, _, _⟩ :: _) _ _); refine wpList_load_rng 35 (.tmp 13) rfl (by kernel_rfl) _ _ rfl _ R14.out _ Tryz.underlying35 rfl (by kernel_rfl) ?_))
 try clear R14
 with_reducible refine (ishost_any _ _ _ _ _).mono ?_
 rintro e w3 ⟨rfl, b3⟩
 replace hp := blk_u hp b3
 replace hb := hb.below b3
 replace bel := bel.trans (b3.mono bel.size)
 clear b3
 rw [H2.out]
 have R19 := cell_lit hp 5 _ rfl
 have R23 := cell_lit hp 15 _ rfl
 have R28 := cell_lit hp 15 _ rfl
 have R30 := (by have h_ := sl_at hb (j := 0) rfl; rw [Nat.add_zero] at h_; exact h_)
 go_wp2_with fail
 clear R19 R23 R28 R30
 with_reducible refine (isecho_any _ _).mono ?_
 rintro e _ ⟨rfl, rfl⟩
 go_wp2_with fail
 go_ret
 exact ⟨rfl, bel⟩
theorem answer_any (tos id fl pt ttl pr : Int) (a0 a1 a2 a3 a4 a5 a6 a7 : UInt8) (So Sb : Option Addr) (no co nb cb : Nat) (lb : List UInt8) (w : World) (hb : Sl w Sb nb cb lb) : Calls Tryz.prog 52 #[.agg #[.int .i64 tos, .int .i64 id, .int .i64 fl, .int .i64 pt, .int .i64 ttl, .int .i64 pr, .int .u8 (a0.toNat : Int), .int .u8 (a1.toNat : Int), .int .u8 (a2.toNat : Int), .int .u8 (a3.toNat : Int), .int .u8 (a4.toNat : Int), .int .u8 (a5.toNat : Int), .int .u8 (a6.toNat : Int), .int .u8 (a7.toNat : Int), .slice So no co, .slice Sb nb cb]] w fun e w' => e = .returned (.bool (icMay pt pr a0 a1 a2 a3 a4 a5 a6 a7 lb)) ∧ Below w.heap.size w w' := by
 unfold icMay
 by_cases h0 : 0 < pt
 ·rw [decide_eq_true h0]
  exact answer_0 tos id fl pt ttl pr a0 a1 a2 a3 a4 a5 a6 a7 So Sb no co nb cb w h0
 rw [decide_eq_false h0, Bool.not_false, Bool.true_and]
 rcases (by decide : ∀ b : Bool, b = true ∨ b = false) (hostOk a0 a1 a2 a3) with h1 | h1
 ·rw [h1, Bool.true_and]
  rcases (by decide : ∀ b : Bool, b = true ∨ b = false) (hostOk a4 a5 a6 a7) with h2 | h2
  ·rw [h2, Bool.true_and]
   by_cases h3 : pr = 1
   ·subst h3
    rw [decide_eq_true rfl, Bool.not_true, Bool.false_or]
    by_cases h4 : 8 ≤ nb
    ·rw [decide_eq_true (by rw [hb.1]; exact h4), Bool.true_and]
     obtain ⟨gB, oB, rfl⟩ := sl_some hb (by omega)
     rcases lb with _ | ⟨x, r⟩
     ·have := hb.1
      simp at this
      omega
     exact answer_5 tos id fl pt ttl a0 a1 a2 a3 a4 a5 a6 a7 So gB oB no co nb cb w x r hb h0 h1 h2 h4
    ·rw [decide_eq_false (by rw [hb.1]; exact h4), Bool.false_and]
     exact answer_4 tos id fl pt ttl a0 a1 a2 a3 a4 a5 a6 a7 So Sb no co nb cb w h0 h1 h2 (by omega)
   ·rw [decide_eq_false h3]
    exact answer_3 tos id fl pt ttl pr a0 a1 a2 a3 a4 a5 a6 a7 So Sb no co nb cb w h0 h1 h2 h3
  ·rw [h2, Bool.false_and]
   exact answer_2 tos id fl pt ttl pr a0 a1 a2 a3 a4 a5 a6 a7 So Sb no co nb cb w h0 h1 h2
 ·rw [h1, Bool.false_and]
  exact answer_1 tos id fl pt ttl pr a0 a1 a2 a3 a4 a5 a6 a7 So Sb no co nb cb w h0 h1
theorem icabout_3 (o0 o1 o2 o3 : UInt8) (B : Option Addr) (nB cB : Nat) (l : List UInt8) (ty cd : Int) (f0 f1 f2 f3 f4 f5 : Int) (a0 a1 a2 a3 a4 a5 a6 a7 : UInt8) (lo lb : List UInt8) (no nb : Nat) (w : World) (hB : Sl w B nB cB l) (hm : nB ≤ 100000) (hg : ipGet l = (([f0, f1, f2, f3, f4, f5], [a0, a1, a2, a3, a4, a5, a6, a7]), (lo, lb), 0)) (hy : icMay f3 f5 a0 a1 a2 a3 a4 a5 a6 a7 lb = true) (hn : nb ≤ 8) (h1 : lo.length = no) (h2 : lb.length = nb) : Calls Tryz.prog 23 #[.agg #[.int .u8 (o0.toNat : Int), .int .u8 (o1.toNat : Int), .int .u8 (o2.toNat : Int), .int .u8 (o3.toNat : Int)], .slice B nB cB, .int .i64 ty, .int .i64 cd] w (PkPost (icAbout o0 o1 o2 o3 l ty cd) w) := by
 obtain ⟨ii, hii, hz0, hz1, hz2⟩ := info_parts Tryz.info5
 have HG := Lib.hid hg
 have HM := Lib.hid hm
 have HL1 := Lib.hid h1
 have HL2 := Lib.hid h2
 have hlen := ipget_len hg
 obtain ⟨k, hk⟩ : ∃ k, k = 20 + no + nb := ⟨_, rfl⟩
 have HP : Hid (icAbout o0 o1 o2 o3 l ty cd = icPut 0 0 0 0 64 o0 o1 o2 o3 a0 a1 a2 a3 [] ty cd 0 (l.take k)) := Lib.hid (by rw [icAbout_eq _ _ _ _ _ _ hg]; unfold icAb; rw [if_neg (by decide), if_neg (by rw [hy]; decide), h1, h2, hk, show min nb 8 = nb by omega])
 have HY := Lib.hid hy
 have HK : Hid (k ≤ nB) := Lib.hid (by have := hB.1; omega)
 have t2 : decide ((8 : Int) < nb) = false := decide_eq_false (by omega)
 have b0 : (0 : Int) ≤ no := by omega
 have b1 : (no : Int) ≤ 100000 := by have := hB.1; omega
 have b2 : (0 : Int) ≤ nb := by omega
 have b3 : (nb : Int) ≤ 8 := by omega
 have ek : 20 + (no : Int) + (nb : Int) = (k : Int) := by omega
 have ew : IntKind.i64.wrap (k : Int) = (k : Int) := IntWalk.i64_in _ (by have := hB.1; omega)
 clear hg hm h1 h2 hy hk hlen hn
 have bel := Below.refl w.heap.size w
 go_enter Tryz.func23, Tryz.ntmps23
 go_wp2_with (first | ((with_reducible show wpList _ _ _ (⟨some 4, _, _, _, _, _⟩ :: _) _ _); refine wpList_box_n rfl 35 (.tmp 0) rfl #[.int .u8 (o0.toNat : Int), .int .u8 (o1.toNat : Int), .int .u8 (o2.toNat : Int), .int .u8 (o3.toNat : Int)] rfl ?_; intro g4 w1 ge lt hh bb; have av_hB_o := hB.av_new ge; have oo := Nat.le_trans bel.size ge; replace hB := hB.below bb; replace bel := bel.trans (bb.mono bel.size); have ho := hh; clear hh lt ge bb) | ((with_reducible show wpList _ _ _ (⟨some 8, _, _, _, _, _⟩ :: _) _ _); refine wpList_new_a rfl 38 rfl #[.int .i64 0, .int .i64 0, .int .i64 0, .int .i64 0, .int .i64 0, .int .i64 0, .int .u8 0, .int .u8 0, .int .u8 0, .int .u8 0, .int .u8 0, .int .u8 0, .int .u8 0, .int .u8 0, .slice none 0 0, .slice none 0 0] (by kernel_rfl) ?_; intro g8 w2 ge hh bb; have d_o_z := ne_new (hlt ho) ge; have av_hB_z := hB.av_new ge; have oz := Nat.le_trans bel.size ge; replace ho := blk_u ho bb; replace hB := hB.below bb; replace bel := bel.trans (bb.mono bel.size); have hz := hh; clear hh ge bb))
 with_reducible refine (ipget_n _ _ _ l f0 f1 f2 f3 f4 f5 a0 a1 a2 a3 a4 a5 a6 a7 lo lb no nb 0 _ hB HM.out HG.out HL1.out HL2.out).mono ?_
 rintro e w3 ⟨Ao, co, Ab, cb, rfl, po, pb, b3⟩
 replace ho := blk_u ho b3
 replace hz := blk_u hz b3
 replace hB := hB.below b3
 replace bel := bel.trans (b3.mono bel.size)
 clear b3
 replace po : Sl w3 (Ao) (no) (co) (lo) := po
 replace pb : Sl w3 (Ab) (nb) (cb) (lb) := pb
 go_wp2_with (first | ((with_reducible show wpList _ _ _ (⟨some 10, _, _, _, _, _⟩ :: _) _ _); refine wpList_new_a rfl 38 rfl #[.int .i64 0, .int .i64 0, .int .i64 0, .int .i64 0, .int .i64 0, .int .i64 0, .int .u8 0, .int .u8 0, .int .u8 0, .int .u8 0, .int .u8 0, .int .u8 0, .int .u8 0, .int .u8 0, .slice none 0 0, .slice none 0 0] (by kernel_rfl) ?_; intro g10 w4 ge hh bb; have d_o_p := ne_new (hlt ho) ge; have d_z_p := ne_new (hlt hz) ge; have av_hB_p := hB.av_new ge; have av_po_p := po.av_new ge; have av_pb_p := pb.av_new ge; have op := Nat.le_trans bel.size ge; replace ho := blk_u ho bb; replace hz := blk_u hz bb; replace hB := hB.below bb; replace po := po.below bb; replace pb := pb.below bb; replace bel := bel.trans (bb.mono bel.size); have hp := hh; clear hh ge bb) | ((with_reducible show wpList _ _ _ (⟨none, Op.store _ (.tmp 10) _, _, _, _, _⟩ :: _) _ _); refine wpList_store_blk rfl 38 (.tmp 10) (.tmp 16) rfl g10 rfl _ rfl _ 38 hp (by rfl) (by kernel_rfl) (by kernel_rfl) ?_; intro w5 hq gr; replace hB := hB.away av_hB_p gr; replace po := po.away av_po_p gr; replace pb := pb.away av_pb_p gr; replace ho := blk_a ho gr d_o_p; replace hz := blk_a hz gr d_z_p; replace bel := below_grown bel gr op bel.size; clear hp; have hp := hq; clear hq gr; have R22 := Lib.hid (range_lit hp 0 16 [.int .i64 f0, .int .i64 f1, .int .i64 f2, .int .i64 f3, .int .i64 f4, .int .i64 f5, .int .u8 (a0.toNat : Int), .int .u8 (a1.toNat : Int), .int .u8 (a2.toNat : Int), .int .u8 (a3.toNat : Int), .int .u8 (a4.toNat : Int), .int .u8 (a5.toNat : Int), .int .u8 (a6.toNat : Int), .int .u8 (a7.toNat : Int), .slice Ao no co, .slice Ab nb cb] rfl)) | ((with_reducible show wpList _ _ _ (⟨some 22, _, _, _, _, _⟩ :: _) _ _); refine wpList_load_rng 38 (.tmp 10) rfl (by kernel_rfl) _ _ rfl _ R22.out _ Tryz.underlying38 rfl (by kernel_rfl) ?_))
 try clear R22
 with_reducible refine (answer_any _ _ _ _ _ _ _ _ _ _ _ _ _ _ _ _ _ _ _ _ lb _ pb).mono ?_
 rintro e w6 ⟨rfl, b6⟩
 replace ho := blk_u ho b6
 replace hz := blk_u hz b6
 replace hp := blk_u hp b6
 replace hB := hB.below b6
 replace po := po.below b6
 replace pb := pb.below b6
 replace bel := bel.trans (b6.mono bel.size)
 clear b6
 rw [HY.out]
 have R28 := cell_lit hp 14 _ rfl
 have R32 := cell_lit hp 15 _ rfl
 obtain ⟨A36, c36, r36, f36, u36⟩ := piece_front hB (k := k) HK.out
 have qt := f36 _ hB
 have av_qt_o := av_hB_o.sub u36
 have av_qt_z := av_hB_z.sub u36
 have av_qt_p := av_hB_p.sub u36
 clear f36 u36
 have R37 := Lib.hid (range_lit ho 0 4 [.int .u8 (o0.toNat : Int), .int .u8 (o1.toNat : Int), .int .u8 (o2.toNat : Int), .int .u8 (o3.toNat : Int)] rfl)
 go_wp2_with (first | ((with_reducible show wpList _ _ _ (⟨some 37, _, _, _, _, _⟩ :: _) _ _); refine wpList_load_rng 35 (.tmp 4) rfl (by kernel_rfl) _ _ rfl _ R37.out _ Tryz.underlying35 rfl (by kernel_rfl) ?_; have R39 := Lib.hid (range_lit hp 6 4 [.int .u8 (a0.toNat : Int), .int .u8 (a1.toNat : Int), .int .u8 (a2.toNat : Int), .int .u8 (a3.toNat : Int)] rfl)) | ((with_reducible show wpList _ _ _ (⟨some 39, _, _, _, _, _⟩ :: _) _ _); refine wpList_load_rng 35 (.tmp 38) rfl (by kernel_rfl) _ _ rfl _ R39.out _ Tryz.underlying35 rfl (by kernel_rfl) ?_))
 try clear R28
 try clear R32
 try clear R37
 try clear R39
 have ob := bel.size
 with_reducible refine (icput_any _ _ _ _ _ _ _ _ _ _ _ _ _ _ _ _ _ _ _ _ _ _ _ _ _ _ [] _ _ (Sl.nil _) qt (by decide) (by decide) (by decide)).mono ?_
 rintro e w7 ⟨y0, y1, y2, y3, y4, y5, g0, g1, g2, g3, g4, g5, g6, g7, lr, lq, Ar, Aq, cr, cq, er, rfl, sr, sq_, fr1, fr2, b7, hQ⟩
 have av_sr_o := fr1.av (hlt ho)
 have av_sr_z := fr1.av (hlt hz)
 have av_sr_p := fr1.av (hlt hp)
 have av_sq__o := fr2.av (hlt ho)
 have av_sq__z := fr2.av (hlt hz)
 have av_sq__p := fr2.av (hlt hp)
 replace ho := blk_u ho b7
 replace hz := blk_u hz b7
 replace hp := blk_u hp b7
 replace hB := hB.below b7
 replace po := po.below b7
 replace pb := pb.below b7
 replace qt := qt.below b7
 replace bel := bel.trans (b7.mono bel.size)
 clear b7
 replace sr : Sl w7 (Ar) (lr.length) (cr) (lr) := sr
 replace sq_ : Sl w7 (Aq) (lq.length) (cq) (lq) := sq_
 go_wp2_with (first | ((with_reducible show wpList _ _ _ (⟨none, Op.store _ (.tmp 8) _, _, _, _, _⟩ :: _) _ _); refine wpList_store_blk rfl 38 (.tmp 8) (.tmp 46) rfl g8 rfl _ rfl _ 38 hz (by rfl) (by kernel_rfl) (by kernel_rfl) ?_; intro w8 hq gr; replace hB := hB.away av_hB_z gr; clear po; clear pb; replace qt := qt.away av_qt_z gr; replace sr := sr.away av_sr_z gr; replace sq_ := sq_.away av_sq__z gr; replace ho := blk_a ho gr d_o_z; replace hp := blk_a hp gr (ne_symm d_z_p); replace bel := below_grown bel gr oz bel.size; clear hz; have hz := hq; clear hq gr))
 exact bodyPost_ret (results_cell_tmp_row rfl _ _ _ _ _ _ _ rfl hz Tryz.underlying38 rfl (by kernel_rfl) (.int .i64 er) rfl) rfl ⟨y0, y1, y2, y3, y4, y5, g0, g1, g2, g3, g4, g5, g6, g7, lr, lq, Ar, Aq, cr, cq, er, rfl, sr, sq_, fr1.mono ob, fr2.mono ob, bel, hQ.trans HP.out.symm⟩
open Go.RowKit

theorem fitsok_y (tos id fl pt ttl pr : Int) (a0 a1 a2 a3 a4 a5 a6 a7 : UInt8) (So Sb : Option Addr) (no co nb cb : Nat) (lo : List UInt8) (w : World) (hlo : lo.length = no) (hf : ipFits tos id fl pt ttl pr lo = true) : Calls Tryz.prog 49 #[.agg #[.int .i64 tos, .int .i64 id, .int .i64 fl, .int .i64 pt, .int .i64 ttl, .int .i64 pr, .int .u8 (a0.toNat : Int), .int .u8 (a1.toNat : Int), .int .u8 (a2.toNat : Int), .int .u8 (a3.toNat : Int), .int .u8 (a4.toNat : Int), .int .u8 (a5.toNat : Int), .int .u8 (a6.toNat : Int), .int .u8 (a7.toNat : Int), .slice So no co, .slice Sb nb cb]] w fun e w' => e = .returned (.bool (ipFits tos id fl pt ttl pr lo)) ∧ Below w.heap.size w w' := by
 have e1 := upto_3 255 tos ttl pr
 have e2 := upto_1 65535 id
 have e3 := upto_1 7 fl
 have e4 := upto_1 8191 pt
 rw [hf]
 unfold ipFits at hf
 rw [hlo] at hf
 have h := of_decide_eq_true hf
 exact fits_w6 tos id fl pt ttl pr a0 a1 a2 a3 a4 a5 a6 a7 So Sb no co nb cb w (Lib.hid (e1.mpr ⟨h.1, h.2.2.2.2.1, h.2.2.2.2.2.1⟩)) (Lib.hid (e2.mpr h.2.1)) (Lib.hid (e3.mpr h.2.2.1)) (Lib.hid (e4.mpr h.2.2.2.1)) h.2.2.2.2.2.2.1 h.2.2.2.2.2.2.2
theorem ipput_yes (tos id fl pt ttl pr : Int) (a0 a1 a2 a3 a4 a5 a6 a7 : UInt8) (So Sb : Option Addr) (no co nb cb : Nat) (lo lb : List UInt8) (w : World) (ho : Sl w So no co lo) (hb : Sl w Sb nb cb lb) (hf : ipFits tos id fl pt ttl pr lo = true) (hn : 20 + no + nb ≤ 1500) :
  Calls Tryz.prog 22 #[.agg #[.int .i64 tos, .int .i64 id, .int .i64 fl, .int .i64 pt, .int .i64 ttl, .int .i64 pr, .int .u8 (a0.toNat : Int), .int .u8 (a1.toNat : Int), .int .u8 (a2.toNat : Int), .int .u8 (a3.toNat : Int), .int .u8 (a4.toNat : Int), .int .u8 (a5.toNat : Int), .int .u8 (a6.toNat : Int), .int .u8 (a7.toNat : Int), .slice So no co, .slice Sb nb cb]] w (PutPost tos id fl pt ttl pr a0 a1 a2 a3 a4 a5 a6 a7 lo lb w) := by
 obtain ⟨ii, hii, hz0, hz1, hz2⟩ := info_parts Tryz.info5
 have hl1 := ho.1
 have hl2 := hb.1
 have HLO := Lib.hid hl1
 have HF := Lib.hid hf
 obtain ⟨HDR, HH⟩ : ∃ HDR, Hid (hdA tos id fl pt ttl pr no nb ++ two (ck [hdA tos id fl pt ttl pr no nb, [a0, a1, a2, a3, a4, a5, a6, a7] ++ lo].flatten) ++ ([a0, a1, a2, a3, a4, a5, a6, a7] ++ lo) = HDR) := ⟨_, Lib.hid rfl⟩
 have he := hd_eq tos id fl pt ttl pr a0 a1 a2 a3 a4 a5 a6 a7 lo lb
 rw [hl1, hl2, HH.out] at he
 have HP : Hid ((HDR ++ lb, 0) = ipPut tos id fl pt ttl pr a0 a1 a2 a3 a4 a5 a6 a7 lo lb) := Lib.hid (by unfold ipPut; rw [if_neg (by rw [hf]; decide), if_neg (by omega), he])
 have HL : Hid ((HDR ++ lb).length = 20 + no + nb) := Lib.hid (by rw [he, ← hl1, ← hl2]; exact (put_good hf (by omega) []).2.2.1)
 have HQ : Hid (0 ≤ fl ∧ fl ≤ 7 ∧ 0 ≤ pt ∧ pt ≤ 8191 ∧ no ≤ 40) := Lib.hid (by obtain ⟨_, _, h3, h4, _, _, h, _⟩ := of_decide_eq_true hf; rw [hl1] at h; exact ⟨h3.1, h3.2, h4.1, h4.2, h⟩)
 have n0 : (0 : Int) ≤ no := by omega
 have n1 : (no : Int) ≤ 40 := by have := HQ.out.2.2.2.2; omega
 have n2 : (0 : Int) ≤ nb := by omega
 have n4 : decide ((1500 : Int) < 20 + (no : Int) + nb) = false := decide_eq_false (by omega)
 have n5 : (nb : Int) ≤ 1500 := by omega
 have HN := Lib.hid hn
 have HO := Lib.hid fun W (h : Below w.heap.size w W) => ho.below h
 have HB := Lib.hid fun W (h : Below w.heap.size w W) => hb.below h
 clear hf hn he hl1 hl2 ho hb
 have bel := Below.refl w.heap.size w
 have hp : (w.alloc (.cells #[.int .i64 tos, .int .i64 id, .int .i64 fl, .int .i64 pt, .int .i64 ttl, .int .i64 pr, .int .u8 (a0.toNat : Int), .int .u8 (a1.toNat : Int), .int .u8 (a2.toNat : Int), .int .u8 (a3.toNat : Int), .int .u8 (a4.toNat : Int), .int .u8 (a5.toNat : Int), .int .u8 (a6.toNat : Int), .int .u8 (a7.toNat : Int), .slice So no co, .slice Sb nb cb] 38)).heap[w.heap.size]? = some (.cells #[.int .i64 tos, .int .i64 id, .int .i64 fl, .int .i64 pt, .int .i64 ttl, .int .i64 pr, .int .u8 (a0.toNat : Int), .int .u8 (a1.toNat : Int), .int .u8 (a2.toNat : Int), .int .u8 (a3.toNat : Int), .int .u8 (a4.toNat : Int), .int .u8 (a5.toNat : Int), .int .u8 (a6.toNat : Int), .int .u8 (a7.toNat : Int), .slice So no co, .slice Sb nb cb] 38 (0, 0)) := by have := heap_alloc_new w (.cells #[.int .i64 tos, .int .i64 id, .int .i64 fl, .int .i64 pt, .int .i64 ttl, .int .i64 pr, .int .u8 (a0.toNat : Int), .int .u8 (a1.toNat : Int), .int .u8 (a2.toNat : Int), .int .u8 (a3.toNat : Int), .int .u8 (a4.toNat : Int), .int .u8 (a5.toNat : Int), .int .u8 (a6.toNat : Int), .int .u8 (a7.toNat : Int), .slice So no co, .slice Sb nb cb] 38); simpa using this
 have zp : w.heap.size < (w.alloc (.cells #[.int .i64 tos, .int .i64 id, .int .i64 fl, .int .i64 pt, .int .i64 ttl, .int .i64 pr, .int .u8 (a0.toNat : Int), .int .u8 (a1.toNat : Int), .int .u8 (a2.toNat : Int), .int .u8 (a3.toNat : Int), .int .u8 (a4.toNat : Int), .int .u8 (a5.toNat : Int), .int .u8 (a6.toNat : Int), .int .u8 (a7.toNat : Int), .slice So no co, .slice Sb nb cb] 38)).heap.size := by simp
 replace bel := bel.alloc bel.size (.cells #[.int .i64 tos, .int .i64 id, .int .i64 fl, .int .i64 pt, .int .i64 ttl, .int .i64 pr, .int .u8 (a0.toNat : Int), .int .u8 (a1.toNat : Int), .int .u8 (a2.toNat : Int), .int .u8 (a3.toNat : Int), .int .u8 (a4.toNat : Int), .int .u8 (a5.toNat : Int), .int .u8 (a6.toNat : Int), .int .u8 (a7.toNat : Int), .slice So no co, .slice Sb nb cb] 38)
 go_enter Tryz.func22, Tryz.ntmps22
 have R1 := Lib.hid (range_lit hp 0 16 [.int .i64 tos, .int .i64 id, .int .i64 fl, .int .i64 pt, .int .i64 ttl, .int .i64 pr, .int .u8 (a0.toNat : Int), .int .u8 (a1.toNat : Int), .int .u8 (a2.toNat : Int), .int .u8 (a3.toNat : Int), .int .u8 (a4.toNat : Int), .int .u8 (a5.toNat : Int), .int .u8 (a6.toNat : Int), .int .u8 (a7.toNat : Int), .slice So no co, .slice Sb nb cb] rfl)
 go_wp2_with (first | ((with_reducible show wpList _ _ _ (⟨some 4, _, _, _, _, _⟩ :: _) _ _); refine wpList_load_rng 38 (.tmp 1) rfl (by kernel_rfl) _ _ rfl _ R1.out _ Tryz.underlying38 rfl (by kernel_rfl) ?_))
 with_reducible refine (fitsok_y tos id fl pt ttl pr a0 a1 a2 a3 a4 a5 a6 a7 So Sb no co nb cb lo _ HLO.out HF.out).mono ?_
 clear R1
 rintro e w1 ⟨rfl, b1⟩
 replace hp := (b1.block _ zp).trans hp
 replace zp := Nat.lt_of_lt_of_le zp b1.size
 replace bel := bel.trans (b1.mono bel.size)
 clear b1
 rw [HF.out]
 have R7 := cell_lit hp 14 _ rfl
 have R11 := cell_lit hp 15 _ rfl
 have ho1 := HO.out _ bel
 have hb1 := HB.out _ bel
 go_wp2_with fail
 clear R7 R11
 replace bel := bel.drew
 replace hp : w1.drew.heap[w.heap.size]? = some (.cells #[.int .i64 tos, .int .i64 id, .int .i64 fl, .int .i64 pt, .int .i64 ttl, .int .i64 pr, .int .u8 (a0.toNat : Int), .int .u8 (a1.toNat : Int), .int .u8 (a2.toNat : Int), .int .u8 (a3.toNat : Int), .int .u8 (a4.toNat : Int), .int .u8 (a5.toNat : Int), .int .u8 (a6.toNat : Int), .int .u8 (a7.toNat : Int), .slice So no co, .slice Sb nb cb] 38 (0, 0)) := hp
 replace zp : w.heap.size < w1.drew.heap.size := zp
 refine wp_region_held_drew (S := fun W => W.heap[w.heap.size]? = some (.cells #[.int .i64 tos, .int .i64 id, .int .i64 fl, .int .i64 pt, .int .i64 ttl, .int .i64 pr, .int .u8 (a0.toNat : Int), .int .u8 (a1.toNat : Int), .int .u8 (a2.toNat : Int), .int .u8 (a3.toNat : Int), .int .u8 (a4.toNat : Int), .int .u8 (a5.toNat : Int), .int .u8 (a6.toNat : Int), .int .u8 (a7.toNat : Int), .slice So no co, .slice Sb nb cb] 38 (0, 0))) (by kernel_rfl) hp (fun hH => ?_)
 replace ho1 := ho1.drew
 replace hb1 := hb1.drew
 generalize w1.drew = vd at bel hp zp ho1 hb1 hH ⊢
 refine wpAnyH_take (i := 0) (v := .agg #[.int .i64 tos, .int .i64 id, .int .i64 fl, .int .i64 pt, .int .i64 ttl, .int .i64 pr, .int .u8 (a0.toNat : Int), .int .u8 (a1.toNat : Int), .int .u8 (a2.toNat : Int), .int .u8 (a3.toNat : Int), .int .u8 (a4.toNat : Int), .int .u8 (a5.toNat : Int), .int .u8 (a6.toNat : Int), .int .u8 (a7.toNat : Int), .slice So no co, .slice Sb nb cb]) rfl (by kernel_rfl) (by kernel_rfl) (by kernel_rfl) (fun _ _ _ h => h) (yieldsIf_load_part (by kernel_rfl) 38 _ rfl (w.heap.size) 0 16 rfl [.int .i64 tos, .int .i64 id, .int .i64 fl, .int .i64 pt, .int .i64 ttl, .int .i64 pr, .int .u8 (a0.toNat : Int), .int .u8 (a1.toNat : Int), .int .u8 (a2.toNat : Int), .int .u8 (a3.toNat : Int), .int .u8 (a4.toNat : Int), .int .u8 (a5.toNat : Int), .int .u8 (a6.toNat : Int), .int .u8 (a7.toNat : Int), .slice So no co, .slice Sb nb cb] 38 (0, 0) (fun W hW => hW) [.int .i64 tos, .int .i64 id, .int .i64 fl, .int .i64 pt, .int .i64 ttl, .int .i64 pr, .int .u8 (a0.toNat : Int), .int .u8 (a1.toNat : Int), .int .u8 (a2.toNat : Int), .int .u8 (a3.toNat : Int), .int .u8 (a4.toNat : Int), .int .u8 (a5.toNat : Int), .int .u8 (a6.toNat : Int), .int .u8 (a7.toNat : Int), .slice So no co, .slice Sb nb cb] rfl _ Tryz.underlying38 rfl (by kernel_rfl)) hH ?_
 simp only [Act.put, List.getElem_toArray, List.getElem_cons_zero, List.setIfInBounds_toArray, List.set_cons_zero, List.set_cons_succ]
 refine wpAnyH_take (i := 2) (v := ?_) rfl (by kernel_rfl) (by kernel_rfl) (by kernel_rfl) (fun _ _ _ h => h) (Or.inl ⟨by rfl, ?_⟩) hH ?_
 rotate_left
 ·((intro W hW; clear hW; go_simp) <;> with_reducible rfl)
 simp only [sq3, sq4]
 refine wpAnyH_take (i := 3) (v := ?_) rfl (by kernel_rfl) (by kernel_rfl) (by kernel_rfl) (fun _ _ _ h => h) (Or.inl ⟨by rfl, ?_⟩) hH ?_
 rotate_left
 ·((intro W hW; have hk := cell_lit (hW) 15 _ rfl; clear hW; go_simp) <;> with_reducible rfl)
 simp only [sq3, sq4]
 have mkzp := zp
 have mksho1 := ho1
 have mkshb1 := hb1
 have mkw := bel.size
 refine wpAnyH_ready (rs := [1]) (by kernel_rfl) (by simp) ?_
 refine AllReadyH.cons (o := _) rfl (fun K hK => ?_) AllReadyH.nil
 simp only [sq3]
 go_simp
 with_reducible refine (header_o tos id fl pt ttl pr a0 a1 a2 a3 a4 a5 a6 a7 So Sb no co nb cb lo _ ho1 HQ.out.1 HQ.out.2.1 HQ.out.2.2.1 HQ.out.2.2.2.1 HQ.out.2.2.2.2 HN.out).mono ?_
 rintro e v21 ⟨v, rfl, hown, b21⟩
 dsimp only
 replace bel := bel.trans (b21.mono bel.size)
 replace hp := (b21.block _ zp).trans hp
 replace zp := Nat.lt_of_lt_of_le zp b21.size
 have mk := b21.size
 have mkb := b21
 replace ho1 := ho1.below b21
 replace hb1 := hb1.below b21
 replace hown : _ := hown
 rw [HH.out] at hown
 refine hK.out _ _ hp (fun hH21 => ?_)
 clear hK K
 refine wpAnyH_ready (rs := [4]) (by kernel_rfl) (by simp) ?_
 refine AllReadyH.cons (o := _) rfl (fun K hK => ?_) AllReadyH.nil
 simp only [sq3]
 rw [if_pos (by rfl)]
 refine wp_append_bb (.tmp 17) (.tmp 19) 36 rfl (vd.heap.size) 5 ii (.int .u8 0) Tryz.underlying36 hii hz0 hz1 hz2 rfl v (20 + no) (HDR) rfl hown (Sb) (nb) (cb) (lb) rfl hb1 (by have := HN.out; omega) (by omega) ?_
 intro r22 v22 hown2_ bb
 replace hp := (bb.block _ mkzp).trans hp
 replace zp := Nat.lt_of_lt_of_le zp bb.size
 replace bel := bel.trans (bb.mono mkw)
 clear hown
 replace mkb := mkb.trans bb
 replace mk := Nat.le_trans mk bb.size
 clear bb
 replace ho1 := mksho1.below mkb
 replace hb1 := mkshb1.below mkb
 have hown2 := hown2_
 clear hown2_
 refine hK.out _ _ hp (fun hH22 => ?_)
 clear hK K
 refine wpAnyH_take (i := 5) (v := ?_) rfl (by kernel_rfl) (by kernel_rfl) (by kernel_rfl) (fun _ _ _ h => h) (Or.inl ⟨by rfl, ?_⟩) hH22 ?_
 rotate_left
 ·((intro W hW; clear hW; go_simp) <;> with_reducible rfl)
 simp only [sq3, sq4]
 refine wpAnyH_take (i := 6) (v := ?_) rfl (by kernel_rfl) (by kernel_rfl) (by kernel_rfl) (fun _ _ _ h => h) (Or.inl ⟨by rfl, ?_⟩) hH22 ?_
 rotate_left
 ·((intro W hW; clear hW; go_simp) <;> with_reducible rfl)
 simp only [sq3, sq4]
 refine wpAnyH_done (by kernel_rfl) ?_ _
 go_wp2
 exact bodyPost_ret (v := .tuple #[r22, .int .i64 0]) (by simp [results, Tryz.results22, go_sem]) rfl ⟨_, HDR ++ lb, 0, rfl, by rw [HL.out]; exact ownsRow_mono hown2 mkw, bel, HP.out⟩
open Go.RowKit

open Go.RowKit

/-- The packet of the query outside; what is told of it to the host. -/
def kB : List UInt8 := ipBytes 0 0 0 0 64 1 203 0 113 7 8 8 8 8 [] (icBytes 8 0 2621440003 [])
def kW : List UInt8 := wL kB 20 24 [10, 0, 0, byteOf 5] 7
theorem kB_len : kB.length = 28 := by decide +kernel
theorem kW_len : kW.length = 28 := by decide +kernel
theorem kB_put : ipPut 0 0 0 0 64 1 203 0 113 7 8 8 8 8 [] (icBytes 8 0 2621440003 []) = (kB, 0) := by decide +kernel
theorem kB_get : ipGet kB = (([0, 0, 0, 0, 64, 1], [203, 0, 113, 7, 8, 8, 8, 8]), ([], icBytes 8 0 2621440003 []), 0) := by decide +kernel
theorem kB_about : icAbout 8 8 8 8 kB 11 0 = (([0, 0, 0, 0, 64, 1], [8, 8, 8, 8, 203, 0, 113, 7]), ([], icBytes 11 0 0 kB), 0) := by decide +kernel
theorem kB_in : inH kB = some 20 := by decide +kernel
theorem kB_9 : kB[9]? = some 1 := by decide +kernel
theorem kB_12 : (kB.drop 12).take 4 = [203, 0, 113, 7] := by decide +kernel
theorem kB_24 : (kB.drop 24).take 2 = [156, 64] := by decide +kernel
theorem kW_12 : (kW.drop 12).take 4 = [10, 0, 0, 5] := by decide +kernel
theorem kW_24 : kW[24]? = some 0 := by decide +kernel
theorem kW_25 : kW[25]? = some 7 := by decide +kernel
def qM : Mp := ⟨1, 40000, ⟨10, 0, 0, byteOf 5⟩, 7, 1, 30⟩
def qS (x : Int) : Ts := ⟨40000, 128, x, [qM], []⟩
theorem q_mk {lo gt : Nat} : MakeC lo gt nS0 (qS 0) 1 10 0 0 (byteOf 5) 7 0 30 qM 0 := fun W hT => mk_least (s1 := nS0) (q := 40000) (ad := ⟨10, 0, 0, byteOf 5⟩) W hT rfl (by decide) (by decide) rfl rfl (by decide) (fun h' => absurd h' (by decide)) (by decide) (by decide) (fun o h1 h2 => by have h1' : (40000 : Int) ≤ o := h1; omega) rfl rfl
theorem q_in {lo gt : Nat} : InC lo gt (qS 0) (qS 1) 1 40000 1 qM := fun W hT => by
 have hf := (msrt_one qM).found (j := 0) (x := kn 1 40000) rfl rfl
 exact in_some (s1 := qS 1) (i := 0) W hT (by kernel_rfl) ⟨by decide, by decide, by decide, by decide⟩ hf.2 hf.1 rfl
theorem k_no {lo gt : Nat} : InE lo gt nS0 nS0 17 40000 0 := fun W hT => in_none (s1 := nS0) W hT rfl (okP_17 (by decide) (by decide)) rfl
theorem dg_1 (w : World) : Calls Tryz.prog 15 #[.agg #[.int .u8 8, .int .u8 8, .int .u8 8, .int .u8 8], .int .i64 53, .agg #[.int .u8 10, .int .u8 0, .int .u8 0, .int .u8 ((byteOf 1).toNat : Int)], .int .i64 40000] w fun e w' => ∃ Ao co Ab cb, e = .returned (.agg #[.int .i64 0, .int .i64 0, .int .i64 0, .int .i64 0, .int .i64 64, .int .i64 17, .int .u8 8, .int .u8 8, .int .u8 8, .int .u8 8, .int .u8 10, .int .u8 0, .int .u8 0, .int .u8 ((byteOf 1).toNat : Int), .slice Ao 0 co, .slice Ab 9 cb]) ∧ Sl w' Ao 0 co [] ∧ Sl w' Ab 9 cb (udBytes 8 8 8 8 10 0 0 (byteOf 1) 53 40000 [120]) ∧ Fr w.heap.size Ao 0 ∧ Fr w.heap.size Ab 9 ∧ Below w.heap.size w w' := dg_any 8 8 8 8 10 0 0 (byteOf 1) 53 40000 w (by decide) (by decide)
theorem k_i0 {lo gn gt gk : Nat} {Ao Ab : Option Addr} {co cb : Nat} (w : World) (hT : Np lo gn gt gk w nS0 nK0) (po : Sl w Ao 0 co []) (pb : Sl w Ab 9 cb (udBytes 8 8 8 8 203 0 113 7 53 40000 [120]))  : Calls Tryz.prog 14 #[.pointer (some ⟨gn, 0, none⟩), .agg #[.int .i64 0, .int .i64 0, .int .i64 0, .int .i64 0, .int .i64 64, .int .i64 17, .int .u8 8, .int .u8 8, .int .u8 8, .int .u8 8, .int .u8 203, .int .u8 0, .int .u8 113, .int .u8 7, .slice Ao 0 co, .slice Ab 9 cb], .agg #[.int .u8 203, .int .u8 0, .int .u8 113, .int .u8 7], .int .i64 0] w fun e w' => e = .returned (.tuple #[.agg #[.int .i64 0, .int .i64 0, .int .i64 0, .int .i64 0, .int .i64 0, .int .i64 0, .int .u8 0, .int .u8 0, .int .u8 0, .int .u8 0, .int .u8 0, .int .u8 0, .int .u8 0, .int .u8 0, .slice none 0 0, .slice none 0 0], .int .i64 6]) ∧ Np lo gn gt gk w' nS0 nK0 ∧ Fn gn gt gk w w' ∧ Below lo w w' := by
 have h_ := nin_uno (tos := 0) (id := 0) (fl := 0) (pt := 0) (ttl := 64) (lp := []) (t := 0) (df := 53) (dt := 40000) (ld := [120]) (nd := 1) (a0 := 8) (a1 := 8) (a2 := 8) (a3 := 8) (b0 := 203) (b1 := 0) (b2 := 113) (b3 := 7) w hT po pb an_zero (by decide) (by decide) (by decide) (udp_back (by decide) 8 8 8 8 203 0 113 7 (by decide) (by decide) [120] (by decide)) rfl k_no
 exact h_
theorem k_i1 {lo gn gt gk : Nat} {Ao Ab : Option Addr} {co cb : Nat} (w : World) (hT : Np lo gn gt gk w nS0 nK0) (po : Sl w Ao 0 co []) (pb : Sl w Ab 9 cb (udBytes 8 8 8 8 10 0 0 (byteOf 1) 53 40000 [120]))  : Calls Tryz.prog 14 #[.pointer (some ⟨gn, 0, none⟩), .agg #[.int .i64 0, .int .i64 0, .int .i64 0, .int .i64 0, .int .i64 64, .int .i64 17, .int .u8 8, .int .u8 8, .int .u8 8, .int .u8 8, .int .u8 10, .int .u8 0, .int .u8 0, .int .u8 ((byteOf 1).toNat : Int), .slice Ao 0 co, .slice Ab 9 cb], .agg #[.int .u8 203, .int .u8 0, .int .u8 113, .int .u8 7], .int .i64 0] w fun e w' => e = .returned (.tuple #[.agg #[.int .i64 0, .int .i64 0, .int .i64 0, .int .i64 0, .int .i64 0, .int .i64 0, .int .u8 0, .int .u8 0, .int .u8 0, .int .u8 0, .int .u8 0, .int .u8 0, .int .u8 0, .int .u8 0, .slice none 0 0, .slice none 0 0], .int .i64 11]) ∧ Np lo gn gt gk w' nS0 nK0 ∧ Fn gn gt gk w w' ∧ Below lo w w' := by
 have h_ := nin_deny (tos := 0) (id := 0) (fl := 0) (pt := 0) (ttl := 64) (pr := 17) (lp := []) (lb := udBytes 8 8 8 8 10 0 0 (byteOf 1) 53 40000 [120]) (t := 0) (So := Ao) (no := 0) (co := co) (Sb := Ab) (nb := 9) (cb := cb) (a0 := 8) (a1 := 8) (a2 := 8) (a3 := 8) (b0 := 10) (b1 := 0) (b2 := 0) (b3 := (byteOf 1)) (c0 := 203) (c1 := 0) (c2 := 113) (c3 := 7) w hT (by decide)
 exact h_
theorem k_o1 {lo gn gt gk : Nat} {Ao Ab : Option Addr} {co cb : Nat} (w : World) (hT : Np lo gn gt gk w nS0 nK0) (po : Sl w Ao 0 co []) (pb : Sl w Ab 9 cb (udBytes 10 0 0 (byteOf 5) 8 8 8 8 777 53 [120]))  : Calls Tryz.prog 19 #[.pointer (some ⟨gn, 0, none⟩), .agg #[.int .i64 0, .int .i64 0, .int .i64 1, .int .i64 0, .int .i64 64, .int .i64 17, .int .u8 10, .int .u8 0, .int .u8 0, .int .u8 ((byteOf 5).toNat : Int), .int .u8 8, .int .u8 8, .int .u8 8, .int .u8 8, .slice Ao 0 co, .slice Ab 9 cb], .agg #[.int .u8 203, .int .u8 0, .int .u8 113, .int .u8 7], .int .i64 0] w fun e w' => e = .returned (.tuple #[.agg #[.int .i64 0, .int .i64 0, .int .i64 0, .int .i64 0, .int .i64 0, .int .i64 0, .int .u8 0, .int .u8 0, .int .u8 0, .int .u8 0, .int .u8 0, .int .u8 0, .int .u8 0, .int .u8 0, .slice none 0 0, .slice none 0 0], .int .i64 10]) ∧ Np lo gn gt gk w' nS0 nK0 ∧ Fn gn gt gk w w' ∧ Below lo w w' := by
 have h_ := nout_frag (tos := 0) (id := 0) (fl := 1) (pt := 0) (ttl := 64) (pr := 17) (lp := []) (lb := udBytes 10 0 0 (byteOf 5) 8 8 8 8 777 53 [120]) (t := 0) (So := Ao) (no := 0) (co := co) (Sb := Ab) (nb := 9) (cb := cb) (a0 := 10) (a1 := 0) (a2 := 0) (a3 := (byteOf 5)) (b0 := 8) (b1 := 8) (b2 := 8) (b3 := 8) (c0 := 203) (c1 := 0) (c2 := 113) (c3 := 7) w hT (by decide)
 exact h_
theorem k_o0 {lo gn gt gk : Nat} {Ao Ab : Option Addr} {co cb : Nat} (w : World) (hT : Np lo gn gt gk w nS0 nK0) (po : Sl w Ao 0 co []) (pb : Sl w Ab 9 cb (udBytes 10 0 0 (byteOf 5) 8 8 8 8 0 53 [120]))  : Calls Tryz.prog 19 #[.pointer (some ⟨gn, 0, none⟩), .agg #[.int .i64 0, .int .i64 0, .int .i64 0, .int .i64 0, .int .i64 64, .int .i64 17, .int .u8 10, .int .u8 0, .int .u8 0, .int .u8 ((byteOf 5).toNat : Int), .int .u8 8, .int .u8 8, .int .u8 8, .int .u8 8, .slice Ao 0 co, .slice Ab 9 cb], .agg #[.int .u8 203, .int .u8 0, .int .u8 113, .int .u8 7], .int .i64 0] w fun e w' => e = .returned (.tuple #[.agg #[.int .i64 0, .int .i64 0, .int .i64 0, .int .i64 0, .int .i64 0, .int .i64 0, .int .u8 0, .int .u8 0, .int .u8 0, .int .u8 0, .int .u8 0, .int .u8 0, .int .u8 0, .int .u8 0, .slice none 0 0, .slice none 0 0], .int .i64 1]) ∧ Np lo gn gt gk w' nS0 nK0 ∧ Fn gn gt gk w w' ∧ Below lo w w' := by
 have h_ := nout_u0 (tos := 0) (id := 0) (fl := 0) (pt := 0) (ttl := 64) (lp := []) (t := 0) (dt := 53) (ld := [120]) (nd := 1) (a0 := 10) (a1 := 0) (a2 := 0) (a3 := (byteOf 5)) (b0 := 8) (b1 := 8) (b2 := 8) (b3 := 8) (c0 := 203) (c1 := 0) (c2 := 113) (c3 := 7) w hT po pb an_zero (by decide) (by decide) (by decide) (udp_back (by decide) 10 0 0 (byteOf 5) 8 8 8 8 (by decide) (by decide) [120] (by decide)) rfl
 exact h_
theorem k_o9 {lo gn gt gk : Nat} (w : World) (hT : Np lo gn gt gk w (qS 1) nK0)  : Calls Tryz.prog 19 #[.pointer (some ⟨gn, 0, none⟩), .agg #[.int .i64 0, .int .i64 0, .int .i64 0, .int .i64 0, .int .i64 0, .int .i64 99, .int .u8 10, .int .u8 0, .int .u8 0, .int .u8 ((byteOf 5).toNat : Int), .int .u8 8, .int .u8 8, .int .u8 8, .int .u8 8, .slice none 0 0, .slice none 0 0], .agg #[.int .u8 203, .int .u8 0, .int .u8 113, .int .u8 7], .int .i64 0] w fun e w' => e = .returned (.tuple #[.agg #[.int .i64 0, .int .i64 0, .int .i64 0, .int .i64 0, .int .i64 0, .int .i64 0, .int .u8 0, .int .u8 0, .int .u8 0, .int .u8 0, .int .u8 0, .int .u8 0, .int .u8 0, .int .u8 0, .slice none 0 0, .slice none 0 0], .int .i64 11]) ∧ Np lo gn gt gk w' (qS 1) nK0 ∧ Fn gn gt gk w w' ∧ Below lo w w' := by
 have h_ := nout_other (tos := 0) (id := 0) (fl := 0) (pt := 0) (ttl := 0) (pr := 99) (lp := []) (lb := []) (t := 0) (So := none) (no := 0) (co := 0) (Sb := none) (nb := 0) (cb := 0) (a0 := 10) (a1 := 0) (a2 := 0) (a3 := (byteOf 5)) (b0 := 8) (b1 := 8) (b2 := 8) (b3 := 8) (c0 := 203) (c1 := 0) (c2 := 113) (c3 := 7) w hT (by decide) (by decide) (by decide) (by decide)
 exact h_
theorem k_oq {lo gn gt gk : Nat} {Ao Ab : Option Addr} {co cb : Nat} (w : World) (hT : Np lo gn gt gk w nS0 nK0) (po : Sl w Ao 0 co []) (pb : Sl w Ab 8 cb (icBytes 8 0 458755 []))  : Calls Tryz.prog 19 #[.pointer (some ⟨gn, 0, none⟩), .agg #[.int .i64 0, .int .i64 0, .int .i64 0, .int .i64 0, .int .i64 64, .int .i64 1, .int .u8 10, .int .u8 0, .int .u8 0, .int .u8 ((byteOf 5).toNat : Int), .int .u8 8, .int .u8 8, .int .u8 8, .int .u8 8, .slice Ao 0 co, .slice Ab 8 cb], .agg #[.int .u8 203, .int .u8 0, .int .u8 113, .int .u8 7], .int .i64 0] w fun e w' => ∃ Ao co' Ab cb', e = .returned (.tuple #[.agg #[.int .i64 0, .int .i64 0, .int .i64 0, .int .i64 0, .int .i64 64, .int .i64 1, .int .u8 203, .int .u8 0, .int .u8 113, .int .u8 7, .int .u8 8, .int .u8 8, .int .u8 8, .int .u8 8, .slice Ao 0 co', .slice Ab 8 cb'], .int .i64 0]) ∧ Np lo gn gt gk w' (qS 0) nK0 ∧ Fn gn gt gk w w' ∧ Below lo w w' ∧ Sl w' Ao 0 co' [] ∧ Sl w' Ab 8 cb' (icBytes 8 0 2621440003 []) ∧ An gn gt gk w' Ao 0 ∧ An gn gt gk w' Ab 8 ∧ Fr w.heap.size Ao 0 ∧ Fr w.heap.size Ab 8 := by
 have h_ := nout_q (m := qM) (q := 7) (r2 := 2621440003) (ty := 8) (re := 458755) (ld := []) (nd := 0) (t := 0) (tos := 0) (id := 0) (fl := 0) (pt := 0) (ttl := 64) (lp := []) (a0 := 10) (a1 := 0) (a2 := 0) (a3 := (byteOf 5)) (b0 := 8) (b1 := 8) (b2 := 8) (b3 := 8) (c0 := 203) (c1 := 0) (c2 := 113) (c3 := 7) w hT po pb an_zero (by decide) (by decide) (by decide) (ic_back (by decide) (by decide) (by decide) (by decide) (by decide) []) rfl (by decide) (by decide) (by decide) (by decide) (by decide) q_mk nwith_k (by decide)
 exact h_
theorem k_if {lo gn gt gk : Nat} {Ao Ab : Option Addr} {co cb : Nat} (w : World) (hT : Np lo gn gt gk w (qS 0) nK0) (po : Sl w Ao 0 co []) (pb : Sl w Ab 36 cb (icBytes 11 0 0 kB))  : Calls Tryz.prog 14 #[.pointer (some ⟨gn, 0, none⟩), .agg #[.int .i64 0, .int .i64 0, .int .i64 0, .int .i64 0, .int .i64 64, .int .i64 1, .int .u8 8, .int .u8 8, .int .u8 8, .int .u8 8, .int .u8 203, .int .u8 0, .int .u8 113, .int .u8 7, .slice Ao 0 co, .slice Ab 36 cb], .agg #[.int .u8 203, .int .u8 0, .int .u8 113, .int .u8 7], .int .i64 1] w fun e w' => ∃ Ao co' Ab cb', e = .returned (.tuple #[.agg #[.int .i64 0, .int .i64 0, .int .i64 0, .int .i64 0, .int .i64 64, .int .i64 1, .int .u8 8, .int .u8 8, .int .u8 8, .int .u8 8, .int .u8 10, .int .u8 0, .int .u8 0, .int .u8 ((byteOf 5).toNat : Int), .slice Ao 0 co', .slice Ab 36 cb'], .int .i64 0]) ∧ Np lo gn gt gk w' (qS 1) nK0 ∧ Fn gn gt gk w w' ∧ Below lo w w' ∧ Sl w' Ao 0 co' [] ∧ Sl w' Ab 36 cb' (icBytes 11 0 0 kW) ∧ An gn gt gk w' Ao 0 ∧ An gn gt gk w' Ab 36 ∧ Fr w.heap.size Ao 0 ∧ Fr w.heap.size Ab 36 := by
 have h_ := nin_f (m := qM) (ty := 11) (cd := 0) (re := 0) (ld := kB) (nd := 28) (x := 1) (p0 := 156) (p1 := 64) (at_ := 24) (h := 20) (t := 1) (tos := 0) (id := 0) (fl := 0) (pt := 0) (ttl := 64) (lp := []) (a0 := 8) (a1 := 8) (a2 := 8) (a3 := 8) (b0 := 203) (b1 := 0) (b2 := 113) (b3 := 7) w hT po pb an_zero (by decide) (by decide) (by decide) (ic_back (by decide) (by decide) (by decide) (by decide) (by decide) kB) kB_len (by decide) (by decide) (by decide) (by decide) (by decide) (by decide) kB_in kB_9 kB_12 (by decide) rfl (by decide) kB_24 q_in
 exact h_
theorem k_put (w : World) : Calls Tryz.prog 20 #[.agg #[.int .i64 0, .int .i64 0, .int .i64 0, .int .i64 0, .int .i64 64, .int .i64 0, .int .u8 10, .int .u8 0, .int .u8 0, .int .u8 ((byteOf 5).toNat : Int), .int .u8 8, .int .u8 8, .int .u8 8, .int .u8 8, .slice none 0 0, .slice none 0 0], .agg #[.int .i64 8, .int .i64 0, .int .u32 458755, .slice none 0 0]] w fun e w' => ∃ Ao co' Ab cb', e = .returned (.tuple #[.agg #[.int .i64 0, .int .i64 0, .int .i64 0, .int .i64 0, .int .i64 64, .int .i64 1, .int .u8 10, .int .u8 0, .int .u8 0, .int .u8 ((byteOf 5).toNat : Int), .int .u8 8, .int .u8 8, .int .u8 8, .int .u8 8, .slice Ao 0 co', .slice Ab 8 cb'], .int .i64 0]) ∧ Sl w' Ao 0 co' [] ∧ Sl w' Ab 8 cb' (icBytes 8 0 458755 []) ∧ Fr w.heap.size Ao 0 ∧ Fr w.heap.size Ab 8 ∧ Below w.heap.size w w' := by
 have h_ := icput_is 0 0 0 0 64 0 10 0 0 (byteOf 5) 8 8 8 8 none none 0 0 0 0 8 0 458755 none 0 0 w (Sl.nil _) (Sl.nil _) (by decide) (by decide) (by decide) (by decide) (by decide) (by decide)
 exact h_
theorem k_g1 {So Sb : Option Addr} {no co cb : Nat} (w : World) (pb : Sl w Sb 8 cb (icBytes 8 0 2621440003 [])) : Calls Tryz.prog 21 #[.agg #[.int .i64 0, .int .i64 0, .int .i64 0, .int .i64 0, .int .i64 64, .int .i64 1, .int .u8 203, .int .u8 0, .int .u8 113, .int .u8 7, .int .u8 8, .int .u8 8, .int .u8 8, .int .u8 8, .slice So no co, .slice Sb 8 cb]] w fun e w' => ∃ D qd, e = .returned (.tuple #[.agg #[.int .i64 8, .int .i64 0, .int .u32 2621440003, .slice D 0 qd], .int .i64 0]) ∧ Sl w' D 0 qd [] ∧ Fr w.heap.size D 0 ∧ Below w.heap.size w w' := by
 have h_ := icget_is 0 0 0 0 64 203 0 113 7 8 8 8 8 So Sb no co 8 cb w pb (by decide) (ic_back (by decide) (by decide) (by decide) (by decide) (by decide) []) rfl
 exact h_
theorem k_g2 {So Sb : Option Addr} {no co cb : Nat} (w : World) (pb : Sl w Sb 36 cb (icBytes 11 0 0 kW)) : Calls Tryz.prog 21 #[.agg #[.int .i64 0, .int .i64 0, .int .i64 0, .int .i64 0, .int .i64 64, .int .i64 1, .int .u8 8, .int .u8 8, .int .u8 8, .int .u8 8, .int .u8 10, .int .u8 0, .int .u8 0, .int .u8 ((byteOf 5).toNat : Int), .slice So no co, .slice Sb 36 cb]] w fun e w' => ∃ gB oB qd, e = .returned (.tuple #[.agg #[.int .i64 11, .int .i64 0, .int .u32 0, .slice (some ⟨gB, oB, none⟩) 28 qd], .int .i64 0]) ∧ Sl w' (some ⟨gB, oB, none⟩) 28 qd kW ∧ Fr w.heap.size (some ⟨gB, oB, none⟩) 28 ∧ Below w.heap.size w w' := by
 have h_ := icget_at 0 0 0 0 64 8 8 8 8 10 0 0 (byteOf 5) So Sb no co 36 cb w pb (by decide) (ic_back (by decide) (by decide) (by decide) (by decide) (by decide) kW) kW_len (by decide)
 exact h_
theorem k_ip {Ao Ab : Option Addr} {co cb : Nat} (w : World) (po : Sl w Ao 0 co []) (pb : Sl w Ab 8 cb (icBytes 8 0 2621440003 [])) : Calls Tryz.prog 22 #[.agg #[.int .i64 0, .int .i64 0, .int .i64 0, .int .i64 0, .int .i64 64, .int .i64 1, .int .u8 203, .int .u8 0, .int .u8 113, .int .u8 7, .int .u8 8, .int .u8 8, .int .u8 8, .int .u8 8, .slice Ao 0 co, .slice Ab 8 cb]] w fun e w' => ∃ A c, e = .returned (.tuple #[.slice A 28 c, .int .i64 0]) ∧ Sl w' A 28 c kB ∧ Fr w.heap.size A 28 ∧ Below w.heap.size w w' := by
 have h_ := ipput_yes 0 0 0 0 64 1 203 0 113 7 8 8 8 8 Ao Ab 0 co 8 cb [] _ w po pb (by decide) (by decide)
 have h2 := h_.mono (show ∀ e w', PutPost 0 0 0 0 64 1 203 0 113 7 8 8 8 8 [] (icBytes 8 0 2621440003 []) w e w' → (∃ A c, e = .returned (.tuple #[.slice A 28 c, .int .i64 0]) ∧ Sl w' A 28 c kB ∧ Fr w.heap.size A 28 ∧ Below w.heap.size w w') from by
  rintro e w' ⟨v, r, er, rfl, own, bel, hq⟩
  rw [kB_put] at hq
  simp only [Prod.mk.injEq] at hq
  obtain ⟨rfl, rfl⟩ := hq
  rw [kB_len] at own
  obtain ⟨A, c, rfl⟩ := own_val own
  exact ⟨A, c, rfl, (own_sl own).1, (own_sl own).2, bel⟩)
 exact h2
theorem k_ab {A : Option Addr} {c : Nat} (w : World) (hs : Sl w A 28 c kB) : Calls Tryz.prog 23 #[.agg #[.int .u8 8, .int .u8 8, .int .u8 8, .int .u8 8], .slice A 28 c, .int .i64 11, .int .i64 0] w fun e w' => ∃ Ao co' Ab cb', e = .returned (.tuple #[.agg #[.int .i64 0, .int .i64 0, .int .i64 0, .int .i64 0, .int .i64 64, .int .i64 1, .int .u8 8, .int .u8 8, .int .u8 8, .int .u8 8, .int .u8 203, .int .u8 0, .int .u8 113, .int .u8 7, .slice Ao 0 co', .slice Ab 36 cb'], .int .i64 0]) ∧ Sl w' Ao 0 co' [] ∧ Sl w' Ab 36 cb' (icBytes 11 0 0 kB) ∧ Fr w.heap.size Ao 0 ∧ Fr w.heap.size Ab 36 ∧ Below w.heap.size w w' := by
 have h_ := icabout_3 8 8 8 8 A 28 c kB 11 0 0 0 0 0 64 1 203 0 113 7 8 8 8 8 [] (icBytes 8 0 2621440003 []) 0 8 w hs (by decide) kB_get (by decide +kernel) (by decide) rfl rfl
 have h2 := h_.mono (show ∀ e w', PkPost (icAbout 8 8 8 8 kB 11 0) w e w' → (∃ Ao co' Ab cb', e = .returned (.tuple #[.agg #[.int .i64 0, .int .i64 0, .int .i64 0, .int .i64 0, .int .i64 64, .int .i64 1, .int .u8 8, .int .u8 8, .int .u8 8, .int .u8 8, .int .u8 203, .int .u8 0, .int .u8 113, .int .u8 7, .slice Ao 0 co', .slice Ab 36 cb'], .int .i64 0]) ∧ Sl w' Ao 0 co' [] ∧ Sl w' Ab 36 cb' (icBytes 11 0 0 kB) ∧ Fr w.heap.size Ao 0 ∧ Fr w.heap.size Ab 36 ∧ Below w.heap.size w w') from by
  rintro e w' ⟨f0, f1, f2, f3, f4, f5, g0, g1, g2, g3, g4, g5, g6, g7, lo', lb', Ao, Ab, co', cb', er', rfl, ho', hbb, fo, fb, bel, hq⟩
  rw [kB_about] at hq
  simp only [Prod.mk.injEq, List.cons.injEq, and_true] at hq
  obtain ⟨⟨⟨rfl, rfl, rfl, rfl, rfl, rfl⟩, rfl, rfl, rfl, rfl, rfl, rfl, rfl, rfl⟩, ⟨rfl, rfl⟩, rfl⟩ := hq
  have hl : (icBytes 11 0 0 kB).length = 36 := by rw [icBytes_len, kB_len]
  rw [hl] at hbb fb ⊢
  exact ⟨Ao, co', Ab, cb', rfl, ho', hbb, fo, fb, bel⟩)
 exact h2
end Go.Proofs.YtbdaejodbcjmfaaGreat
