/- Layer 6: awake. -/
import Derived.Test.YtabogdpjjclapaaIpc
import Derived.Lib.SlBytesConst
namespace Go.Proofs.Ytabogdpjjclapaa
open Go.RowKit

/-- A new block of a constant string's bytes. -/
theorem Sl.marked (w : World) (T : TypeId) (l : List UInt8) (fr : Nat × Nat) (h : l.length ≤ maxLen) : Sl (w.alloc (.cells (l.map u8v).toArray T fr)) (some ⟨w.heap.size, 0, none⟩) l.length l.length l := by
  refine ⟨rfl, Nat.le_refl _, h, fun _ => ⟨_, _, rfl, fun j b hj => ?_⟩⟩
  have h1 : (w.alloc (.cells (l.map u8v).toArray T fr)).heap[w.heap.size]? = some (.cells (l.map u8v).toArray T fr) := heap_alloc_new w _
  simp only [World.cell?, h1]
  simp [hj]
theorem Sl.other {w w' : World} {A : Option Addr} {n c : Nat} {l : List UInt8} {q : Nat} (h : Sl w A n c l) (hg : w.grownBy w' (some q)) (hq : ∀ a o, A = some ⟨a, o, none⟩ → a ≠ q) : Sl w' A n c l := by
  refine ⟨h.1, h.2.1, h.2.2.1, fun hn => ?_⟩
  obtain ⟨a, o, e, hc⟩ := h.2.2.2 hn
  exact ⟨a, o, e, fun j b hj => (World.cell?_of_block (w := w) (hg.block a (cell_lt (hc j b hj)) (fun e2 => hq a o e (by injection e2)))).trans (hc j b hj)⟩
abbrev pb6 : List UInt8 := ipBytes 0 0 0 0 64 17 10 0 0 1 10 0 0 2 [] [120]
theorem k6_fits : ipFits 0 0 0 0 64 17 [] = true := by decide
theorem k6_put_eq : ipPut 0 0 0 0 64 17 10 0 0 1 10 0 0 2 [] [120] = (pb6, 0) := by
  unfold ipPut
  rw [if_neg (by rw [k6_fits]; decide), if_neg (by decide)]
theorem k6_good : ipErr pb6 = 0 ∧ ipGet pb6 = (([0, 0, 0, 0, 64, 17], [10, 0, 0, 1, 10, 0, 0, 2]), ([], [120]), 0) ∧ pb6.length = 21 := by
  have g := put_good (a0 := 10) (a1 := 0) (a2 := 0) (a3 := 1) (a4 := 10) (a5 := 0) (a6 := 0) (a7 := 2) (body := [120]) k6_fits (by decide) []
  rw [List.append_nil] at g
  exact ⟨g.1, g.2.1, g.2.2.1⟩
theorem ttl_of {l : List UInt8} (h : ipErr l = 0) {tos id fl pt ttl pr : Int} {ad op body : List UInt8} (hg : ipGet l = (([tos, id, fl, pt, ttl, pr], ad), (op, body), 0)) : ((l.getD 8 0).toNat : Int) = ttl := by
  unfold ipGet at hg
  rw [if_neg (by rw [h]; simp)] at hg
  simp only [Prod.mk.injEq, List.cons.injEq] at hg
  exact hg.1.1.2.2.2.2.1
theorem k6_hop : ipHop pb6 = (hopped pb6, 0) ∧ ipGet (hopped pb6) = (([0, 0, 0, 0, 63, 17], [10, 0, 0, 1, 10, 0, 0, 2]), ([], [120]), 0) ∧ (hopped pb6).length = 21 := by
  obtain ⟨h1, h2, h3⟩ := k6_good
  have ht := ttl_of h1 h2
  have g := hop_good h1 (by omega)
  have hb : be ((pb6.drop 2).take 2) = 21 := by
    have g := put_good (a0 := 10) (a1 := 0) (a2 := 0) (a3 := 1) (a4 := 10) (a5 := 0) (a6 := 0) (a7 := 2) (body := [120]) k6_fits (by decide) []
    exact g.2.2.2.2
  refine ⟨?_, g.2.2.2.2 0 0 0 0 64 17 _ _ _ h2, by rw [g.2.1, hb]⟩
  unfold ipHop
  rw [if_neg (by rw [h1]; simp), if_neg (by omega)]
theorem k6_put (Sb : Option Addr) (w : World) (hb : Sl w Sb 1 1 [120]) : Calls Try.prog 11 #[.agg #[.int .i64 0, .int .i64 0, .int .i64 0, .int .i64 0, .int .i64 64, .int .i64 17, .int .u8 10, .int .u8 0, .int .u8 0, .int .u8 1, .int .u8 10, .int .u8 0, .int .u8 0, .int .u8 2, .slice none 0 0, .slice Sb 1 1]] w fun e w' => ∃ A c, e = .returned (.tuple #[.slice A 21 c, .int .i64 0]) ∧ Sl w' A 21 c pb6 ∧ Below w.heap.size w w' := by
  refine (ipput_any 0 0 0 0 64 17 10 0 0 1 10 0 0 2 none Sb 0 0 1 1 [] [120] w (Sl.nil w) hb (by omega)).mono ?_
  rintro e w' ⟨v, r, er, rfl, hown, bel, hpe⟩
  rw [k6_put_eq] at hpe
  simp only [Prod.mk.injEq] at hpe
  obtain ⟨rfl, rfl⟩ := hpe
  rw [k6_good.2.2] at hown
  obtain ⟨A, c, rfl, hs⟩ := Sl.of_own hown
  exact ⟨A, c, rfl, hs, bel⟩
theorem k6_get (A : Option Addr) (c : Nat) (w : World) (h : Sl w A 21 c pb6) : Calls Try.prog 10 #[.slice A 21 c] w fun e w' => ∃ Ao co Ab cb, e = .returned (.tuple #[.agg #[.int .i64 0, .int .i64 0, .int .i64 0, .int .i64 0, .int .i64 64, .int .i64 17, .int .u8 10, .int .u8 0, .int .u8 0, .int .u8 1, .int .u8 10, .int .u8 0, .int .u8 0, .int .u8 2, .slice Ao 0 co, .slice Ab 1 cb], .int .i64 0]) ∧ Sl w' Ao 0 co [] ∧ Sl w' Ab 1 cb [120] ∧ Below w.heap.size w w' := by
  refine (ipget_any A 21 c _ w h (by omega)).mono ?_
  rintro e w' ⟨f0, f1, f2, f3, f4, f5, g0, g1, g2, g3, g4, g5, g6, g7, lo, lb, Ao, Ab, co, cb, er, rfl, ho, hb, bel, hg⟩
  have hh := k6_good.2.1.symm.trans hg.symm
  simp only [Prod.mk.injEq, List.cons.injEq, and_true] at hh
  obtain ⟨⟨⟨rfl, rfl, rfl, rfl, rfl, rfl⟩, rfl, rfl, rfl, rfl, rfl, rfl, rfl, rfl⟩, ⟨rfl, rfl⟩, rfl⟩ := hh
  exact ⟨Ao, co, Ab, cb, rfl, ho, hb, bel⟩
theorem k6_get2 (A : Option Addr) (c : Nat) (w : World) (h : Sl w A 21 c (hopped pb6)) : Calls Try.prog 10 #[.slice A 21 c] w fun e w' => ∃ Ao co Ab cb, e = .returned (.tuple #[.agg #[.int .i64 0, .int .i64 0, .int .i64 0, .int .i64 0, .int .i64 63, .int .i64 17, .int .u8 10, .int .u8 0, .int .u8 0, .int .u8 1, .int .u8 10, .int .u8 0, .int .u8 0, .int .u8 2, .slice Ao 0 co, .slice Ab 1 cb], .int .i64 0]) ∧ Below w.heap.size w w' := by
  refine (ipget_any A 21 c _ w h (by omega)).mono ?_
  rintro e w' ⟨f0, f1, f2, f3, f4, f5, g0, g1, g2, g3, g4, g5, g6, g7, lo, lb, Ao, Ab, co, cb, er, rfl, ho, hb, bel, hg⟩
  have hh := k6_hop.2.1.symm.trans hg.symm
  simp only [Prod.mk.injEq, List.cons.injEq, and_true] at hh
  obtain ⟨⟨⟨rfl, rfl, rfl, rfl, rfl, rfl⟩, rfl, rfl, rfl, rfl, rfl, rfl, rfl, rfl⟩, ⟨rfl, rfl⟩, rfl⟩ := hh
  exact ⟨Ao, co, Ab, cb, rfl, bel⟩
theorem k6_hops (A : Option Addr) (c : Nat) (w : World) (h : Sl w A 21 c pb6) : Calls Try.prog 12 #[.slice A 21 c] w fun e w' => ∃ A2 c2, e = .returned (.tuple #[.slice A2 21 c2, .int .i64 0]) ∧ Sl w' A2 21 c2 (hopped pb6) ∧ Below w.heap.size w w' := by
  refine (iphop_any A 21 c _ w h (by omega)).mono ?_
  rintro e w' ⟨A2, c2, r, er, rfl, hs, bel, hp⟩
  rw [k6_hop.1] at hp
  simp only [Prod.mk.injEq] at hp
  obtain ⟨rfl, rfl⟩ := hp
  rw [k6_hop.2.2] at hs ⊢
  exact ⟨A2, c2, rfl, hs, bel⟩
theorem k6_own (So Sb : Option Addr) (no co nb cb : Nat) (w : World) : Calls Try.prog 17 #[.agg #[.int .i64 0, .int .i64 0, .int .i64 0, .int .i64 0, .int .i64 64, .int .i64 17, .int .u8 10, .int .u8 0, .int .u8 0, .int .u8 1, .int .u8 10, .int .u8 0, .int .u8 0, .int .u8 2, .slice So no co, .slice Sb nb cb]] w fun e w' => e = .returned (.agg #[.int .i64 0, .int .i64 0, .int .i64 0, .int .i64 0, .int .i64 64, .int .i64 17, .int .u8 10, .int .u8 0, .int .u8 0, .int .u8 1, .int .u8 10, .int .u8 0, .int .u8 0, .int .u8 2, .slice So no co, .slice Sb nb cb]) ∧ Below w.heap.size w w' := own6_any 0 0 0 0 64 17 10 0 0 1 10 0 0 2 So Sb no co nb cb w
theorem k6_same (So Sb To Tb : Option Addr) (co cb dq db : Nat) (w : World) (ho : Sl w So 0 co []) (hb : Sl w Sb 1 cb [120]) (ho2 : Sl w To 0 dq []) (hb2 : Sl w Tb 1 db [120]) :
    Calls Try.prog 16 #[.agg #[.int .i64 0, .int .i64 0, .int .i64 0, .int .i64 0, .int .i64 64, .int .i64 17, .int .u8 10, .int .u8 0, .int .u8 0, .int .u8 1, .int .u8 10, .int .u8 0, .int .u8 0, .int .u8 2, .slice So 0 co, .slice Sb 1 cb], .agg #[.int .i64 0, .int .i64 0, .int .i64 0, .int .i64 0, .int .i64 64, .int .i64 17, .int .u8 10, .int .u8 0, .int .u8 0, .int .u8 1, .int .u8 10, .int .u8 0, .int .u8 0, .int .u8 2, .slice To 0 dq, .slice Tb 1 db]] w fun e w' => e = .returned (.bool true) ∧ Below w.heap.size w w' := same6_true 0 0 0 0 64 17 10 0 0 1 10 0 0 2 So Sb To Tb 0 co 1 cb dq db [] [120] w ho hb ho2 hb2
theorem k6_whole (Sb : Option Addr) (w : World) : Calls Try.prog 13 #[.agg #[.int .i64 0, .int .i64 0, .int .i64 0, .int .i64 0, .int .i64 64, .int .i64 17, .int .u8 10, .int .u8 0, .int .u8 0, .int .u8 1, .int .u8 10, .int .u8 0, .int .u8 0, .int .u8 2, .slice none 0 0, .slice Sb 1 1]] w fun e w' => e = .returned (.bool true) ∧ Below w.heap.size w w' := ipwhole_any 0 0 0 0 64 17 10 0 0 1 10 0 0 2 none Sb 0 0 1 1 w
theorem k6_pseudo (Sb : Option Addr) (w : World) : Calls Try.prog 20 #[.agg #[.int .i64 0, .int .i64 0, .int .i64 0, .int .i64 0, .int .i64 64, .int .i64 17, .int .u8 10, .int .u8 0, .int .u8 0, .int .u8 1, .int .u8 10, .int .u8 0, .int .u8 0, .int .u8 2, .slice none 0 0, .slice Sb 1 1], .int .i64 8] w fun e w' => ∃ A c, e = .returned (.slice A 12 c) ∧ Below w.heap.size w w' := by
  refine (ippseudo_any 0 0 0 0 64 17 10 0 0 1 10 0 0 2 none Sb 0 0 1 1 8 w).mono ?_
  rintro e w' ⟨A, c, rfl, _, bel⟩
  exact ⟨A, c, rfl, bel⟩
set_option maxRecDepth 100000 in
set_option maxHeartbeats 16000000 in
theorem awake6 (w : World) : Calls Try.prog 9 #[] w fun e w' => e = .returned (.bool true) ∧ Below w.heap.size w w' := by
  have bel := Below.refl w.heap.size w
  have hx : (w.alloc (.cells #[.int .u8 120] 5 (1, 2))).heap[w.heap.size]? = some (.cells #[.int .u8 120] 5 (1, 2)) := by have := heap_alloc_new w (.cells #[.int .u8 120] 5 (1, 2)); simpa using this
  have zx : w.heap.size < (w.alloc (.cells #[.int .u8 120] 5 (1, 2))).heap.size := by simp
  replace bel := bel.alloc bel.size (.cells #[.int .u8 120] 5 (1, 2))
  replace hx := (Go.heap_alloc_old (w.alloc (.cells #[.int .u8 120] 5 (1, 2))) (.cells #[.int .i64 0, .int .i64 0, .int .i64 0, .int .i64 0, .int .i64 0, .int .i64 0, .int .u8 0, .int .u8 0, .int .u8 0, .int .u8 0, .int .u8 0, .int .u8 0, .int .u8 0, .int .u8 0, .slice none 0 0, .slice none 0 0] 27) (r := w.heap.size) zx).trans hx
  have hp : ((w.alloc (.cells #[.int .u8 120] 5 (1, 2))).alloc (.cells #[.int .i64 0, .int .i64 0, .int .i64 0, .int .i64 0, .int .i64 0, .int .i64 0, .int .u8 0, .int .u8 0, .int .u8 0, .int .u8 0, .int .u8 0, .int .u8 0, .int .u8 0, .int .u8 0, .slice none 0 0, .slice none 0 0] 27)).heap[w.heap.size + 1]? = some (.cells #[.int .i64 0, .int .i64 0, .int .i64 0, .int .i64 0, .int .i64 0, .int .i64 0, .int .u8 0, .int .u8 0, .int .u8 0, .int .u8 0, .int .u8 0, .int .u8 0, .int .u8 0, .int .u8 0, .slice none 0 0, .slice none 0 0] 27 (0, 0)) := by have := heap_alloc_new (w.alloc (.cells #[.int .u8 120] 5 (1, 2))) (.cells #[.int .i64 0, .int .i64 0, .int .i64 0, .int .i64 0, .int .i64 0, .int .i64 0, .int .u8 0, .int .u8 0, .int .u8 0, .int .u8 0, .int .u8 0, .int .u8 0, .int .u8 0, .int .u8 0, .slice none 0 0, .slice none 0 0] 27); simpa using this
  replace zx := Nat.lt_trans zx (show (w.alloc (.cells #[.int .u8 120] 5 (1, 2))).heap.size < ((w.alloc (.cells #[.int .u8 120] 5 (1, 2))).alloc (.cells #[.int .i64 0, .int .i64 0, .int .i64 0, .int .i64 0, .int .i64 0, .int .i64 0, .int .u8 0, .int .u8 0, .int .u8 0, .int .u8 0, .int .u8 0, .int .u8 0, .int .u8 0, .int .u8 0, .slice none 0 0, .slice none 0 0] 27)).heap.size by simp)
  have zp : w.heap.size + 1 < ((w.alloc (.cells #[.int .u8 120] 5 (1, 2))).alloc (.cells #[.int .i64 0, .int .i64 0, .int .i64 0, .int .i64 0, .int .i64 0, .int .i64 0, .int .u8 0, .int .u8 0, .int .u8 0, .int .u8 0, .int .u8 0, .int .u8 0, .int .u8 0, .int .u8 0, .slice none 0 0, .slice none 0 0] 27)).heap.size := by simp
  replace bel := bel.alloc bel.size (.cells #[.int .i64 0, .int .i64 0, .int .i64 0, .int .i64 0, .int .i64 0, .int .i64 0, .int .u8 0, .int .u8 0, .int .u8 0, .int .u8 0, .int .u8 0, .int .u8 0, .int .u8 0, .int .u8 0, .slice none 0 0, .slice none 0 0] 27)
  have sx : Sl ((w.alloc (.cells #[.int .u8 120] 5 (1, 2))).alloc (.cells #[.int .i64 0, .int .i64 0, .int .i64 0, .int .i64 0, .int .i64 0, .int .i64 0, .int .u8 0, .int .u8 0, .int .u8 0, .int .u8 0, .int .u8 0, .int .u8 0, .int .u8 0, .int .u8 0, .slice none 0 0, .slice none 0 0] 27)) (some ⟨w.heap.size, 0, none⟩) 1 1 [120] := (show Sl (w.alloc (.cells #[.int .u8 120] 5 (1, 2))) (some ⟨w.heap.size, 0, none⟩) 1 1 [120] from Sl.marked w 5 [120] _ (by simp [maxLen])).below ((Below.refl _ _).alloc (Nat.le_refl _) _)
  have kc := fun (w : World) (C : Array Value) (n c : Nat) => Lib.run_convert_bytes_const (P := Try.prog) w 25 5 C n c Try.underlying25 Try.underlying5
  clear hx zx
  go_enter Try.func9, Try.ntmps9
  go_wp2_with (first | ((with_reducible show wpList _ _ _ (⟨none, Op.store _ _ _, _, _, _, _⟩ :: _) _ _); refine wpList_store_blk rfl 27 _ _ rfl (w.heap.size + 1) rfl #[.int .i64 0, .int .i64 0, .int .i64 0, .int .i64 0, .int .i64 64, .int .i64 17, .int .u8 10, .int .u8 0, .int .u8 0, .int .u8 1, .int .u8 10, .int .u8 0, .int .u8 0, .int .u8 2, .slice none 0 0, .slice (some ⟨w.heap.size, 0, none⟩) 1 1] rfl _ 27 hp (by rfl) (by kernel_rfl) (by kernel_rfl) ?_; intro wp hpz hgz; replace bel := below_grown bel hgz (by omega) bel.size; replace sx := sx.other hgz (fun a o e => by injection e with e; injection e with e1 _; omega); replace zp := Nat.lt_of_lt_of_le zp hgz.size; have hp2 := hpz; clear hgz hp; have hp := hp2; clear hp2 hpz; have R1 := Lib.hid (range_lit hp 0 16 [.int .i64 0, .int .i64 0, .int .i64 0, .int .i64 0, .int .i64 64, .int .i64 17, .int .u8 10, .int .u8 0, .int .u8 0, .int .u8 1, .int .u8 10, .int .u8 0, .int .u8 0, .int .u8 2, .slice none 0 0, .slice (some ⟨w.heap.size, 0, none⟩) 1 1] rfl)) | ((with_reducible show wpList _ _ _ (⟨some 16, _, _, _, _, _⟩ :: _) _ _); refine wpList_load_rng 27 (.tmp 1) rfl (by kernel_rfl) _ _ rfl _ R1.out _ Try.underlying27 rfl (by kernel_rfl) ?_))
  with_reducible refine (k6_put _ _ sx).mono ?_
  clear R1
  rintro e w1 ⟨A1, c1, rfl, hs, b1⟩
  replace hp := (b1.block _ zp).trans hp
  replace zp := Nat.lt_of_lt_of_le zp b1.size
  replace sx := sx.below b1
  replace bel := bel.trans (b1.mono bel.size)
  clear b1
  go_wp2_with fail
  with_reducible refine (k6_get A1 c1 _ hs).mono ?_
  rintro e w2 ⟨Ao1, co1, Ab1, cb1, rfl, ho1, hb1, b2⟩
  replace hp := (b2.block _ zp).trans hp
  replace zp := Nat.lt_of_lt_of_le zp b2.size
  replace sx := sx.below b2
  replace hs := hs.below b2
  replace bel := bel.trans (b2.mono bel.size)
  clear b2
  have nq := heap_alloc_new w2 (.cells #[.int .i64 0, .int .i64 0, .int .i64 0, .int .i64 0, .int .i64 0, .int .i64 0, .int .u8 0, .int .u8 0, .int .u8 0, .int .u8 0, .int .u8 0, .int .u8 0, .int .u8 0, .int .u8 0, .slice none 0 0, .slice none 0 0] 27)
  have bqq := (Below.refl w2.heap.size w2).alloc (Nat.le_refl _) (.cells #[.int .i64 0, .int .i64 0, .int .i64 0, .int .i64 0, .int .i64 0, .int .i64 0, .int .u8 0, .int .u8 0, .int .u8 0, .int .u8 0, .int .u8 0, .int .u8 0, .int .u8 0, .int .u8 0, .slice none 0 0, .slice none 0 0] 27)
  go_wp2_with (first | ((with_reducible show wpList _ _ _ (⟨none, Op.store _ _ _, _, _, _, _⟩ :: _) _ _); refine wpList_store_blk rfl 27 _ _ rfl (w2.heap.size) rfl #[.int .i64 0, .int .i64 0, .int .i64 0, .int .i64 0, .int .i64 64, .int .i64 17, .int .u8 10, .int .u8 0, .int .u8 0, .int .u8 1, .int .u8 10, .int .u8 0, .int .u8 0, .int .u8 2, .slice Ao1 0 co1, .slice Ab1 1 cb1] rfl _ 27 nq (by rfl) (by kernel_rfl) (by kernel_rfl) ?_; intro x3 hq gq; have bz := below_grown bqq gq (Nat.le_refl _) bqq.size; replace hp := (bz.block _ zp).trans hp; replace zp := Nat.lt_of_lt_of_le zp bz.size; replace sx := sx.below bz; replace hs := hs.below bz; replace ho1 := ho1.below bz; replace hb1 := hb1.below bz; replace bel := bel.trans (bz.mono bel.size); have zq := (Array.getElem?_eq_some_iff.1 hq).1; clear nq bqq bz gq))
  with_reducible refine (k6_hops A1 c1 _ hs).mono ?_
  rintro e w4 ⟨A2, c2, rfl, hs2, b4⟩
  replace hp := (b4.block _ zp).trans hp
  replace zp := Nat.lt_of_lt_of_le zp b4.size
  replace hq := (b4.block _ zq).trans hq
  replace zq := Nat.lt_of_lt_of_le zq b4.size
  replace sx := sx.below b4
  replace hs := hs.below b4
  replace ho1 := ho1.below b4
  replace hb1 := hb1.below b4
  replace bel := bel.trans (b4.mono bel.size)
  clear b4
  clear hs
  go_wp2_with fail
  with_reducible refine (k6_get2 A2 c2 _ hs2).mono ?_
  rintro e w5 ⟨Ao2, co2, Ab2, cb2, rfl, b5⟩
  replace hp := (b5.block _ zp).trans hp
  replace zp := Nat.lt_of_lt_of_le zp b5.size
  replace hq := (b5.block _ zq).trans hq
  replace zq := Nat.lt_of_lt_of_le zq b5.size
  replace sx := sx.below b5
  replace hs2 := hs2.below b5
  replace ho1 := ho1.below b5
  replace hb1 := hb1.below b5
  replace bel := bel.trans (b5.mono bel.size)
  clear b5
  clear hs2
  have ns := heap_alloc_new w5 (.cells #[.int .i64 0, .int .i64 0, .int .i64 0, .int .i64 0, .int .i64 0, .int .i64 0, .int .u8 0, .int .u8 0, .int .u8 0, .int .u8 0, .int .u8 0, .int .u8 0, .int .u8 0, .int .u8 0, .slice none 0 0, .slice none 0 0] 27)
  have bqs := (Below.refl w5.heap.size w5).alloc (Nat.le_refl _) (.cells #[.int .i64 0, .int .i64 0, .int .i64 0, .int .i64 0, .int .i64 0, .int .i64 0, .int .u8 0, .int .u8 0, .int .u8 0, .int .u8 0, .int .u8 0, .int .u8 0, .int .u8 0, .int .u8 0, .slice none 0 0, .slice none 0 0] 27)
  go_wp2_with (first | ((with_reducible show wpList _ _ _ (⟨none, Op.store _ _ _, _, _, _, _⟩ :: _) _ _); refine wpList_store_blk rfl 27 _ _ rfl (w5.heap.size) rfl #[.int .i64 0, .int .i64 0, .int .i64 0, .int .i64 0, .int .i64 63, .int .i64 17, .int .u8 10, .int .u8 0, .int .u8 0, .int .u8 1, .int .u8 10, .int .u8 0, .int .u8 0, .int .u8 2, .slice Ao2 0 co2, .slice Ab2 1 cb2] rfl _ 27 ns (by rfl) (by kernel_rfl) (by kernel_rfl) ?_; intro x6 hs gs; have bz := below_grown bqs gs (Nat.le_refl _) bqs.size; replace hp := (bz.block _ zp).trans hp; replace zp := Nat.lt_of_lt_of_le zp bz.size; replace hq := (bz.block _ zq).trans hq; replace zq := Nat.lt_of_lt_of_le zq bz.size; replace sx := sx.below bz; replace ho1 := ho1.below bz; replace hb1 := hb1.below bz; replace bel := bel.trans (bz.mono bel.size); have zs := (Array.getElem?_eq_some_iff.1 hs).1; clear ns bqs bz gs))
  replace bel := bel.drew
  replace hp : x6.drew.heap[w.heap.size + 1]? = some (.cells #[.int .i64 0, .int .i64 0, .int .i64 0, .int .i64 0, .int .i64 64, .int .i64 17, .int .u8 10, .int .u8 0, .int .u8 0, .int .u8 1, .int .u8 10, .int .u8 0, .int .u8 0, .int .u8 2, .slice none 0 0, .slice (some ⟨w.heap.size, 0, none⟩) 1 1] 27 (0, 0)) := hp
  replace zp : w.heap.size + 1 < x6.drew.heap.size := zp
  replace hq : x6.drew.heap[w2.heap.size]? = some (.cells #[.int .i64 0, .int .i64 0, .int .i64 0, .int .i64 0, .int .i64 64, .int .i64 17, .int .u8 10, .int .u8 0, .int .u8 0, .int .u8 1, .int .u8 10, .int .u8 0, .int .u8 0, .int .u8 2, .slice Ao1 0 co1, .slice Ab1 1 cb1] 27 (0, 0)) := hq
  replace zq : w2.heap.size < x6.drew.heap.size := zq
  replace hs : x6.drew.heap[w5.heap.size]? = some (.cells #[.int .i64 0, .int .i64 0, .int .i64 0, .int .i64 0, .int .i64 63, .int .i64 17, .int .u8 10, .int .u8 0, .int .u8 0, .int .u8 1, .int .u8 10, .int .u8 0, .int .u8 0, .int .u8 2, .slice Ao2 0 co2, .slice Ab2 1 cb2] 27 (0, 0)) := hs
  replace zs : w5.heap.size < x6.drew.heap.size := zs
  replace sx := sx.drew
  replace ho1 := ho1.drew
  replace hb1 := hb1.drew
  refine wp_region_held_drew (S := fun W => W.heap[w.heap.size + 1]? = some (.cells #[.int .i64 0, .int .i64 0, .int .i64 0, .int .i64 0, .int .i64 64, .int .i64 17, .int .u8 10, .int .u8 0, .int .u8 0, .int .u8 1, .int .u8 10, .int .u8 0, .int .u8 0, .int .u8 2, .slice none 0 0, .slice (some ⟨w.heap.size, 0, none⟩) 1 1] 27 (0, 0)) ∧ W.heap[w2.heap.size]? = some (.cells #[.int .i64 0, .int .i64 0, .int .i64 0, .int .i64 0, .int .i64 64, .int .i64 17, .int .u8 10, .int .u8 0, .int .u8 0, .int .u8 1, .int .u8 10, .int .u8 0, .int .u8 0, .int .u8 2, .slice Ao1 0 co1, .slice Ab1 1 cb1] 27 (0, 0)) ∧ W.heap[w5.heap.size]? = some (.cells #[.int .i64 0, .int .i64 0, .int .i64 0, .int .i64 0, .int .i64 63, .int .i64 17, .int .u8 10, .int .u8 0, .int .u8 0, .int .u8 1, .int .u8 10, .int .u8 0, .int .u8 0, .int .u8 2, .slice Ao2 0 co2, .slice Ab2 1 cb2] 27 (0, 0)) ∧ Sl W (some ⟨w.heap.size, 0, none⟩) (1) (1) ([120]) ∧ Sl W (Ao1) (0) (co1) ([]) ∧ Sl W (Ab1) (1) (cb1) ([120])) (by kernel_rfl) ⟨hp, hq, hs, sx, ho1, hb1⟩ (fun hH => ?_)
  generalize x6.drew = vd at bel hp zp hq zq hs zs sx ho1 hb1 hH ⊢
  refine wpAnyH_take (i := 0) (v := ?_) rfl (by kernel_rfl) (by kernel_rfl) (by kernel_rfl) (fun _ _ _ h => h) (Or.inl ⟨by rfl, ?_⟩) hH ?_
  rotate_left
  · ((intro W hW; clear hW; go_simp) <;> with_reducible rfl)
  simp only [Act.put, List.getElem_toArray, List.getElem_cons_zero, List.setIfInBounds_toArray, List.set_cons_zero, List.set_cons_succ]
  refine wpAnyH_take (i := 1) (v := ?_) rfl (by kernel_rfl) (by kernel_rfl) (by kernel_rfl) (fun _ _ _ h => h) (Or.inl ⟨by rfl, ?_⟩) hH ?_
  rotate_left
  · ((intro W hW; clear hW; go_simp) <;> with_reducible rfl)
  simp only [Act.put, List.getElem_toArray, List.getElem_cons_zero, List.getElem_cons_succ, List.setIfInBounds_toArray, List.set_cons_zero, List.set_cons_succ]
  refine wpAnyH_take (i := 2) (v := ?_) rfl (by kernel_rfl) (by kernel_rfl) (by kernel_rfl) (fun _ _ _ h => h) (Or.inl ⟨by rfl, ?_⟩) hH ?_
  rotate_left
  · ((intro W hW; clear hW; go_simp) <;> with_reducible rfl)
  simp only [Act.put, List.getElem_toArray, List.getElem_cons_zero, List.getElem_cons_succ, List.setIfInBounds_toArray, List.set_cons_zero, List.set_cons_succ]
  refine wpAnyH_take (i := 3) (v := ?_) rfl (by kernel_rfl) (by kernel_rfl) (by kernel_rfl) (fun _ _ _ h => h) (Or.inl ⟨by rfl, ?_⟩) hH ?_
  rotate_left
  · ((intro W hW; clear hW; go_simp) <;> with_reducible rfl)
  simp only [Act.put, List.getElem_toArray, List.getElem_cons_zero, List.getElem_cons_succ, List.setIfInBounds_toArray, List.set_cons_zero, List.set_cons_succ]
  refine wpAnyH_take (i := 4) (v := ?_) rfl (by kernel_rfl) (by kernel_rfl) (by kernel_rfl) (fun _ _ _ h => h) (Or.inl ⟨by rfl, ?_⟩) hH ?_
  rotate_left
  · ((intro W hW; clear hW; go_simp) <;> with_reducible rfl)
  simp only [Act.put, List.getElem_toArray, List.getElem_cons_zero, List.getElem_cons_succ, List.setIfInBounds_toArray, List.set_cons_zero, List.set_cons_succ]
  refine wpAnyH_take (i := 5) (v := ?_) rfl (by kernel_rfl) (by kernel_rfl) (by kernel_rfl) (fun _ _ _ h => h) (Or.inl ⟨by rfl, ?_⟩) hH ?_
  rotate_left
  · ((intro W hW; clear hW; go_simp) <;> with_reducible rfl)
  simp only [Act.put, List.getElem_toArray, List.getElem_cons_zero, List.getElem_cons_succ, List.setIfInBounds_toArray, List.set_cons_zero, List.set_cons_succ]
  refine wpAnyH_take (i := 6) (v := ?_) rfl (by kernel_rfl) (by kernel_rfl) (by kernel_rfl) (fun _ _ _ h => h) (Or.inl ⟨by rfl, ?_⟩) hH ?_
  rotate_left
  · ((intro W hW; clear hW; go_simp) <;> with_reducible rfl)
  simp only [Act.put, List.getElem_toArray, List.getElem_cons_zero, List.getElem_cons_succ, List.setIfInBounds_toArray, List.set_cons_zero, List.set_cons_succ]
  refine wpAnyH_take (i := 7) (v := .agg #[.int .i64 0, .int .i64 0, .int .i64 0, .int .i64 0, .int .i64 64, .int .i64 17, .int .u8 10, .int .u8 0, .int .u8 0, .int .u8 1, .int .u8 10, .int .u8 0, .int .u8 0, .int .u8 2, .slice Ao1 0 co1, .slice Ab1 1 cb1]) rfl (by kernel_rfl) (by kernel_rfl) (by kernel_rfl) (fun _ _ _ h => h) (yieldsIf_load_part (by kernel_rfl) 27 _ rfl (w2.heap.size) 0 16 rfl [.int .i64 0, .int .i64 0, .int .i64 0, .int .i64 0, .int .i64 64, .int .i64 17, .int .u8 10, .int .u8 0, .int .u8 0, .int .u8 1, .int .u8 10, .int .u8 0, .int .u8 0, .int .u8 2, .slice Ao1 0 co1, .slice Ab1 1 cb1] 27 (0, 0) (fun W hW => hW.2.1) [.int .i64 0, .int .i64 0, .int .i64 0, .int .i64 0, .int .i64 64, .int .i64 17, .int .u8 10, .int .u8 0, .int .u8 0, .int .u8 1, .int .u8 10, .int .u8 0, .int .u8 0, .int .u8 2, .slice Ao1 0 co1, .slice Ab1 1 cb1] rfl _ Try.underlying27 rfl (by kernel_rfl)) hH ?_
  simp only [Act.put, List.getElem_toArray, List.getElem_cons_zero, List.getElem_cons_succ, List.setIfInBounds_toArray, List.set_cons_zero, List.set_cons_succ]
  refine wpAnyH_take (i := 9) (v := .agg #[.int .i64 0, .int .i64 0, .int .i64 0, .int .i64 0, .int .i64 64, .int .i64 17, .int .u8 10, .int .u8 0, .int .u8 0, .int .u8 1, .int .u8 10, .int .u8 0, .int .u8 0, .int .u8 2, .slice none 0 0, .slice (some ⟨w.heap.size, 0, none⟩) 1 1]) rfl (by kernel_rfl) (by kernel_rfl) (by kernel_rfl) (fun _ _ _ h => h) (yieldsIf_load_part (by kernel_rfl) 27 _ rfl (w.heap.size + 1) 0 16 rfl [.int .i64 0, .int .i64 0, .int .i64 0, .int .i64 0, .int .i64 64, .int .i64 17, .int .u8 10, .int .u8 0, .int .u8 0, .int .u8 1, .int .u8 10, .int .u8 0, .int .u8 0, .int .u8 2, .slice none 0 0, .slice (some ⟨w.heap.size, 0, none⟩) 1 1] 27 (0, 0) (fun W hW => hW.1) [.int .i64 0, .int .i64 0, .int .i64 0, .int .i64 0, .int .i64 64, .int .i64 17, .int .u8 10, .int .u8 0, .int .u8 0, .int .u8 1, .int .u8 10, .int .u8 0, .int .u8 0, .int .u8 2, .slice none 0 0, .slice (some ⟨w.heap.size, 0, none⟩) 1 1] rfl _ Try.underlying27 rfl (by kernel_rfl)) hH ?_
  simp only [Act.put, List.getElem_toArray, List.getElem_cons_zero, List.getElem_cons_succ, List.setIfInBounds_toArray, List.set_cons_zero, List.set_cons_succ]
  refine wpAnyH_ready (rs := [8]) (by kernel_rfl) (by simp) ?_
  refine AllReadyH.cons (o := _) rfl (fun K hK => ?_) AllReadyH.nil
  simp only [List.getElem_toArray, List.getElem_cons_zero, List.getElem_cons_succ]
  go_simp
  with_reducible refine (k6_own _ _ _ _ _ _ _).mono ?_
  rintro e v31 ⟨rfl, b31⟩
  dsimp only
  replace bel := bel.trans (b31.mono bel.size)
  replace hp := (b31.block _ zp).trans hp
  replace zp := Nat.lt_of_lt_of_le zp b31.size
  replace hq := (b31.block _ zq).trans hq
  replace zq := Nat.lt_of_lt_of_le zq b31.size
  replace hs := (b31.block _ zs).trans hs
  replace zs := Nat.lt_of_lt_of_le zs b31.size
  replace sx := sx.below b31
  replace ho1 := ho1.below b31
  replace hb1 := hb1.below b31
  refine hK.out _ _ ⟨hp, hq, hs, sx, ho1, hb1⟩ (fun hH31 => ?_)
  clear hK K
  refine wpAnyH_ready (rs := [10]) (by kernel_rfl) (by simp) ?_
  refine AllReadyH.cons (o := _) rfl (fun K hK => ?_) AllReadyH.nil
  simp only [List.getElem_toArray, List.getElem_cons_zero, List.getElem_cons_succ]
  go_simp
  with_reducible refine (k6_own _ _ _ _ _ _ _).mono ?_
  rintro e v32 ⟨rfl, b32⟩
  dsimp only
  replace bel := bel.trans (b32.mono bel.size)
  replace hp := (b32.block _ zp).trans hp
  replace zp := Nat.lt_of_lt_of_le zp b32.size
  replace hq := (b32.block _ zq).trans hq
  replace zq := Nat.lt_of_lt_of_le zq b32.size
  replace hs := (b32.block _ zs).trans hs
  replace zs := Nat.lt_of_lt_of_le zs b32.size
  replace sx := sx.below b32
  replace ho1 := ho1.below b32
  replace hb1 := hb1.below b32
  refine hK.out _ _ ⟨hp, hq, hs, sx, ho1, hb1⟩ (fun hH32 => ?_)
  clear hK K
  refine wpAnyH_ready (rs := [11]) (by kernel_rfl) (by simp) ?_
  refine AllReadyH.cons (o := _) rfl (fun K hK => ?_) AllReadyH.nil
  simp only [List.getElem_toArray, List.getElem_cons_zero, List.getElem_cons_succ]
  go_simp
  with_reducible refine (k6_same _ _ _ _ _ _ _ _ _ ho1 hb1 (Sl.nil _) sx).mono ?_
  rintro e v33 ⟨rfl, b33⟩
  dsimp only
  replace bel := bel.trans (b33.mono bel.size)
  replace hp := (b33.block _ zp).trans hp
  replace zp := Nat.lt_of_lt_of_le zp b33.size
  replace hq := (b33.block _ zq).trans hq
  replace zq := Nat.lt_of_lt_of_le zq b33.size
  replace hs := (b33.block _ zs).trans hs
  replace zs := Nat.lt_of_lt_of_le zs b33.size
  replace sx := sx.below b33
  replace ho1 := ho1.below b33
  replace hb1 := hb1.below b33
  refine hK.out _ _ ⟨hp, hq, hs, sx, ho1, hb1⟩ (fun hH33 => ?_)
  clear hK K
  refine wpAnyH_take (i := 12) (v := ?_) rfl (by kernel_rfl) (by kernel_rfl) (by kernel_rfl) (fun _ _ _ h => h) (Or.inl ⟨by rfl, ?_⟩) hH33 ?_
  rotate_left
  · ((intro W hW; clear hW; go_simp) <;> with_reducible rfl)
  simp only [Act.put, List.getElem_toArray, List.getElem_cons_zero, List.getElem_cons_succ, List.setIfInBounds_toArray, List.set_cons_zero, List.set_cons_succ]
  refine wpAnyH_take (i := 13) (v := ?_) rfl (by kernel_rfl) (by kernel_rfl) (by kernel_rfl) (fun _ _ _ h => h) (Or.inl ⟨by rfl, ?_⟩) hH33 ?_
  rotate_left
  · ((intro W hW; clear hW; go_simp) <;> with_reducible rfl)
  simp only [Act.put, List.getElem_toArray, List.getElem_cons_zero, List.getElem_cons_succ, List.setIfInBounds_toArray, List.set_cons_zero, List.set_cons_succ]
  refine wpAnyH_take (i := 14) (v := ?_) rfl (by kernel_rfl) (by kernel_rfl) (by kernel_rfl) (fun _ _ _ h => h) (Or.inl ⟨by rfl, ?_⟩) hH33 ?_
  rotate_left
  · ((intro W hW; clear hW; go_simp) <;> with_reducible rfl)
  simp only [Act.put, List.getElem_toArray, List.getElem_cons_zero, List.getElem_cons_succ, List.setIfInBounds_toArray, List.set_cons_zero, List.set_cons_succ]
  refine wpAnyH_take (i := 15) (v := ?_) rfl (by kernel_rfl) (by kernel_rfl) (by kernel_rfl) (fun _ _ _ h => h) (Or.inl ⟨by rfl, ?_⟩) hH33 ?_
  rotate_left
  · ((intro W hW; clear hW; go_simp) <;> with_reducible rfl)
  simp only [Act.put, List.getElem_toArray, List.getElem_cons_zero, List.getElem_cons_succ, List.setIfInBounds_toArray, List.set_cons_zero, List.set_cons_succ]
  refine wpAnyH_take (i := 16) (v := ?_) rfl (by kernel_rfl) (by kernel_rfl) (by kernel_rfl) (fun _ _ _ h => h) (Or.inl ⟨by rfl, ?_⟩) hH33 ?_
  rotate_left
  · ((intro W hW; clear hW; go_simp) <;> with_reducible rfl)
  simp only [Act.put, List.getElem_toArray, List.getElem_cons_zero, List.getElem_cons_succ, List.setIfInBounds_toArray, List.set_cons_zero, List.set_cons_succ]
  refine wpAnyH_take (i := 17) (v := ?_) rfl (by kernel_rfl) (by kernel_rfl) (by kernel_rfl) (fun _ _ _ h => h) (Or.inl ⟨by rfl, ?_⟩) hH33 ?_
  rotate_left
  · ((intro W hW; clear hW; go_simp) <;> with_reducible rfl)
  simp only [Act.put, List.getElem_toArray, List.getElem_cons_zero, List.getElem_cons_succ, List.setIfInBounds_toArray, List.set_cons_zero, List.set_cons_succ]
  refine wpAnyH_take (i := 18) (v := ?_) rfl (by kernel_rfl) (by kernel_rfl) (by kernel_rfl) (fun _ _ _ h => h) (Or.inl ⟨by rfl, ?_⟩) hH33 ?_
  rotate_left
  · ((intro W hW; clear hW; go_simp) <;> with_reducible rfl)
  simp only [Act.put, List.getElem_toArray, List.getElem_cons_zero, List.getElem_cons_succ, List.setIfInBounds_toArray, List.set_cons_zero, List.set_cons_succ]
  refine wpAnyH_take (i := 19) (v := ?_) rfl (by kernel_rfl) (by kernel_rfl) (by kernel_rfl) (fun _ _ _ h => h) (Or.inl ⟨by rfl, ?_⟩) hH33 ?_
  rotate_left
  · ((intro W hW; clear hW; go_simp) <;> with_reducible rfl)
  simp only [Act.put, List.getElem_toArray, List.getElem_cons_zero, List.getElem_cons_succ, List.setIfInBounds_toArray, List.set_cons_zero, List.set_cons_succ]
  refine wpAnyH_take (i := 20) (v := ?_) rfl (by kernel_rfl) (by kernel_rfl) (by kernel_rfl) (fun _ _ _ h => h) (Or.inl ⟨by rfl, ?_⟩) hH33 ?_
  rotate_left
  · ((intro W hW; clear hW; go_simp) <;> with_reducible rfl)
  simp only [Act.put, List.getElem_toArray, List.getElem_cons_zero, List.getElem_cons_succ, List.setIfInBounds_toArray, List.set_cons_zero, List.set_cons_succ]
  refine wpAnyH_take (i := 21) (v := ?_) rfl (by kernel_rfl) (by kernel_rfl) (by kernel_rfl) (fun _ _ _ h => h) (Or.inl ⟨by rfl, ?_⟩) hH33 ?_
  rotate_left
  · ((intro W hW; clear hW; go_simp) <;> with_reducible rfl)
  simp only [Act.put, List.getElem_toArray, List.getElem_cons_zero, List.getElem_cons_succ, List.setIfInBounds_toArray, List.set_cons_zero, List.set_cons_succ]
  refine wpAnyH_take (i := 22) (v := ?_) rfl (by kernel_rfl) (by kernel_rfl) (by kernel_rfl) (fun _ _ _ h => h) (Or.inl ⟨by rfl, ?_⟩) hH33 ?_
  rotate_left
  · ((intro W hW; clear hW; go_simp) <;> with_reducible rfl)
  simp only [Act.put, List.getElem_toArray, List.getElem_cons_zero, List.getElem_cons_succ, List.setIfInBounds_toArray, List.set_cons_zero, List.set_cons_succ]
  refine wpAnyH_take (i := 23) (v := ?_) rfl (by kernel_rfl) (by kernel_rfl) (by kernel_rfl) (fun _ _ _ h => h) (Or.inl ⟨by rfl, ?_⟩) hH33 ?_
  rotate_left
  · ((intro W hW; have hk := cell_lit (hW.2.2.1) 4 _ rfl; clear hW; go_simp) <;> with_reducible rfl)
  simp only [Act.put, List.getElem_toArray, List.getElem_cons_zero, List.getElem_cons_succ, List.setIfInBounds_toArray, List.set_cons_zero, List.set_cons_succ]
  refine wpAnyH_take (i := 24) (v := ?_) rfl (by kernel_rfl) (by kernel_rfl) (by kernel_rfl) (fun _ _ _ h => h) (Or.inl ⟨by rfl, ?_⟩) hH33 ?_
  rotate_left
  · ((intro W hW; clear hW; go_simp) <;> with_reducible rfl)
  simp only [Act.put, List.getElem_toArray, List.getElem_cons_zero, List.getElem_cons_succ, List.setIfInBounds_toArray, List.set_cons_zero, List.set_cons_succ]
  refine wpAnyH_take (i := 25) (v := ?_) rfl (by kernel_rfl) (by kernel_rfl) (by kernel_rfl) (fun _ _ _ h => h) (Or.inl ⟨by rfl, ?_⟩) hH33 ?_
  rotate_left
  · ((intro W hW; clear hW; go_simp) <;> with_reducible rfl)
  simp only [Act.put, List.getElem_toArray, List.getElem_cons_zero, List.getElem_cons_succ, List.setIfInBounds_toArray, List.set_cons_zero, List.set_cons_succ]
  refine wpAnyH_take (i := 26) (v := ?_) rfl (by kernel_rfl) (by kernel_rfl) (by kernel_rfl) (fun _ _ _ h => h) (Or.inl ⟨by rfl, ?_⟩) hH33 ?_
  rotate_left
  · ((intro W hW; clear hW; go_simp) <;> with_reducible rfl)
  simp only [Act.put, List.getElem_toArray, List.getElem_cons_zero, List.getElem_cons_succ, List.setIfInBounds_toArray, List.set_cons_zero, List.set_cons_succ]
  refine wpAnyH_take (i := 27) (v := .agg #[.int .i64 0, .int .i64 0, .int .i64 0, .int .i64 0, .int .i64 64, .int .i64 17, .int .u8 10, .int .u8 0, .int .u8 0, .int .u8 1, .int .u8 10, .int .u8 0, .int .u8 0, .int .u8 2, .slice none 0 0, .slice (some ⟨w.heap.size, 0, none⟩) 1 1]) rfl (by kernel_rfl) (by kernel_rfl) (by kernel_rfl) (fun _ _ _ h => h) (yieldsIf_load_part (by kernel_rfl) 27 _ rfl (w.heap.size + 1) 0 16 rfl [.int .i64 0, .int .i64 0, .int .i64 0, .int .i64 0, .int .i64 64, .int .i64 17, .int .u8 10, .int .u8 0, .int .u8 0, .int .u8 1, .int .u8 10, .int .u8 0, .int .u8 0, .int .u8 2, .slice none 0 0, .slice (some ⟨w.heap.size, 0, none⟩) 1 1] 27 (0, 0) (fun W hW => hW.1) [.int .i64 0, .int .i64 0, .int .i64 0, .int .i64 0, .int .i64 64, .int .i64 17, .int .u8 10, .int .u8 0, .int .u8 0, .int .u8 1, .int .u8 10, .int .u8 0, .int .u8 0, .int .u8 2, .slice none 0 0, .slice (some ⟨w.heap.size, 0, none⟩) 1 1] rfl _ Try.underlying27 rfl (by kernel_rfl)) hH33 ?_
  simp only [Act.put, List.getElem_toArray, List.getElem_cons_zero, List.getElem_cons_succ, List.setIfInBounds_toArray, List.set_cons_zero, List.set_cons_succ]
  refine wpAnyH_ready (rs := [28]) (by kernel_rfl) (by simp) ?_
  refine AllReadyH.cons (o := _) rfl (fun K hK => ?_) AllReadyH.nil
  simp only [List.getElem_toArray, List.getElem_cons_zero, List.getElem_cons_succ]
  go_simp
  with_reducible refine (k6_whole _ _).mono ?_
  rintro e v34 ⟨rfl, b34⟩
  dsimp only
  replace bel := bel.trans (b34.mono bel.size)
  replace hp := (b34.block _ zp).trans hp
  replace zp := Nat.lt_of_lt_of_le zp b34.size
  replace hq := (b34.block _ zq).trans hq
  replace zq := Nat.lt_of_lt_of_le zq b34.size
  replace hs := (b34.block _ zs).trans hs
  replace zs := Nat.lt_of_lt_of_le zs b34.size
  replace sx := sx.below b34
  replace ho1 := ho1.below b34
  replace hb1 := hb1.below b34
  refine hK.out _ _ ⟨hp, hq, hs, sx, ho1, hb1⟩ (fun hH34 => ?_)
  clear hK K
  refine wpAnyH_take (i := 29) (v := ?_) rfl (by kernel_rfl) (by kernel_rfl) (by kernel_rfl) (fun _ _ _ h => h) (Or.inl ⟨by rfl, ?_⟩) hH34 ?_
  rotate_left
  · ((intro W hW; clear hW; go_simp) <;> with_reducible rfl)
  simp only [Act.put, List.getElem_toArray, List.getElem_cons_zero, List.getElem_cons_succ, List.setIfInBounds_toArray, List.set_cons_zero, List.set_cons_succ]
  refine wpAnyH_take (i := 30) (v := ?_) rfl (by kernel_rfl) (by kernel_rfl) (by kernel_rfl) (fun _ _ _ h => h) (Or.inl ⟨by rfl, ?_⟩) hH34 ?_
  rotate_left
  · ((intro W hW; clear hW; go_simp) <;> with_reducible rfl)
  simp only [Act.put, List.getElem_toArray, List.getElem_cons_zero, List.getElem_cons_succ, List.setIfInBounds_toArray, List.set_cons_zero, List.set_cons_succ]
  refine wpAnyH_take (i := 31) (v := .agg #[.int .i64 0, .int .i64 0, .int .i64 0, .int .i64 0, .int .i64 64, .int .i64 17, .int .u8 10, .int .u8 0, .int .u8 0, .int .u8 1, .int .u8 10, .int .u8 0, .int .u8 0, .int .u8 2, .slice none 0 0, .slice (some ⟨w.heap.size, 0, none⟩) 1 1]) rfl (by kernel_rfl) (by kernel_rfl) (by kernel_rfl) (fun _ _ _ h => h) (yieldsIf_load_part (by kernel_rfl) 27 _ rfl (w.heap.size + 1) 0 16 rfl [.int .i64 0, .int .i64 0, .int .i64 0, .int .i64 0, .int .i64 64, .int .i64 17, .int .u8 10, .int .u8 0, .int .u8 0, .int .u8 1, .int .u8 10, .int .u8 0, .int .u8 0, .int .u8 2, .slice none 0 0, .slice (some ⟨w.heap.size, 0, none⟩) 1 1] 27 (0, 0) (fun W hW => hW.1) [.int .i64 0, .int .i64 0, .int .i64 0, .int .i64 0, .int .i64 64, .int .i64 17, .int .u8 10, .int .u8 0, .int .u8 0, .int .u8 1, .int .u8 10, .int .u8 0, .int .u8 0, .int .u8 2, .slice none 0 0, .slice (some ⟨w.heap.size, 0, none⟩) 1 1] rfl _ Try.underlying27 rfl (by kernel_rfl)) hH34 ?_
  simp only [Act.put, List.getElem_toArray, List.getElem_cons_zero, List.getElem_cons_succ, List.setIfInBounds_toArray, List.set_cons_zero, List.set_cons_succ]
  refine wpAnyH_ready (rs := [32]) (by kernel_rfl) (by simp) ?_
  refine AllReadyH.cons (o := _) rfl (fun K hK => ?_) AllReadyH.nil
  simp only [List.getElem_toArray, List.getElem_cons_zero, List.getElem_cons_succ]
  go_simp
  with_reducible refine (k6_pseudo _ _).mono ?_
  rintro e v35 ⟨A3, c3, rfl, b35⟩
  dsimp only
  replace bel := bel.trans (b35.mono bel.size)
  replace hp := (b35.block _ zp).trans hp
  replace zp := Nat.lt_of_lt_of_le zp b35.size
  replace hq := (b35.block _ zq).trans hq
  replace zq := Nat.lt_of_lt_of_le zq b35.size
  replace hs := (b35.block _ zs).trans hs
  replace zs := Nat.lt_of_lt_of_le zs b35.size
  replace sx := sx.below b35
  replace ho1 := ho1.below b35
  replace hb1 := hb1.below b35
  refine hK.out _ _ ⟨hp, hq, hs, sx, ho1, hb1⟩ (fun hH35 => ?_)
  clear hK K
  refine wpAnyH_take (i := 33) (v := ?_) rfl (by kernel_rfl) (by kernel_rfl) (by kernel_rfl) (fun _ _ _ h => h) (Or.inl ⟨by rfl, ?_⟩) hH35 ?_
  rotate_left
  · ((intro W hW; clear hW; go_simp) <;> with_reducible rfl)
  simp only [Act.put, List.getElem_toArray, List.getElem_cons_zero, List.getElem_cons_succ, List.setIfInBounds_toArray, List.set_cons_zero, List.set_cons_succ]
  refine wpAnyH_take (i := 34) (v := ?_) rfl (by kernel_rfl) (by kernel_rfl) (by kernel_rfl) (fun _ _ _ h => h) (Or.inl ⟨by rfl, ?_⟩) hH35 ?_
  rotate_left
  · ((intro W hW; clear hW; go_simp) <;> with_reducible rfl)
  simp only [Act.put, List.getElem_toArray, List.getElem_cons_zero, List.getElem_cons_succ, List.setIfInBounds_toArray, List.set_cons_zero, List.set_cons_succ]
  refine wpAnyH_take (i := 35) (v := ?_) rfl (by kernel_rfl) (by kernel_rfl) (by kernel_rfl) (fun _ _ _ h => h) (Or.inl ⟨by rfl, ?_⟩) hH35 ?_
  rotate_left
  · ((intro W hW; clear hW; go_simp) <;> with_reducible rfl)
  simp only [Act.put, List.getElem_toArray, List.getElem_cons_zero, List.getElem_cons_succ, List.setIfInBounds_toArray, List.set_cons_zero, List.set_cons_succ]
  refine wpAnyH_take (i := 36) (v := ?_) rfl (by kernel_rfl) (by kernel_rfl) (by kernel_rfl) (fun _ _ _ h => h) (Or.inl ⟨by rfl, ?_⟩) hH35 ?_
  rotate_left
  · ((intro W hW; clear hW; go_simp) <;> with_reducible rfl)
  simp only [Act.put, List.getElem_toArray, List.getElem_cons_zero, List.getElem_cons_succ, List.setIfInBounds_toArray, List.set_cons_zero]
  refine wpAnyH_done (by kernel_rfl) ?_ _
  go_wp2
  go_ret
  exact ⟨rfl, bel⟩
end Go.Proofs.Ytabogdpjjclapaa
