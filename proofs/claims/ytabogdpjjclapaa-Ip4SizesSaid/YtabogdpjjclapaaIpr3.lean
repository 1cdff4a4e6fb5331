/- The reference's Hop of packets. -/
import Derived.Test.YtabogdpjjclapaaIpr2
namespace Go.Proofs.Ytabogdpjjclapaa
open Go.RowKit

theorem tk_bounds (s : Int) (o n : List UInt8) (h : o.length = n.length) (h2 : o.length % 2 = 0) : 0 ≤ tk s o n ∧ tk s o n ≤ 65535 := by
  unfold tk
  rw [if_neg (by omega)]
  have := nrm_le (ts (65535 - (s % 65536).toNat) o n)
  omega
/-- The bytes of a packet that has passed: its total length, its Ttl less by one, its sum turned. -/
def hopSum (l : List UInt8) : Int := tk (be ((l.drop 10).take 2) : Nat) ((l.drop 8).take 2) [byteOf ((l.getD 8 0).toNat - 1 : Int), l.getD 9 0]
def hopped (l : List UInt8) : List UInt8 :=
  (((l.take (be ((l.drop 2).take 2))).set 8 (byteOf ((l.getD 8 0).toNat - 1 : Int))).set 10 (byteOf (hopSum l / 256))).set 11 (byteOf (hopSum l))
def ipHop (l : List UInt8) : List UInt8 × Int :=
  if ipErr l ≠ 0 then ([], ipErr l) else if (l.getD 8 0).toNat < 2 then ([], 11) else (hopped l, 0)
/-- What Hop answers. -/
def HopPost (l : List UInt8) (w : World) (e : Ending) (w' : World) : Prop :=
  ∃ (A' : Option Addr) (c' : Nat) (r : List UInt8) (er : Int), e = .returned (.tuple #[.slice A' r.length c', .int .i64 er]) ∧ Sl w' A' r.length c' r ∧ Below w.heap.size w w' ∧ (r, er) = ipHop l
set_option maxRecDepth 100000 in
set_option maxHeartbeats 16000000 in
theorem rhop_err (A : Option Addr) (n c : Nat) (l : List UInt8) (w : World) (hl : Sl w A n c l) (hm : n ≤ 100000) (he : ipErr l ≠ 0) :
    Calls Try.prog 15 #[.slice A n c] w fun e w' => e = .returned (.tuple #[.slice none 0 0, .int .i64 (ipErr l)]) ∧ Below w.heap.size w w' := by
  have bel := Below.refl w.heap.size w
  go_enter Try.func15, Try.ntmps15
  go_wp2_with fail
  with_reducible refine (rget6_any A n c l _ hl hm).mono ?_
  rintro e w1 ⟨f0, f1, f2, f3, f4, f5, a0, a1, a2, a3, a4, a5, a6, a7, lo, lb, Ao, Ab, co, cb, er, rfl, _, _, b1, hg⟩
  replace bel := bel.trans (b1.mono bel.size)
  clear b1
  have hee : er = ipErr l := by
    have hh := congrArg (fun x => x.2.2) hg
    unfold ipGet at hh
    rw [if_pos he] at hh
    exact hh
  have ne1 : (er == 0) = false := by rw [hee]; simpa using he
  have ne2 : (er != 0) = true := by rw [hee]; simpa using he
  clear hg
  have np := heap_alloc_new w1 (.cells #[.int .i64 0, .int .i64 0, .int .i64 0, .int .i64 0, .int .i64 0, .int .i64 0, .int .u8 0, .int .u8 0, .int .u8 0, .int .u8 0, .int .u8 0, .int .u8 0, .int .u8 0, .int .u8 0, .slice none 0 0, .slice none 0 0] 35)
  have bqp := (Below.refl w1.heap.size w1).alloc (Nat.le_refl _) (.cells #[.int .i64 0, .int .i64 0, .int .i64 0, .int .i64 0, .int .i64 0, .int .i64 0, .int .u8 0, .int .u8 0, .int .u8 0, .int .u8 0, .int .u8 0, .int .u8 0, .int .u8 0, .int .u8 0, .slice none 0 0, .slice none 0 0] 35)
  go_wp2_with (first | ((with_reducible show wpList _ _ _ (⟨none, Op.store _ _ _, _, _, _, _⟩ :: _) _ _); refine wpList_store_blk rfl 35 _ _ rfl (w1.heap.size) rfl #[.int .i64 f0, .int .i64 f1, .int .i64 f2, .int .i64 f3, .int .i64 f4, .int .i64 f5, .int .u8 (a0.toNat : Int), .int .u8 (a1.toNat : Int), .int .u8 (a2.toNat : Int), .int .u8 (a3.toNat : Int), .int .u8 (a4.toNat : Int), .int .u8 (a5.toNat : Int), .int .u8 (a6.toNat : Int), .int .u8 (a7.toNat : Int), .slice Ao lo.length co, .slice Ab lb.length cb] rfl _ 35 np (by rfl) (by kernel_rfl) (by kernel_rfl) ?_; intro x2 hp gp; have bz := below_grown bqp gp (Nat.le_refl _) bqp.size; replace bel := bel.trans (bz.mono bel.size); have zp := (Array.getElem?_eq_some_iff.1 hp).1; clear np bqp bz gp))
  exact bodyPost_ret (v := .tuple #[.slice none 0 0, .int .i64 (ipErr l)]) (by simp [results, Try.results15, go_sem]) rfl ⟨rfl, bel⟩
set_option maxRecDepth 100000 in
set_option maxHeartbeats 16000000 in
theorem rhop_deny (A : Option Addr) (n c : Nat) (h0 h1 h2 h3 h4 h5 h6 h7 h8 h9 h10 h11 h12 h13 h14 h15 h16 h17 h18 h19 : UInt8) (r : List UInt8) (w : World) (hl : Sl w A n c (h0 :: h1 :: h2 :: h3 :: h4 :: h5 :: h6 :: h7 :: h8 :: h9 :: h10 :: h11 :: h12 :: h13 :: h14 :: h15 :: h16 :: h17 :: h18 :: h19 :: r)) (hn : 20 ≤ n) (g4 : h0.toNat / 16 = 4) (hm : n ≤ 100000) (hv : 20 ≤ hlen h0) (hv2 : hlen h0 ≤ n) (hs : ck ((h0 :: h1 :: h2 :: h3 :: h4 :: h5 :: h6 :: h7 :: h8 :: h9 :: h10 :: h11 :: h12 :: h13 :: h14 :: h15 :: h16 :: h17 :: h18 :: h19 :: r).take (hlen h0)) = 0) (hb : hlen h0 ≤ be [h2, h3]) (hb2 : be [h2, h3] ≤ n) (h8b : h8.toNat < 2) :
    Calls Try.prog 15 #[.slice A n c] w fun e w' => e = .returned (.tuple #[.slice none 0 0, .int .i64 11]) ∧ Below w.heap.size w w' := by
  have bel := Below.refl w.heap.size w
  have t8 : (h8.toNat : Int) < 2 := by omega
  go_enter Try.func15, Try.ntmps15
  go_wp2_with fail
  with_reducible refine (rget6_ok A n c h0 h1 h2 h3 h4 h5 h6 h7 h8 h9 h10 h11 h12 h13 h14 h15 h16 h17 h18 h19 r _ hl hn g4 hm hv hv2 hs hb hb2).mono ?_
  rintro e w1 ⟨Ao, co, Ab, cb, rfl, _, _, b1⟩
  replace bel := bel.trans (b1.mono bel.size)
  clear b1
  have np := heap_alloc_new w1 (.cells #[.int .i64 0, .int .i64 0, .int .i64 0, .int .i64 0, .int .i64 0, .int .i64 0, .int .u8 0, .int .u8 0, .int .u8 0, .int .u8 0, .int .u8 0, .int .u8 0, .int .u8 0, .int .u8 0, .slice none 0 0, .slice none 0 0] 35)
  have bqp := (Below.refl w1.heap.size w1).alloc (Nat.le_refl _) (.cells #[.int .i64 0, .int .i64 0, .int .i64 0, .int .i64 0, .int .i64 0, .int .i64 0, .int .u8 0, .int .u8 0, .int .u8 0, .int .u8 0, .int .u8 0, .int .u8 0, .int .u8 0, .int .u8 0, .slice none 0 0, .slice none 0 0] 35)
  go_wp2_with (first | ((with_reducible show wpList _ _ _ (⟨none, Op.store _ _ _, _, _, _, _⟩ :: _) _ _); refine wpList_store_blk rfl 35 _ _ rfl (w1.heap.size) rfl #[.int .i64 (h1.toNat : Int), .int .i64 (be [h4, h5] : Nat), .int .i64 ((be [h6, h7] : Nat) / 8192), .int .i64 ((be [h6, h7] : Nat) % 8192), .int .i64 (h8.toNat : Int), .int .i64 (h9.toNat : Int), .int .u8 (h12.toNat : Int), .int .u8 (h13.toNat : Int), .int .u8 (h14.toNat : Int), .int .u8 (h15.toNat : Int), .int .u8 (h16.toNat : Int), .int .u8 (h17.toNat : Int), .int .u8 (h18.toNat : Int), .int .u8 (h19.toNat : Int), .slice Ao (hlen h0 - 20) co, .slice Ab (be [h2, h3] - hlen h0) cb] rfl _ 35 np (by rfl) (by kernel_rfl) (by kernel_rfl) ?_; intro x2 hp gp; have bz := below_grown bqp gp (Nat.le_refl _) bqp.size; replace bel := bel.trans (bz.mono bel.size); have zp := (Array.getElem?_eq_some_iff.1 hp).1; clear np bqp bz gp; have R16 := cell_lit hp 4 _ rfl))
  exact bodyPost_ret (v := .tuple #[.slice none 0 0, .int .i64 11]) (by simp [results, Try.results15, go_sem]) rfl ⟨rfl, bel⟩
set_option maxRecDepth 100000 in
set_option maxHeartbeats 16000000 in
theorem rhop_ok (A : Option Addr) (n c : Nat) (h0 h1 h2 h3 h4 h5 h6 h7 h8 h9 h10 h11 h12 h13 h14 h15 h16 h17 h18 h19 : UInt8) (r : List UInt8) (w : World) (hl : Sl w A n c (h0 :: h1 :: h2 :: h3 :: h4 :: h5 :: h6 :: h7 :: h8 :: h9 :: h10 :: h11 :: h12 :: h13 :: h14 :: h15 :: h16 :: h17 :: h18 :: h19 :: r)) (hn : 20 ≤ n) (g4 : h0.toNat / 16 = 4) (hm : n ≤ 100000) (hv : 20 ≤ hlen h0) (hv2 : hlen h0 ≤ n) (hs : ck ((h0 :: h1 :: h2 :: h3 :: h4 :: h5 :: h6 :: h7 :: h8 :: h9 :: h10 :: h11 :: h12 :: h13 :: h14 :: h15 :: h16 :: h17 :: h18 :: h19 :: r).take (hlen h0)) = 0) (hb : hlen h0 ≤ be [h2, h3]) (hb2 : be [h2, h3] ≤ n) (h8b : 2 ≤ h8.toNat) :
    Calls Try.prog 15 #[.slice A n c] w fun e w' => ∃ A' c', e = .returned (.tuple #[.slice A' (be [h2, h3]) c', .int .i64 0]) ∧ Sl w' A' (be [h2, h3]) c' (hopped (h0 :: h1 :: h2 :: h3 :: h4 :: h5 :: h6 :: h7 :: h8 :: h9 :: h10 :: h11 :: h12 :: h13 :: h14 :: h15 :: h16 :: h17 :: h18 :: h19 :: r)) ∧ Below w.heap.size w w' := by
  have bel := Below.refl w.heap.size w
  have t8 : decide ((h8.toNat : Int) < 2) = false := decide_eq_false (by omega)
  obtain ⟨nn, hnn⟩ : ∃ nn, Hid (be [h2, h3] = nn) := ⟨_, Lib.hid rfl⟩
  obtain ⟨AF, cF, sF, hF⟩ := slice_front hl (k := nn) (by have := hnn.out; omega)
  obtain ⟨y, hy⟩ : ∃ y : UInt8, Hid (byteOf (h8.toNat - 1 : Int) = y) := ⟨_, Lib.hid rfl⟩
  have hyn : y.toNat = h8.toNat - 1 := by have e := byteOf_val (h8.toNat - 1 : Int); rw [hy.out] at e; have := h8.toNat_lt; omega
  have hyi : (h8.toNat : Int) - 1 = (y.toNat : Int) := by omega
  have hyw : IntKind.u8.wrap ((h8.toNat : Int) - 1) = (y.toNat : Int) := by rw [hyi]; have := y.toNat_lt; simp [IntKind.wrap, IntKind.signed, IntKind.bits]; omega
  have hym : (y.toNat : Int) % 256 = y.toNat := by have := y.toNat_lt; omega
  have HB := Lib.hid (show 20 ≤ nn by have := hnn.out; omega)
  have HN2 := Lib.hid (show nn ≤ n by have := hnn.out; omega)
  have G := Lib.hid fun W (h : Below w.heap.size w W) => rget6_ok A n c h0 h1 h2 h3 h4 h5 h6 h7 h8 h9 h10 h11 h12 h13 h14 h15 h16 h17 h18 h19 r W (hl.below h) hn g4 hm hv hv2 hs hb hb2
  have HM := Lib.hid hm
  have HN := Lib.hid hn
  clear hn g4 hm hv hv2 hs hb hb2 hyn h8b
  go_enter Try.func15, Try.ntmps15
  go_wp2_with fail
  with_reducible refine (G.out _ bel).mono ?_
  rintro e w1 ⟨Ao, co, Ab, cb, rfl, _, _, b1⟩
  replace bel := bel.trans (b1.mono bel.size)
  clear b1
  clear G
  have np := heap_alloc_new w1 (.cells #[.int .i64 0, .int .i64 0, .int .i64 0, .int .i64 0, .int .i64 0, .int .i64 0, .int .u8 0, .int .u8 0, .int .u8 0, .int .u8 0, .int .u8 0, .int .u8 0, .int .u8 0, .int .u8 0, .slice none 0 0, .slice none 0 0] 35)
  have bqp := (Below.refl w1.heap.size w1).alloc (Nat.le_refl _) (.cells #[.int .i64 0, .int .i64 0, .int .i64 0, .int .i64 0, .int .i64 0, .int .i64 0, .int .u8 0, .int .u8 0, .int .u8 0, .int .u8 0, .int .u8 0, .int .u8 0, .int .u8 0, .int .u8 0, .slice none 0 0, .slice none 0 0] 35)
  go_wp2_with (first | ((with_reducible show wpList _ _ _ (⟨none, Op.store _ _ _, _, _, _, _⟩ :: _) _ _); refine wpList_store_blk rfl 35 _ _ rfl (w1.heap.size) rfl #[.int .i64 (h1.toNat : Int), .int .i64 (be [h4, h5] : Nat), .int .i64 ((be [h6, h7] : Nat) / 8192), .int .i64 ((be [h6, h7] : Nat) % 8192), .int .i64 (h8.toNat : Int), .int .i64 (h9.toNat : Int), .int .u8 (h12.toNat : Int), .int .u8 (h13.toNat : Int), .int .u8 (h14.toNat : Int), .int .u8 (h15.toNat : Int), .int .u8 (h16.toNat : Int), .int .u8 (h17.toNat : Int), .int .u8 (h18.toNat : Int), .int .u8 (h19.toNat : Int), .slice Ao (hlen h0 - 20) co, .slice Ab (be [h2, h3] - hlen h0) cb] rfl _ 35 np (by rfl) (by kernel_rfl) (by kernel_rfl) ?_; intro x2 hp gp; have bz := below_grown bqp gp (Nat.le_refl _) bqp.size; replace bel := bel.trans (bz.mono bel.size); have zp := (Array.getElem?_eq_some_iff.1 hp).1; clear np bqp bz gp; have R16 := cell_lit hp 4 _ rfl))
  with_reducible refine (at16_2 A n c _ _ (hl.below bel) (by have := HN.out; omega)).mono ?_
  clear R16
  rintro e w3 ⟨rfl, b3⟩
  replace hp := (b3.block _ zp).trans hp
  replace zp := Nat.lt_of_lt_of_le zp b3.size
  replace bel := bel.trans (b3.mono bel.size)
  clear b3
  rw [show be ((List.drop 2 (h0 :: h1 :: h2 :: h3 :: h4 :: h5 :: h6 :: h7 :: h8 :: h9 :: h10 :: h11 :: h12 :: h13 :: h14 :: h15 :: h16 :: h17 :: h18 :: h19 :: r)).take 2) = nn from hnn.out]
  have o3 := bel.size
  go_wp2_with fail
  with_reducible refine (rcopied_o AF nn cF _ _ (hF.below bel) (by have := HM.out; have := HN2.out; omega)).mono ?_
  rintro e w4 ⟨v, rfl, hown, b4⟩
  replace hp := (b4.block _ zp).trans hp
  replace zp := Nat.lt_of_lt_of_le zp b4.size
  replace bel := bel.trans (b4.mono bel.size)
  clear b4
  clear sF hF
  obtain ⟨g, cc, rfl, ow, hgb, hnl⟩ := Ow.of_own hown (by have := HB.out; omega)
  clear hown
  have hgw : w.heap.size ≤ g := Nat.le_trans o3 hgb
  have hcc : (nn : Int) ≤ cc := by have := ow.1; omega
  have m8 : (8 : Int) < nn := by have := HB.out; omega
  have m10 : (10 : Int) < nn := by have := HB.out; omega
  have m11 : (11 : Int) < nn := by have := HB.out; omega
  have hLx : (h0 :: h1 :: h2 :: h3 :: h4 :: h5 :: h6 :: h7 :: h8 :: h9 :: h10 :: h11 :: h12 :: h13 :: h14 :: h15 :: h16 :: h17 :: h18 :: h19 :: r).take nn = h0 :: h1 :: h2 :: h3 :: h4 :: h5 :: h6 :: h7 :: h8 :: h9 :: h10 :: h11 :: h12 :: h13 :: h14 :: h15 :: h16 :: h17 :: h18 :: h19 :: r.take (nn - 20) := by
    obtain ⟨k, hk⟩ : ∃ k, nn = k + 20 := ⟨nn - 20, by have := HB.out; omega⟩
    rw [hk, Nat.add_sub_cancel]
    rfl
  obtain ⟨L0, hL0⟩ : ∃ L0, Hid ((h0 :: h1 :: h2 :: h3 :: h4 :: h5 :: h6 :: h7 :: h8 :: h9 :: h10 :: h11 :: h12 :: h13 :: h14 :: h15 :: h16 :: h17 :: h18 :: h19 :: r).take nn = L0) := ⟨_, Lib.hid rfl⟩
  rw [hL0.out] at hLx
  have hL8 : L0[8]? = some h8 := by rw [hLx]; rfl
  have e89 : ((L0.set 8 y).drop 8).take 2 = [y, h9] := by rw [hLx]; rfl
  rw [hL0.out] at ow hnl
  obtain ⟨xa, hxa, ca, fa⟩ := ow.at_ 8 (by have := HB.out; omega)
  obtain rfl : h8 = xa := Option.some.inj (hL8.symm.trans hxa.out)
  have ow2 := ow.set 8 y
  have bel2 := bel.setCell (p := ⟨g, 8, none⟩) hgw (u8v y)
  unfold u8v at ow2 bel2
  have hl2 : (L0.set 8 y).length = nn := by rw [List.length_set]; exact hnl.symm
  clear hxa
  have HLX := Lib.hid hLx
  have HHL := Lib.hid hl2
  have HW := Lib.hid hgw
  have E89 := Lib.hid e89
  clear hL8 hLx hl2 e89 hnl
  go_wp2_with fail
  generalize w4.setCell ⟨g, 8, none⟩ (.int .u8 (y.toNat : Int)) = v0 at ow2 bel2 ⊢
  clear ca fa ow bel
  have bel := bel2
  have sc := ow2.sl
  rw [HHL.out] at sc
  have sb := hl.below bel2
  obtain ⟨Ab8, cb8, s8b, hb8⟩ := slice_mid sb (p := 8) (k := 2) (by have := HN.out; omega)
  obtain ⟨Ac8, cc8, s8c, hc8⟩ := slice_mid sc (p := 8) (k := 2) (by have := HB.out; omega)
  rw [E89.out] at hc8
  replace s8b : ∀ W, (Instr.slice 25 (.slice A n c) (some (.int .i64 8)) (some (.int .i64 10)) none).run Try.prog W = .ok (.slice Ab8 2 cb8) W := s8b
  replace s8c : ∀ W, (Instr.slice 25 (.slice (some ⟨g, 0, none⟩) nn cc) (some (.int .i64 8)) (some (.int .i64 10)) none).run Try.prog W = .ok (.slice Ac8 2 cc8) W := s8c
  replace hb8 : Sl v0 Ab8 2 cb8 [h8, h9] := hb8
  clear sc bel2
  obtain ⟨AC, hAC⟩ : ∃ AC : Option Addr, Hid ((some ⟨g, 0, none⟩ : Option Addr) = AC) := ⟨_, Lib.hid rfl⟩
  rw [hAC.out] at s8c ⊢
  have KQ2 := Lib.hid hcc
  clear m8 m10 m11 hcc
  replace bel := bel.drew
  refine wp_region_held_drew (S := fun _ => True) (by kernel_rfl) trivial (fun hH => ?_)
  refine wpAnyH_take (i := 0) (v := ?_) rfl (by kernel_rfl) (by kernel_rfl) (by kernel_rfl) (fun _ _ _ h => h) (Or.inl ⟨by rfl, ?_⟩) hH ?_
  rotate_left
  · ((intro W hW; clear hW; go_simp) <;> with_reducible rfl)
  simp only [Act.put, List.getElem_toArray, List.getElem_cons_zero, List.setIfInBounds_toArray, List.set_cons_zero, List.set_cons_succ]
  refine wpAnyH_take (i := 2) (v := ?_) rfl (by kernel_rfl) (by kernel_rfl) (by kernel_rfl) (fun _ _ _ h => h) (Or.inl ⟨by rfl, ?_⟩) hH ?_
  rotate_left
  · ((intro W hW; clear hW; go_simp) <;> with_reducible rfl)
  simp only [Act.put, List.getElem_toArray, List.getElem_cons_zero, List.getElem_cons_succ, List.setIfInBounds_toArray, List.set_cons_zero, List.set_cons_succ]
  refine wpAnyH_take (i := 3) (v := ?_) rfl (by kernel_rfl) (by kernel_rfl) (by kernel_rfl) (fun _ _ _ h => h) (Or.inl ⟨by rfl, ?_⟩) hH ?_
  rotate_left
  · ((intro W hW; clear hW; go_simp) <;> with_reducible rfl)
  simp only [Act.put, List.getElem_toArray, List.getElem_cons_zero, List.getElem_cons_succ, List.setIfInBounds_toArray, List.set_cons_zero, List.set_cons_succ]
  refine wpAnyH_take (i := 4) (v := ?_) rfl (by kernel_rfl) (by kernel_rfl) (by kernel_rfl) (fun _ _ _ h => h) (Or.inl ⟨by rfl, ?_⟩) hH ?_
  rotate_left
  · ((intro W hW; clear hW; go_simp) <;> with_reducible rfl)
  simp only [Act.put, List.getElem_toArray, List.getElem_cons_zero, List.getElem_cons_succ, List.setIfInBounds_toArray, List.set_cons_zero, List.set_cons_succ]
  refine wpAnyH_take (i := 5) (v := ?_) rfl (by kernel_rfl) (by kernel_rfl) (by kernel_rfl) (fun _ _ _ h => h) (Or.inl ⟨by rfl, ?_⟩) hH ?_
  rotate_left
  · ((intro W hW; clear hW; go_simp) <;> with_reducible rfl)
  simp only [Act.put, List.getElem_toArray, List.getElem_cons_zero, List.getElem_cons_succ, List.setIfInBounds_toArray, List.set_cons_zero, List.set_cons_succ]
  refine wpAnyH_ready (rs := [1]) (by kernel_rfl) (by simp) ?_
  refine AllReadyH.cons (o := _) rfl (fun K hK => ?_) AllReadyH.nil
  simp only [List.getElem_toArray, List.getElem_cons_zero, List.getElem_cons_succ]
  go_simp
  with_reducible refine (at16_10 A n c _ _ (hl.below bel) (by have := HN.out; omega)).mono ?_
  rintro e v21 ⟨rfl, b21⟩
  dsimp only
  replace bel := bel.trans (b21.mono bel.size)
  rw [show be ((List.drop 10 (h0 :: h1 :: h2 :: h3 :: h4 :: h5 :: h6 :: h7 :: h8 :: h9 :: h10 :: h11 :: h12 :: h13 :: h14 :: h15 :: h16 :: h17 :: h18 :: h19 :: r)).take 2) = be [h10, h11] from rfl]
  replace ow2 := ow2.below ((Below.refl v0.heap.size v0).drew.trans b21)
  replace hb8 := hb8.below ((Below.refl v0.heap.size v0).drew.trans b21)
  replace hc8 := hc8.below ((Below.refl v0.heap.size v0).drew.trans b21)
  refine hK.out _ _ trivial (fun hH21 => ?_)
  clear hK K
  refine wpAnyH_ready (rs := [6]) (by kernel_rfl) (by simp) ?_
  refine AllReadyH.cons (o := _) rfl (fun K hK => ?_) AllReadyH.nil
  simp only [List.getElem_toArray, List.getElem_cons_zero, List.getElem_cons_succ]
  go_simp
  with_reducible refine (rturn_any (be [h10, h11] : Nat) Ab8 Ac8 2 cb8 2 cc8 [h8, h9] [y, h9] _ (by omega) (by omega) hb8 hc8).mono ?_
  rintro e v22 ⟨rfl, b22⟩
  dsimp only
  replace bel := bel.trans (b22.mono bel.size)
  replace ow2 := ow2.below b22
  refine hK.out _ _ trivial (fun hH22 => ?_)
  clear hK K
  refine wpAnyH_take (i := 7) (v := ?_) rfl (by kernel_rfl) (by kernel_rfl) (by kernel_rfl) (fun _ _ _ h => h) (Or.inl ⟨by rfl, ?_⟩) hH22 ?_
  rotate_left
  · ((intro W hW; clear hW; go_simp) <;> with_reducible rfl)
  simp only [Act.put, List.getElem_toArray, List.getElem_cons_zero, List.getElem_cons_succ, List.setIfInBounds_toArray, List.set_cons_zero, List.set_cons_succ]
  refine wpAnyH_done (by kernel_rfl) ?_ _
  obtain ⟨s, hs, hs1⟩ : ∃ s : Nat, Hid (tk (be [h10, h11] : Nat) [h8, h9] [y, h9] = s) ∧ (s : Int) ≤ 65535 :=
    ⟨(tk (be [h10, h11] : Nat) [h8, h9] [y, h9]).toNat, Lib.hid (by have := tk_bounds (be [h10, h11] : Nat) [h8, h9] [y, h9] rfl (by simp); omega), by have := tk_bounds (be [h10, h11] : Nat) [h8, h9] [y, h9] rfl (by simp); omega⟩
  have s0 : (0 : Int) ≤ s := by omega
  rw [hs.out, ← hAC.out]
  have hcc := KQ2.out
  have m10 : (10 : Int) < nn := by have := HB.out; omega
  have m11 : (11 : Int) < nn := by have := HB.out; omega
  clear s8b s8c
  obtain ⟨ya, hya, ca, fa⟩ := ow2.at_ 10 (by rw [HHL.out]; have := HB.out; omega)
  obtain ⟨yb, hyb, cb', fb⟩ := ow2.at_ 11 (by rw [HHL.out]; have := HB.out; omega)
  have va := byteOf_val ((s : Int) / 256)
  have vb := byteOf_val (s : Int)
  have ea : u8v (byteOf ((s : Int) / 256)) = .int .u8 ((s : Int) / 256) := by unfold u8v; rw [va]; congr 1; omega
  have eb : u8v (byteOf (s : Int)) = .int .u8 ((s : Int) % 256) := by unfold u8v; rw [vb]
  have ow6 : Ow 5 ((v22.setCell ⟨g, 10, none⟩ (.int .u8 ((s : Int) / 256))).setCell ⟨g, 11, none⟩ (.int .u8 ((s : Int) % 256))) g cc (((L0.set 8 y).set 10 (byteOf ((s : Int) / 256))).set 11 (byteOf (s : Int))) := by
    rw [← ea, ← eb]; exact (ow2.set 10 _).set 11 _
  have bel6 : Below w.heap.size w ((v22.setCell ⟨g, 10, none⟩ (.int .u8 ((s : Int) / 256))).setCell ⟨g, 11, none⟩ (.int .u8 ((s : Int) % 256))) := (bel.setCell HW.out _).setCell HW.out _
  clear hya hyb va vb ea eb bel ow2 hb8 hc8
  go_wp2
  have hs6 := ow6.sl
  rw [List.length_set, List.length_set, HHL.out] at hs6
  have eh : hopped (h0 :: h1 :: h2 :: h3 :: h4 :: h5 :: h6 :: h7 :: h8 :: h9 :: h10 :: h11 :: h12 :: h13 :: h14 :: h15 :: h16 :: h17 :: h18 :: h19 :: r) = ((L0.set 8 y).set 10 (byteOf ((s : Int) / 256))).set 11 (byteOf (s : Int)) := by
    have e1 : hopSum (h0 :: h1 :: h2 :: h3 :: h4 :: h5 :: h6 :: h7 :: h8 :: h9 :: h10 :: h11 :: h12 :: h13 :: h14 :: h15 :: h16 :: h17 :: h18 :: h19 :: r) = s := by
      show tk (be [h10, h11] : Nat) [h8, h9] [byteOf (h8.toNat - 1 : Int), h9] = s
      rw [hy.out]; exact hs.out
    unfold hopped
    rw [e1, show be ((List.drop 2 (h0 :: h1 :: h2 :: h3 :: h4 :: h5 :: h6 :: h7 :: h8 :: h9 :: h10 :: h11 :: h12 :: h13 :: h14 :: h15 :: h16 :: h17 :: h18 :: h19 :: r)).take 2) = nn from hnn.out, hL0.out]
    show ((L0.set 8 (byteOf (h8.toNat - 1 : Int))).set 10 _).set 11 _ = _
    rw [hy.out]
  exact bodyPost_ret (v := .tuple #[.slice (some ⟨g, 0, none⟩) nn cc, .int .i64 0]) (by simp [results, Try.results15, go_sem]) rfl ⟨_, _, by rw [hnn.out], by rw [eh, hnn.out]; exact hs6, bel6⟩

theorem ok_parts {h0 h1 h2 h3 : UInt8} {r : List UInt8} (h : ipErr (h0 :: h1 :: h2 :: h3 :: r) = 0) :
    h0.toNat / 16 = 4 ∧ 20 ≤ hlen h0 ∧ hlen h0 ≤ (h0 :: h1 :: h2 :: h3 :: r).length ∧ ck ((h0 :: h1 :: h2 :: h3 :: r).take (hlen h0)) = 0 ∧ hlen h0 ≤ be [h2, h3] ∧ be [h2, h3] ≤ (h0 :: h1 :: h2 :: h3 :: r).length := by
  unfold ipErr at h
  split at h; · cases h
  split at h; · cases h
  split at h; · cases h
  split at h; · cases h
  split at h; · cases h
  split at h; · cases h
  rename_i g1 g2 g3 g4 g5 g6
  have e0 : (h0 :: h1 :: h2 :: h3 :: r).getD 0 0 = h0 := rfl
  have e1 : ((h0 :: h1 :: h2 :: h3 :: r).drop 2).take 2 = [h2, h3] := rfl
  rw [e0] at g2 g3 g4 g5
  rw [e1] at g5 g6
  refine ⟨?_, ?_, by omega, ?_, by omega, by omega⟩
  · exact Classical.byContradiction fun h => g2 (.inl h)
  · exact Nat.le_of_not_lt fun h => g2 (.inr h)
  · exact Classical.byContradiction fun h => g4 h
theorem rhop_any (A : Option Addr) (n c : Nat) (l : List UInt8) (w : World) (hl : Sl w A n c l) (hm : n ≤ 100000) : Calls Try.prog 15 #[.slice A n c] w (HopPost l w) := by
  by_cases he : ipErr l = 0
  · have h20 : 20 ≤ l.length := Nat.le_of_not_lt fun h => by unfold ipErr at he; rw [if_pos h] at he; cases he
    obtain ⟨h0, h1, h2, h3, h4, h5, h6, h7, h8, h9, h10, h11, h12, h13, h14, h15, h16, h17, h18, h19, r, rfl⟩ := list20 l h20
    obtain ⟨g1, g2, g3, g4, g5, g6⟩ := ok_parts he
    have hn := hl.1
    by_cases h8b : h8.toNat < 2
    · refine (rhop_deny A n c h0 h1 h2 h3 h4 h5 h6 h7 h8 h9 h10 h11 h12 h13 h14 h15 h16 h17 h18 h19 r w hl (by omega) g1 hm g2 (by omega) g4 g5 (by omega) h8b).mono ?_
      rintro e w' ⟨rfl, bel⟩
      exact ⟨none, 0, [], 11, rfl, Sl.nil _, bel, by unfold ipHop; rw [if_neg (by rw [he]; simp), if_pos (by exact h8b)]⟩
    · refine (rhop_ok A n c h0 h1 h2 h3 h4 h5 h6 h7 h8 h9 h10 h11 h12 h13 h14 h15 h16 h17 h18 h19 r w hl (by omega) g1 hm g2 (by omega) g4 g5 (by omega) (by omega)).mono ?_
      rintro e w' ⟨A', c', rfl, hs, bel⟩
      have e1 := hs.1
      exact ⟨A', c', hopped (h0 :: h1 :: h2 :: h3 :: h4 :: h5 :: h6 :: h7 :: h8 :: h9 :: h10 :: h11 :: h12 :: h13 :: h14 :: h15 :: h16 :: h17 :: h18 :: h19 :: r), 0, by rw [e1], by rw [e1]; exact hs, bel, by unfold ipHop; rw [if_neg (by rw [he]; simp), if_neg (by exact h8b)]⟩
  · refine (rhop_err A n c l w hl hm he).mono ?_
    rintro e w' ⟨rfl, bel⟩
    exact ⟨none, 0, [], ipErr l, rfl, Sl.nil _, bel, by unfold ipHop; rw [if_pos he]⟩
set_option maxRecDepth 100000 in
set_option maxHeartbeats 16000000 in
theorem own6_any (f0 f1 f2 f3 f4 f5 : Int) (a0 a1 a2 a3 a4 a5 a6 a7 : UInt8) (So Sb : Option Addr) (no co nb cb : Nat) (w : World) : Calls Try.prog 17 #[.agg #[.int .i64 f0, .int .i64 f1, .int .i64 f2, .int .i64 f3, .int .i64 f4, .int .i64 f5, .int .u8 (a0.toNat : Int), .int .u8 (a1.toNat : Int), .int .u8 (a2.toNat : Int), .int .u8 (a3.toNat : Int), .int .u8 (a4.toNat : Int), .int .u8 (a5.toNat : Int), .int .u8 (a6.toNat : Int), .int .u8 (a7.toNat : Int), .slice So no co, .slice Sb nb cb]] w fun e w' => e = .returned (.agg #[.int .i64 f0, .int .i64 f1, .int .i64 f2, .int .i64 f3, .int .i64 f4, .int .i64 f5, .int .u8 (a0.toNat : Int), .int .u8 (a1.toNat : Int), .int .u8 (a2.toNat : Int), .int .u8 (a3.toNat : Int), .int .u8 (a4.toNat : Int), .int .u8 (a5.toNat : Int), .int .u8 (a6.toNat : Int), .int .u8 (a7.toNat : Int), .slice So no co, .slice Sb nb cb]) ∧ Below w.heap.size w w' := by
  have bel := Below.refl w.heap.size w
  have hp : (w.alloc (.cells #[.int .i64 f0, .int .i64 f1, .int .i64 f2, .int .i64 f3, .int .i64 f4, .int .i64 f5, .int .u8 (a0.toNat : Int), .int .u8 (a1.toNat : Int), .int .u8 (a2.toNat : Int), .int .u8 (a3.toNat : Int), .int .u8 (a4.toNat : Int), .int .u8 (a5.toNat : Int), .int .u8 (a6.toNat : Int), .int .u8 (a7.toNat : Int), .slice So no co, .slice Sb nb cb] 27)).heap[w.heap.size]? = some (.cells #[.int .i64 f0, .int .i64 f1, .int .i64 f2, .int .i64 f3, .int .i64 f4, .int .i64 f5, .int .u8 (a0.toNat : Int), .int .u8 (a1.toNat : Int), .int .u8 (a2.toNat : Int), .int .u8 (a3.toNat : Int), .int .u8 (a4.toNat : Int), .int .u8 (a5.toNat : Int), .int .u8 (a6.toNat : Int), .int .u8 (a7.toNat : Int), .slice So no co, .slice Sb nb cb] 27 (0, 0)) := by have := heap_alloc_new w (.cells #[.int .i64 f0, .int .i64 f1, .int .i64 f2, .int .i64 f3, .int .i64 f4, .int .i64 f5, .int .u8 (a0.toNat : Int), .int .u8 (a1.toNat : Int), .int .u8 (a2.toNat : Int), .int .u8 (a3.toNat : Int), .int .u8 (a4.toNat : Int), .int .u8 (a5.toNat : Int), .int .u8 (a6.toNat : Int), .int .u8 (a7.toNat : Int), .slice So no co, .slice Sb nb cb] 27); simpa using this
  have zp : w.heap.size < (w.alloc (.cells #[.int .i64 f0, .int .i64 f1, .int .i64 f2, .int .i64 f3, .int .i64 f4, .int .i64 f5, .int .u8 (a0.toNat : Int), .int .u8 (a1.toNat : Int), .int .u8 (a2.toNat : Int), .int .u8 (a3.toNat : Int), .int .u8 (a4.toNat : Int), .int .u8 (a5.toNat : Int), .int .u8 (a6.toNat : Int), .int .u8 (a7.toNat : Int), .slice So no co, .slice Sb nb cb] 27)).heap.size := by simp
  replace bel := bel.alloc bel.size (.cells #[.int .i64 f0, .int .i64 f1, .int .i64 f2, .int .i64 f3, .int .i64 f4, .int .i64 f5, .int .u8 (a0.toNat : Int), .int .u8 (a1.toNat : Int), .int .u8 (a2.toNat : Int), .int .u8 (a3.toNat : Int), .int .u8 (a4.toNat : Int), .int .u8 (a5.toNat : Int), .int .u8 (a6.toNat : Int), .int .u8 (a7.toNat : Int), .slice So no co, .slice Sb nb cb] 27)
  replace hp := (Go.heap_alloc_old (w.alloc (.cells #[.int .i64 f0, .int .i64 f1, .int .i64 f2, .int .i64 f3, .int .i64 f4, .int .i64 f5, .int .u8 (a0.toNat : Int), .int .u8 (a1.toNat : Int), .int .u8 (a2.toNat : Int), .int .u8 (a3.toNat : Int), .int .u8 (a4.toNat : Int), .int .u8 (a5.toNat : Int), .int .u8 (a6.toNat : Int), .int .u8 (a7.toNat : Int), .slice So no co, .slice Sb nb cb] 27)) (.cells #[.int .i64 0, .int .i64 0, .int .i64 0, .int .i64 0, .int .i64 0, .int .i64 0, .int .u8 0, .int .u8 0, .int .u8 0, .int .u8 0, .int .u8 0, .int .u8 0, .int .u8 0, .int .u8 0, .slice none 0 0, .slice none 0 0] 35) (r := w.heap.size) zp).trans hp
  have hr : ((w.alloc (.cells #[.int .i64 f0, .int .i64 f1, .int .i64 f2, .int .i64 f3, .int .i64 f4, .int .i64 f5, .int .u8 (a0.toNat : Int), .int .u8 (a1.toNat : Int), .int .u8 (a2.toNat : Int), .int .u8 (a3.toNat : Int), .int .u8 (a4.toNat : Int), .int .u8 (a5.toNat : Int), .int .u8 (a6.toNat : Int), .int .u8 (a7.toNat : Int), .slice So no co, .slice Sb nb cb] 27)).alloc (.cells #[.int .i64 0, .int .i64 0, .int .i64 0, .int .i64 0, .int .i64 0, .int .i64 0, .int .u8 0, .int .u8 0, .int .u8 0, .int .u8 0, .int .u8 0, .int .u8 0, .int .u8 0, .int .u8 0, .slice none 0 0, .slice none 0 0] 35)).heap[w.heap.size + 1]? = some (.cells #[.int .i64 0, .int .i64 0, .int .i64 0, .int .i64 0, .int .i64 0, .int .i64 0, .int .u8 0, .int .u8 0, .int .u8 0, .int .u8 0, .int .u8 0, .int .u8 0, .int .u8 0, .int .u8 0, .slice none 0 0, .slice none 0 0] 35 (0, 0)) := by have := heap_alloc_new (w.alloc (.cells #[.int .i64 f0, .int .i64 f1, .int .i64 f2, .int .i64 f3, .int .i64 f4, .int .i64 f5, .int .u8 (a0.toNat : Int), .int .u8 (a1.toNat : Int), .int .u8 (a2.toNat : Int), .int .u8 (a3.toNat : Int), .int .u8 (a4.toNat : Int), .int .u8 (a5.toNat : Int), .int .u8 (a6.toNat : Int), .int .u8 (a7.toNat : Int), .slice So no co, .slice Sb nb cb] 27)) (.cells #[.int .i64 0, .int .i64 0, .int .i64 0, .int .i64 0, .int .i64 0, .int .i64 0, .int .u8 0, .int .u8 0, .int .u8 0, .int .u8 0, .int .u8 0, .int .u8 0, .int .u8 0, .int .u8 0, .slice none 0 0, .slice none 0 0] 35); simpa using this
  replace zp := Nat.lt_trans zp (show (w.alloc (.cells #[.int .i64 f0, .int .i64 f1, .int .i64 f2, .int .i64 f3, .int .i64 f4, .int .i64 f5, .int .u8 (a0.toNat : Int), .int .u8 (a1.toNat : Int), .int .u8 (a2.toNat : Int), .int .u8 (a3.toNat : Int), .int .u8 (a4.toNat : Int), .int .u8 (a5.toNat : Int), .int .u8 (a6.toNat : Int), .int .u8 (a7.toNat : Int), .slice So no co, .slice Sb nb cb] 27)).heap.size < ((w.alloc (.cells #[.int .i64 f0, .int .i64 f1, .int .i64 f2, .int .i64 f3, .int .i64 f4, .int .i64 f5, .int .u8 (a0.toNat : Int), .int .u8 (a1.toNat : Int), .int .u8 (a2.toNat : Int), .int .u8 (a3.toNat : Int), .int .u8 (a4.toNat : Int), .int .u8 (a5.toNat : Int), .int .u8 (a6.toNat : Int), .int .u8 (a7.toNat : Int), .slice So no co, .slice Sb nb cb] 27)).alloc (.cells #[.int .i64 0, .int .i64 0, .int .i64 0, .int .i64 0, .int .i64 0, .int .i64 0, .int .u8 0, .int .u8 0, .int .u8 0, .int .u8 0, .int .u8 0, .int .u8 0, .int .u8 0, .int .u8 0, .slice none 0 0, .slice none 0 0] 35)).heap.size by simp)
  have zr : w.heap.size + 1 < ((w.alloc (.cells #[.int .i64 f0, .int .i64 f1, .int .i64 f2, .int .i64 f3, .int .i64 f4, .int .i64 f5, .int .u8 (a0.toNat : Int), .int .u8 (a1.toNat : Int), .int .u8 (a2.toNat : Int), .int .u8 (a3.toNat : Int), .int .u8 (a4.toNat : Int), .int .u8 (a5.toNat : Int), .int .u8 (a6.toNat : Int), .int .u8 (a7.toNat : Int), .slice So no co, .slice Sb nb cb] 27)).alloc (.cells #[.int .i64 0, .int .i64 0, .int .i64 0, .int .i64 0, .int .i64 0, .int .i64 0, .int .u8 0, .int .u8 0, .int .u8 0, .int .u8 0, .int .u8 0, .int .u8 0, .int .u8 0, .int .u8 0, .slice none 0 0, .slice none 0 0] 35)).heap.size := by simp
  replace bel := bel.alloc bel.size (.cells #[.int .i64 0, .int .i64 0, .int .i64 0, .int .i64 0, .int .i64 0, .int .i64 0, .int .u8 0, .int .u8 0, .int .u8 0, .int .u8 0, .int .u8 0, .int .u8 0, .int .u8 0, .int .u8 0, .slice none 0 0, .slice none 0 0] 35)
  go_enter Try.func17, Try.ntmps17
  have R3 := cell_lit hp 0 _ rfl
  have R5 := cell_lit hp 1 _ rfl
  have R7 := cell_lit hp 2 _ rfl
  have R9 := cell_lit hp 3 _ rfl
  have R11 := cell_lit hp 4 _ rfl
  have R13 := cell_lit hp 5 _ rfl
  have R15 := Lib.hid (range_lit hp 6 4 [.int .u8 (a0.toNat : Int), .int .u8 (a1.toNat : Int), .int .u8 (a2.toNat : Int), .int .u8 (a3.toNat : Int)] rfl)
  have R17 := Lib.hid (range_lit hp 10 4 [.int .u8 (a4.toNat : Int), .int .u8 (a5.toNat : Int), .int .u8 (a6.toNat : Int), .int .u8 (a7.toNat : Int)] rfl)
  have R19 := cell_lit hp 14 _ rfl
  have R21 := cell_lit hp 15 _ rfl
  go_wp2_with (first | ((with_reducible show wpList _ _ _ (⟨some 16, _, _, _, _, _⟩ :: _) _ _); refine wpList_load_rng 24 (.tmp 15) rfl (by kernel_rfl) _ _ rfl _ R15.out _ Try.underlying24 rfl (by kernel_rfl) ?_) | ((with_reducible show wpList _ _ _ (⟨some 18, _, _, _, _, _⟩ :: _) _ _); refine wpList_load_rng 24 (.tmp 17) rfl (by kernel_rfl) _ _ rfl _ R17.out _ Try.underlying24 rfl (by kernel_rfl) ?_) | ((with_reducible show wpList _ _ _ (⟨none, Op.store _ _ _, _, _, _, _⟩ :: _) _ _); refine wpList_store_blk rfl 35 _ _ rfl (w.heap.size + 1) rfl #[.int .i64 f0, .int .i64 f1, .int .i64 f2, .int .i64 f3, .int .i64 f4, .int .i64 f5, .int .u8 (a0.toNat : Int), .int .u8 (a1.toNat : Int), .int .u8 (a2.toNat : Int), .int .u8 (a3.toNat : Int), .int .u8 (a4.toNat : Int), .int .u8 (a5.toNat : Int), .int .u8 (a6.toNat : Int), .int .u8 (a7.toNat : Int), .slice So no co, .slice Sb nb cb] rfl _ 35 hr (by rfl) (by kernel_rfl) (by kernel_rfl) ?_; intro wz hrz hgz; replace bel := below_grown bel hgz (by omega) bel.size; clear hgz))
  exact bodyPost_ret (results_cell_row' rfl _ _ _ _ _ _ _ rfl hrz Try.underlying35 rfl (by kernel_rfl)) rfl ⟨rfl, bel⟩

theorem guard4 (op : BinOp) (x y : Operand) (a b : Array Value) (W : World) : (eqGuard op 24 x y (.agg a) (.agg b)).run Try.prog W = .ok () W := run_eqGuard_agg W op 24 x y _ _ (by kernel_rfl)
theorem eql4s (p0 p1 p2 p3 : UInt8) (W : World) : (binOp .eql 24 (.agg #[.int .u8 (p0.toNat : Int), .int .u8 (p1.toNat : Int), .int .u8 (p2.toNat : Int), .int .u8 (p3.toNat : Int)]) (.agg #[.int .u8 (p0.toNat : Int), .int .u8 (p1.toNat : Int), .int .u8 (p2.toNat : Int), .int .u8 (p3.toNat : Int)])).run Try.prog W = .ok (.bool true) W := by
  have h := run_eql_bytes (P := Try.prog) W 24 5 4 (by kernel_rfl) (by kernel_rfl) (fun w => by kernel_rfl) [p0, p1, p2, p3] [p0, p1, p2, p3] rfl rfl
  rw [beq_self_eq_true] at h
  exact h
set_option maxRecDepth 100000 in
set_option maxHeartbeats 16000000 in
theorem same6_true (f0 f1 f2 f3 f4 f5 : Int) (a0 a1 a2 a3 a4 a5 a6 a7 : UInt8) (So Sb To Tb : Option Addr) (no co nb cb dq db : Nat) (lo lb : List UInt8) (w : World) (ho : Sl w So no co lo) (hb : Sl w Sb nb cb lb) (ho2 : Sl w To no dq lo) (hb2 : Sl w Tb nb db lb) :
    Calls Try.prog 16 #[.agg #[.int .i64 f0, .int .i64 f1, .int .i64 f2, .int .i64 f3, .int .i64 f4, .int .i64 f5, .int .u8 (a0.toNat : Int), .int .u8 (a1.toNat : Int), .int .u8 (a2.toNat : Int), .int .u8 (a3.toNat : Int), .int .u8 (a4.toNat : Int), .int .u8 (a5.toNat : Int), .int .u8 (a6.toNat : Int), .int .u8 (a7.toNat : Int), .slice So no co, .slice Sb nb cb], .agg #[.int .i64 f0, .int .i64 f1, .int .i64 f2, .int .i64 f3, .int .i64 f4, .int .i64 f5, .int .u8 (a0.toNat : Int), .int .u8 (a1.toNat : Int), .int .u8 (a2.toNat : Int), .int .u8 (a3.toNat : Int), .int .u8 (a4.toNat : Int), .int .u8 (a5.toNat : Int), .int .u8 (a6.toNat : Int), .int .u8 (a7.toNat : Int), .slice To no dq, .slice Tb nb db]] w fun e w' => e = .returned (.bool true) ∧ Below w.heap.size w w' := by
  have bel := Below.refl w.heap.size w
  have hp : (w.alloc (.cells #[.int .i64 f0, .int .i64 f1, .int .i64 f2, .int .i64 f3, .int .i64 f4, .int .i64 f5, .int .u8 (a0.toNat : Int), .int .u8 (a1.toNat : Int), .int .u8 (a2.toNat : Int), .int .u8 (a3.toNat : Int), .int .u8 (a4.toNat : Int), .int .u8 (a5.toNat : Int), .int .u8 (a6.toNat : Int), .int .u8 (a7.toNat : Int), .slice So no co, .slice Sb nb cb] 35)).heap[w.heap.size]? = some (.cells #[.int .i64 f0, .int .i64 f1, .int .i64 f2, .int .i64 f3, .int .i64 f4, .int .i64 f5, .int .u8 (a0.toNat : Int), .int .u8 (a1.toNat : Int), .int .u8 (a2.toNat : Int), .int .u8 (a3.toNat : Int), .int .u8 (a4.toNat : Int), .int .u8 (a5.toNat : Int), .int .u8 (a6.toNat : Int), .int .u8 (a7.toNat : Int), .slice So no co, .slice Sb nb cb] 35 (0, 0)) := by have := heap_alloc_new w (.cells #[.int .i64 f0, .int .i64 f1, .int .i64 f2, .int .i64 f3, .int .i64 f4, .int .i64 f5, .int .u8 (a0.toNat : Int), .int .u8 (a1.toNat : Int), .int .u8 (a2.toNat : Int), .int .u8 (a3.toNat : Int), .int .u8 (a4.toNat : Int), .int .u8 (a5.toNat : Int), .int .u8 (a6.toNat : Int), .int .u8 (a7.toNat : Int), .slice So no co, .slice Sb nb cb] 35); simpa using this
  have zp : w.heap.size < (w.alloc (.cells #[.int .i64 f0, .int .i64 f1, .int .i64 f2, .int .i64 f3, .int .i64 f4, .int .i64 f5, .int .u8 (a0.toNat : Int), .int .u8 (a1.toNat : Int), .int .u8 (a2.toNat : Int), .int .u8 (a3.toNat : Int), .int .u8 (a4.toNat : Int), .int .u8 (a5.toNat : Int), .int .u8 (a6.toNat : Int), .int .u8 (a7.toNat : Int), .slice So no co, .slice Sb nb cb] 35)).heap.size := by simp
  replace bel := bel.alloc bel.size (.cells #[.int .i64 f0, .int .i64 f1, .int .i64 f2, .int .i64 f3, .int .i64 f4, .int .i64 f5, .int .u8 (a0.toNat : Int), .int .u8 (a1.toNat : Int), .int .u8 (a2.toNat : Int), .int .u8 (a3.toNat : Int), .int .u8 (a4.toNat : Int), .int .u8 (a5.toNat : Int), .int .u8 (a6.toNat : Int), .int .u8 (a7.toNat : Int), .slice So no co, .slice Sb nb cb] 35)
  replace hp := (Go.heap_alloc_old (w.alloc (.cells #[.int .i64 f0, .int .i64 f1, .int .i64 f2, .int .i64 f3, .int .i64 f4, .int .i64 f5, .int .u8 (a0.toNat : Int), .int .u8 (a1.toNat : Int), .int .u8 (a2.toNat : Int), .int .u8 (a3.toNat : Int), .int .u8 (a4.toNat : Int), .int .u8 (a5.toNat : Int), .int .u8 (a6.toNat : Int), .int .u8 (a7.toNat : Int), .slice So no co, .slice Sb nb cb] 35)) (.cells #[.int .i64 f0, .int .i64 f1, .int .i64 f2, .int .i64 f3, .int .i64 f4, .int .i64 f5, .int .u8 (a0.toNat : Int), .int .u8 (a1.toNat : Int), .int .u8 (a2.toNat : Int), .int .u8 (a3.toNat : Int), .int .u8 (a4.toNat : Int), .int .u8 (a5.toNat : Int), .int .u8 (a6.toNat : Int), .int .u8 (a7.toNat : Int), .slice To no dq, .slice Tb nb db] 35) (r := w.heap.size) zp).trans hp
  have hq : ((w.alloc (.cells #[.int .i64 f0, .int .i64 f1, .int .i64 f2, .int .i64 f3, .int .i64 f4, .int .i64 f5, .int .u8 (a0.toNat : Int), .int .u8 (a1.toNat : Int), .int .u8 (a2.toNat : Int), .int .u8 (a3.toNat : Int), .int .u8 (a4.toNat : Int), .int .u8 (a5.toNat : Int), .int .u8 (a6.toNat : Int), .int .u8 (a7.toNat : Int), .slice So no co, .slice Sb nb cb] 35)).alloc (.cells #[.int .i64 f0, .int .i64 f1, .int .i64 f2, .int .i64 f3, .int .i64 f4, .int .i64 f5, .int .u8 (a0.toNat : Int), .int .u8 (a1.toNat : Int), .int .u8 (a2.toNat : Int), .int .u8 (a3.toNat : Int), .int .u8 (a4.toNat : Int), .int .u8 (a5.toNat : Int), .int .u8 (a6.toNat : Int), .int .u8 (a7.toNat : Int), .slice To no dq, .slice Tb nb db] 35)).heap[w.heap.size + 1]? = some (.cells #[.int .i64 f0, .int .i64 f1, .int .i64 f2, .int .i64 f3, .int .i64 f4, .int .i64 f5, .int .u8 (a0.toNat : Int), .int .u8 (a1.toNat : Int), .int .u8 (a2.toNat : Int), .int .u8 (a3.toNat : Int), .int .u8 (a4.toNat : Int), .int .u8 (a5.toNat : Int), .int .u8 (a6.toNat : Int), .int .u8 (a7.toNat : Int), .slice To no dq, .slice Tb nb db] 35 (0, 0)) := by have := heap_alloc_new (w.alloc (.cells #[.int .i64 f0, .int .i64 f1, .int .i64 f2, .int .i64 f3, .int .i64 f4, .int .i64 f5, .int .u8 (a0.toNat : Int), .int .u8 (a1.toNat : Int), .int .u8 (a2.toNat : Int), .int .u8 (a3.toNat : Int), .int .u8 (a4.toNat : Int), .int .u8 (a5.toNat : Int), .int .u8 (a6.toNat : Int), .int .u8 (a7.toNat : Int), .slice So no co, .slice Sb nb cb] 35)) (.cells #[.int .i64 f0, .int .i64 f1, .int .i64 f2, .int .i64 f3, .int .i64 f4, .int .i64 f5, .int .u8 (a0.toNat : Int), .int .u8 (a1.toNat : Int), .int .u8 (a2.toNat : Int), .int .u8 (a3.toNat : Int), .int .u8 (a4.toNat : Int), .int .u8 (a5.toNat : Int), .int .u8 (a6.toNat : Int), .int .u8 (a7.toNat : Int), .slice To no dq, .slice Tb nb db] 35); simpa using this
  replace zp := Nat.lt_trans zp (show (w.alloc (.cells #[.int .i64 f0, .int .i64 f1, .int .i64 f2, .int .i64 f3, .int .i64 f4, .int .i64 f5, .int .u8 (a0.toNat : Int), .int .u8 (a1.toNat : Int), .int .u8 (a2.toNat : Int), .int .u8 (a3.toNat : Int), .int .u8 (a4.toNat : Int), .int .u8 (a5.toNat : Int), .int .u8 (a6.toNat : Int), .int .u8 (a7.toNat : Int), .slice So no co, .slice Sb nb cb] 35)).heap.size < ((w.alloc (.cells #[.int .i64 f0, .int .i64 f1, .int .i64 f2, .int .i64 f3, .int .i64 f4, .int .i64 f5, .int .u8 (a0.toNat : Int), .int .u8 (a1.toNat : Int), .int .u8 (a2.toNat : Int), .int .u8 (a3.toNat : Int), .int .u8 (a4.toNat : Int), .int .u8 (a5.toNat : Int), .int .u8 (a6.toNat : Int), .int .u8 (a7.toNat : Int), .slice So no co, .slice Sb nb cb] 35)).alloc (.cells #[.int .i64 f0, .int .i64 f1, .int .i64 f2, .int .i64 f3, .int .i64 f4, .int .i64 f5, .int .u8 (a0.toNat : Int), .int .u8 (a1.toNat : Int), .int .u8 (a2.toNat : Int), .int .u8 (a3.toNat : Int), .int .u8 (a4.toNat : Int), .int .u8 (a5.toNat : Int), .int .u8 (a6.toNat : Int), .int .u8 (a7.toNat : Int), .slice To no dq, .slice Tb nb db] 35)).heap.size by simp)
  have zq : w.heap.size + 1 < ((w.alloc (.cells #[.int .i64 f0, .int .i64 f1, .int .i64 f2, .int .i64 f3, .int .i64 f4, .int .i64 f5, .int .u8 (a0.toNat : Int), .int .u8 (a1.toNat : Int), .int .u8 (a2.toNat : Int), .int .u8 (a3.toNat : Int), .int .u8 (a4.toNat : Int), .int .u8 (a5.toNat : Int), .int .u8 (a6.toNat : Int), .int .u8 (a7.toNat : Int), .slice So no co, .slice Sb nb cb] 35)).alloc (.cells #[.int .i64 f0, .int .i64 f1, .int .i64 f2, .int .i64 f3, .int .i64 f4, .int .i64 f5, .int .u8 (a0.toNat : Int), .int .u8 (a1.toNat : Int), .int .u8 (a2.toNat : Int), .int .u8 (a3.toNat : Int), .int .u8 (a4.toNat : Int), .int .u8 (a5.toNat : Int), .int .u8 (a6.toNat : Int), .int .u8 (a7.toNat : Int), .slice To no dq, .slice Tb nb db] 35)).heap.size := by simp
  replace bel := bel.alloc bel.size (.cells #[.int .i64 f0, .int .i64 f1, .int .i64 f2, .int .i64 f3, .int .i64 f4, .int .i64 f5, .int .u8 (a0.toNat : Int), .int .u8 (a1.toNat : Int), .int .u8 (a2.toNat : Int), .int .u8 (a3.toNat : Int), .int .u8 (a4.toNat : Int), .int .u8 (a5.toNat : Int), .int .u8 (a6.toNat : Int), .int .u8 (a7.toNat : Int), .slice To no dq, .slice Tb nb db] 35)
  have st0 := (ho.below bel).str (P := Try.prog) 25 5 9 Try.underlying25 Try.underlying5 Try.underlying9
  have st1 := (hb.below bel).str (P := Try.prog) 25 5 9 Try.underlying25 Try.underlying5 Try.underlying9
  have st2 := (ho2.below bel).str (P := Try.prog) 25 5 9 Try.underlying25 Try.underlying5 Try.underlying9
  have st3 := (hb2.below bel).str (P := Try.prog) 25 5 9 Try.underlying25 Try.underlying5 Try.underlying9
  clear ho hb ho2 hb2
  have q4a := eql4s a0 a1 a2 a3
  have q4b := eql4s a4 a5 a6 a7
  have g4 := guard4
  go_enter Try.func16, Try.ntmps16
  have R5 := cell_lit hp 0 _ rfl
  have R7 := cell_lit hq 0 _ rfl
  have R11 := cell_lit hp 1 _ rfl
  have R13 := cell_lit hq 1 _ rfl
  have R18 := cell_lit hp 2 _ rfl
  have R20 := cell_lit hq 2 _ rfl
  have R25 := cell_lit hp 3 _ rfl
  have R27 := cell_lit hq 3 _ rfl
  have R32 := cell_lit hp 4 _ rfl
  have R34 := cell_lit hq 4 _ rfl
  have R39 := cell_lit hp 5 _ rfl
  have R41 := cell_lit hq 5 _ rfl
  have R46 := Lib.hid (range_lit hp 6 4 [.int .u8 (a0.toNat : Int), .int .u8 (a1.toNat : Int), .int .u8 (a2.toNat : Int), .int .u8 (a3.toNat : Int)] rfl)
  have R48 := Lib.hid (range_lit hq 6 4 [.int .u8 (a0.toNat : Int), .int .u8 (a1.toNat : Int), .int .u8 (a2.toNat : Int), .int .u8 (a3.toNat : Int)] rfl)
  have R53 := Lib.hid (range_lit hp 10 4 [.int .u8 (a4.toNat : Int), .int .u8 (a5.toNat : Int), .int .u8 (a6.toNat : Int), .int .u8 (a7.toNat : Int)] rfl)
  have R55 := Lib.hid (range_lit hq 10 4 [.int .u8 (a4.toNat : Int), .int .u8 (a5.toNat : Int), .int .u8 (a6.toNat : Int), .int .u8 (a7.toNat : Int)] rfl)
  have R60 := cell_lit hp 14 _ rfl
  have R63 := cell_lit hq 14 _ rfl
  have R69 := cell_lit hp 15 _ rfl
  have R72 := cell_lit hq 15 _ rfl
  go_wp2_with (first | ((with_reducible show wpList _ _ _ (⟨some 47, _, _, _, _, _⟩ :: _) _ _); refine wpList_load_rng 24 (.tmp 46) rfl (by kernel_rfl) _ _ rfl _ R46.out _ Try.underlying24 rfl (by kernel_rfl) ?_) | ((with_reducible show wpList _ _ _ (⟨some 49, _, _, _, _, _⟩ :: _) _ _); refine wpList_load_rng 24 (.tmp 48) rfl (by kernel_rfl) _ _ rfl _ R48.out _ Try.underlying24 rfl (by kernel_rfl) ?_) | ((with_reducible show wpList _ _ _ (⟨some 54, _, _, _, _, _⟩ :: _) _ _); refine wpList_load_rng 24 (.tmp 53) rfl (by kernel_rfl) _ _ rfl _ R53.out _ Try.underlying24 rfl (by kernel_rfl) ?_) | ((with_reducible show wpList _ _ _ (⟨some 56, _, _, _, _, _⟩ :: _) _ _); refine wpList_load_rng 24 (.tmp 55) rfl (by kernel_rfl) _ _ rfl _ R55.out _ Try.underlying24 rfl (by kernel_rfl) ?_))
  go_ret
  exact ⟨rfl, bel⟩
end Go.Proofs.Ytabogdpjjclapaa
