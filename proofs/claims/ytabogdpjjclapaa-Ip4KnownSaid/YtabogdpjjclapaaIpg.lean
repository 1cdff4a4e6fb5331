/- Layer 6: ip4's Hop. -/
import Derived.Test.YtabogdpjjclapaaIpf
import Derived.Test.YtabogdpjjclapaaIpb
namespace Go.Proofs.Ytabogdpjjclapaa
open Go.RowKit

theorem made_two (x y : UInt8) (w : World) : Sl (w.alloc (.cells #[.int .u8 (x.toNat : Int), .int .u8 (y.toNat : Int)] 5)) (some ⟨w.heap.size, 0, none⟩) 2 2 [x, y] := Sl.made w 5 [x, y] (by simp [maxLen])
set_option maxRecDepth 100000 in
set_option maxHeartbeats 16000000 in
theorem iphop_err (A : Option Addr) (n c : Nat) (l : List UInt8) (w : World) (hl : Sl w A n c l) (hm : n ≤ 100000) (he : ipErr l ≠ 0) :
    Calls Try.prog 12 #[.slice A n c] w fun e w' => e = .returned (.tuple #[.slice none 0 0, .int .i64 (ipErr l)]) ∧ Below w.heap.size w w' := by
  obtain ⟨er, HE⟩ : ∃ er, Hid (ipErr l = er) := ⟨_, Lib.hid rfl⟩
  have ne1 : (er == 0) = false := by rw [← HE.out]; simpa using he
  have ne2 : (er != 0) = true := by rw [← HE.out]; simpa using he
  rw [show Ending.returned (.tuple #[.slice none 0 0, .int .i64 (ipErr l)]) = .returned (.tuple #[.slice none 0 0, .int .i64 er]) by rw [HE.out]]
  have bel := Below.refl w.heap.size w
  go_enter Try.func12, Try.ntmps12
  go_wp2_with fail
  with_reducible refine (sz_err A n c l _ hl hm he).mono ?_
  rintro e w1 ⟨rfl, b1⟩
  replace bel := bel.trans (b1.mono bel.size)
  clear b1
  rw [HE.out]
  go_wp2
  exact bodyPost_ret (v := .tuple #[.slice none 0 0, .int .i64 er]) (by simp [results, Try.results12, go_sem]) rfl ⟨rfl, bel⟩
set_option maxRecDepth 100000 in
set_option maxHeartbeats 16000000 in
theorem iphop_deny (A : Option Addr) (n c : Nat) (h0 h1 h2 h3 h4 h5 h6 h7 h8 h9 h10 h11 h12 h13 h14 h15 h16 h17 h18 h19 : UInt8) (r : List UInt8) (w : World) (hl : Sl w A n c (h0 :: h1 :: h2 :: h3 :: h4 :: h5 :: h6 :: h7 :: h8 :: h9 :: h10 :: h11 :: h12 :: h13 :: h14 :: h15 :: h16 :: h17 :: h18 :: h19 :: r)) (hm : n ≤ 100000) (he : ipErr (h0 :: h1 :: h2 :: h3 :: h4 :: h5 :: h6 :: h7 :: h8 :: h9 :: h10 :: h11 :: h12 :: h13 :: h14 :: h15 :: h16 :: h17 :: h18 :: h19 :: r) = 0) (h8b : h8.toNat < 2) :
    Calls Try.prog 12 #[.slice A n c] w fun e w' => e = .returned (.tuple #[.slice none 0 0, .int .i64 11]) ∧ Below w.heap.size w w' := by
  have SZ := Lib.hid fun W (h : Below w.heap.size w W) => sz_good A n c h0 h1 h2 h3 h4 h5 h6 h7 h8 h9 h10 h11 h12 h13 h14 h15 h16 h17 h18 h19 r W (hl.below h) hm he
  have hL : r.length + 20 = n := by have := hl.1; simpa using this
  obtain ⟨g1, g2, g3, g4, g5, g6⟩ := ok_parts he
  obtain ⟨H, HH⟩ : ∃ H, Hid (hlen h0 = H) := ⟨_, Lib.hid rfl⟩
  obtain ⟨nn, hnn⟩ : ∃ nn, Hid (be [h2, h3] = nn) := ⟨_, Lib.hid rfl⟩
  rw [HH.out] at g2 g5
  rw [hnn.out] at g5 g6
  replace g6 : nn ≤ n := by rw [hl.1] at g6; exact g6
  have HM := Lib.hid hm
  have n8 : (8 : Int) < n := by omega
  obtain ⟨d, o, rfl, hc⟩ := hl.2.2.2 (by omega)
  have zd : d < w.heap.size := cell_lt (hc 0 h0 rfl)
  have t8 : (h8.toNat : Int) ≤ 1 := by omega
  clear hl hm he g1 g2 g3 g4 g5 g6 h8b hL
  have bel := Below.refl w.heap.size w
  go_enter Try.func12, Try.ntmps12
  go_wp2_with fail
  with_reducible refine (SZ.out _ bel).mono ?_
  rintro e w1 ⟨rfl, b1⟩
  replace bel := bel.trans (b1.mono bel.size)
  have b1_ := b1
  clear b1
  rw [HH.out, hnn.out]
  have k8 := hc 8 h8 rfl
  unfold u8v at k8
  replace k8 := (b1_.cell (p := ⟨d, o + 8, none⟩) zd).trans k8
  clear SZ
  clear hc
  go_wp2
  exact bodyPost_ret (v := .tuple #[.slice none 0 0, .int .i64 11]) (by simp [results, Try.results12, go_sem]) rfl ⟨rfl, bel⟩
set_option maxRecDepth 100000 in
set_option maxHeartbeats 16000000 in
theorem iphop_ok (A : Option Addr) (n c : Nat) (h0 h1 h2 h3 h4 h5 h6 h7 h8 h9 h10 h11 h12 h13 h14 h15 h16 h17 h18 h19 : UInt8) (r : List UInt8) (w : World) (hl : Sl w A n c (h0 :: h1 :: h2 :: h3 :: h4 :: h5 :: h6 :: h7 :: h8 :: h9 :: h10 :: h11 :: h12 :: h13 :: h14 :: h15 :: h16 :: h17 :: h18 :: h19 :: r)) (hm : n ≤ 100000) (he : ipErr (h0 :: h1 :: h2 :: h3 :: h4 :: h5 :: h6 :: h7 :: h8 :: h9 :: h10 :: h11 :: h12 :: h13 :: h14 :: h15 :: h16 :: h17 :: h18 :: h19 :: r) = 0) (h8b : 2 ≤ h8.toNat) :
    Calls Try.prog 12 #[.slice A n c] w fun e w' => ∃ A' c', e = .returned (.tuple #[.slice A' (be [h2, h3]) c', .int .i64 0]) ∧ Sl w' A' (be [h2, h3]) c' (hopped (h0 :: h1 :: h2 :: h3 :: h4 :: h5 :: h6 :: h7 :: h8 :: h9 :: h10 :: h11 :: h12 :: h13 :: h14 :: h15 :: h16 :: h17 :: h18 :: h19 :: r)) ∧ Below w.heap.size w w' := by
  obtain ⟨ii, hii, hz0, hz1, hz2⟩ := info_parts Try.info5
  have SZ := Lib.hid fun W (h : Below w.heap.size w W) => sz_good A n c h0 h1 h2 h3 h4 h5 h6 h7 h8 h9 h10 h11 h12 h13 h14 h15 h16 h17 h18 h19 r W (hl.below h) hm he
  have hL : r.length + 20 = n := by have := hl.1; simpa using this
  obtain ⟨g1, g2, g3, g4, g5, g6⟩ := ok_parts he
  obtain ⟨H, HH⟩ : ∃ H, Hid (hlen h0 = H) := ⟨_, Lib.hid rfl⟩
  obtain ⟨nn, hnn⟩ : ∃ nn, Hid (be [h2, h3] = nn) := ⟨_, Lib.hid rfl⟩
  rw [HH.out] at g2 g5
  rw [hnn.out] at g5 g6
  replace g6 : nn ≤ n := by rw [hl.1] at g6; exact g6
  have HM := Lib.hid hm
  have n8 : (8 : Int) < n := by omega
  have t8 : decide ((h8.toNat : Int) ≤ 1) = false := decide_eq_false (by omega)
  obtain ⟨y, hy⟩ : ∃ y : UInt8, Hid (byteOf (h8.toNat - 1 : Int) = y) := ⟨_, Lib.hid rfl⟩
  have hyn : y.toNat = h8.toNat - 1 := by have e := byteOf_val (h8.toNat - 1 : Int); rw [hy.out] at e; have := h8.toNat_lt; omega
  have hyi : (h8.toNat : Int) - 1 = (y.toNat : Int) := by omega
  have hyw : IntKind.u8.wrap ((h8.toNat : Int) - 1) = (y.toNat : Int) := by rw [hyi]; have := y.toNat_lt; simp [IntKind.wrap, IntKind.signed, IntKind.bits]; omega
  have hyw2 : IntKind.u8.wrap (y.toNat : Int) = (y.toNat : Int) := by rw [← hyi]; exact hyw.trans hyi.symm
  obtain ⟨AF, cF, sF, hF⟩ := slice_front hl (k := 8) (by omega)
  obtain ⟨AO, cO, sO, hO⟩ := slice_mid hl (p := 8) (k := 2) (by omega)
  obtain ⟨AR, cR, sR, hR⟩ := slice_mid hl (p := 12) (k := nn - 12) (by omega)
  rw [show ((12 : Nat) : Int) + ((nn - 12 : Nat) : Int) = (nn : Int) by omega] at sR
  replace sF : ∀ W, (Instr.slice 25 (.slice A n c) none (some (.int .i64 8)) none).run Try.prog W = .ok (.slice AF 8 cF) W := sF
  replace sO : ∀ W, (Instr.slice 25 (.slice A n c) (some (.int .i64 8)) (some (.int .i64 10)) none).run Try.prog W = .ok (.slice AO 2 cO) W := sO
  replace sR : ∀ W, (Instr.slice 25 (.slice A n c) (some (.int .i64 12)) (some (.int .i64 (nn : Int))) none).run Try.prog W = .ok (.slice AR (nn - 12) cR) W := sR
  replace hF : Sl w AF 8 cF [h0, h1, h2, h3, h4, h5, h6, h7] := hF
  replace hO : Sl w AO 2 cO [h8, h9] := hO
  obtain ⟨RR, HR⟩ : ∃ RR, Hid (((h0 :: h1 :: h2 :: h3 :: h4 :: h5 :: h6 :: h7 :: h8 :: h9 :: h10 :: h11 :: h12 :: h13 :: h14 :: h15 :: h16 :: h17 :: h18 :: h19 :: r).drop 12).take (nn - 12) = RR) := ⟨_, Lib.hid rfl⟩
  rw [HR.out] at hR
  obtain ⟨ss, SS⟩ : ∃ ss : Nat, Hid (be (((h0 :: h1 :: h2 :: h3 :: h4 :: h5 :: h6 :: h7 :: h8 :: h9 :: h10 :: h11 :: h12 :: h13 :: h14 :: h15 :: h16 :: h17 :: h18 :: h19 :: r).drop 10).take 2) = ss) := ⟨_, Lib.hid rfl⟩
  obtain ⟨sv, SV⟩ : ∃ sv, Hid (tk (ss : Int) [h8, h9] [y, h9] = sv) := ⟨_, Lib.hid rfl⟩
  have HQ : Hid ([h0, h1, h2, h3, h4, h5, h6, h7] ++ [y, h9] ++ two sv ++ RR = hopped (h0 :: h1 :: h2 :: h3 :: h4 :: h5 :: h6 :: h7 :: h8 :: h9 :: h10 :: h11 :: h12 :: h13 :: h14 :: h15 :: h16 :: h17 :: h18 :: h19 :: r)) := Lib.hid (by
    have e1 : hopSum (h0 :: h1 :: h2 :: h3 :: h4 :: h5 :: h6 :: h7 :: h8 :: h9 :: h10 :: h11 :: h12 :: h13 :: h14 :: h15 :: h16 :: h17 :: h18 :: h19 :: r) = sv := by
      show tk (be [h10, h11] : Nat) [h8, h9] [byteOf (h8.toNat - 1 : Int), h9] = sv
      rw [hy.out, ← SV.out, ← SS.out]
      rfl
    obtain ⟨k, hk⟩ : ∃ k, nn = k + 20 := ⟨nn - 20, by omega⟩
    unfold hopped
    rw [e1, show be ((List.drop 2 (h0 :: h1 :: h2 :: h3 :: h4 :: h5 :: h6 :: h7 :: h8 :: h9 :: h10 :: h11 :: h12 :: h13 :: h14 :: h15 :: h16 :: h17 :: h18 :: h19 :: r)).take 2) = nn from hnn.out, show byteOf (((h0 :: h1 :: h2 :: h3 :: h4 :: h5 :: h6 :: h7 :: h8 :: h9 :: h10 :: h11 :: h12 :: h13 :: h14 :: h15 :: h16 :: h17 :: h18 :: h19 :: r).getD 8 0).toNat - 1 : Int) = y from hy.out, ← HR.out, hk, show k + 20 - 12 = k + 8 by omega]
    rfl)
  have HNN : Hid (12 + (nn - 12) = nn) := Lib.hid (by omega)
  have HN := Lib.hid (show 20 ≤ n by omega)
  have HN2 := Lib.hid g6
  have hB := hl
  rw [hnn.out]
  clear hl hm he g1 g2 g3 g4 g5 g6 h8b hL hyn
  have bel := Below.refl w.heap.size w
  replace hO := hO.below bel
  replace hB := hB.below bel
  replace hF := hF.below bel
  replace hR := hR.below bel
  go_enter Try.func12, Try.ntmps12
  go_wp2_with fail
  with_reducible refine (SZ.out _ bel).mono ?_
  rintro e w1 ⟨rfl, b1⟩
  replace hB := hB.below b1
  replace hF := hF.below b1
  replace hO := hO.below b1
  replace hR := hR.below b1
  replace bel := bel.trans (b1.mono bel.size)
  clear b1
  rw [HH.out, hnn.out]
  clear SZ
  obtain ⟨d, o, e0, hc⟩ := hB.2.2.2 (by have := HN.out; omega)
  subst e0
  have k8 := hc 8 h8 rfl
  unfold u8v at k8
  clear hc
  obtain ⟨d2, o2, e0, hc⟩ := hO.2.2.2 (by omega)
  subst e0
  have q0 := hc 0 h8 rfl
  have q1 := hc 1 h9 rfl
  unfold u8v at q0 q1
  rw [Nat.add_zero] at q0
  clear hc
  have zq0 : d2 < w1.heap.size := cell_lt q0
  have zq1 := zq0
  go_wp2_with fail
  clear k8
  replace bel := bel.drew
  replace q0 : w1.drew.cell? ⟨d2, o2, none⟩ = some (.int .u8 (h8.toNat : Int)) := q0
  replace zq0 : _ < w1.drew.heap.size := zq0
  replace q1 : w1.drew.cell? ⟨d2, o2 + 1, none⟩ = some (.int .u8 (h9.toNat : Int)) := q1
  replace zq1 : _ < w1.drew.heap.size := zq1
  refine wp_region_held_drew (S := fun W => W.cell? ⟨d2, o2, none⟩ = some (.int .u8 (h8.toNat : Int)) ∧ W.cell? ⟨d2, o2 + 1, none⟩ = some (.int .u8 (h9.toNat : Int))) (by kernel_rfl) ⟨q0, q1⟩ (fun hH => ?_)
  replace hB := hB.drew
  replace hF := hF.drew
  replace hO := hO.drew
  replace hR := hR.drew
  generalize w1.drew = vd at bel q0 zq0 q1 zq1 hB hF hO hR hH ⊢
  refine wpAnyH_take (i := 0) (v := ?_) rfl (by kernel_rfl) (by kernel_rfl) (by kernel_rfl) (fun _ _ _ h => h) (Or.inl ⟨by rfl, ?_⟩) hH ?_
  rotate_left
  · ((intro W hW; clear hW; go_simp) <;> with_reducible rfl)
  simp only [Act.put, List.getElem_toArray, List.getElem_cons_zero, List.setIfInBounds_toArray, List.set_cons_zero, List.set_cons_succ]
  refine wpAnyH_take (i := 1) (v := ?_) rfl (by kernel_rfl) (by kernel_rfl) (by kernel_rfl) (fun _ _ _ h => h) (Or.inl ⟨by rfl, ?_⟩) hH ?_
  rotate_left
  · ((intro W hW; clear hW; go_simp) <;> with_reducible rfl)
  simp only [Act.put, List.getElem_toArray, List.getElem_cons_zero, List.getElem_cons_succ, List.setIfInBounds_toArray, List.set_cons_zero, List.set_cons_succ]
  refine wpAnyH_take (i := 2) (v := ?_) rfl (by kernel_rfl) (by kernel_rfl) (by kernel_rfl) (fun _ _ _ h => h) (Or.inl ⟨by rfl, ?_⟩) hH ?_
  rotate_left
  · ((intro W hW; have hk0 := hW.1; have hk1 := hW.2; clear hW; go_simp) <;> with_reducible rfl)
  simp only [Act.put, List.getElem_toArray, List.getElem_cons_zero, List.getElem_cons_succ, List.setIfInBounds_toArray, List.set_cons_zero, List.set_cons_succ]
  refine wpAnyH_take (i := 3) (v := ?_) rfl (by kernel_rfl) (by kernel_rfl) (by kernel_rfl) (fun _ _ _ h => h) (Or.inl ⟨by rfl, ?_⟩) hH ?_
  rotate_left
  · ((intro W hW; clear hW; go_simp) <;> with_reducible rfl)
  simp only [Act.put, List.getElem_toArray, List.getElem_cons_zero, List.getElem_cons_succ, List.setIfInBounds_toArray, List.set_cons_zero, List.set_cons_succ]
  refine wpAnyH_take (i := 4) (v := ?_) rfl (by kernel_rfl) (by kernel_rfl) (by kernel_rfl) (fun _ _ _ h => h) (Or.inl ⟨by rfl, ?_⟩) hH ?_
  rotate_left
  · ((intro W hW; clear hW; go_simp) <;> with_reducible rfl)
  simp only [Act.put, List.getElem_toArray, List.getElem_cons_zero, List.getElem_cons_succ, List.setIfInBounds_toArray, List.set_cons_zero, List.set_cons_succ]
  refine wpAnyH_take (i := 5) (v := ?_) rfl (by kernel_rfl) (by kernel_rfl) (by kernel_rfl) (fun _ _ _ h => h) (Or.inl ⟨by rfl, ?_⟩) hH ?_
  rotate_left
  · ((intro W hW; clear hW; go_simp) <;> with_reducible rfl)
  simp only [Act.put, List.getElem_toArray, List.getElem_cons_zero, List.getElem_cons_succ, List.setIfInBounds_toArray, List.set_cons_zero, List.set_cons_succ]
  refine wpAnyH_take (i := 6) (v := ?_) rfl (by kernel_rfl) (by kernel_rfl) (by kernel_rfl) (fun _ _ _ h => h) (Or.inl ⟨by rfl, ?_⟩) hH ?_
  rotate_left
  · ((intro W hW; have hk0 := hW.1; have hk1 := hW.2; clear hW; go_simp) <;> with_reducible rfl)
  simp only [Act.put, List.getElem_toArray, List.getElem_cons_zero, List.getElem_cons_succ, List.setIfInBounds_toArray, List.set_cons_zero, List.set_cons_succ]
  refine wpAnyH_ready (rs := [7]) (by kernel_rfl) (by simp) ?_
  refine AllReadyH.cons (o := _) rfl (fun K hK => ?_) AllReadyH.nil
  simp only [List.getElem_toArray, List.getElem_cons_zero, List.getElem_cons_succ]
  go_simp
  have ba := (Below.refl vd.heap.size vd).alloc (Nat.le_refl _) (.cells #[.int .u8 (y.toNat : Int), .int .u8 (h9.toNat : Int)] 5)
  have hm := made_two y h9 vd
  replace bel := bel.trans (ba.mono bel.size)
  replace q0 := (ba.cell (p := ⟨d2, o2, none⟩) zq0).trans q0
  replace zq0 := Nat.lt_of_lt_of_le zq0 ba.size
  replace q1 := (ba.cell (p := ⟨d2, o2 + 1, none⟩) zq1).trans q1
  replace zq1 := Nat.lt_of_lt_of_le zq1 ba.size
  replace hB := hB.below ba
  replace hF := hF.below ba
  replace hO := hO.below ba
  replace hR := hR.below ba
  generalize vd.alloc (.cells #[.int .u8 (y.toNat : Int), .int .u8 (h9.toNat : Int)] 5) = v11 at bel q0 zq0 q1 zq1 hB hF hO hR hm ba ⊢
  refine hK.out _ _ ⟨q0, q1⟩ (fun hH11 => ?_)
  clear hK K ba
  refine wpAnyH_take (i := 8) (v := ?_) rfl (by kernel_rfl) (by kernel_rfl) (by kernel_rfl) (fun _ _ _ h => h) (Or.inl ⟨by rfl, ?_⟩) hH11 ?_
  rotate_left
  · ((intro W hW; clear hW; go_simp) <;> with_reducible rfl)
  simp only [Act.put, List.getElem_toArray, List.getElem_cons_zero, List.getElem_cons_succ, List.setIfInBounds_toArray, List.set_cons_zero, List.set_cons_succ]
  refine wpAnyH_done (by kernel_rfl) ?_ _
  go_wp2_with fail
  with_reducible refine (pair_10 (some ⟨d, o, none⟩) n c _ _ hB (by have := HN.out; omega)).mono ?_
  rintro e w2 ⟨rfl, b2⟩
  replace hB := hB.below b2
  replace hF := hF.below b2
  replace hO := hO.below b2
  replace hR := hR.below b2
  replace hm := hm.below b2
  replace bel := bel.trans (b2.mono bel.size)
  clear b2
  rw [SS.out]
  go_wp2_with fail
  with_reducible refine (turn_any _ _ _ 2 _ 2 2 _ _ _ (by omega) (by omega) hO hm).mono ?_
  rintro e w3 ⟨rfl, b3⟩
  replace hB := hB.below b3
  replace hF := hF.below b3
  replace hO := hO.below b3
  replace hR := hR.below b3
  replace hm := hm.below b3
  replace bel := bel.trans (b3.mono bel.size)
  clear b3
  rw [SV.out]
  generalize w3 = v50 at hB hF hO hR hm bel ⊢
  have m1shB := hB
  have m1shF := hF
  have m1shO := hO
  have m1shR := hR
  have m1shm := hm
  have m1w := bel.size
  have hown := own_empty v50
  have m1b := (Below.refl v50.heap.size v50).alloc (Nat.le_refl _) (.cells #[] 5)
  have m1 := m1b.size
  replace hB := hB.below m1b
  replace hF := hF.below m1b
  replace hO := hO.below m1b
  replace hR := hR.below m1b
  replace hm := hm.below m1b
  replace bel := bel.trans (m1b.mono bel.size)
  go_wp2_with (first | (at_builtin; refine wpList_append_bb _ rfl (.tmp 39) (.tmp 41) 25 rfl (v50.heap.size) 5 ii (.int .u8 0) Try.underlying25 hii hz0 hz1 hz2 rfl _ (0) ([]) rfl hown (AF) (8) (cF) ([h0, h1, h2, h3, h4, h5, h6, h7]) rfl hF ?c1 ?c2 ?_))
  case c1 => omega
  case c2 => exact m1
  intro r4 y4 own1_ bb
  replace m1b := m1b.trans bb
  replace bel := bel.trans (bb.mono m1w)
  replace m1 := Nat.le_trans m1 bb.size
  clear hown bb
  replace hB := m1shB.below m1b
  replace hF := m1shF.below m1b
  replace hO := m1shO.below m1b
  replace hR := m1shR.below m1b
  replace hm := m1shm.below m1b
  have own1 := own1_
  clear own1_
  replace own1 : y4.ownsRow v50.heap.size 5 1 r4 8 (([h0, h1, h2, h3, h4, h5, h6, h7] : List UInt8).map u8v) := own1
  go_wp2_with (first | (at_builtin; refine wpList_append_bb _ rfl (.tmp 43) (.tmp 44) 25 rfl (v50.heap.size) 5 ii (.int .u8 0) Try.underlying25 hii hz0 hz1 hz2 rfl r4 (8) ([h0, h1, h2, h3, h4, h5, h6, h7]) rfl own1 (_) (2) (2) ([y, h9]) rfl hm ?c1 ?c2 ?_))
  case c1 => omega
  case c2 => exact m1
  intro r5 y5 own2_ bb
  replace m1b := m1b.trans bb
  replace bel := bel.trans (bb.mono m1w)
  replace m1 := Nat.le_trans m1 bb.size
  clear own1 bb
  replace hB := m1shB.below m1b
  replace hF := m1shF.below m1b
  replace hO := m1shO.below m1b
  replace hR := m1shR.below m1b
  replace hm := m1shm.below m1b
  have own2 := own2_
  clear own2_
  replace own2 : y5.ownsRow v50.heap.size 5 1 r5 10 (([h0, h1, h2, h3, h4, h5, h6, h7] ++ [y, h9] : List UInt8).map u8v) := own2
  obtain ⟨A5, c5, rfl, s5⟩ := Sl.of_own own2
  clear own2
  clear m1 m1b m1w m1shB m1shF m1shO m1shR m1shm
  clear hm hF hO
  go_wp2_with fail
  have m2shB := hB
  have m2shR := hR
  have m2ss5 := s5
  have m2w := bel.size
  with_reducible refine (w16_oto A5 10 12 c5 _ _ _ rfl s5 (by omega)).mono ?_
  rintro e w6 ⟨v6, rfl, own3, m2b⟩
  replace hB := hB.below m2b
  replace hR := hR.below m2b
  replace s5 := s5.below m2b
  have m2 := m2b.size
  replace bel := bel.trans (m2b.mono bel.size)
  go_wp2_with (first | (at_builtin; refine wpList_append_bb _ rfl (.tmp 49) (.tmp 52) 25 rfl (y5.heap.size) 5 ii (.int .u8 0) Try.underlying25 hii hz0 hz1 hz2 rfl v6 (12) ([h0, h1, h2, h3, h4, h5, h6, h7] ++ [y, h9] ++ two sv) rfl own3 (AR) (nn - 12) (cR) (RR) rfl hR ?c1 ?c2 ?_))
  case c1 => have := HM.out; have := HN2.out; omega
  case c2 => exact m2
  intro r7 y7 own4_ bb
  replace m2b := m2b.trans bb
  replace bel := bel.trans (bb.mono m2w)
  replace m2 := Nat.le_trans m2 bb.size
  clear own3 bb
  replace hB := m2shB.below m2b
  replace hR := m2shR.below m2b
  replace s5 := m2ss5.below m2b
  have own4 := own4_
  clear own4_
  replace own4 : y7.ownsRow y5.heap.size 5 1 r7 (12 + (nn - 12)) (([h0, h1, h2, h3, h4, h5, h6, h7] ++ [y, h9] ++ two sv ++ RR : List UInt8).map u8v) := by simpa using own4
  obtain ⟨A7, c7, rfl, s7⟩ := Sl.of_own own4
  clear own4
  go_wp2
  exact bodyPost_ret (v := .tuple #[.slice A7 (12 + (nn - 12)) c7, .int .i64 0]) (by simp [results, Try.results12, go_sem]) rfl ⟨A7, c7, by rw [HNN.out], by rw [HNN.out] at s7; rw [← HQ.out]; exact s7, bel⟩
theorem iphop_any (A : Option Addr) (n c : Nat) (l : List UInt8) (w : World) (hl : Sl w A n c l) (hm : n ≤ 100000) : Calls Try.prog 12 #[.slice A n c] w (HopPost l w) := by
  by_cases he : ipErr l = 0
  · obtain ⟨h0, h1, h2, h3, h4, h5, h6, h7, h8, h9, h10, h11, h12, h13, h14, h15, h16, h17, h18, h19, r, rfl⟩ := list20 l (ipErr_20 he)
    by_cases h8b : h8.toNat < 2
    · refine (iphop_deny A n c h0 h1 h2 h3 h4 h5 h6 h7 h8 h9 h10 h11 h12 h13 h14 h15 h16 h17 h18 h19 r w hl hm he h8b).mono ?_
      rintro e w' ⟨rfl, bel⟩
      refine ⟨none, 0, [], 11, rfl, Sl.nil _, bel, ?_⟩
      unfold ipHop
      rw [if_neg (by rw [he]; simp), if_pos (by exact h8b)]
    · refine (iphop_ok A n c h0 h1 h2 h3 h4 h5 h6 h7 h8 h9 h10 h11 h12 h13 h14 h15 h16 h17 h18 h19 r w hl hm he (by omega)).mono ?_
      rintro e w' ⟨A', c', rfl, hs, bel⟩
      have hn := hs.1
      refine ⟨A', c', _, 0, by rw [hn], by rw [hn]; exact hs, bel, ?_⟩
      unfold ipHop
      rw [if_neg (by rw [he]; simp), if_neg (by exact h8b)]
  · refine (iphop_err A n c l w hl hm he).mono ?_
    rintro e w' ⟨rfl, bel⟩
    refine ⟨none, 0, [], _, rfl, Sl.nil _, bel, ?_⟩
    unfold ipHop
    rw [if_pos he]
end Go.Proofs.Ytabogdpjjclapaa
