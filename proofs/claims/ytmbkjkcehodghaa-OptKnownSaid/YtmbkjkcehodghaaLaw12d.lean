/- OptKnown. -/
import Derived.Test.YtmbkjkcehodghaaLaw12b
import Derived.Test.YtmbkjkcehodghaaMak
namespace Go.Proofs.Ytmbkjkcehodghaa
open Go.RowKit

theorem Try.kinfo_u8 : (Try.prog.info? 5).map (fun i => (i.zero, i.size, i.bytes)) = some (some (.int .u8 0), 1, 1) := by kernel_rfl
theorem Bd.mk1 {w : World} {A : Option Addr} {n c : Nat} {l : List UInt8} (k : Int) (h : Sl w A n c l) : Bd w [⟨k, A, n, c⟩] [(k, l)] := by
  refine ⟨rfl, fun i x p hx hp => ?_⟩
  match i, hx, hp with
  | 0, hx, hp => cases hx; cases hp; exact ⟨rfl, h⟩
theorem Bd.mk2 {w : World} {A B : Option Addr} {n c m d : Nat} {l l' : List UInt8} (k k' : Int) (h : Sl w A n c l) (h' : Sl w B m d l') : Bd w [⟨k, A, n, c⟩, ⟨k', B, m, d⟩] [(k, l), (k', l')] := by
  refine ⟨rfl, fun i x p hx hp => ?_⟩
  match i, hx, hp with
  | 0, hx, hp => cases hx; cases hp; exact ⟨rfl, h⟩
  | 1, hx, hp => cases hx; cases hp; exact ⟨rfl, h'⟩
theorem hb1 {k : Int} {A : Option Addr} {n c m : Nat} (h : n ≤ m) : ∀ x ∈ ([⟨k, A, n, c⟩] : List Oh), x.n ≤ m := by
  intro x hx
  simp only [List.mem_singleton] at hx
  subst hx; exact h
theorem hb2 {k k' : Int} {A B : Option Addr} {n c n' c' m : Nat} (h : n ≤ m) (h' : n' ≤ m) : ∀ x ∈ ([⟨k, A, n, c⟩, ⟨k', B, n', c'⟩] : List Oh), x.n ≤ m := by
  intro x hx
  simp only [List.mem_cons, List.not_mem_nil, or_false] at hx
  rcases hx with rfl | rfl
  · exact h
  · exact h'
theorem get_k1 : getS [] = ([], 3) := gets_no (get_none _)
theorem get_k2 : getS [1, 2, 3] = ([], 3) := gets_no (get_short (by decide) (by decide) (by decide))
theorem get_k3 : getS [0, 1, 1, 5, 2, 0, 1, 1, 6, 255, 9] = ([(1, [5, 6]), (2, [])], 0) := gets_ok (by
  rw [get_pad, get_one (by decide) (by decide) (by decide)]
  show getL [2, 0, 1, 1, 6, 255, 9] _ = _
  rw [get_one (by decide) (by decide) (by decide)]
  show getL [1, 1, 6, 255, 9] _ = _
  rw [get_one (by decide) (by decide) (by decide)]
  exact get_end _ _)
theorem four_k1 : fourL (findL [(1, [1, 2, 3, 4])] 1) = ([1, 2, 3, 4], true) := rfl
theorem four_k2 : fourL (findL [(1, [1, 2, 3])] 1) = ([0, 0, 0, 0], false) := rfl
theorem put_k1 : putL [(0, [])] = ([], 1) := by unfold putL; rw [if_neg (by decide)]
theorem put_k2 : putL [(1, []), (1, [])] = ([], 1) := by unfold putL; rw [if_neg (by decide)]
theorem dist_one (x : List UInt8) : distinctB [(1, x)] = true := by
  unfold distinctB
  simp [okC]
theorem put_k3 : putL [(1, List.replicate 1300 0)] = ([], 2) := by
  have h : (allL [(1, List.replicate 1300 0)]).length = 1312 := by
    unfold allL
    rw [List.flatMap_cons, List.flatMap_nil, List.append_nil, pieces_len 1300 _ _ (List.length_replicate ..)]
    rfl
  have hd : distinctB [(1, List.replicate 1300 0)] = true := dist_one _
  unfold putL
  rw [if_pos hd, h, if_neg (by decide)]
theorem kaddr {A : Option Addr} {n c : Nat} {hs : List Oh} {L : OptL} {code : Int} (w : World) (en : Sle opE 2 w A n c hs) (hbd : Bd w hs L) (hn : n ≤ 100000) (hb : ∀ x ∈ hs, x.n ≤ 100000) (h : fourL (findL L code) = ([1, 2, 3, 4], true)) : Calls Try.prog 10 #[.slice A n c, .int .i64 code] w fun e w' => e = .returned (.tuple #[.agg #[.int .u8 1, .int .u8 2, .int .u8 3, .int .u8 4], .bool true]) ∧ Below w.heap.size w w' := by
  refine (oaddr_any w en hbd hn hb).mono ?_
  rintro e w' ⟨x, y, z, u, hq, rfl, bel⟩
  rw [h] at hq ⊢
  simp only [List.cons.injEq, and_true] at hq
  obtain ⟨rfl, rfl, rfl, rfl⟩ := hq
  exact ⟨rfl, bel⟩
theorem ksecs {A : Option Addr} {n c : Nat} {hs : List Oh} {L : OptL} {code : Int} (w : World) (en : Sle opE 2 w A n c hs) (hbd : Bd w hs L) (hn : n ≤ 100000) (hb : ∀ x ∈ hs, x.n ≤ 100000) (h : fourL (findL L code) = ([0, 0, 0, 0], false)) : Calls Try.prog 11 #[.slice A n c, .int .i64 code] w fun e w' => e = .returned (.tuple #[.int .u32 0, .bool false]) ∧ Below w.heap.size w w' := by
  refine (osecs_any w en hbd hn hb).mono ?_
  rintro e w' ⟨rfl, bel⟩
  rw [h]
  exact ⟨rfl, bel⟩
theorem gknown (op : BinOp) (y z : Operand) (a b : Array Value) (W : World) : (eqGuard op 33 y z (.agg a) (.agg b)).run Try.prog W = .ok () W := run_eqGuard_agg W op 33 y z _ _ (by kernel_rfl)
theorem eknown (W : World) : (binOp .eql 33 (.agg #[.int .u8 1, .int .u8 2, .int .u8 3, .int .u8 4]) (.agg #[.int .u8 1, .int .u8 2, .int .u8 3, .int .u8 4])).run Try.prog W = .ok (.bool true) W := by kernel_rfl
set_option linter.unusedVariables false in
set_option linter.unusedSimpArgs false in
set_option maxRecDepth 100000 in
set_option maxHeartbeats 16000000 in
theorem optKnown_walk (w : World) : Calls Try.prog 3 #[] w fun e w' => e = .returned (.bool true) ∧ Below w.heap.size w w' := by
  have gg := gknown
  have ge_ := eknown
  obtain ⟨ii, hii, hz0, hz1, hz2⟩ := info_parts Try.kinfo_u8
  have bel := Below.refl w.heap.size w
  go_enter Try.func3, Try.ntmps3
  go_wp2_with fail
  with_reducible refine (awake12_any _).mono ?_
  rintro e w1 ⟨rfl, b1⟩
  replace bel := bel.trans (b1.mono bel.size)
  clear b1
  go_wp2_with fail
  with_reducible refine (oget_any _ (Sl.nil _) (by decide)).mono ?_
  rintro e w2 ⟨A1, n1, c1, h1, rfl, _, _, _, b2⟩
  replace bel := bel.trans (b2.mono bel.size)
  clear b2
  rw [get_k1]
  go_wp2_with (first | ((with_reducible show wpList _ _ _ (⟨some 24, _, _, _, _, _⟩ :: _) _ _); refine wpList_lit_n rfl 27 5 3 _ rfl #[.int .u8 1, .int .u8 2, .int .u8 3] (.int .u8 0) Try.underlying27 (by kernel_rfl) 1 (by kernel_rfl) (by decide) (by kernel_rfl) ?_; intro g24 w3 ge lt hh bb; have hl : w3.heap[g24]? = some (.cells (([1, 2, 3] : List UInt8).map u8v).toArray 5 (0, 0)) := (by simpa [u8v, byteOf_val] using hh); have b2w := own_lit (B := w2.heap.size) ([1, 2, 3]) hl ge 3 rfl (by simp [maxLen]); have b2 := (own_sl b2w).1; have b2lo := bel.size; clear hl; have b2ge := ge; have lz_b2 := bb.size; have ob24 := Nat.le_trans bel.size ge; replace bel := bel.trans (bb.mono bel.size); have hb24 := hh; clear hh lt ge bb))
  with_reducible refine (oget_any _ b2 (by decide)).mono ?_
  rintro e w4 ⟨A3, n3, c3, h3, rfl, _, _, _, b4⟩
  replace hb24 := blk_u hb24 b4
  replace b2 := b2.below b4
  replace b2w := own_under b2w b4
  replace lz_b2 := Nat.le_trans lz_b2 b4.size
  replace bel := bel.trans (b4.mono bel.size)
  clear b4
  rw [get_k2]
  go_wp2_with (first | ((with_reducible show wpList _ _ _ (⟨some 29, _, _, _, _, _⟩ :: _) _ _); refine wpList_lit_n rfl 27 5 11 _ rfl #[.int .u8 0, .int .u8 1, .int .u8 1, .int .u8 5, .int .u8 2, .int .u8 0, .int .u8 1, .int .u8 1, .int .u8 6, .int .u8 255, .int .u8 9] (.int .u8 0) Try.underlying27 (by kernel_rfl) 1 (by kernel_rfl) (by decide) (by kernel_rfl) ?_; intro g29 w5 ge lt hh bb; have hl : w5.heap[g29]? = some (.cells (([0, 1, 1, 5, 2, 0, 1, 1, 6, 255, 9] : List UInt8).map u8v).toArray 5 (0, 0)) := (by simpa [u8v, byteOf_val] using hh); have b3w := own_lit (B := w4.heap.size) ([0, 1, 1, 5, 2, 0, 1, 1, 6, 255, 9]) hl ge 11 rfl (by simp [maxLen]); have b3 := (own_sl b3w).1; have b3lo := bel.size; clear hl; have b3ge := ge; have lz_b3 := bb.size; have y_b3_b24 := Lib.hid (hlt hb24); have bl_b2_b3 := b2.bl_new; have d_b24_b29 := ne_new (hlt hb24) ge; have av_b2_b29 := b2.av_new ge; have of_b2_b29 := own_new b2w ge; have ob29 := Nat.le_trans bel.size ge; replace hb24 := blk_u hb24 bb; replace b2 := b2.below bb; replace b2w := own_under b2w bb; replace lz_b2 := Nat.le_trans lz_b2 bb.size; replace bel := bel.trans (bb.mono bel.size); have hb29 := hh; clear hh lt ge bb; have av_b3_b24 := (own_sl b3w).2.av y_b3_b24.out))
  with_reducible refine (oget_any _ b3 (by decide)).mono ?_
  rintro e w6 ⟨A5, n5, c5, hs, rfl, ⟨en, hbd⟩, hn5, hb5, b6⟩
  replace hb24 := blk_u hb24 b6
  replace hb29 := blk_u hb29 b6
  replace b2 := b2.below b6
  replace b2w := own_under b2w b6
  replace b3 := b3.below b6
  replace b3w := own_under b3w b6
  replace lz_b2 := Nat.le_trans lz_b2 b6.size
  replace lz_b3 := Nat.le_trans lz_b3 b6.size
  replace bel := bel.trans (b6.mono bel.size)
  clear b6
  replace en : Sle opE 2 w6 (A5) (n5) (c5) (hs) := en
  rw [get_k3] at hbd
  rw [get_k3]
  obtain rfl : n5 = 2 := by rw [← en.1, hbd.1]; rfl
  obtain ⟨gE, oE, hE⟩ := en.place (by decide)
  subst hE
  obtain ⟨x0, x1, rfl, _, _, s0, s1⟩ := hbd.two
  have HX1 : Hid (x1.n = 0) := Lib.hid (by rw [← s1.1]; rfl)
  clear hbd hn5 hb5
  go_wp2_with (first | ((with_reducible show wpList _ _ _ (⟨some 35, _, _, _, _, _⟩ :: _) _ _); refine wpList_lit_n rfl 23 31 1 _ rfl #[.int .i64 0, .slice none 0 0] (.agg #[.int .i64 0, .slice none 0 0]) Try.underlying23 (by kernel_rfl) 2 (by kernel_rfl) (by decide) (by kernel_rfl) ?_; intro g35 w7 ge lt hh bb; have d_b24_b35 := ne_new (hlt hb24) ge; have d_b29_b35 := ne_new (hlt hb29) ge; have av_b2_b35 := b2.av_new ge; have of_b2_b35 := own_new b2w ge; have av_b3_b35 := b3.av_new ge; have of_b3_b35 := own_new b3w ge; have av_en_b35 := en.av_new ge; have av_s0_b35 := s0.av_new ge; have av_s1_b35 := s1.av_new ge; have ob35 := Nat.le_trans bel.size ge; replace hb24 := blk_u hb24 bb; replace hb29 := blk_u hb29 bb; replace b2 := b2.below bb; replace b2w := own_under b2w bb; replace b3 := b3.below bb; replace b3w := own_under b3w bb; replace en := en.below bb; replace s0 := s0.below bb; replace s1 := s1.below bb; replace lz_b2 := Nat.le_trans lz_b2 bb.size; replace lz_b3 := Nat.le_trans lz_b3 bb.size; replace bel := bel.trans (bb.mono bel.size); have hb35 := hh; clear hh lt ge bb; have r1 : Sle opE 2 w7 (some ⟨g35, 0, none⟩) (1) (1) ([⟨0, none, 0, 0⟩]) := sle_lit ([⟨0, none, 0, 0⟩]) (by decide) opE_len hb35 rfl (by simp [maxLen])))
  with_reducible refine (oput_any _ r1 (Bd.mk1 0 (Sl.nil _)) (by decide) (hb1 (by decide))).mono ?_
  rintro e w8 ⟨A7, n7, c7, rfl, _, b8⟩
  replace hb24 := blk_u hb24 b8
  replace hb29 := blk_u hb29 b8
  replace hb35 := blk_u hb35 b8
  replace b2 := b2.below b8
  replace b2w := own_under b2w b8
  replace b3 := b3.below b8
  replace b3w := own_under b3w b8
  replace en := en.below b8
  replace s0 := s0.below b8
  replace s1 := s1.below b8
  replace r1 := r1.below b8
  replace lz_b2 := Nat.le_trans lz_b2 b8.size
  replace lz_b3 := Nat.le_trans lz_b3 b8.size
  replace bel := bel.trans (b8.mono bel.size)
  clear b8
  rw [put_k1]
  go_wp2_with (first | ((with_reducible show wpList _ _ _ (⟨some 42, _, _, _, _, _⟩ :: _) _ _); refine wpList_lit_n rfl 23 31 2 _ rfl #[.int .i64 1, .slice none 0 0, .int .i64 1, .slice none 0 0] (.agg #[.int .i64 0, .slice none 0 0]) Try.underlying23 (by kernel_rfl) 2 (by kernel_rfl) (by decide) (by kernel_rfl) ?_; intro g42 w9 ge lt hh bb; have d_b24_b42 := ne_new (hlt hb24) ge; have d_b29_b42 := ne_new (hlt hb29) ge; have d_b35_b42 := ne_new (hlt hb35) ge; have av_b2_b42 := b2.av_new ge; have of_b2_b42 := own_new b2w ge; have av_b3_b42 := b3.av_new ge; have of_b3_b42 := own_new b3w ge; have av_en_b42 := en.av_new ge; have av_s0_b42 := s0.av_new ge; have av_s1_b42 := s1.av_new ge; have av_r1_b42 := r1.av_new ge; have ob42 := Nat.le_trans bel.size ge; replace hb24 := blk_u hb24 bb; replace hb29 := blk_u hb29 bb; replace hb35 := blk_u hb35 bb; replace b2 := b2.below bb; replace b2w := own_under b2w bb; replace b3 := b3.below bb; replace b3w := own_under b3w bb; replace en := en.below bb; replace s0 := s0.below bb; replace s1 := s1.below bb; replace r1 := r1.below bb; replace lz_b2 := Nat.le_trans lz_b2 bb.size; replace lz_b3 := Nat.le_trans lz_b3 bb.size; replace bel := bel.trans (bb.mono bel.size); have hb42 := hh; clear hh lt ge bb; have r2 : Sle opE 2 w9 (some ⟨g42, 0, none⟩) (2) (2) ([⟨1, none, 0, 0⟩, ⟨1, none, 0, 0⟩]) := sle_lit ([⟨1, none, 0, 0⟩, ⟨1, none, 0, 0⟩]) (by decide) opE_len hb42 rfl (by simp [maxLen])))
  with_reducible refine (oput_any _ r2 (Bd.mk2 1 1 (Sl.nil _) (Sl.nil _)) (by decide) (hb2 (by decide) (by decide))).mono ?_
  rintro e w10 ⟨A9, n9, c9, rfl, _, b10⟩
  replace hb24 := blk_u hb24 b10
  replace hb29 := blk_u hb29 b10
  replace hb35 := blk_u hb35 b10
  replace hb42 := blk_u hb42 b10
  replace b2 := b2.below b10
  replace b2w := own_under b2w b10
  replace b3 := b3.below b10
  replace b3w := own_under b3w b10
  replace en := en.below b10
  replace s0 := s0.below b10
  replace s1 := s1.below b10
  replace r1 := r1.below b10
  replace r2 := r2.below b10
  replace lz_b2 := Nat.le_trans lz_b2 b10.size
  replace lz_b3 := Nat.le_trans lz_b3 b10.size
  replace bel := bel.trans (b10.mono bel.size)
  clear b10
  rw [put_k2]
  go_wp2_with (first | ((with_reducible show wpList _ _ _ (⟨some 47, _, _, _, _, _⟩ :: _) _ _); refine wpList_make_g rfl (.const (.int .i64 1300)) (.const (.int .i64 1300)) 27 rfl 5 ii Try.underlying27 hii hz0 hz1 hz2 .i64 .i64 _ _ (1300) rfl rfl rfl rfl (by omega) ?_; intro g47 w11 ge sm bb; replace hb24 := blk_u hb24 bb; replace hb29 := blk_u hb29 bb; replace hb35 := blk_u hb35 bb; replace hb42 := blk_u hb42 bb; replace b2 := b2.below bb; replace b2w := own_under b2w bb; replace b3 := b3.below bb; replace b3w := own_under b3w bb; replace en := en.below bb; replace s0 := s0.below bb; replace s1 := s1.below bb; replace r1 := r1.below bb; replace r2 := r2.below bb; replace lz_b2 := Nat.le_trans lz_b2 bb.size; replace lz_b3 := Nat.le_trans lz_b3 bb.size; replace bel := bel.trans (bb.mono bel.size); have mk := sm; clear sm ge bb) | ((with_reducible show wpList _ _ _ (⟨some 49, _, _, _, _, _⟩ :: _) _ _); refine wpList_lit_n rfl 23 31 1 _ rfl #[.int .i64 1, .slice (some ⟨g47, 0, none⟩) 1300 1300] (.agg #[.int .i64 0, .slice none 0 0]) Try.underlying23 (by kernel_rfl) 2 (by kernel_rfl) (by decide) (by kernel_rfl) ?_; intro g49 w12 ge lt hh bb; have d_b24_b49 := ne_new (hlt hb24) ge; have d_b29_b49 := ne_new (hlt hb29) ge; have d_b35_b49 := ne_new (hlt hb35) ge; have d_b42_b49 := ne_new (hlt hb42) ge; have av_b2_b49 := b2.av_new ge; have of_b2_b49 := own_new b2w ge; have av_b3_b49 := b3.av_new ge; have of_b3_b49 := own_new b3w ge; have av_en_b49 := en.av_new ge; have av_s0_b49 := s0.av_new ge; have av_s1_b49 := s1.av_new ge; have av_r1_b49 := r1.av_new ge; have av_r2_b49 := r2.av_new ge; have av_mk_b49 := mk.av_new ge; have ob49 := Nat.le_trans bel.size ge; replace hb24 := blk_u hb24 bb; replace hb29 := blk_u hb29 bb; replace hb35 := blk_u hb35 bb; replace hb42 := blk_u hb42 bb; replace b2 := b2.below bb; replace b2w := own_under b2w bb; replace b3 := b3.below bb; replace b3w := own_under b3w bb; replace en := en.below bb; replace s0 := s0.below bb; replace s1 := s1.below bb; replace r1 := r1.below bb; replace r2 := r2.below bb; replace mk := mk.below bb; replace lz_b2 := Nat.le_trans lz_b2 bb.size; replace lz_b3 := Nat.le_trans lz_b3 bb.size; replace bel := bel.trans (bb.mono bel.size); have hb49 := hh; clear hh lt ge bb; have r3 : Sle opE 2 w12 (some ⟨g49, 0, none⟩) (1) (1) ([⟨1, some ⟨g47, 0, none⟩, 1300, 1300⟩]) := sle_lit ([⟨1, some ⟨g47, 0, none⟩, 1300, 1300⟩]) (by decide) opE_len hb49 rfl (by simp [maxLen])))
  with_reducible refine (oput_any _ r3 (Bd.mk1 1 mk) (by decide) (hb1 (by decide))).mono ?_
  rintro e w13 ⟨A11, n11, c11, rfl, _, b13⟩
  replace hb24 := blk_u hb24 b13
  replace hb29 := blk_u hb29 b13
  replace hb35 := blk_u hb35 b13
  replace hb42 := blk_u hb42 b13
  replace hb49 := blk_u hb49 b13
  replace b2 := b2.below b13
  replace b2w := own_under b2w b13
  replace b3 := b3.below b13
  replace b3w := own_under b3w b13
  replace en := en.below b13
  replace s0 := s0.below b13
  replace s1 := s1.below b13
  replace r1 := r1.below b13
  replace r2 := r2.below b13
  replace mk := mk.below b13
  replace r3 := r3.below b13
  replace lz_b2 := Nat.le_trans lz_b2 b13.size
  replace lz_b3 := Nat.le_trans lz_b3 b13.size
  replace bel := bel.trans (b13.mono bel.size)
  clear b13
  rw [put_k3]
  go_wp2_with (first | ((with_reducible show wpList _ _ _ (⟨some 54, _, _, _, _, _⟩ :: _) _ _); refine wpList_lit_n rfl 27 5 4 _ rfl #[.int .u8 1, .int .u8 2, .int .u8 3, .int .u8 4] (.int .u8 0) Try.underlying27 (by kernel_rfl) 1 (by kernel_rfl) (by decide) (by kernel_rfl) ?_; intro g54 w14 ge lt hh bb; have hl : w14.heap[g54]? = some (.cells (([1, 2, 3, 4] : List UInt8).map u8v).toArray 5 (0, 0)) := (by simpa [u8v, byteOf_val] using hh); have q4w := own_lit (B := w13.heap.size) ([1, 2, 3, 4]) hl ge 4 rfl (by simp [maxLen]); have q4 := (own_sl q4w).1; have q4lo := bel.size; clear hl; have q4ge := ge; have lz_q4 := bb.size; have y_q4_b24 := Lib.hid (hlt hb24); have y_q4_b29 := Lib.hid (hlt hb29); have y_q4_b35 := Lib.hid (hlt hb35); have y_q4_b42 := Lib.hid (hlt hb42); have y_q4_b49 := Lib.hid (hlt hb49); have bl_b2_q4 := b2.bl_new; have bl_b3_q4 := b3.bl_new; have bl_en_q4 := en.bl_new; have bl_s0_q4 := s0.bl_new; have bl_s1_q4 := s1.bl_new; have bl_r1_q4 := r1.bl_new; have bl_r2_q4 := r2.bl_new; have bl_mk_q4 := mk.bl_new; have bl_r3_q4 := r3.bl_new; have d_b24_b54 := ne_new (hlt hb24) ge; have d_b29_b54 := ne_new (hlt hb29) ge; have d_b35_b54 := ne_new (hlt hb35) ge; have d_b42_b54 := ne_new (hlt hb42) ge; have d_b49_b54 := ne_new (hlt hb49) ge; have av_b2_b54 := b2.av_new ge; have of_b2_b54 := own_new b2w ge; have av_b3_b54 := b3.av_new ge; have of_b3_b54 := own_new b3w ge; have av_en_b54 := en.av_new ge; have av_s0_b54 := s0.av_new ge; have av_s1_b54 := s1.av_new ge; have av_r1_b54 := r1.av_new ge; have av_r2_b54 := r2.av_new ge; have av_mk_b54 := mk.av_new ge; have av_r3_b54 := r3.av_new ge; have ob54 := Nat.le_trans bel.size ge; replace hb24 := blk_u hb24 bb; replace hb29 := blk_u hb29 bb; replace hb35 := blk_u hb35 bb; replace hb42 := blk_u hb42 bb; replace hb49 := blk_u hb49 bb; replace b2 := b2.below bb; replace b2w := own_under b2w bb; replace b3 := b3.below bb; replace b3w := own_under b3w bb; replace en := en.below bb; replace s0 := s0.below bb; replace s1 := s1.below bb; replace r1 := r1.below bb; replace r2 := r2.below bb; replace mk := mk.below bb; replace r3 := r3.below bb; replace lz_b2 := Nat.le_trans lz_b2 bb.size; replace lz_b3 := Nat.le_trans lz_b3 bb.size; replace bel := bel.trans (bb.mono bel.size); have hb54 := hh; clear hh lt ge bb; have av_q4_b24 := (own_sl q4w).2.av y_q4_b24.out; have av_q4_b29 := (own_sl q4w).2.av y_q4_b29.out; have av_q4_b35 := (own_sl q4w).2.av y_q4_b35.out; have av_q4_b42 := (own_sl q4w).2.av y_q4_b42.out; have av_q4_b49 := (own_sl q4w).2.av y_q4_b49.out) | ((with_reducible show wpList _ _ _ (⟨some 56, _, _, _, _, _⟩ :: _) _ _); refine wpList_lit_n rfl 23 31 1 _ rfl #[.int .i64 1, .slice (some ⟨g54, 0, none⟩) 4 4] (.agg #[.int .i64 0, .slice none 0 0]) Try.underlying23 (by kernel_rfl) 2 (by kernel_rfl) (by decide) (by kernel_rfl) ?_; intro g56 w15 ge lt hh bb; have d_b24_b56 := ne_new (hlt hb24) ge; have d_b29_b56 := ne_new (hlt hb29) ge; have d_b35_b56 := ne_new (hlt hb35) ge; have d_b42_b56 := ne_new (hlt hb42) ge; have d_b49_b56 := ne_new (hlt hb49) ge; have d_b54_b56 := ne_new (hlt hb54) ge; have av_b2_b56 := b2.av_new ge; have of_b2_b56 := own_new b2w ge; have av_b3_b56 := b3.av_new ge; have of_b3_b56 := own_new b3w ge; have av_en_b56 := en.av_new ge; have av_s0_b56 := s0.av_new ge; have av_s1_b56 := s1.av_new ge; have av_r1_b56 := r1.av_new ge; have av_r2_b56 := r2.av_new ge; have av_mk_b56 := mk.av_new ge; have av_r3_b56 := r3.av_new ge; have av_q4_b56 := q4.av_new ge; have of_q4_b56 := own_new q4w ge; have ob56 := Nat.le_trans bel.size ge; replace hb24 := blk_u hb24 bb; replace hb29 := blk_u hb29 bb; replace hb35 := blk_u hb35 bb; replace hb42 := blk_u hb42 bb; replace hb49 := blk_u hb49 bb; replace hb54 := blk_u hb54 bb; replace b2 := b2.below bb; replace b2w := own_under b2w bb; replace b3 := b3.below bb; replace b3w := own_under b3w bb; replace en := en.below bb; replace s0 := s0.below bb; replace s1 := s1.below bb; replace r1 := r1.below bb; replace r2 := r2.below bb; replace mk := mk.below bb; replace r3 := r3.below bb; replace q4 := q4.below bb; replace q4w := own_under q4w bb; replace lz_b2 := Nat.le_trans lz_b2 bb.size; replace lz_b3 := Nat.le_trans lz_b3 bb.size; replace lz_q4 := Nat.le_trans lz_q4 bb.size; replace bel := bel.trans (bb.mono bel.size); have hb56 := hh; clear hh lt ge bb; have r8 : Sle opE 2 w15 (some ⟨g56, 0, none⟩) (1) (1) ([⟨1, some ⟨g54, 0, none⟩, 4, 4⟩]) := sle_lit ([⟨1, some ⟨g54, 0, none⟩, 4, 4⟩]) (by decide) opE_len hb56 rfl (by simp [maxLen])))
  with_reducible refine (kaddr _ r8 (Bd.mk1 1 q4) (by decide) (hb1 (by decide)) four_k1).mono ?_
  rintro e w16 ⟨rfl, b16⟩
  replace hb24 := blk_u hb24 b16
  replace hb29 := blk_u hb29 b16
  replace hb35 := blk_u hb35 b16
  replace hb42 := blk_u hb42 b16
  replace hb49 := blk_u hb49 b16
  replace hb54 := blk_u hb54 b16
  replace hb56 := blk_u hb56 b16
  replace b2 := b2.below b16
  replace b2w := own_under b2w b16
  replace b3 := b3.below b16
  replace b3w := own_under b3w b16
  replace en := en.below b16
  replace s0 := s0.below b16
  replace s1 := s1.below b16
  replace r1 := r1.below b16
  replace r2 := r2.below b16
  replace mk := mk.below b16
  replace r3 := r3.below b16
  replace q4 := q4.below b16
  replace q4w := own_under q4w b16
  replace r8 := r8.below b16
  replace lz_b2 := Nat.le_trans lz_b2 b16.size
  replace lz_b3 := Nat.le_trans lz_b3 b16.size
  replace lz_q4 := Nat.le_trans lz_q4 b16.size
  replace bel := bel.trans (b16.mono bel.size)
  clear b16
  go_wp2_with (first | ((with_reducible show wpList _ _ _ (⟨some 13, _, _, _, _, _⟩ :: _) _ _); refine wpList_new_a rfl 33 rfl #[.int .u8 0, .int .u8 0, .int .u8 0, .int .u8 0] (by kernel_rfl) ?_; intro g13 w17 ge hh bb; have d_b24_ab := ne_new (hlt hb24) ge; have d_b29_ab := ne_new (hlt hb29) ge; have d_b35_ab := ne_new (hlt hb35) ge; have d_b42_ab := ne_new (hlt hb42) ge; have d_b49_ab := ne_new (hlt hb49) ge; have d_b54_ab := ne_new (hlt hb54) ge; have d_b56_ab := ne_new (hlt hb56) ge; have av_b2_ab := b2.av_new ge; have of_b2_ab := own_new b2w ge; have av_b3_ab := b3.av_new ge; have of_b3_ab := own_new b3w ge; have av_en_ab := en.av_new ge; have av_s0_ab := s0.av_new ge; have av_s1_ab := s1.av_new ge; have av_r1_ab := r1.av_new ge; have av_r2_ab := r2.av_new ge; have av_mk_ab := mk.av_new ge; have av_r3_ab := r3.av_new ge; have av_q4_ab := q4.av_new ge; have of_q4_ab := own_new q4w ge; have av_r8_ab := r8.av_new ge; have oab := Nat.le_trans bel.size ge; replace hb24 := blk_u hb24 bb; replace hb29 := blk_u hb29 bb; replace hb35 := blk_u hb35 bb; replace hb42 := blk_u hb42 bb; replace hb49 := blk_u hb49 bb; replace hb54 := blk_u hb54 bb; replace hb56 := blk_u hb56 bb; replace b2 := b2.below bb; replace b2w := own_under b2w bb; replace b3 := b3.below bb; replace b3w := own_under b3w bb; replace en := en.below bb; replace s0 := s0.below bb; replace s1 := s1.below bb; replace r1 := r1.below bb; replace r2 := r2.below bb; replace mk := mk.below bb; replace r3 := r3.below bb; replace q4 := q4.below bb; replace q4w := own_under q4w bb; replace r8 := r8.below bb; replace lz_b2 := Nat.le_trans lz_b2 bb.size; replace lz_b3 := Nat.le_trans lz_b3 bb.size; replace lz_q4 := Nat.le_trans lz_q4 bb.size; replace bel := bel.trans (bb.mono bel.size); have hab := hh; clear hh ge bb) | ((with_reducible show wpList _ _ _ (⟨none, Op.store _ (.tmp 13) _, _, _, _, _⟩ :: _) _ _); refine wpList_store_blk rfl 33 (.tmp 13) (.tmp 58) rfl g13 rfl _ rfl _ 33 hab (by rfl) (by kernel_rfl) (by kernel_rfl) ?_; intro w18 hq gr; replace b2 := b2.away av_b2_ab gr; replace b2w := own_off b2w of_b2_ab gr; replace b3 := b3.away av_b3_ab gr; replace b3w := own_off b3w of_b3_ab gr; replace en := en.away av_en_ab gr; replace s0 := s0.away av_s0_ab gr; replace s1 := s1.away av_s1_ab gr; replace r1 := r1.away av_r1_ab gr; replace r2 := r2.away av_r2_ab gr; replace mk := mk.away av_mk_ab gr; replace r3 := r3.away av_r3_ab gr; replace q4 := q4.away av_q4_ab gr; replace q4w := own_off q4w of_q4_ab gr; replace r8 := r8.away av_r8_ab gr; replace lz_b2 := Nat.le_trans lz_b2 gr.size; replace lz_b3 := Nat.le_trans lz_b3 gr.size; replace lz_q4 := Nat.le_trans lz_q4 gr.size; replace hb24 := blk_a hb24 gr d_b24_ab; replace hb29 := blk_a hb29 gr d_b29_ab; replace hb35 := blk_a hb35 gr d_b35_ab; replace hb42 := blk_a hb42 gr d_b42_ab; replace hb49 := blk_a hb49 gr d_b49_ab; replace hb54 := blk_a hb54 gr d_b54_ab; replace hb56 := blk_a hb56 gr d_b56_ab; replace bel := below_grown bel gr oab bel.size; clear hab; have hab := hq; clear hq gr) | ((with_reducible show wpList _ _ _ (⟨some 61, _, _, _, _, _⟩ :: _) _ _); refine wpList_lit_n rfl 27 5 3 _ rfl #[.int .u8 1, .int .u8 2, .int .u8 3] (.int .u8 0) Try.underlying27 (by kernel_rfl) 1 (by kernel_rfl) (by decide) (by kernel_rfl) ?_; intro g61 w19 ge lt hh bb; have hl : w19.heap[g61]? = some (.cells (([1, 2, 3] : List UInt8).map u8v).toArray 5 (0, 0)) := (by simpa [u8v, byteOf_val] using hh); have q3w := own_lit (B := w18.heap.size) ([1, 2, 3]) hl ge 3 rfl (by simp [maxLen]); have q3 := (own_sl q3w).1; have q3lo := bel.size; clear hl; have q3ge := ge; have lz_q3 := bb.size; have y_q3_b24 := Lib.hid (hlt hb24); have y_q3_b29 := Lib.hid (hlt hb29); have y_q3_b35 := Lib.hid (hlt hb35); have y_q3_b42 := Lib.hid (hlt hb42); have y_q3_b49 := Lib.hid (hlt hb49); have y_q3_b54 := Lib.hid (hlt hb54); have y_q3_b56 := Lib.hid (hlt hb56); have y_q3_ab := Lib.hid (hlt hab); have bl_b2_q3 := b2.bl_new; have bl_b3_q3 := b3.bl_new; have bl_en_q3 := en.bl_new; have bl_s0_q3 := s0.bl_new; have bl_s1_q3 := s1.bl_new; have bl_r1_q3 := r1.bl_new; have bl_r2_q3 := r2.bl_new; have bl_mk_q3 := mk.bl_new; have bl_r3_q3 := r3.bl_new; have bl_q4_q3 := q4.bl_new; have bl_r8_q3 := r8.bl_new; have d_b24_b61 := ne_new (hlt hb24) ge; have d_b29_b61 := ne_new (hlt hb29) ge; have d_b35_b61 := ne_new (hlt hb35) ge; have d_b42_b61 := ne_new (hlt hb42) ge; have d_b49_b61 := ne_new (hlt hb49) ge; have d_b54_b61 := ne_new (hlt hb54) ge; have d_b56_b61 := ne_new (hlt hb56) ge; have d_ab_b61 := ne_new (hlt hab) ge; have av_b2_b61 := b2.av_new ge; have of_b2_b61 := own_new b2w ge; have av_b3_b61 := b3.av_new ge; have of_b3_b61 := own_new b3w ge; have av_en_b61 := en.av_new ge; have av_s0_b61 := s0.av_new ge; have av_s1_b61 := s1.av_new ge; have av_r1_b61 := r1.av_new ge; have av_r2_b61 := r2.av_new ge; have av_mk_b61 := mk.av_new ge; have av_r3_b61 := r3.av_new ge; have av_q4_b61 := q4.av_new ge; have of_q4_b61 := own_new q4w ge; have av_r8_b61 := r8.av_new ge; have ob61 := Nat.le_trans bel.size ge; replace hb24 := blk_u hb24 bb; replace hb29 := blk_u hb29 bb; replace hb35 := blk_u hb35 bb; replace hb42 := blk_u hb42 bb; replace hb49 := blk_u hb49 bb; replace hb54 := blk_u hb54 bb; replace hb56 := blk_u hb56 bb; replace hab := blk_u hab bb; replace b2 := b2.below bb; replace b2w := own_under b2w bb; replace b3 := b3.below bb; replace b3w := own_under b3w bb; replace en := en.below bb; replace s0 := s0.below bb; replace s1 := s1.below bb; replace r1 := r1.below bb; replace r2 := r2.below bb; replace mk := mk.below bb; replace r3 := r3.below bb; replace q4 := q4.below bb; replace q4w := own_under q4w bb; replace r8 := r8.below bb; replace lz_b2 := Nat.le_trans lz_b2 bb.size; replace lz_b3 := Nat.le_trans lz_b3 bb.size; replace lz_q4 := Nat.le_trans lz_q4 bb.size; replace bel := bel.trans (bb.mono bel.size); have hb61 := hh; clear hh lt ge bb; have av_q3_b24 := (own_sl q3w).2.av y_q3_b24.out; have av_q3_b29 := (own_sl q3w).2.av y_q3_b29.out; have av_q3_b35 := (own_sl q3w).2.av y_q3_b35.out; have av_q3_b42 := (own_sl q3w).2.av y_q3_b42.out; have av_q3_b49 := (own_sl q3w).2.av y_q3_b49.out; have av_q3_b54 := (own_sl q3w).2.av y_q3_b54.out; have av_q3_b56 := (own_sl q3w).2.av y_q3_b56.out; have av_q3_ab := (own_sl q3w).2.av y_q3_ab.out) | ((with_reducible show wpList _ _ _ (⟨some 63, _, _, _, _, _⟩ :: _) _ _); refine wpList_lit_n rfl 23 31 1 _ rfl #[.int .i64 1, .slice (some ⟨g61, 0, none⟩) 3 3] (.agg #[.int .i64 0, .slice none 0 0]) Try.underlying23 (by kernel_rfl) 2 (by kernel_rfl) (by decide) (by kernel_rfl) ?_; intro g63 w20 ge lt hh bb; have d_b24_b63 := ne_new (hlt hb24) ge; have d_b29_b63 := ne_new (hlt hb29) ge; have d_b35_b63 := ne_new (hlt hb35) ge; have d_b42_b63 := ne_new (hlt hb42) ge; have d_b49_b63 := ne_new (hlt hb49) ge; have d_b54_b63 := ne_new (hlt hb54) ge; have d_b56_b63 := ne_new (hlt hb56) ge; have d_ab_b63 := ne_new (hlt hab) ge; have d_b61_b63 := ne_new (hlt hb61) ge; have av_b2_b63 := b2.av_new ge; have of_b2_b63 := own_new b2w ge; have av_b3_b63 := b3.av_new ge; have of_b3_b63 := own_new b3w ge; have av_en_b63 := en.av_new ge; have av_s0_b63 := s0.av_new ge; have av_s1_b63 := s1.av_new ge; have av_r1_b63 := r1.av_new ge; have av_r2_b63 := r2.av_new ge; have av_mk_b63 := mk.av_new ge; have av_r3_b63 := r3.av_new ge; have av_q4_b63 := q4.av_new ge; have of_q4_b63 := own_new q4w ge; have av_r8_b63 := r8.av_new ge; have av_q3_b63 := q3.av_new ge; have of_q3_b63 := own_new q3w ge; have ob63 := Nat.le_trans bel.size ge; replace hb24 := blk_u hb24 bb; replace hb29 := blk_u hb29 bb; replace hb35 := blk_u hb35 bb; replace hb42 := blk_u hb42 bb; replace hb49 := blk_u hb49 bb; replace hb54 := blk_u hb54 bb; replace hb56 := blk_u hb56 bb; replace hab := blk_u hab bb; replace hb61 := blk_u hb61 bb; replace b2 := b2.below bb; replace b2w := own_under b2w bb; replace b3 := b3.below bb; replace b3w := own_under b3w bb; replace en := en.below bb; replace s0 := s0.below bb; replace s1 := s1.below bb; replace r1 := r1.below bb; replace r2 := r2.below bb; replace mk := mk.below bb; replace r3 := r3.below bb; replace q4 := q4.below bb; replace q4w := own_under q4w bb; replace r8 := r8.below bb; replace q3 := q3.below bb; replace q3w := own_under q3w bb; replace lz_b2 := Nat.le_trans lz_b2 bb.size; replace lz_b3 := Nat.le_trans lz_b3 bb.size; replace lz_q4 := Nat.le_trans lz_q4 bb.size; replace lz_q3 := Nat.le_trans lz_q3 bb.size; replace bel := bel.trans (bb.mono bel.size); have hb63 := hh; clear hh lt ge bb; have r9 : Sle opE 2 w20 (some ⟨g63, 0, none⟩) (1) (1) ([⟨1, some ⟨g61, 0, none⟩, 3, 3⟩]) := sle_lit ([⟨1, some ⟨g61, 0, none⟩, 3, 3⟩]) (by decide) opE_len hb63 rfl (by simp [maxLen])))
  with_reducible refine (ksecs _ r9 (Bd.mk1 1 q3) (by decide) (hb1 (by decide)) four_k2).mono ?_
  rintro e w21 ⟨rfl, b21⟩
  replace hb24 := blk_u hb24 b21
  replace hb29 := blk_u hb29 b21
  replace hb35 := blk_u hb35 b21
  replace hb42 := blk_u hb42 b21
  replace hb49 := blk_u hb49 b21
  replace hb54 := blk_u hb54 b21
  replace hb56 := blk_u hb56 b21
  replace hab := blk_u hab b21
  replace hb61 := blk_u hb61 b21
  replace hb63 := blk_u hb63 b21
  replace b2 := b2.below b21
  replace b2w := own_under b2w b21
  replace b3 := b3.below b21
  replace b3w := own_under b3w b21
  replace en := en.below b21
  replace s0 := s0.below b21
  replace s1 := s1.below b21
  replace r1 := r1.below b21
  replace r2 := r2.below b21
  replace mk := mk.below b21
  replace r3 := r3.below b21
  replace q4 := q4.below b21
  replace q4w := own_under q4w b21
  replace r8 := r8.below b21
  replace q3 := q3.below b21
  replace q3w := own_under q3w b21
  replace r9 := r9.below b21
  replace lz_b2 := Nat.le_trans lz_b2 b21.size
  replace lz_b3 := Nat.le_trans lz_b3 b21.size
  replace lz_q4 := Nat.le_trans lz_q4 b21.size
  replace lz_q3 := Nat.le_trans lz_q3 b21.size
  replace bel := bel.trans (b21.mono bel.size)
  clear b21
  have e0 : (x1.n : Int) = 0 := by have := HX1.out; omega
  have R86 := Sle.lit en (show [x0, x1][0]? = some x0 from rfl) 1 _ rfl 1 rfl
  have st87 := s0.str (P := Try.prog) 27 5 9 Try.underlying27 Try.underlying5 Try.underlying9
  have R94 := Sle.lit en (show [x0, x1][1]? = some x1 from rfl) 1 _ rfl 3 rfl
  have R114 := Lib.hid (range_lit hab 0 4 [.int .u8 1, .int .u8 2, .int .u8 3, .int .u8 4] rfl)
  go_wp2_with (first | ((with_reducible show wpList _ _ _ (⟨some 114, _, _, _, _, _⟩ :: _) _ _); refine wpList_load_rng 33 (.tmp 13) rfl (by kernel_rfl) _ _ rfl _ R114.out _ Try.underlying33 rfl (by kernel_rfl) ?_))
  try clear R86
  try clear st87
  try clear R94
  try clear R114
  go_ret
  exact ⟨rfl, bel⟩
end Go.Proofs.Ytmbkjkcehodghaa
