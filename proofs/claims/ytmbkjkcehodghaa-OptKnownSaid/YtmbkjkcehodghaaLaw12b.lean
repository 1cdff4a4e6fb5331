/- OptJoins. -/
import Derived.Test.YtmbkjkcehodghaaOp7
namespace Go.Proofs.Ytmbkjkcehodghaa
open Go.RowKit

theorem Sle.lit {α : Type} {f : α → List Value} {k : Nat} {w : World} {g o n c i : Nat} {l : List α} {x : α} (h : Sle f k w (some ⟨g, o, none⟩) n c l) (hx : l[i]? = some x) (a : Nat) (v : Value) (hv : (f x)[a]? = some v) (q : Nat) (hq : i * k + a = q) : w.cell? ⟨g, o + q, none⟩ = some v := by
  have := h.cellk hx a v hv
  rw [Nat.add_assoc, hq] at this
  exact this
theorem Sle.lit0 {α : Type} {f : α → List Value} {k : Nat} {w : World} {g o n c i : Nat} {l : List α} {x : α} (h : Sle f k w (some ⟨g, o, none⟩) n c l) (hx : l[i]? = some x) (a : Nat) (v : Value) (hv : (f x)[a]? = some v) (hq : i * k + a = 0) : w.cell? ⟨g, o, none⟩ = some v := h.lit hx a v hv 0 hq
theorem Sle.zlit {α : Type} {f : α → List Value} {k : Nat} {w : World} {g n c i : Nat} {l : List α} {x : α} (h : Sle f k w (some ⟨g, 0, none⟩) n c l) (hx : l[i]? = some x) (a : Nat) (v : Value) (hv : (f x)[a]? = some v) (q : Nat) (hq : i * k + a = q) : w.cell? ⟨g, q, none⟩ = some v := by
  have := h.lit hx a v hv q hq
  rw [Nat.zero_add] at this
  exact this
theorem Bd.two {w : World} {hs : List Oh} {p q : Int × List UInt8} (h : Bd w hs [p, q]) : ∃ x y, hs = [x, y] ∧ x.c = p.1 ∧ y.c = q.1 ∧ Sl w x.A x.n x.cp p.2 ∧ Sl w y.A y.n y.cp q.2 := by
  obtain ⟨h1, h2⟩ := h
  match hs, h1 with
  | [x, y], _ => exact ⟨x, y, rfl, (h2 0 x p rfl rfl).1, (h2 1 y q rfl rfl).1, (h2 0 x p rfl rfl).2, (h2 1 y q rfl rfl).2⟩
theorem byteOf_len {n : Nat} (h : n ≤ 255) : (byteOf (n : Int)).toNat = n := by
  have := byteOf_val (n : Int)
  omega
theorem join_two {la lc : List UInt8} {lb : List UInt8} : joinL [(7, la), (9, lb)] 7 lc = [(7, la ++ lc), (9, lb)] := by
  simp [joinL]
theorem joins_get {la lb lc : List UInt8} {na nb nc : Nat} (ha : la.length = na) (hb : lb.length = nb) (hc : lc.length = nc) (h1 : na ≤ 255) (h2 : nb ≤ 255) (h3 : nc ≤ 255) :
    getS ([7, byteOf (na : Int)] ++ la ++ [0, 9, byteOf (nb : Int)] ++ lb ++ [0, 0, 7, byteOf (nc : Int)] ++ lc ++ [255, 1, 2, 3]) = ([(7, la ++ lc), (9, lb)], 0) := by
  refine gets_ok ?_
  simp only [List.append_assoc, List.cons_append, List.nil_append]
  rw [get_one (by decide) (by decide) (by rw [byteOf_len h1, List.length_append]; omega), byteOf_len h1, List.drop_left' ha, List.take_left' ha, get_pad,
    get_one (by decide) (by decide) (by rw [byteOf_len h2, List.length_append]; omega), byteOf_len h2, List.drop_left' hb, List.take_left' hb, get_pad, get_pad,
    get_one (by decide) (by decide) (by rw [byteOf_len h3, List.length_append]; omega), byteOf_len h3, List.drop_left' hc, List.take_left' hc, get_end]
  have e1 : joinL [] ((7 : UInt8).toNat : Int) la = [(7, la)] := rfl
  have e2 : joinL [(7, la)] ((9 : UInt8).toNat : Int) lb = [(7, la), (9, lb)] := rfl
  rw [e1, e2]
  exact congrArg some join_two
set_option linter.unusedVariables false in
set_option linter.unusedSimpArgs false in
set_option maxRecDepth 100000 in
set_option maxHeartbeats 16000000 in
theorem optJoins_walk (A : Option Addr) (na c : Nat) (la : List UInt8) (B : Option Addr) (nb d : Nat) (lb : List UInt8) (C : Option Addr) (nc f : Nat) (lc : List UInt8) (w : World) (sa : Sl w A na c la) (sb : Sl w B nb d lb) (sc : Sl w C nc f lc) : Calls Try.prog 6 #[.slice A na c, .slice B nb d, .slice C nc f] w fun e w' => e = .returned (.bool true) ∧ Below w.heap.size w w' := by
  have HLA := Lib.hid sa.1
  have HLB := Lib.hid sb.1
  have HLC := Lib.hid sc.1
  obtain ⟨ii, hii, hz0, hz1, hz2⟩ := info_parts Try.info_u8
  have bel := Below.refl w.heap.size w
  go_enter Try.func6, Try.ntmps6
  go_wp2_with fail
  with_reducible refine (awake12_any _).mono ?_
  rintro e w1 ⟨rfl, b1⟩
  replace sa := sa.below b1
  replace sb := sb.below b1
  replace sc := sc.below b1
  replace bel := bel.trans (b1.mono bel.size)
  clear b1
  by_cases h1 : 255 < na
  · have h1i : (255 : Int) < na := by omega
    go_wp2_with fail
    go_ret
    exact ⟨rfl, bel⟩
  have h1i : decide ((255 : Int) < na) = false := decide_eq_false (by omega)
  have H1 : Hid (na ≤ 255) := Lib.hid (by omega)
  clear h1
  by_cases h2 : 255 < nb
  · have h2i : (255 : Int) < nb := by omega
    go_wp2_with fail
    go_ret
    exact ⟨rfl, bel⟩
  have h2i : decide ((255 : Int) < nb) = false := decide_eq_false (by omega)
  have H2 : Hid (nb ≤ 255) := Lib.hid (by omega)
  clear h2
  by_cases h3 : 255 < nc
  · have h3i : (255 : Int) < nc := by omega
    go_wp2_with fail
    go_ret
    exact ⟨rfl, bel⟩
  have h3i : decide ((255 : Int) < nc) = false := decide_eq_false (by omega)
  have H3 : Hid (nc ≤ 255) := Lib.hid (by omega)
  clear h3
  have HGJ := Lib.hid (joins_get HLA.out HLB.out HLC.out H1.out H2.out H3.out)
  have sad := fun W => st_add (x := la) (y := lc) (by have h1 := H1.out; have h3 := H3.out; have h4 := HLA.out; have h5 := HLC.out; omega) W
  go_wp2_with (first | ((with_reducible show wpList _ _ _ (⟨some 28, _, _, _, _, _⟩ :: _) _ _); refine wpList_lit_n rfl 27 5 2 _ rfl #[.int .u8 7, .int .u8 ((na : Int) % 256)] (.int .u8 0) Try.underlying27 (by kernel_rfl) 1 (by kernel_rfl) (by decide) (by kernel_rfl) ?_; intro g28 w2 ge lt hh bb; have hl : w2.heap[g28]? = some (.cells (([7, byteOf (na : Int)] : List UInt8).map u8v).toArray 5 (0, 0)) := (by simpa [u8v, byteOf_val] using hh); have t0w := own_lit (B := w1.heap.size) ([7, byteOf (na : Int)]) hl ge 2 rfl (by simp [maxLen]); have t0 := (own_sl t0w).1; have t0lo := bel.size; clear hl; have t0ge := ge; have lz_t0 := bb.size; have bl_sa_t0 := sa.bl_new; have bl_sb_t0 := sb.bl_new; have bl_sc_t0 := sc.bl_new; have av_sa_b28 := sa.av_new ge; have av_sb_b28 := sb.av_new ge; have av_sc_b28 := sc.av_new ge; have ob28 := Nat.le_trans bel.size ge; replace sa := sa.below bb; replace sb := sb.below bb; replace sc := sc.below bb; replace bel := bel.trans (bb.mono bel.size); have hb28 := hh; clear hh lt ge bb) | ((with_reducible show wpList _ _ _ (⟨some 30, _, _, _, _, _⟩ :: _) _ _); refine wpList_append_bb _ rfl (.tmp 28) (.tmp 29) 27 rfl (w1.heap.size) 5 ii (.int .u8 0) Try.underlying27 hii hz0 hz1 hz2 rfl _ (2) ([7, byteOf (na : Int)]) rfl t0w (A) (na) (c) (la) rfl sa (by have h1 := H1.out; have h2 := H2.out; have h3 := H3.out; omega) lz_t0 ?_; intro v30 w3 own_ bb; replace sa := sa.under bl_sa_t0 bb; replace sb := sb.under bl_sb_t0 bb; replace sc := sc.under bl_sc_t0 bb; clear hb28; replace bel := bel.trans (bb.mono t0lo); have lz_t1 := Nat.le_trans lz_t0 bb.size; clear bb; clear t0 t0w lz_t0; replace own_ : w3.ownsRow (w1.heap.size) 5 1 v30 (2 + na) (([7, byteOf (na : Int)] ++ la : List UInt8).map u8v) := own_; obtain ⟨A30, c30, rfl⟩ := own_val own_; have t1w := own_; have t1 := (own_sl own_).1; have fr_t1 := (own_sl own_).2; clear own_) | ((with_reducible show wpList _ _ _ (⟨some 35, _, _, _, _, _⟩ :: _) _ _); refine wpList_lit_n rfl 27 5 3 _ rfl #[.int .u8 0, .int .u8 9, .int .u8 ((nb : Int) % 256)] (.int .u8 0) Try.underlying27 (by kernel_rfl) 1 (by kernel_rfl) (by decide) (by kernel_rfl) ?_; intro g35 w4 ge lt hh bb; have hl : w4.heap[g35]? = some (.cells (([0, 9, byteOf (nb : Int)] : List UInt8).map u8v).toArray 5 (0, 0)) := (by simpa [u8v, byteOf_val] using hh); have u0w := own_lit (B := w3.heap.size) ([0, 9, byteOf (nb : Int)]) hl ge 3 rfl (by simp [maxLen]); have u0 := (own_sl u0w).1; have u0lo := bel.size; clear hl; have u0ge := ge; have lz_u0 := bb.size; have bl_sa_u0 := sa.bl_new; have bl_sb_u0 := sb.bl_new; have bl_sc_u0 := sc.bl_new; have bl_t1_u0 := t1.bl_new; have av_sa_b35 := sa.av_new ge; have av_sb_b35 := sb.av_new ge; have av_sc_b35 := sc.av_new ge; have av_t1_b35 := t1.av_new ge; have of_t1_b35 := own_new t1w ge; have ob35 := Nat.le_trans bel.size ge; replace sa := sa.below bb; replace sb := sb.below bb; replace sc := sc.below bb; replace t1 := t1.below bb; replace t1w := own_under t1w bb; replace lz_t1 := Nat.le_trans lz_t1 bb.size; replace bel := bel.trans (bb.mono bel.size); have hb35 := hh; clear hh lt ge bb) | ((with_reducible show wpList _ _ _ (⟨some 36, _, _, _, _, _⟩ :: _) _ _); refine wpList_append_bg _ rfl (.tmp 31) (.tmp 35) 27 rfl (w1.heap.size) 5 ii (.int .u8 0) Try.underlying27 hii hz0 hz1 hz2 rfl _ (2 + na) ([7, byteOf (na : Int)] ++ la) rfl t1w (some ⟨g35, 0, none⟩) (3) (3) ([0, 9, byteOf (nb : Int)]) rfl u0 (by have h1 := H1.out; have h2 := H2.out; have h3 := H3.out; omega) lz_t1 ?_; intro v36 w5 own_ bb gw ofw; have of36_b35 := ofw _ (hlt hb35) of_t1_b35; clear ofw; replace sa := sa.under bl_sa_t0 bb; replace sb := sb.under bl_sb_t0 bb; replace sc := sc.under bl_sc_t0 bb; clear u0 u0w lz_u0; replace hb35 := blk_own hb35 gw of_t1_b35; clear gw; replace bel := bel.trans (bb.mono t0lo); have lz_t2 := Nat.le_trans lz_t1 bb.size; clear bb; clear t1 t1w lz_t1; replace own_ : w5.ownsRow (w1.heap.size) 5 1 v36 (2 + na + 3) (([7, byteOf (na : Int)] ++ la ++ [0, 9, byteOf (nb : Int)] : List UInt8).map u8v) := own_; obtain ⟨A36, c36, rfl⟩ := own_val own_; have t2w := own_; have t2 := (own_sl own_).1; have fr_t2 := (own_sl own_).2; clear own_; have av_t2_b35 := own_av t2w of36_b35) | ((with_reducible show wpList _ _ _ (⟨some 38, _, _, _, _, _⟩ :: _) _ _); refine wpList_append_bg _ rfl (.tmp 36) (.tmp 37) 27 rfl (w1.heap.size) 5 ii (.int .u8 0) Try.underlying27 hii hz0 hz1 hz2 rfl _ (2 + na + 3) ([7, byteOf (na : Int)] ++ la ++ [0, 9, byteOf (nb : Int)]) rfl t2w (B) (nb) (d) (lb) rfl sb (by have h1 := H1.out; have h2 := H2.out; have h3 := H3.out; omega) lz_t2 ?_; intro v38 w6 own_ bb gw ofw; have of38_b35 := ofw _ (hlt hb35) of36_b35; clear ofw; replace sa := sa.under bl_sa_t0 bb; replace sb := sb.under bl_sb_t0 bb; replace sc := sc.under bl_sc_t0 bb; replace hb35 := blk_own hb35 gw of36_b35; clear gw; replace bel := bel.trans (bb.mono t0lo); have lz_t3 := Nat.le_trans lz_t2 bb.size; clear bb; clear t2 t2w lz_t2; replace own_ : w6.ownsRow (w1.heap.size) 5 1 v38 (2 + na + 3 + nb) (([7, byteOf (na : Int)] ++ la ++ [0, 9, byteOf (nb : Int)] ++ lb : List UInt8).map u8v) := own_; obtain ⟨A38, c38, rfl⟩ := own_val own_; have t3w := own_; have t3 := (own_sl own_).1; have fr_t3 := (own_sl own_).2; clear own_; have av_t3_b35 := own_av t3w of38_b35) | ((with_reducible show wpList _ _ _ (⟨some 43, _, _, _, _, _⟩ :: _) _ _); refine wpList_lit_n rfl 27 5 4 _ rfl #[.int .u8 0, .int .u8 0, .int .u8 7, .int .u8 ((nc : Int) % 256)] (.int .u8 0) Try.underlying27 (by kernel_rfl) 1 (by kernel_rfl) (by decide) (by kernel_rfl) ?_; intro g43 w7 ge lt hh bb; have hl : w7.heap[g43]? = some (.cells (([0, 0, 7, byteOf (nc : Int)] : List UInt8).map u8v).toArray 5 (0, 0)) := (by simpa [u8v, byteOf_val] using hh); have u1w := own_lit (B := w6.heap.size) ([0, 0, 7, byteOf (nc : Int)]) hl ge 4 rfl (by simp [maxLen]); have u1 := (own_sl u1w).1; have u1lo := bel.size; clear hl; have u1ge := ge; have lz_u1 := bb.size; have y_u1_b35 := Lib.hid (hlt hb35); have bl_sa_u1 := sa.bl_new; have bl_sb_u1 := sb.bl_new; have bl_sc_u1 := sc.bl_new; have bl_t3_u1 := t3.bl_new; have d_b35_b43 := ne_new (hlt hb35) ge; have av_sa_b43 := sa.av_new ge; have av_sb_b43 := sb.av_new ge; have av_sc_b43 := sc.av_new ge; have av_t3_b43 := t3.av_new ge; have of_t3_b43 := own_new t3w ge; have ob43 := Nat.le_trans bel.size ge; replace hb35 := blk_u hb35 bb; replace sa := sa.below bb; replace sb := sb.below bb; replace sc := sc.below bb; replace t3 := t3.below bb; replace t3w := own_under t3w bb; replace lz_t3 := Nat.le_trans lz_t3 bb.size; replace bel := bel.trans (bb.mono bel.size); have hb43 := hh; clear hh lt ge bb; have av_u1_b35 := (own_sl u1w).2.av y_u1_b35.out) | ((with_reducible show wpList _ _ _ (⟨some 44, _, _, _, _, _⟩ :: _) _ _); refine wpList_append_bg _ rfl (.tmp 39) (.tmp 43) 27 rfl (w1.heap.size) 5 ii (.int .u8 0) Try.underlying27 hii hz0 hz1 hz2 rfl _ (2 + na + 3 + nb) ([7, byteOf (na : Int)] ++ la ++ [0, 9, byteOf (nb : Int)] ++ lb) rfl t3w (some ⟨g43, 0, none⟩) (4) (4) ([0, 0, 7, byteOf (nc : Int)]) rfl u1 (by have h1 := H1.out; have h2 := H2.out; have h3 := H3.out; omega) lz_t3 ?_; intro v44 w8 own_ bb gw ofw; have of44_b35 := ofw _ (hlt hb35) of38_b35; have of44_b43 := ofw _ (hlt hb43) of_t3_b43; clear ofw; replace sa := sa.under bl_sa_t0 bb; replace sb := sb.under bl_sb_t0 bb; replace sc := sc.under bl_sc_t0 bb; clear u1 u1w lz_u1; replace hb35 := blk_own hb35 gw of38_b35; replace hb43 := blk_own hb43 gw of_t3_b43; clear gw; replace bel := bel.trans (bb.mono t0lo); have lz_t4 := Nat.le_trans lz_t3 bb.size; clear bb; clear t3 t3w lz_t3; replace own_ : w8.ownsRow (w1.heap.size) 5 1 v44 (2 + na + 3 + nb + 4) (([7, byteOf (na : Int)] ++ la ++ [0, 9, byteOf (nb : Int)] ++ lb ++ [0, 0, 7, byteOf (nc : Int)] : List UInt8).map u8v) := own_; obtain ⟨A44, c44, rfl⟩ := own_val own_; have t4w := own_; have t4 := (own_sl own_).1; have fr_t4 := (own_sl own_).2; clear own_; have av_t4_b35 := own_av t4w of44_b35; have av_t4_b43 := own_av t4w of44_b43) | ((with_reducible show wpList _ _ _ (⟨some 46, _, _, _, _, _⟩ :: _) _ _); refine wpList_append_bg _ rfl (.tmp 44) (.tmp 45) 27 rfl (w1.heap.size) 5 ii (.int .u8 0) Try.underlying27 hii hz0 hz1 hz2 rfl _ (2 + na + 3 + nb + 4) ([7, byteOf (na : Int)] ++ la ++ [0, 9, byteOf (nb : Int)] ++ lb ++ [0, 0, 7, byteOf (nc : Int)]) rfl t4w (C) (nc) (f) (lc) rfl sc (by have h1 := H1.out; have h2 := H2.out; have h3 := H3.out; omega) lz_t4 ?_; intro v46 w9 own_ bb gw ofw; have of46_b35 := ofw _ (hlt hb35) of44_b35; have of46_b43 := ofw _ (hlt hb43) of44_b43; clear ofw; replace sa := sa.under bl_sa_t0 bb; replace sb := sb.under bl_sb_t0 bb; replace sc := sc.under bl_sc_t0 bb; replace hb35 := blk_own hb35 gw of44_b35; replace hb43 := blk_own hb43 gw of44_b43; clear gw; replace bel := bel.trans (bb.mono t0lo); have lz_t5 := Nat.le_trans lz_t4 bb.size; clear bb; clear t4 t4w lz_t4; replace own_ : w9.ownsRow (w1.heap.size) 5 1 v46 (2 + na + 3 + nb + 4 + nc) (([7, byteOf (na : Int)] ++ la ++ [0, 9, byteOf (nb : Int)] ++ lb ++ [0, 0, 7, byteOf (nc : Int)] ++ lc : List UInt8).map u8v) := own_; obtain ⟨A46, c46, rfl⟩ := own_val own_; have t5w := own_; have t5 := (own_sl own_).1; have fr_t5 := (own_sl own_).2; clear own_; have av_t5_b35 := own_av t5w of46_b35; have av_t5_b43 := own_av t5w of46_b43) | ((with_reducible show wpList _ _ _ (⟨some 49, _, _, _, _, _⟩ :: _) _ _); refine wpList_lit_n rfl 27 5 4 _ rfl #[.int .u8 255, .int .u8 1, .int .u8 2, .int .u8 3] (.int .u8 0) Try.underlying27 (by kernel_rfl) 1 (by kernel_rfl) (by decide) (by kernel_rfl) ?_; intro g49 w10 ge lt hh bb; have hl : w10.heap[g49]? = some (.cells (([255, 1, 2, 3] : List UInt8).map u8v).toArray 5 (0, 0)) := (by simpa [u8v, byteOf_val] using hh); have u2w := own_lit (B := w9.heap.size) ([255, 1, 2, 3]) hl ge 4 rfl (by simp [maxLen]); have u2 := (own_sl u2w).1; have u2lo := bel.size; clear hl; have u2ge := ge; have lz_u2 := bb.size; have y_u2_b35 := Lib.hid (hlt hb35); have y_u2_b43 := Lib.hid (hlt hb43); have bl_sa_u2 := sa.bl_new; have bl_sb_u2 := sb.bl_new; have bl_sc_u2 := sc.bl_new; have bl_t5_u2 := t5.bl_new; have d_b35_b49 := ne_new (hlt hb35) ge; have d_b43_b49 := ne_new (hlt hb43) ge; have av_sa_b49 := sa.av_new ge; have av_sb_b49 := sb.av_new ge; have av_sc_b49 := sc.av_new ge; have av_t5_b49 := t5.av_new ge; have of_t5_b49 := own_new t5w ge; have ob49 := Nat.le_trans bel.size ge; replace hb35 := blk_u hb35 bb; replace hb43 := blk_u hb43 bb; replace sa := sa.below bb; replace sb := sb.below bb; replace sc := sc.below bb; replace t5 := t5.below bb; replace t5w := own_under t5w bb; replace lz_t5 := Nat.le_trans lz_t5 bb.size; replace bel := bel.trans (bb.mono bel.size); have hb49 := hh; clear hh lt ge bb; have av_u2_b35 := (own_sl u2w).2.av y_u2_b35.out; have av_u2_b43 := (own_sl u2w).2.av y_u2_b43.out) | ((with_reducible show wpList _ _ _ (⟨some 50, _, _, _, _, _⟩ :: _) _ _); refine wpList_append_bg _ rfl (.tmp 48) (.tmp 49) 27 rfl (w1.heap.size) 5 ii (.int .u8 0) Try.underlying27 hii hz0 hz1 hz2 rfl _ (2 + na + 3 + nb + 4 + nc) ([7, byteOf (na : Int)] ++ la ++ [0, 9, byteOf (nb : Int)] ++ lb ++ [0, 0, 7, byteOf (nc : Int)] ++ lc) rfl t5w (some ⟨g49, 0, none⟩) (4) (4) ([255, 1, 2, 3]) rfl u2 (by have h1 := H1.out; have h2 := H2.out; have h3 := H3.out; omega) lz_t5 ?_; intro v50 w11 own_ bb gw ofw; have of50_b35 := ofw _ (hlt hb35) of46_b35; have of50_b43 := ofw _ (hlt hb43) of46_b43; have of50_b49 := ofw _ (hlt hb49) of_t5_b49; clear ofw; replace sa := sa.under bl_sa_t0 bb; replace sb := sb.under bl_sb_t0 bb; replace sc := sc.under bl_sc_t0 bb; clear u2 u2w lz_u2; replace hb35 := blk_own hb35 gw of46_b35; replace hb43 := blk_own hb43 gw of46_b43; replace hb49 := blk_own hb49 gw of_t5_b49; clear gw; replace bel := bel.trans (bb.mono t0lo); have lz_rb := Nat.le_trans lz_t5 bb.size; clear bb; clear t5 t5w lz_t5; replace own_ : w11.ownsRow (w1.heap.size) 5 1 v50 (2 + na + 3 + nb + 4 + nc + 4) (([7, byteOf (na : Int)] ++ la ++ [0, 9, byteOf (nb : Int)] ++ lb ++ [0, 0, 7, byteOf (nc : Int)] ++ lc ++ [255, 1, 2, 3] : List UInt8).map u8v) := own_; obtain ⟨A50, c50, rfl⟩ := own_val own_; have rbw := own_; have rb := (own_sl own_).1; have fr_rb := (own_sl own_).2; clear own_; have av_rb_b35 := own_av rbw of50_b35; have av_rb_b43 := own_av rbw of50_b43; have av_rb_b49 := own_av rbw of50_b49))
  with_reducible refine (oget_any _ rb (by have h1 := H1.out; have h2 := H2.out; have h3 := H3.out; omega)).mono ?_
  rintro e w12 ⟨A8, n8, c8, hs, rfl, ⟨en, hbd⟩, hn8, hb8, b12⟩
  replace hb35 := blk_u hb35 b12
  replace hb43 := blk_u hb43 b12
  replace hb49 := blk_u hb49 b12
  replace sa := sa.below b12
  replace sb := sb.below b12
  replace sc := sc.below b12
  replace rb := rb.below b12
  replace rbw := own_under rbw b12
  replace lz_rb := Nat.le_trans lz_rb b12.size
  replace bel := bel.trans (b12.mono bel.size)
  clear b12
  replace en : Sle opE 2 w12 (A8) (n8) (c8) (hs) := en
  rw [HGJ.out] at hbd
  rw [HGJ.out]
  obtain rfl : n8 = 2 := by rw [← en.1, hbd.1]; rfl
  obtain ⟨gE, oE, hE⟩ := en.place (by decide)
  subst hE
  obtain ⟨x0, x1, rfl, e7_, e9_, s0, s1⟩ := hbd.two
  have e7 : (x0.c == 7) = true := beq_iff_eq.2 e7_
  have e9 : (x1.c == 9) = true := beq_iff_eq.2 e9_
  clear hbd hn8 hb8 e7_ e9_
  go_wp2_with fail
  replace bel := bel.drew
  replace hb35 : w12.drew.heap[g35]? = _ := hb35
  replace hb43 : w12.drew.heap[g43]? = _ := hb43
  replace hb49 : w12.drew.heap[g49]? = _ := hb49
  replace sa := sa.drew
  replace sb := sb.drew
  replace sc := sc.drew
  replace rb := rb.drew
  replace rbw : w12.drew.ownsRow _ _ _ _ _ _ := rbw
  replace lz_rb : _ ≤ w12.drew.heap.size := lz_rb
  replace en := en.drew
  replace s0 := s0.drew
  replace s1 := s1.drew
  refine wp_region_held_drew (S := fun W => Sl W (x0.A) (x0.n) (x0.cp) (la ++ lc) ∧ Sl W (A) (na) (c) (la) ∧ Sl W (C) (nc) (f) (lc) ∧ Sl W (x1.A) (x1.n) (x1.cp) (lb) ∧ Sl W (B) (nb) (d) (lb) ∧ Sle opE 2 W (some ⟨gE, oE, none⟩) (2) (c8) ([x0, x1])) (by kernel_rfl) ⟨s0, sa, sc, s1, sb, en⟩ (fun hH => ?_)
  generalize w12.drew = w13 at bel hb35 hb43 hb49 sa sb sc rb en s0 s1 rbw lz_rb hH ⊢
  refine wpAnyH_take (i := 0) (v := ?_) rfl (by kernel_rfl) (by kernel_rfl) (by kernel_rfl) (fun _ _ _ h => h) (Or.inl ⟨by rfl, ?_⟩) hH ?_
  rotate_left
  · ((intro W hW; clear hW; go_simp) <;> with_reducible rfl)
  simp only [Act.put, List.getElem_toArray, List.getElem_cons_zero, List.setIfInBounds_toArray, List.set_cons_zero, List.set_cons_succ]
  refine wpAnyH_take (i := 1) (v := ?_) rfl (by kernel_rfl) (by kernel_rfl) (by kernel_rfl) (fun _ _ _ h => h) (Or.inl ⟨by rfl, ?_⟩) hH ?_
  rotate_left
  · ((intro W hW; clear hW; go_simp) <;> with_reducible rfl)
  simp only [Act.put, List.getElem_toArray, List.getElem_cons_zero, List.getElem_cons_succ, List.setIfInBounds_toArray, List.set_cons_zero, List.set_cons_succ]
  refine wpAnyH_take (i := 2) (v := ?_) rfl (by kernel_rfl) (by kernel_rfl) (by kernel_rfl) (fun _ _ _ h => h) (Or.inl ⟨by rfl, ?_⟩) hH ?_
  rotate_left
  · ((intro W hW; clear hW; go_simp) <;> with_reducible rfl)
  simp only [Act.put, List.getElem_toArray, List.getElem_cons_zero, List.getElem_cons_succ, List.setIfInBounds_toArray, List.set_cons_zero, List.set_cons_succ]
  refine wpAnyH_take (i := 3) (v := ?_) rfl (by kernel_rfl) (by kernel_rfl) (by kernel_rfl) (fun _ _ _ h => h) (Or.inl ⟨by rfl, ?_⟩) hH ?_
  rotate_left
  · ((intro W hW; clear hW; go_simp) <;> with_reducible rfl)
  simp only [Act.put, List.getElem_toArray, List.getElem_cons_zero, List.getElem_cons_succ, List.setIfInBounds_toArray, List.set_cons_zero, List.set_cons_succ]
  refine wpAnyH_take (i := 4) (v := ?_) rfl (by kernel_rfl) (by kernel_rfl) (by kernel_rfl) (fun _ _ _ h => h) (Or.inl ⟨by rfl, ?_⟩) hH ?_
  rotate_left
  · ((intro W hW; clear hW; go_simp) <;> with_reducible rfl)
  simp only [Act.put, List.getElem_toArray, List.getElem_cons_zero, List.getElem_cons_succ, List.setIfInBounds_toArray, List.set_cons_zero, List.set_cons_succ]
  refine wpAnyH_take (i := 5) (v := ?_) rfl (by kernel_rfl) (by kernel_rfl) (by kernel_rfl) (fun _ _ _ h => h) (Or.inl ⟨by rfl, ?_⟩) hH ?_
  rotate_left
  · ((intro W hW; clear hW; go_simp) <;> with_reducible rfl)
  simp only [Act.put, List.getElem_toArray, List.getElem_cons_zero, List.getElem_cons_succ, List.setIfInBounds_toArray, List.set_cons_zero, List.set_cons_succ]
  refine wpAnyH_take (i := 6) (v := ?_) rfl (by kernel_rfl) (by kernel_rfl) (by kernel_rfl) (fun _ _ _ h => h) (Or.inl ⟨by rfl, ?_⟩) hH ?_
  rotate_left
  · ((intro W hW; clear hW; go_simp) <;> with_reducible rfl)
  simp only [Act.put, List.getElem_toArray, List.getElem_cons_zero, List.getElem_cons_succ, List.setIfInBounds_toArray, List.set_cons_zero, List.set_cons_succ]
  refine wpAnyH_take (i := 7) (v := ?_) rfl (by kernel_rfl) (by kernel_rfl) (by kernel_rfl) (fun _ _ _ h => h) (Or.inl ⟨by rfl, ?_⟩) hH ?_
  rotate_left
  · ((intro W hW; clear hW; go_simp) <;> with_reducible rfl)
  simp only [Act.put, List.getElem_toArray, List.getElem_cons_zero, List.getElem_cons_succ, List.setIfInBounds_toArray, List.set_cons_zero, List.set_cons_succ]
  refine wpAnyH_take (i := 8) (v := ?_) rfl (by kernel_rfl) (by kernel_rfl) (by kernel_rfl) (fun _ _ _ h => h) (Or.inl ⟨by rfl, ?_⟩) hH ?_
  rotate_left
  · ((intro W hW; clear hW; go_simp) <;> with_reducible rfl)
  simp only [Act.put, List.getElem_toArray, List.getElem_cons_zero, List.getElem_cons_succ, List.setIfInBounds_toArray, List.set_cons_zero, List.set_cons_succ]
  refine wpAnyH_take (i := 9) (v := ?_) rfl (by kernel_rfl) (by kernel_rfl) (by kernel_rfl) (fun _ _ _ h => h) (Or.inl ⟨by rfl, ?_⟩) hH ?_
  rotate_left
  · ((intro W hW; clear hW; go_simp) <;> with_reducible rfl)
  simp only [Act.put, List.getElem_toArray, List.getElem_cons_zero, List.getElem_cons_succ, List.setIfInBounds_toArray, List.set_cons_zero, List.set_cons_succ]
  refine wpAnyH_take (i := 10) (v := ?_) rfl (by kernel_rfl) (by kernel_rfl) (by kernel_rfl) (fun _ _ _ h => h) (Or.inl ⟨by rfl, ?_⟩) hH ?_
  rotate_left
  · ((intro W hW; clear hW; go_simp) <;> with_reducible rfl)
  simp only [Act.put, List.getElem_toArray, List.getElem_cons_zero, List.getElem_cons_succ, List.setIfInBounds_toArray, List.set_cons_zero, List.set_cons_succ]
  refine wpAnyH_take (i := 11) (v := ?_) rfl (by kernel_rfl) (by kernel_rfl) (by kernel_rfl) (fun _ _ _ h => h) (Or.inl ⟨by rfl, ?_⟩) hH ?_
  rotate_left
  · ((intro W hW; have hk := Sle.lit0 (hW.2.2.2.2.2) (show [x0, x1][0]? = some x0 from rfl) 0 _ rfl rfl; clear hW; go_simp) <;> with_reducible rfl)
  simp only [Act.put, List.getElem_toArray, List.getElem_cons_zero, List.getElem_cons_succ, List.setIfInBounds_toArray, List.set_cons_zero, List.set_cons_succ]
  refine wpAnyH_take (i := 12) (v := ?_) rfl (by kernel_rfl) (by kernel_rfl) (by kernel_rfl) (fun _ _ _ h => h) (Or.inl ⟨by rfl, ?_⟩) hH ?_
  rotate_left
  · ((intro W hW; clear hW; go_simp) <;> with_reducible rfl)
  simp only [Act.put, List.getElem_toArray, List.getElem_cons_zero, List.getElem_cons_succ, List.setIfInBounds_toArray, List.set_cons_zero, List.set_cons_succ]
  refine wpAnyH_take (i := 13) (v := ?_) rfl (by kernel_rfl) (by kernel_rfl) (by kernel_rfl) (fun _ _ _ h => h) (Or.inl ⟨by rfl, ?_⟩) hH ?_
  rotate_left
  · ((intro W hW; clear hW; go_simp) <;> with_reducible rfl)
  simp only [Act.put, List.getElem_toArray, List.getElem_cons_zero, List.getElem_cons_succ, List.setIfInBounds_toArray, List.set_cons_zero, List.set_cons_succ]
  refine wpAnyH_take (i := 14) (v := ?_) rfl (by kernel_rfl) (by kernel_rfl) (by kernel_rfl) (fun _ _ _ h => h) (Or.inl ⟨by rfl, ?_⟩) hH ?_
  rotate_left
  · ((intro W hW; clear hW; go_simp) <;> with_reducible rfl)
  simp only [Act.put, List.getElem_toArray, List.getElem_cons_zero, List.getElem_cons_succ, List.setIfInBounds_toArray, List.set_cons_zero, List.set_cons_succ]
  refine wpAnyH_take (i := 15) (v := ?_) rfl (by kernel_rfl) (by kernel_rfl) (by kernel_rfl) (fun _ _ _ h => h) (Or.inl ⟨by rfl, ?_⟩) hH ?_
  rotate_left
  · ((intro W hW; clear hW; go_simp) <;> with_reducible rfl)
  simp only [Act.put, List.getElem_toArray, List.getElem_cons_zero, List.getElem_cons_succ, List.setIfInBounds_toArray, List.set_cons_zero, List.set_cons_succ]
  refine wpAnyH_take (i := 16) (v := ?_) rfl (by kernel_rfl) (by kernel_rfl) (by kernel_rfl) (fun _ _ _ h => h) (Or.inl ⟨by rfl, ?_⟩) hH ?_
  rotate_left
  · ((intro W hW; clear hW; go_simp) <;> with_reducible rfl)
  simp only [Act.put, List.getElem_toArray, List.getElem_cons_zero, List.getElem_cons_succ, List.setIfInBounds_toArray, List.set_cons_zero, List.set_cons_succ]
  refine wpAnyH_take (i := 17) (v := ?_) rfl (by kernel_rfl) (by kernel_rfl) (by kernel_rfl) (fun _ _ _ h => h) (Or.inl ⟨by rfl, ?_⟩) hH ?_
  rotate_left
  · ((intro W hW; clear hW; go_simp) <;> with_reducible rfl)
  simp only [Act.put, List.getElem_toArray, List.getElem_cons_zero, List.getElem_cons_succ, List.setIfInBounds_toArray, List.set_cons_zero, List.set_cons_succ]
  refine wpAnyH_take (i := 18) (v := ?_) rfl (by kernel_rfl) (by kernel_rfl) (by kernel_rfl) (fun _ _ _ h => h) (Or.inl ⟨by rfl, ?_⟩) hH ?_
  rotate_left
  · ((intro W hW; have hk := Sle.lit (hW.2.2.2.2.2) (show [x0, x1][0]? = some x0 from rfl) 1 _ rfl 1 rfl; clear hW; go_simp) <;> with_reducible rfl)
  simp only [Act.put, List.getElem_toArray, List.getElem_cons_zero, List.getElem_cons_succ, List.setIfInBounds_toArray, List.set_cons_zero, List.set_cons_succ]
  refine wpAnyH_take (i := 19) (v := ?_) rfl (by kernel_rfl) (by kernel_rfl) (by kernel_rfl) (fun _ _ _ h => h) (Or.inl ⟨by rfl, ?_⟩) hH ?_
  rotate_left
  · ((intro W hW; have st0 := (hW.1).str (P := Try.prog) 27 5 9 Try.underlying27 Try.underlying5 Try.underlying9; clear hW; go_simp) <;> with_reducible rfl)
  simp only [Act.put, List.getElem_toArray, List.getElem_cons_zero, List.getElem_cons_succ, List.setIfInBounds_toArray, List.set_cons_zero, List.set_cons_succ]
  refine wpAnyH_take (i := 20) (v := ?_) rfl (by kernel_rfl) (by kernel_rfl) (by kernel_rfl) (fun _ _ _ h => h) (Or.inl ⟨by rfl, ?_⟩) hH ?_
  rotate_left
  · ((intro W hW; clear hW; go_simp) <;> with_reducible rfl)
  simp only [Act.put, List.getElem_toArray, List.getElem_cons_zero, List.getElem_cons_succ, List.setIfInBounds_toArray, List.set_cons_zero, List.set_cons_succ]
  refine wpAnyH_take (i := 21) (v := ?_) rfl (by kernel_rfl) (by kernel_rfl) (by kernel_rfl) (fun _ _ _ h => h) (Or.inl ⟨by rfl, ?_⟩) hH ?_
  rotate_left
  · ((intro W hW; have st0 := (hW.2.1).str (P := Try.prog) 27 5 9 Try.underlying27 Try.underlying5 Try.underlying9; clear hW; go_simp) <;> with_reducible rfl)
  simp only [Act.put, List.getElem_toArray, List.getElem_cons_zero, List.getElem_cons_succ, List.setIfInBounds_toArray, List.set_cons_zero, List.set_cons_succ]
  refine wpAnyH_take (i := 22) (v := ?_) rfl (by kernel_rfl) (by kernel_rfl) (by kernel_rfl) (fun _ _ _ h => h) (Or.inl ⟨by rfl, ?_⟩) hH ?_
  rotate_left
  · ((intro W hW; clear hW; go_simp) <;> with_reducible rfl)
  simp only [Act.put, List.getElem_toArray, List.getElem_cons_zero, List.getElem_cons_succ, List.setIfInBounds_toArray, List.set_cons_zero, List.set_cons_succ]
  refine wpAnyH_take (i := 23) (v := ?_) rfl (by kernel_rfl) (by kernel_rfl) (by kernel_rfl) (fun _ _ _ h => h) (Or.inl ⟨by rfl, ?_⟩) hH ?_
  rotate_left
  · ((intro W hW; have st0 := (hW.2.2.1).str (P := Try.prog) 27 5 9 Try.underlying27 Try.underlying5 Try.underlying9; clear hW; go_simp) <;> with_reducible rfl)
  simp only [Act.put, List.getElem_toArray, List.getElem_cons_zero, List.getElem_cons_succ, List.setIfInBounds_toArray, List.set_cons_zero, List.set_cons_succ]
  refine wpAnyH_take (i := 24) (v := ?_) rfl (by kernel_rfl) (by kernel_rfl) (by kernel_rfl) (fun _ _ _ h => h) (Or.inl ⟨by rfl, ?_⟩) hH ?_
  rotate_left
  · ((intro W hW; clear hW; go_simp) <;> with_reducible rfl)
  simp only [Act.put, List.getElem_toArray, List.getElem_cons_zero, List.getElem_cons_succ, List.setIfInBounds_toArray, List.set_cons_zero, List.set_cons_succ]
  refine wpAnyH_take (i := 25) (v := ?_) rfl (by kernel_rfl) (by kernel_rfl) (by kernel_rfl) (fun _ _ _ h => h) (Or.inl ⟨by rfl, ?_⟩) hH ?_
  rotate_left
  · ((intro W hW; clear hW; go_simp) <;> with_reducible rfl)
  simp only [Act.put, List.getElem_toArray, List.getElem_cons_zero, List.getElem_cons_succ, List.setIfInBounds_toArray, List.set_cons_zero, List.set_cons_succ]
  refine wpAnyH_take (i := 26) (v := ?_) rfl (by kernel_rfl) (by kernel_rfl) (by kernel_rfl) (fun _ _ _ h => h) (Or.inl ⟨by rfl, ?_⟩) hH ?_
  rotate_left
  · ((intro W hW; clear hW; go_simp) <;> with_reducible rfl)
  simp only [Act.put, List.getElem_toArray, List.getElem_cons_zero, List.getElem_cons_succ, List.setIfInBounds_toArray, List.set_cons_zero, List.set_cons_succ]
  refine wpAnyH_take (i := 27) (v := ?_) rfl (by kernel_rfl) (by kernel_rfl) (by kernel_rfl) (fun _ _ _ h => h) (Or.inl ⟨by rfl, ?_⟩) hH ?_
  rotate_left
  · ((intro W hW; clear hW; go_simp) <;> with_reducible rfl)
  simp only [Act.put, List.getElem_toArray, List.getElem_cons_zero, List.getElem_cons_succ, List.setIfInBounds_toArray, List.set_cons_zero, List.set_cons_succ]
  refine wpAnyH_take (i := 28) (v := ?_) rfl (by kernel_rfl) (by kernel_rfl) (by kernel_rfl) (fun _ _ _ h => h) (Or.inl ⟨by rfl, ?_⟩) hH ?_
  rotate_left
  · ((intro W hW; clear hW; go_simp) <;> with_reducible rfl)
  simp only [Act.put, List.getElem_toArray, List.getElem_cons_zero, List.getElem_cons_succ, List.setIfInBounds_toArray, List.set_cons_zero, List.set_cons_succ]
  refine wpAnyH_take (i := 29) (v := ?_) rfl (by kernel_rfl) (by kernel_rfl) (by kernel_rfl) (fun _ _ _ h => h) (Or.inl ⟨by rfl, ?_⟩) hH ?_
  rotate_left
  · ((intro W hW; clear hW; go_simp) <;> with_reducible rfl)
  simp only [Act.put, List.getElem_toArray, List.getElem_cons_zero, List.getElem_cons_succ, List.setIfInBounds_toArray, List.set_cons_zero, List.set_cons_succ]
  refine wpAnyH_take (i := 30) (v := ?_) rfl (by kernel_rfl) (by kernel_rfl) (by kernel_rfl) (fun _ _ _ h => h) (Or.inl ⟨by rfl, ?_⟩) hH ?_
  rotate_left
  · ((intro W hW; clear hW; go_simp) <;> with_reducible rfl)
  simp only [Act.put, List.getElem_toArray, List.getElem_cons_zero, List.getElem_cons_succ, List.setIfInBounds_toArray, List.set_cons_zero, List.set_cons_succ]
  refine wpAnyH_take (i := 31) (v := ?_) rfl (by kernel_rfl) (by kernel_rfl) (by kernel_rfl) (fun _ _ _ h => h) (Or.inl ⟨by rfl, ?_⟩) hH ?_
  rotate_left
  · ((intro W hW; have hk := Sle.lit (hW.2.2.2.2.2) (show [x0, x1][1]? = some x1 from rfl) 0 _ rfl 2 rfl; clear hW; go_simp) <;> with_reducible rfl)
  simp only [Act.put, List.getElem_toArray, List.getElem_cons_zero, List.getElem_cons_succ, List.setIfInBounds_toArray, List.set_cons_zero, List.set_cons_succ]
  refine wpAnyH_take (i := 32) (v := ?_) rfl (by kernel_rfl) (by kernel_rfl) (by kernel_rfl) (fun _ _ _ h => h) (Or.inl ⟨by rfl, ?_⟩) hH ?_
  rotate_left
  · ((intro W hW; clear hW; go_simp) <;> with_reducible rfl)
  simp only [Act.put, List.getElem_toArray, List.getElem_cons_zero, List.getElem_cons_succ, List.setIfInBounds_toArray, List.set_cons_zero, List.set_cons_succ]
  refine wpAnyH_take (i := 33) (v := ?_) rfl (by kernel_rfl) (by kernel_rfl) (by kernel_rfl) (fun _ _ _ h => h) (Or.inl ⟨by rfl, ?_⟩) hH ?_
  rotate_left
  · ((intro W hW; clear hW; go_simp) <;> with_reducible rfl)
  simp only [Act.put, List.getElem_toArray, List.getElem_cons_zero, List.getElem_cons_succ, List.setIfInBounds_toArray, List.set_cons_zero, List.set_cons_succ]
  refine wpAnyH_take (i := 34) (v := ?_) rfl (by kernel_rfl) (by kernel_rfl) (by kernel_rfl) (fun _ _ _ h => h) (Or.inl ⟨by rfl, ?_⟩) hH ?_
  rotate_left
  · ((intro W hW; clear hW; go_simp) <;> with_reducible rfl)
  simp only [Act.put, List.getElem_toArray, List.getElem_cons_zero, List.getElem_cons_succ, List.setIfInBounds_toArray, List.set_cons_zero, List.set_cons_succ]
  refine wpAnyH_take (i := 35) (v := ?_) rfl (by kernel_rfl) (by kernel_rfl) (by kernel_rfl) (fun _ _ _ h => h) (Or.inl ⟨by rfl, ?_⟩) hH ?_
  rotate_left
  · ((intro W hW; clear hW; go_simp) <;> with_reducible rfl)
  simp only [Act.put, List.getElem_toArray, List.getElem_cons_zero, List.getElem_cons_succ, List.setIfInBounds_toArray, List.set_cons_zero, List.set_cons_succ]
  refine wpAnyH_take (i := 36) (v := ?_) rfl (by kernel_rfl) (by kernel_rfl) (by kernel_rfl) (fun _ _ _ h => h) (Or.inl ⟨by rfl, ?_⟩) hH ?_
  rotate_left
  · ((intro W hW; clear hW; go_simp) <;> with_reducible rfl)
  simp only [Act.put, List.getElem_toArray, List.getElem_cons_zero, List.getElem_cons_succ, List.setIfInBounds_toArray, List.set_cons_zero, List.set_cons_succ]
  refine wpAnyH_take (i := 37) (v := ?_) rfl (by kernel_rfl) (by kernel_rfl) (by kernel_rfl) (fun _ _ _ h => h) (Or.inl ⟨by rfl, ?_⟩) hH ?_
  rotate_left
  · ((intro W hW; clear hW; go_simp) <;> with_reducible rfl)
  simp only [Act.put, List.getElem_toArray, List.getElem_cons_zero, List.getElem_cons_succ, List.setIfInBounds_toArray, List.set_cons_zero, List.set_cons_succ]
  refine wpAnyH_take (i := 38) (v := ?_) rfl (by kernel_rfl) (by kernel_rfl) (by kernel_rfl) (fun _ _ _ h => h) (Or.inl ⟨by rfl, ?_⟩) hH ?_
  rotate_left
  · ((intro W hW; have hk := Sle.lit (hW.2.2.2.2.2) (show [x0, x1][1]? = some x1 from rfl) 1 _ rfl 3 rfl; clear hW; go_simp) <;> with_reducible rfl)
  simp only [Act.put, List.getElem_toArray, List.getElem_cons_zero, List.getElem_cons_succ, List.setIfInBounds_toArray, List.set_cons_zero, List.set_cons_succ]
  refine wpAnyH_take (i := 39) (v := ?_) rfl (by kernel_rfl) (by kernel_rfl) (by kernel_rfl) (fun _ _ _ h => h) (Or.inl ⟨by rfl, ?_⟩) hH ?_
  rotate_left
  · ((intro W hW; have st0 := (hW.2.2.2.1).str (P := Try.prog) 27 5 9 Try.underlying27 Try.underlying5 Try.underlying9; clear hW; go_simp) <;> with_reducible rfl)
  simp only [Act.put, List.getElem_toArray, List.getElem_cons_zero, List.getElem_cons_succ, List.setIfInBounds_toArray, List.set_cons_zero, List.set_cons_succ]
  refine wpAnyH_take (i := 40) (v := ?_) rfl (by kernel_rfl) (by kernel_rfl) (by kernel_rfl) (fun _ _ _ h => h) (Or.inl ⟨by rfl, ?_⟩) hH ?_
  rotate_left
  · ((intro W hW; clear hW; go_simp) <;> with_reducible rfl)
  simp only [Act.put, List.getElem_toArray, List.getElem_cons_zero, List.getElem_cons_succ, List.setIfInBounds_toArray, List.set_cons_zero, List.set_cons_succ]
  refine wpAnyH_take (i := 41) (v := ?_) rfl (by kernel_rfl) (by kernel_rfl) (by kernel_rfl) (fun _ _ _ h => h) (Or.inl ⟨by rfl, ?_⟩) hH ?_
  rotate_left
  · ((intro W hW; have st0 := (hW.2.2.2.2.1).str (P := Try.prog) 27 5 9 Try.underlying27 Try.underlying5 Try.underlying9; clear hW; go_simp) <;> with_reducible rfl)
  simp only [Act.put, List.getElem_toArray, List.getElem_cons_zero, List.getElem_cons_succ, List.setIfInBounds_toArray, List.set_cons_zero, List.set_cons_succ]
  refine wpAnyH_take (i := 42) (v := ?_) rfl (by kernel_rfl) (by kernel_rfl) (by kernel_rfl) (fun _ _ _ h => h) (Or.inl ⟨by rfl, ?_⟩) hH ?_
  rotate_left
  · ((intro W hW; clear hW; go_simp) <;> with_reducible rfl)
  simp only [Act.put, List.getElem_toArray, List.getElem_cons_zero, List.getElem_cons_succ, List.setIfInBounds_toArray, List.set_cons_zero, List.set_cons_succ]
  refine wpAnyH_take (i := 43) (v := ?_) rfl (by kernel_rfl) (by kernel_rfl) (by kernel_rfl) (fun _ _ _ h => h) (Or.inl ⟨by rfl, ?_⟩) hH ?_
  rotate_left
  · ((intro W hW; clear hW; go_simp) <;> with_reducible rfl)
  simp only [Act.put, List.getElem_toArray, List.getElem_cons_zero, List.getElem_cons_succ, List.setIfInBounds_toArray, List.set_cons_zero, List.set_cons_succ]
  refine wpAnyH_take (i := 44) (v := ?_) rfl (by kernel_rfl) (by kernel_rfl) (by kernel_rfl) (fun _ _ _ h => h) (Or.inl ⟨by rfl, ?_⟩) hH ?_
  rotate_left
  · ((intro W hW; clear hW; go_simp) <;> with_reducible rfl)
  simp only [Act.put, List.getElem_toArray, List.getElem_cons_zero, List.getElem_cons_succ, List.setIfInBounds_toArray, List.set_cons_zero, List.set_cons_succ]
  refine wpAnyH_done (by kernel_rfl) ?_ _
  go_wp2_with fail
  go_ret
  exact ⟨rfl, bel⟩
end Go.Proofs.Ytmbkjkcehodghaa
