/- OptWrites. -/
import Derived.Test.YtmbkjkcehodghaaOp7
namespace Go.Proofs.Ytmbkjkcehodghaa
open Go.RowKit

theorem join_last {acc : OptL} {c : Int} {b x : List UInt8} (h : ∀ p ∈ acc, ¬ p.1 = c) : joinL (acc ++ [(c, b)]) c x = acc ++ [(c, b ++ x)] := by
  unfold joinL
  rw [if_pos (by simp), List.map_append]
  have e : acc.map (fun p => if p.1 = c then (p.1, p.2 ++ x) else p) = acc := by
    conv => rhs; rw [← List.map_id acc]
    refine List.map_congr_left (fun p hp => ?_)
    simp [h p hp]
  rw [e]
  simp
theorem byteOf_lt {n : Nat} (h : n ≤ 255) : (byteOf (n : Int)).toNat = n := by
  have := byteOf_val (n : Int)
  omega
theorem get_pieces : ∀ (n : Nat) (c : UInt8) (b : List UInt8), b.length = n → ¬ c = 0 → ¬ c = 255 → ∀ (acc : OptL) (b0 r : List UInt8), (∀ p ∈ acc, ¬ p.1 = (c.toNat : Int)) →
    getL (piecesL c b ++ r) (acc ++ [((c.toNat : Int), b0)]) = getL r (acc ++ [((c.toNat : Int), b0 ++ b)]) := by
  intro n
  induction n using Nat.strongRecOn with
  | ind n ih =>
    intro c b hb h0 h5 acc b0 r hacc
    by_cases h : 255 < b.length
    · rw [pieces_long h]
      simp only [List.append_assoc, List.cons_append, List.nil_append]
      have e5 : (255 : UInt8).toNat = 255 := rfl
      rw [get_one h5 h0 (by rw [e5, List.length_append, List.length_take]; omega), e5, List.drop_left' (by rw [List.length_take]; omega), List.take_left' (by rw [List.length_take]; omega), join_last hacc,
        ih (n - 255) (by omega) c (b.drop 255) (by simp; omega) h0 h5 acc _ r hacc, List.append_assoc, List.take_append_drop]
    · rw [pieces_last (by omega)]
      simp only [List.cons_append, List.nil_append]
      rw [get_one h5 h0 (by rw [byteOf_lt (by omega), List.length_append]; omega), byteOf_lt (by omega), List.drop_left' rfl, List.take_left' rfl, join_last hacc]
theorem get_pieces0 {c : UInt8} {b : List UInt8} (h0 : ¬ c = 0) (h5 : ¬ c = 255) {acc : OptL} {r : List UInt8} (hacc : ∀ p ∈ acc, ¬ p.1 = (c.toNat : Int)) : getL (piecesL c b ++ r) acc = getL r (acc ++ [((c.toNat : Int), b)]) := by
  by_cases h : 255 < b.length
  · rw [pieces_long h]
    simp only [List.append_assoc, List.cons_append, List.nil_append]
    have e5 : (255 : UInt8).toNat = 255 := rfl
    rw [get_one h5 h0 (by rw [e5, List.length_append, List.length_take]; omega), e5, List.drop_left' (by rw [List.length_take]; omega), List.take_left' (by rw [List.length_take]; omega), join_new hacc,
      get_pieces _ c (b.drop 255) rfl h0 h5 acc _ r hacc, List.take_append_drop]
  · rw [pieces_last (by omega)]
    simp only [List.cons_append, List.nil_append]
    rw [get_one h5 h0 (by rw [byteOf_lt (by omega), List.length_append]; omega), byteOf_lt (by omega), List.drop_left' rfl, List.take_left' rfl, join_new hacc]
theorem code_byte {c : Int} (h1 : 1 ≤ c) (h2 : c ≤ 254) : ((byteOf c).toNat : Int) = c ∧ ¬ byteOf c = 0 ∧ ¬ byteOf c = 255 := by
  have h := byteOf_val c
  have e : ((byteOf c).toNat : Int) = c := by omega
  refine ⟨e, fun h0 => ?_, fun h5 => ?_⟩
  · rw [h0] at e
    have : ((0 : UInt8).toNat : Int) = 0 := rfl
    omega
  · rw [h5] at e
    have : ((255 : UInt8).toNat : Int) = 255 := rfl
    omega
theorem get_all : ∀ (L acc : OptL), (∀ p ∈ L, 1 ≤ p.1 ∧ p.1 ≤ 254) → ((acc ++ L).map (·.1)).Nodup → getL (allL L ++ [255]) acc = some (acc ++ L)
  | [], acc, _, _ => by
    rw [List.append_nil]
    exact get_end [] acc
  | p :: L, acc, h1, h2 => by
    obtain ⟨c, b⟩ := p
    obtain ⟨hc1, hc2⟩ := h1 (c, b) List.mem_cons_self
    obtain ⟨e, e0, e5⟩ := code_byte hc1 hc2
    have hn : ∀ q ∈ acc, ¬ q.1 = ((byteOf c).toNat : Int) := by
      intro q hq e2
      rw [List.map_append, List.nodup_append] at h2
      exact h2.2.2 q.1 (List.mem_map.2 ⟨q, hq, rfl⟩) c (List.mem_map.2 ⟨(c, b), List.mem_cons_self, rfl⟩) (e2.trans e)
    have ea : allL ((c, b) :: L) = piecesL (byteOf c) b ++ allL L := rfl
    rw [ea, List.append_assoc, get_pieces0 e0 e5 hn, e, get_all L (acc ++ [(c, b)]) (fun q hq => h1 q (List.mem_cons_of_mem _ hq)) (by rw [List.append_assoc]; exact h2), List.append_assoc]
    rfl
theorem put_get {L : OptL} (h : (putL L).2 = 0) : getS (putL L).1 = (L, 0) := by
  unfold putL at h ⊢
  by_cases h1 : distinctB L = true
  · rw [if_pos h1] at h ⊢
    by_cases h2 : (allL L).length ≤ 1199
    · rw [if_pos h2]
      refine gets_ok ?_
      unfold distinctB at h1
      rw [Bool.and_eq_true, decide_eq_true_eq] at h1
      have := get_all L [] (fun p hp => by
        have h3 := List.all_eq_true.1 h1.1 p hp
        simpa [okC] using h3) (by simpa using h1.2)
      simpa using this
    · rw [if_neg h2] at h
      cases h
  · rw [if_neg h1] at h
    cases h
theorem put_len (L : OptL) : (putL L).1.length ≤ 1200 := by
  unfold putL
  split
  · split
    · simp; omega
    · simp
  · simp
theorem b_next {hs : List Oh} {k m : Nat} {x : Oh} (h : ∀ (j : Nat) (y : Oh), j < k → hs[j]? = some y → y.n ≤ m) (hx : hs[k]? = some x) (hm : x.n ≤ m) : ∀ (j : Nat) (y : Oh), j < k + 1 → hs[j]? = some y → y.n ≤ m := by
  intro j y hj hy
  rcases Nat.lt_or_ge j k with h_ | h_
  · exact h j y h_ hy
  · obtain rfl : j = k := by omega
    rw [hx] at hy
    cases hy
    exact hm
set_option linter.unusedVariables false in
set_option linter.unusedSimpArgs false in
set_option maxRecDepth 100000 in
set_option maxHeartbeats 16000000 in
theorem optWrites_walk (A : Option Addr) (n c : Nat) (hs : List Oh) (L : OptL) (w : World) (en : Sle opE 2 w A n c hs) (hbd : Bd w hs L) : Calls Try.prog 5 #[.slice A n c] w fun e w' => e = .returned (.bool true) ∧ Below w.heap.size w w' := by
  have HL := Lib.hid en.1
  have HBD := Lib.hid hbd
  clear hbd
  have bel := Below.refl w.heap.size w
  go_enter Try.func5, Try.ntmps5
  go_wp2_with fail
  with_reducible refine (awake12_any _).mono ?_
  rintro e w1 ⟨rfl, b1⟩
  replace en := en.below b1
  replace bel := bel.trans (b1.mono bel.size)
  clear b1
  by_cases h40 : 40 < n
  · have h40i : (40 : Int) < n := by omega
    go_wp2_with fail
    go_ret
    exact ⟨rfl, bel⟩
  have h40i : decide ((40 : Int) < n) = false := decide_eq_false (by omega)
  replace h40 : n ≤ 40 := by omega
  have hn : n ≤ 100000 := by omega
  have hn0 : (n : Int) ≤ 40 := by omega
  go_wp2_with fail
  go_loopg [4, 3] (n) (fun gk s4 s3 wr => ∃ k : Nat, ∃ s : Nat, gk = n - k ∧ k ≤ n ∧ Hid (s ≤ 6000) ∧ Hid (∀ (j : Nat) (x : Oh), j < k → hs[j]? = some x → x.n ≤ 2000) ∧ s4 = .int .i64 (k : Int) ∧ s3 = .int .i64 (s : Int) ∧ Sle opE 2 wr (A) (n) (c) (hs) ∧ Below w.heap.size w wr)
  case atStart => exact ⟨0, 0, Nat.sub_zero _, Nat.zero_le _, Lib.hid (by omega), Lib.hid (fun j x h => absurd h (by omega)), rfl, rfl, en, bel⟩
  case round =>
    clear en bel
    obtain ⟨k, s, HGK, hkn, HS, HB2, rfl, rfl, en, bel⟩ := hrel
    have HGK_ := Lib.hid HGK
    clear HGK
    by_cases h : k < n
    · obtain ⟨x, hx_⟩ : ∃ x, hs[k]? = some x := ⟨_, List.getElem?_eq_getElem (by have := HL.out; omega)⟩
      obtain ⟨l, hl_, sb_⟩ := HBD.out.at hx_
      have k0 : (0 : Int) ≤ k := by omega
      have k1 : (k : Int) < n := by omega
      have HX := Lib.hid hx_
      have HLI := Lib.hid hl_
      have HSB := Lib.hid sb_
      clear hx_ hl_ sb_
      obtain ⟨gE, oE, hEp⟩ := en.place (by omega)
      subst hEp
      have sb := HSB.out.below bel
      have s0 : (0 : Int) ≤ s := by omega
      have s1 : (s : Int) ≤ 6000 := by have := HS.out; omega
      by_cases h2 : 2000 < x.n
      · have h2i : (2000 : Int) < x.n := by omega
        have R26 := Sle.cellk en HX.out 1 _ rfl
        go_wp2_with fail
        clear R26
        go_ret
        exact ⟨rfl, bel⟩
      have h2i : decide ((2000 : Int) < x.n) = false := decide_eq_false (by omega)
      have H2 : Hid (x.n ≤ 2000) := Lib.hid (by omega)
      have x2 : (x.n : Int) ≤ 2000 := by omega
      clear h2
      by_cases h3 : 4000 < s
      · have h3i : (4000 : Int) < s := by omega
        have R26 := Sle.cellk en HX.out 1 _ rfl
        go_wp2_with fail
        clear R26
        go_ret
        exact ⟨rfl, bel⟩
      have h3i : decide ((4000 : Int) < s) = false := decide_eq_false (by omega)
      have H3 : Hid (s ≤ 4000) := Lib.hid (by omega)
      clear h3
      have R26 := Sle.cellk en HX.out 1 _ rfl
      have R38 := Sle.cellk en HX.out 1 _ rfl
      go_wp2_with fail
      clear R26 R38
      go_roundg (n - (k + 1))
      case measure => have := HGK_.out; omega
      case rel => exact ⟨k + 1, s + x.n, rfl, by omega, Lib.hid (by have h1 := H2.out; have h2 := H3.out; omega), Lib.hid (b_next HB2.out HX.out H2.out), by go_num, by go_num, en, bel⟩
    have HB : Hid (∀ x ∈ hs, x.n ≤ 100000) := Lib.hid (fun x hx => by obtain ⟨j, hj⟩ := List.getElem?_of_mem hx; have h1 := HB2.out j x (by have h2 := (List.getElem?_eq_some_iff.1 hj).1; have h3 := HL.out; omega) hj; omega)
    obtain ⟨er, her⟩ : ∃ x, (putL L).2 = x := ⟨_, rfl⟩
    have HER := Lib.hid her
    clear her
    obtain rfl : n = k := by omega
    replace h : decide (n < n) = false := decide_eq_false (by omega)
    go_wp2_with fail
    with_reducible refine (oput_any _ en (HBD.out.below bel) hn HB.out).mono ?_
    rintro e w2 ⟨A5, n5, c5, rfl, pb, b2⟩
    replace en := en.below b2
    replace bel := bel.trans (b2.mono bel.size)
    clear b2
    replace pb : Sl w2 (A5) (n5) (c5) ((putL L).1) := pb
    rw [HER.out]
    go_wp2_with fail
    with_reducible refine (own12_any _ en hn).mono ?_
    rintro e w3 ⟨A13, c13, rfl, eo, b3⟩
    replace en := en.below b3
    replace pb := pb.below b3
    replace bel := bel.trans (b3.mono bel.size)
    clear b3
    replace eo : Sle opE 2 w3 (A13) (n) (c13) (hs) := eo
    go_wp2_with fail
    with_reducible refine (rput12_any _ eo (HBD.out.below bel) hn HB.out).mono ?_
    rintro e w4 ⟨A7, n7, c7, rfl, pc, b4⟩
    replace en := en.below b4
    replace pb := pb.below b4
    replace eo := eo.below b4
    replace bel := bel.trans (b4.mono bel.size)
    clear b4
    replace pc : Sl w4 (A7) (n7) (c7) ((putL L).1) := pc
    rw [HER.out]
    by_cases he : er = 0
    rotate_left
    · have he1 : (er != 0) = true := by rw [bne, beq_eq_false_iff_ne.2 he]; rfl
      clear he
      have st57 := pb.str (P := Try.prog) 27 5 9 Try.underlying27 Try.underlying5 Try.underlying9
      have st59 := pc.str (P := Try.prog) 27 5 9 Try.underlying27 Try.underlying5 Try.underlying9
      go_wp2_with fail
      clear st57 st59
      go_ret
      exact ⟨rfl, bel⟩
    have HPG := Lib.hid (put_get (HER.out.trans he))
    have he1 : (er != 0) = false := by rw [he]; rfl
    clear he
    have st57 := pb.str (P := Try.prog) 27 5 9 Try.underlying27 Try.underlying5 Try.underlying9
    have st59 := pc.str (P := Try.prog) 27 5 9 Try.underlying27 Try.underlying5 Try.underlying9
    go_wp2_with fail
    clear st57 st59
    have HPL := Lib.hid pb.1
    with_reducible refine (oget_any _ pb (by have h1 := HPL.out; have h2 := put_len L; omega)).mono ?_
    rintro e w5 ⟨A9, n9, c9, hs9, rfl, ⟨em, hbe⟩, hn9, hb9, b5⟩
    replace en := en.below b5
    replace pb := pb.below b5
    replace eo := eo.below b5
    replace pc := pc.below b5
    replace bel := bel.trans (b5.mono bel.size)
    clear b5
    replace em : Sle opE 2 w5 (A9) (n9) (c9) (hs9) := em
    rw [HPG.out] at hbe
    rw [HPG.out]
    have HN9 := Lib.hid hn9
    clear hn9 hb9
    go_wp2_with fail
    with_reducible refine (own12_any _ em HN9.out).mono ?_
    rintro e w6 ⟨A73, c73, rfl, eq, b6⟩
    replace en := en.below b6
    replace pb := pb.below b6
    replace eo := eo.below b6
    replace pc := pc.below b6
    replace em := em.below b6
    replace hbe := hbe.below b6
    replace bel := bel.trans (b6.mono bel.size)
    clear b6
    replace eq : Sle opE 2 w6 (A73) (n9) (c73) (hs9) := eq
    go_wp2_with fail
    with_reducible refine (own12_any _ en hn).mono ?_
    rintro e w7 ⟨A75, c75, rfl, er_, b7⟩
    replace en := en.below b7
    replace pb := pb.below b7
    replace eo := eo.below b7
    replace pc := pc.below b7
    replace em := em.below b7
    replace eq := eq.below b7
    replace hbe := hbe.below b7
    replace bel := bel.trans (b7.mono bel.size)
    clear b7
    replace er_ : Sle opE 2 w7 (A75) (n) (c75) (hs) := er_
    go_wp2_with fail
    with_reducible refine (same12_any _ eq hbe er_ (HBD.out.below bel) HN9.out).mono ?_
    rintro e w8 ⟨rfl, b8⟩
    replace en := en.below b8
    replace pb := pb.below b8
    replace eo := eo.below b8
    replace pc := pc.below b8
    replace em := em.below b8
    replace eq := eq.below b8
    replace er_ := er_.below b8
    replace hbe := hbe.below b8
    replace bel := bel.trans (b8.mono bel.size)
    clear b8
    go_wp2_with fail
    go_ret
    exact ⟨rfl, bel⟩
end Go.Proofs.Ytmbkjkcehodghaa
