/- The contracts of package octet's functions. -/
import Derived.Test.YtholgadifhjmgaaDoorRows
import Derived.Test.YtholgadifhjmgaaDoorMem
import Derived.WalkSpells
import Derived.WalkLawsBesides
namespace Go.Proofs.YtholgadifhjmgaaDoor
open Go.RowKit

theorem Tryd.info5 : (Tryd.prog.info? 5).map (fun i => (i.zero, i.size, i.bytes)) = some (some (.int .u8 0), 1, 1) := by kernel_rfl

set_option maxHeartbeats 400000 in
theorem join_any (A B : Option Addr) (n c m d : Nat) (l t : List UInt8) (w : World) (hl : Sl w A n c l) (ht : Sl w B m d t) (hs : n + m ≤ 140737488355328) :
    Calls Tryd.prog 48 #[.slice A n c, .slice B m d] w fun e w' => ∃ A' c', e = .returned (.slice A' (n + m) c') ∧ Sl w' A' (n + m) c' (l ++ t) ∧ Below w.heap.size w w' := by
  obtain ⟨i, hi, hz0, hz1, hz2⟩ := info_parts Tryd.info5
  have hb1 : (0 : Int) ≤ n := by omega
  have hb2 : (0 : Int) ≤ m := by omega
  have hb3 : (n : Int) + m ≤ 140737488355328 := by omega
  go_enter Tryd.func48, Tryd.ntmps48
  go_wp2_with (at_make; refine wpList_make_own _ rfl _ _ 27 rfl w.heap.size 5 i (.int .u8 0) 1 Tryd.underlying27 hi hz0 hz1 _ _ _ (n + m) rfl rfl ?b1 ?b2 ?b3 (Nat.le_refl _) ?_)
  case b1 => simp
  case b2 => rw [hz2]; omega
  case b3 => unfold maxLen; omega
  intro w1 hown hg1
  have bel1 : Below w.heap.size w w1 := (Below.refl _ _).grown hg1 (Nat.le_refl _) (fun k h => by cases h)
  have hsz : w.heap.size ≤ w1.heap.size := bel1.size
  go_wp2_with (at_builtin; refine wpList_append_bytes w1 rfl (.tmp 12) (.tmp 13) 27 rfl w.heap.size 5 i (.int .u8 0) Tryd.underlying27 hi hz0 hz1 hz2 rfl _ 0 [] rfl hown A n c l rfl (hl.below bel1) ?c1 ?c2 ?_)
  case c1 => omega
  case c2 => exact hsz
  intro v2 w2 hown2 hg2 hat2
  have bel2 : Below w.heap.size w w2 := bel1.grown hg2 hsz (fun k h => by simp [Value.ownBlock] at h; omega)
  have hv2 : ∀ k, v2.ownBlock = some k → w.heap.size ≤ k := by
    intro k hk
    rcases hat2 with h | h
    · rw [h] at hk; simp [Value.ownBlock] at hk; omega
    · rw [h] at hk; simp at hk; omega
  clear hat2
  go_wp2_with (at_builtin; refine wpList_append_bytes w2 rfl (.tmp 15) (.tmp 16) 27 rfl w.heap.size 5 i (.int .u8 0) Tryd.underlying27 hi hz0 hz1 hz2 rfl _ n l rfl hown2 B m d t rfl (ht.below bel2) ?c1 ?c2 ?_)
  case c1 => omega
  case c2 => exact bel2.size
  intro v3 w3 hown3 hg3 hat3
  have bel3 : Below w.heap.size w w3 := bel2.grown hg3 bel2.size hv2
  clear hat3 hv2
  rw [← List.map_append] at hown3
  obtain ⟨A', c', rfl, hsl⟩ := Sl.of_own hown3
  go_wp2
  go_ret
  exact ⟨A', c', rfl, hsl, bel3⟩

/-- Read. -/
theorem read_any (A : Option Addr) (n c : Nat) (l : List UInt8) (w : World) (hl : Sl w A n c l) (hs : n ≤ 140737488355328) :
    Calls Tryd.prog 42 #[.slice A n c] w fun e w' => ∃ g, e = .returned (.pointer (some ⟨g, 0, none⟩)) ∧ Rd w' 67 g l false ∧ Below w.heap.size w w' ∧ w.heap.size ≤ g := by
  go_enter Tryd.func42, Tryd.ntmps42
  go_wp2_with (go_at_call 48; refine (join_any A none n c 0 0 l [] w hl (Sl.nil w) (by omega)).mono ?_; rintro e w1 ⟨A', c', rfl, hsl, bel⟩)
  go_ret
  have hn : Below w1.heap.size w1 (w1.alloc (Obj.cells #[Value.slice A' n c', Value.bool false] 67)) := (Below.refl _ _).alloc (Nat.le_refl _) _
  refine ⟨w1.heap.size, rfl, ⟨A', n, c', heap_alloc_new w1 _, ?_⟩, bel.alloc bel.size _, bel.size⟩
  simp only [Nat.add_zero, List.append_nil] at hsl
  exact hsl.below hn

theorem take_yes (g : Nat) (l : List UInt8) (s : Bool) (k : Nat) (w : World) (hr : Rd w 67 g l s) (hk : k ≤ l.length) :
    Calls Tryd.prog 49 #[.pointer (some ⟨g, 0, none⟩), .int .i64 k] w fun e w' => ∃ A c, e = .returned (.slice A k c) ∧ Sl w' A k c (l.take k) ∧ Rd w' 67 g (l.drop k) s ∧ w.grownBy w' (some g) := by
  have hr' := hr
  obtain ⟨A, n, c, hb, hsl⟩ := hr'
  have hn := hsl.1
  obtain ⟨hc0, hc1⟩ := cell_of_rd hb
  have hf0 : w.frozen? ⟨g, 0, none⟩ = false := by simp [World.frozen?, hb]
  have hf1 : w.frozen? ⟨g, 1, none⟩ = false := by simp [World.frozen?, hb]
  have hcap := hsl.2.1
  have b0 : (0 : Int) ≤ k := by omega
  have b1 : (k : Int) ≤ n := by omega
  have b2 : (n : Int) ≤ c := by omega
  have b3 : k ≤ n := by omega
  have hd := hsl.drop b3
  have ht := hsl.take b3
  by_cases hck : c = k
  · rw [if_pos hck] at hd
    have hg : w.grownBy (w.setCell ⟨g, 0, none⟩ (.slice A (n - k) (c - k))) (some g) := grown_set (World.grownBy.refl w _) 0 _
    have R : Rd (w.setCell ⟨g, 0, none⟩ (.slice A (n - k) (c - k))) 67 g (l.drop k) s := hr.set hg (set_first hb) hd
    have T := ht.far hr hg
    clear hn hb hd ht hsl
    subst hck
    have b4 : n = c := by omega
    subst b4
    simp only [Nat.sub_self] at R T hg
    go_enter Tryd.func49, Tryd.ntmps49
    go_wp2
    go_ret
    exact ⟨A, n, rfl, T, R, hg⟩
  · rw [if_neg hck] at hd
    simp only [Nat.mul_one] at hd
    have hg : w.grownBy (w.setCell ⟨g, 0, none⟩ (.slice (A.map fun x => x.add k) (n - k) (c - k))) (some g) := grown_set (World.grownBy.refl w _) 0 _
    have R : Rd (w.setCell ⟨g, 0, none⟩ (.slice (A.map fun x => x.add k) (n - k) (c - k))) 67 g (l.drop k) s := hr.set hg (set_first hb) hd
    have T := ht.far hr hg
    clear hn hb hd ht hsl
    have h0 : ¬ k = c := fun e => hck e.symm
    go_enter Tryd.func49, Tryd.ntmps49
    go_wp2
    all_goals (go_ret; exact ⟨A, c, rfl, T, R, hg⟩)

theorem take_no (g : Nat) (l : List UInt8) (s : Bool) (k : Int) (w : World) (hr : Rd w 67 g l s) (hk : k < 0 ∨ l.length < k) :
    Calls Tryd.prog 49 #[.pointer (some ⟨g, 0, none⟩), .int .i64 k] w fun e w' => e = .returned (.slice none 0 0) ∧ Rd w' 67 g [] true ∧ w.grownBy w' (some g) := by
  have hr' := hr
  obtain ⟨A, n, c, hb, hsl⟩ := hr'
  have hn := hsl.1
  obtain ⟨hc0, hc1⟩ := cell_of_rd hb
  have hf0 : w.frozen? ⟨g, 0, none⟩ = false := by simp [World.frozen?, hb]
  have hf1 : w.frozen? ⟨g, 1, none⟩ = false := by simp [World.frozen?, hb]
  have hg : w.grownBy ((w.setCell ⟨g, 0, none⟩ (.slice none 0 0)).setCell ⟨g, 1, none⟩ (.bool true)) (some g) := grown_set (grown_set (World.grownBy.refl w _) 0 _) 1 _
  have R : Rd ((w.setCell ⟨g, 0, none⟩ (.slice none 0 0)).setCell ⟨g, 1, none⟩ (.bool true)) 67 g [] true := hr.set hg (set_second (set_first hb)) (Sl.nil w)
  by_cases h0 : k < 0
  · clear hn hb
    go_enter Tryd.func49, Tryd.ntmps49
    go_wp2
    go_ret
    exact ⟨rfl, R, hg⟩
  · have h1 : (n : Int) < k := by omega
    clear hn hb
    go_enter Tryd.func49, Tryd.ntmps49
    go_wp2
    go_ret
    exact ⟨rfl, R, hg⟩

theorem number_yes (g : Nat) (l : List UInt8) (s : Bool) (k : Nat) (w : World) (hr : Rd w 67 g l s) (hk : k ≤ l.length) (h4 : k ≤ 4) (h0 : 0 < k) :
    Calls Tryd.prog 43 #[.pointer (some ⟨g, 0, none⟩), .int .i64 k] w fun e w' => e = .returned (.int .u32 (be (l.take k))) ∧ Rd w' 67 g (l.drop k) s ∧ w.grownBy w' (some g) := by
  go_enter Tryd.func43, Tryd.ntmps43
  go_wp2_with (go_at_call 49; refine (take_yes g l s k _ hr hk).mono ?_; rintro e w1 ⟨A, c, rfl, hsl, hr1, hg1⟩)
  obtain ⟨d, o, rfl, hc⟩ := hsl.2.2.2 h0
  have hlen := hsl.1
  obtain ⟨t, HT⟩ : ∃ t, Hid (l.take k = t) := ⟨_, rfl⟩
  rw [HT.out] at hc hlen
  clear hsl
  go_loop [5, 12] (fun v i => ∃ j : Nat, j ≤ k ∧ i = .int .i64 j ∧ v = .int .u32 (be (t.take j))) (fun _ i => k - (intOf i).toNat)
  case atStart => exact ⟨0, by omega, rfl, rfl⟩
  case round =>
    obtain ⟨j, hj, rfl, rfl⟩ := hrel
    have b0 : (0 : Int) ≤ k := by omega
    have b1 : (k : Int) ≤ 4 := by omega
    have b2 : (0 : Int) ≤ j := by omega
    by_cases hlt : j < k
    · have hjl : j < t.length := by omega
      have hcell := hc j _ (List.getElem?_eq_getElem hjl)
      have hbe : be (t.take (j + 1)) = be (t.take j) * 256 + t[j].toNat := by
        rw [List.take_succ_eq_append_getElem hjl, be_snoc]
      have hv : be (t.take j) < 256 ^ j := be_lt j _ (by rw [List.length_take]; omega)
      have hv' : (256 : Nat) ^ j ≤ 256 ^ 3 := Nat.pow_le_pow_right (by omega) (by omega)
      have hu := t[j].toNat_lt
      unfold u8v at hcell
      generalize t[j].toNat = u at *
      clear hc hlen hr1 hr hg1
      have HBE : Hid (be (t.take (j + 1)) = be (t.take j) * 256 + u) := hbe
      clear hbe
      generalize be (t.take j) = v at *
      have b3 : (0 : Int) ≤ v := by omega
      have b4 : (v : Int) < 16777216 := by omega
      have b5 : (0 : Int) ≤ u := by omega
      have b6 : (u : Int) < 256 := by omega
      clear hv hv'
      have hor := or_u32 v u (by omega) (by omega)
      go_wp2
      go_round
      case rel => exact ⟨j + 1, by omega, by go_num, by rw [HBE.out]; go_num⟩
      case measure => simp [intOf]; omega
    · go_wp2
      obtain rfl : j = k := by omega
      go_ret
      refine ⟨?_, hr1, hg1⟩
      rw [HT.out]
      show Ending.returned (.int .u32 (be (t.take j))) = _
      rw [List.take_of_length_le (by omega)]

theorem number_no (g : Nat) (l : List UInt8) (s : Bool) (k : Nat) (w : World) (hr : Rd w 67 g l s) (hk : l.length < k) :
    Calls Tryd.prog 43 #[.pointer (some ⟨g, 0, none⟩), .int .i64 k] w fun e w' => e = .returned (.int .u32 0) ∧ Rd w' 67 g [] true ∧ w.grownBy w' (some g) := by
  go_enter Tryd.func43, Tryd.ntmps43
  go_wp2_with (go_at_call 49; refine (take_no g l s k _ hr (by omega)).mono ?_; rintro e w1 ⟨rfl, hr1, hg1⟩)
  refine wp_loop_rounds 1 ?_
  rw [rounds_succ]
  go_wp2
  go_ret
  exact ⟨rfl, hr1, hg1⟩

/-- U8, U16, U32. -/
theorem u8_yes (g : Nat) (l : List UInt8) (s : Bool) (w : World) (hr : Rd w 67 g l s) (hk : 1 ≤ l.length) :
    Calls Tryd.prog 34 #[.pointer (some ⟨g, 0, none⟩)] w fun e w' => e = .returned (.int .i64 (be (l.take 1))) ∧ Rd w' 67 g (l.drop 1) s ∧ w.grownBy w' (some g) := by
  have hlt := be_lt 1 (l.take 1) (by rw [List.length_take]; omega)
  have b1 : (be (l.take 1) : Int) < 256 := by omega
  have b0 : 0 ≤ (be (l.take 1) : Int) := by omega
  go_enter Tryd.func34, Tryd.ntmps34
  go_wp2_with (go_at_call 43; refine (number_yes g l s 1 _ hr hk (by omega) (by omega)).mono ?_; rintro e w1 ⟨rfl, hr1, hg1⟩)
  go_ret
  exact ⟨rfl, hr1, hg1⟩
theorem u8_no (g : Nat) (l : List UInt8) (s : Bool) (w : World) (hr : Rd w 67 g l s) (hk : l.length < 1) :
    Calls Tryd.prog 34 #[.pointer (some ⟨g, 0, none⟩)] w fun e w' => e = .returned (.int .i64 0) ∧ Rd w' 67 g [] true ∧ w.grownBy w' (some g) := by
  go_enter Tryd.func34, Tryd.ntmps34
  go_wp2_with (go_at_call 43; refine (number_no g l s 1 _ hr hk).mono ?_; rintro e w1 ⟨rfl, hr1, hg1⟩)
  go_ret
  exact ⟨rfl, hr1, hg1⟩
/-- Bytes. -/
theorem bytes_yes (g : Nat) (l : List UInt8) (s : Bool) (k : Nat) (w : World) (hr : Rd w 67 g l s) (hk : k ≤ l.length) (hs : k ≤ 140737488355328) :
    Calls Tryd.prog 44 #[.pointer (some ⟨g, 0, none⟩), .int .i64 k] w fun e w' => ∃ A c, e = .returned (.slice A k c) ∧ Sl w' A k c (l.take k) ∧ Rd w' 67 g (l.drop k) s ∧ w.grownBy w' (some g) := by
  go_enter Tryd.func44, Tryd.ntmps44
  go_wp2_with (go_at_call 49; refine (take_yes g l s k _ hr hk).mono ?_; rintro e w1 ⟨A, c, rfl, hsl, hr1, hg1⟩)
  go_wp2_with (go_at_call 48; refine (join_any A none k c 0 0 _ [] w1 hsl (Sl.nil w1) (by omega)).mono ?_; rintro e w2 ⟨A', c', rfl, hsl2, bel⟩)
  go_ret
  simp only [Nat.add_zero, List.append_nil] at hsl2
  exact ⟨A', c', rfl, hsl2, hr1.below bel, hg1.trans (grown_of_below bel)⟩
theorem bytes_no (g : Nat) (l : List UInt8) (s : Bool) (k : Int) (w : World) (hr : Rd w 67 g l s) (hk : k < 0 ∨ l.length < k) :
    Calls Tryd.prog 44 #[.pointer (some ⟨g, 0, none⟩), .int .i64 k] w fun e w' => ∃ A c, e = .returned (.slice A 0 c) ∧ Sl w' A 0 c [] ∧ Rd w' 67 g [] true ∧ w.grownBy w' (some g) := by
  go_enter Tryd.func44, Tryd.ntmps44
  go_wp2_with (go_at_call 49; refine (take_no g l s k _ hr hk).mono ?_; rintro e w1 ⟨rfl, hr1, hg1⟩)
  go_wp2_with (go_at_call 48; refine (join_any none none 0 0 0 0 [] [] w1 (Sl.nil w1) (Sl.nil w1) (by omega)).mono ?_; rintro e w2 ⟨A', c', rfl, hsl2, bel⟩)
  go_ret
  exact ⟨A', c', rfl, hsl2, hr1.below bel, hg1.trans (grown_of_below bel)⟩

theorem short_any (g : Nat) (l : List UInt8) (s : Bool) (w : World) (hr : Rd w 67 g l s) :
    Calls Tryd.prog 35 #[.pointer (some ⟨g, 0, none⟩)] w fun e w' => e = .returned (.bool s) ∧ w = w' := by
  obtain ⟨A, n, c, hb, hsl⟩ := hr
  obtain ⟨hc0, hc1⟩ := cell_of_rd hb
  clear hsl hb
  go_enter Tryd.func35, Tryd.ntmps35
  go_wp2
  go_ret
  exact ⟨rfl, rfl⟩

end Go.Proofs.YtholgadifhjmgaaDoor
