/- The contracts of what writes numbers, and of the reference's own. -/
import Derived.Test.YtmljgpefbbifmaaWalks
import Derived.Deep.QuietTactic
import Derived.BigQuiet
namespace Go.Proofs.Ytmljgpefbbifmaa
open Go.RowKit

theorem made2 (v : Int) (w : World) : Sl (w.alloc (.cells #[.int .u8 (v / 256 % 256), .int .u8 (v % 256)] 5)) (some ⟨w.heap.size, 0, none⟩) 2 2 (two v) := by
  have h := Sl.made w 5 (two v) (by simp [two, maxLen])
  simpa [two, u8v, byteOf_val] using h
theorem made4 (v : Int) (w : World) (h0 : 0 ≤ v) (h1 : v < 4294967296) :
    Sl (w.alloc (.cells #[.int .u8 (v / 16777216), .int .u8 (v / 65536 % 256), .int .u8 (v / 256 % 256), .int .u8 (v % 256)] 5)) (some ⟨w.heap.size, 0, none⟩) 4 4 (four v) := by
  have h := Sl.made w 5 (four v) (by simp [four, maxLen])
  have e : v / 16777216 % 256 = v / 16777216 := by omega
  simpa [four, u8v, byteOf_val, e] using h

theorem w16_any (A : Option Addr) (n c : Nat) (l : List UInt8) (v : Int) (w : World) (hl : Sl w A n c l) (hs : n + 2 ≤ 140737488355328) :
    Calls Try.prog 46 #[.slice A n c, .int .i64 v] w fun e w' => ∃ A' c', e = .returned (.slice A' (n + 2) c') ∧ Sl w' A' (n + 2) c' (l ++ two v) ∧ Below w.heap.size w w' := by
  have hm := made2 v w
  have bel := (Below.refl w.heap.size w).alloc (Nat.le_refl _) (.cells #[.int .u8 (v / 256 % 256), .int .u8 (v % 256)] 5)
  have hl1 := hl.below bel
  go_enter Try.func46, Try.ntmps46
  go_wp2_with (go_at_call 39; refine (join_any A _ n c 2 2 l (two v) _ hl1 hm hs).mono ?_; rintro e w1 ⟨A', c', rfl, hsl, bel1⟩)
  go_ret
  exact ⟨A', c', rfl, hsl, bel.trans (bel1.mono bel.size)⟩
theorem w32_any (A : Option Addr) (n c : Nat) (l : List UInt8) (v : Int) (w : World) (h0 : 0 ≤ v) (h1 : v < 4294967296) (hl : Sl w A n c l) (hs : n + 4 ≤ 140737488355328) :
    Calls Try.prog 45 #[.slice A n c, .int .u32 v] w fun e w' => ∃ A' c', e = .returned (.slice A' (n + 4) c') ∧ Sl w' A' (n + 4) c' (l ++ four v) ∧ Below w.heap.size w w' := by
  have hm := made4 v w h0 h1
  have bel := (Below.refl w.heap.size w).alloc (Nat.le_refl _) (.cells #[.int .u8 (v / 16777216), .int .u8 (v / 65536 % 256), .int .u8 (v / 256 % 256), .int .u8 (v % 256)] 5)
  have hl1 := hl.below bel
  go_enter Try.func45, Try.ntmps45
  go_wp2_with (go_at_call 39; refine (join_any A _ n c 4 4 l (four v) _ hl1 hm hs).mono ?_; rintro e w1 ⟨A', c', rfl, hsl, bel1⟩)
  go_ret
  exact ⟨A', c', rfl, hsl, bel.trans (bel1.mono bel.size)⟩

theorem own_empty (w : World) : (w.alloc (.cells #[] 5)).ownsRow w.heap.size 5 1 (.slice (some ⟨w.heap.size, 0, none⟩) 0 0) 0 (([] : List UInt8).map u8v) :=
  ⟨rfl, .inr ⟨w.heap.size, 0, #[], rfl, Nat.le_refl _, heap_alloc_new w _, Nat.le_refl _, Nat.zero_le _, rfl, rfl⟩⟩

theorem ref16_any (A : Option Addr) (n c : Nat) (l : List UInt8) (v : Int) (w : World) (hl : Sl w A n c l) (hs : n + 2 ≤ 140737488355328) :
    Calls Try.prog 31 #[.slice A n c, .int .i64 v] w fun e w' => ∃ A' c', e = .returned (.slice A' (n + 2) c') ∧ Sl w' A' (n + 2) c' (l ++ two v) ∧ Below w.heap.size w w' := by
  obtain ⟨i, hi, hz0, hz1, hz2⟩ := info_parts Try.info5
  have hown := own_empty w
  have bel1 : Below w.heap.size w (w.alloc (.cells #[] 5)) := (Below.refl _ _).alloc (Nat.le_refl _) _
  have hl1 := hl.below bel1
  go_enter Try.func31, Try.ntmps31
  go_wp2_with (at_builtin; refine wpList_append_bytes _ rfl (.tmp 5) (.tmp 6) 34 rfl w.heap.size 5 i (.int .u8 0) Try.underlying34 hi hz0 hz1 hz2 rfl _ 0 [] rfl hown A n c l rfl hl1 ?c1 ?c2 ?_)
  case c1 => omega
  case c2 => exact bel1.size
  intro v2 w2 hown2 hg2 hat2
  have bel2 : Below w.heap.size w w2 := bel1.grown hg2 bel1.size (fun k h => by simp [Value.ownBlock] at h; omega)
  have hv2 : ∀ k, v2.ownBlock = some k → w.heap.size ≤ k := by
    intro k hk
    rcases hat2 with h | h
    · rw [h] at hk; simp [Value.ownBlock] at hk; omega
    · rw [h] at hk; simp at hk; omega
  clear hat2 hg2 hown hl1
  have hm := made2 v w2
  have hown3 := hown2.alloc (.cells #[.int .u8 (v / 256 % 256), .int .u8 (v % 256)] 5)
  have bel3 := bel2.alloc bel2.size (.cells #[.int .u8 (v / 256 % 256), .int .u8 (v % 256)] 5)
  go_wp2_with (at_builtin; refine wpList_append_bytes _ rfl (.tmp 7) (.tmp 13) 34 rfl w.heap.size 5 i (.int .u8 0) Try.underlying34 hi hz0 hz1 hz2 rfl _ n l rfl hown3 _ 2 2 (two v) rfl hm ?c1 ?c2 ?_)
  case c1 => omega
  case c2 => exact bel3.size
  intro v4 w4 hown4 hg4 hat4
  have bel4 : Below w.heap.size w w4 := bel3.grown hg4 bel3.size hv2
  clear hat4 hv2
  rw [← List.map_append] at hown4
  obtain ⟨A', c', rfl, hsl⟩ := Sl.of_own hown4
  go_wp2
  go_ret
  exact ⟨A', c', rfl, hsl, bel4⟩

theorem ref32_any (A : Option Addr) (n c : Nat) (l : List UInt8) (v : Int) (w : World) (h0 : 0 ≤ v) (h1 : v < 4294967296) (hl : Sl w A n c l) (hs : n + 4 ≤ 140737488355328) :
    Calls Try.prog 30 #[.slice A n c, .int .u32 v] w fun e w' => ∃ A' c', e = .returned (.slice A' (n + 4) c') ∧ Sl w' A' (n + 4) c' (l ++ four v) ∧ Below w.heap.size w w' := by
  have ha := and_u32 v h0 h1
  have b1 : 0 ≤ v % 65536 := by omega
  have b2 : v % 65536 < 65536 := by omega
  go_enter Try.func30, Try.ntmps30
  go_wp2_with fail
  refine (ref16_any A n c l (v / 65536) _ hl (by omega)).mono ?_
  rintro e w1 ⟨A', c', rfl, hsl, bel1⟩
  go_wp2_with fail
  refine (ref16_any A' (n + 2) c' _ (v % 65536) _ hsl (by omega)).mono ?_
  rintro e w2 ⟨A'', c'', rfl, hsl2, bel2⟩
  go_wp2
  go_ret
  rw [List.append_assoc, four_two] at hsl2
  exact ⟨A'', c'', rfl, hsl2, bel1.trans (bel2.mono bel1.size)⟩

theorem at16_any (A : Option Addr) (n c k : Nat) (l : List UInt8) (w : World) (hl : Sl w A n c l) (hk : k + 2 ≤ n) (hm : k + 2 ≤ 100000) :
    Calls Try.prog 26 #[.slice A n c, .int .i64 k] w fun e w' => e = .returned (.int .i64 (be ((l.drop k).take 2))) ∧ ∃ q, w' = w.drewN q := by
  obtain ⟨h1, h2, h3, h4⟩ := hl
  obtain ⟨d, o, rfl, hc⟩ := h4 (by omega)
  have k1 : k < l.length := by omega
  have k2 : k + 1 < l.length := by omega
  have c1 := hc k _ (List.getElem?_eq_getElem k1)
  have c2 := hc (k + 1) _ (List.getElem?_eq_getElem k2)
  have HB : Hid (be ((l.drop k).take 2) = l[k].toNat * 256 + l[k + 1].toNat) := by
    unfold Hid
    rw [List.drop_eq_getElem_cons k1, List.drop_eq_getElem_cons k2]
    exact be_two _ _
  have u1 := l[k].toNat_lt
  have u2 := l[k + 1].toNat_lt
  unfold u8v at c1 c2
  generalize l[k].toNat = x at *
  generalize l[k + 1].toNat = y at *
  have b1 : (0 : Int) ≤ k := by omega
  have b2 : (k : Int) < n := by omega
  have b3 : (k : Int) + 1 < n := by omega
  have b4 : (x : Int) < 256 := by omega
  have b5 : (y : Int) < 256 := by omega
  have b6 : (0 : Int) ≤ x := by omega
  have b7 : (0 : Int) ≤ y := by omega
  have b8 : (k : Int) ≤ 100000 := by omega
  clear hc h1 h4 u1 u2
  go_enter Try.func26, Try.ntmps26
  go_wp2
  go_quiet (fail)
  go_wp2
  have hor := or_i64 x y (by omega) (by omega)
  refine bodyPost_ret (v := .int .i64 (be ((l.drop k).take 2))) (by simp [results, Try.results26, go_sem, hor, HB.out]) rfl ⟨rfl, nq, rfl⟩

theorem Sl.drewN {w : World} {A : Option Addr} {n c : Nat} {l : List UInt8} (h : Sl w A n c l) (q : Nat) : Sl (w.drewN q) A n c l := h.keep fun _ _ _ hc => hc

theorem at32_any (A : Option Addr) (n c : Nat) (l : List UInt8) (w : World) (hl : Sl w A n c l) (hk : 4 ≤ n) :
    Calls Try.prog 25 #[.slice A n c, .int .i64 0] w fun e w' => e = .returned (.int .u32 (be (l.take 4))) ∧ ∃ q, w' = w.drewN q := by
  have hlen := hl.1
  have HB : Hid (be (l.take 4) = be (l.take 2) * 65536 + be ((l.drop 2).take 2)) := by
    unfold Hid
    rw [show 4 = 2 + 2 from rfl, List.take_add, be_append]
    rw [show ((l.drop 2).take 2).length = 2 by rw [List.length_take, List.length_drop]; omega]
  have p1 := be_lt 2 (l.take 2) (by rw [List.length_take]; omega)
  have p2 := be_lt 2 ((l.drop 2).take 2) (by rw [List.length_take, List.length_drop]; omega)
  have c1 := fun W (h : Sl W A n c l) => at16_any A n c 0 l W h (by omega) (by omega)
  have c2 := fun W (h : Sl W A n c l) => at16_any A n c 2 l W h (by omega) (by omega)
  simp only [List.drop_zero] at c1
  generalize be (l.take 2) = x at *
  generalize be ((l.drop 2).take 2) = y at *
  have b1 : (0 : Int) ≤ x := by omega
  have b2 : (x : Int) < 65536 := by omega
  have b3 : (0 : Int) ≤ y := by omega
  have b4 : (y : Int) < 65536 := by omega
  have hor := or_u32_16 x y (by omega) (by omega)
  have C1 : Hid _ := c1
  have C2 : Hid _ := c2
  clear c1 c2 hlen
  go_enter Try.func25, Try.ntmps25
  go_wp2_with fail
  refine (C1.out _ hl).mono ?_
  rintro e w1 ⟨rfl, q, rfl⟩
  go_wp2_with fail
  refine (C2.out _ (hl.drewN q)).mono ?_
  rintro e w2 ⟨rfl, q2, rfl⟩
  go_wp2
  refine bodyPost_ret (v := .int .u32 (be (l.take 4))) (by simp [results, Try.results25, go_sem, HB.out]) rfl ⟨rfl, q + q2, ?_⟩
  simp

/-! awake: what the document tells of three bytes. -/
theorem wake16 (g : Nat) (W : World) (h : Rd W 79 g [1, 2, 3] false) : Calls Try.prog 35 #[.pointer (some ⟨g, 0, none⟩)] W fun e w' => e = .returned (.int .i64 258) ∧ Rd w' 79 g [3] false ∧ W.grownBy w' (some g) :=
  u16_yes g [1, 2, 3] false W h (by decide)
theorem wake8 (g : Nat) (W : World) (h : Rd W 79 g [3] false) : Calls Try.prog 33 #[.pointer (some ⟨g, 0, none⟩)] W fun e w' => e = .returned (.int .i64 3) ∧ Rd w' 79 g [] false ∧ W.grownBy w' (some g) :=
  u8_yes g [3] false W h (by decide)
end Go.Proofs.Ytmljgpefbbifmaa
