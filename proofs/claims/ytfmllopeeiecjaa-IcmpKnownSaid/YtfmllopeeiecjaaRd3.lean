/- Further contracts of Readers, where they run short; reads of numbers at a place; reads of bytes out of a slice. -/
import Derived.Test.YtfmllopeeiecjaaRd2
import Derived.Test.YtfmllopeeiecjaaSumc
import Derived.Test.YtfmllopeeiecjaaIpf
import Derived.Test.YtfmllopeeiecjaaUd3
namespace Go.Proofs.Ytfmllopeeiecjaa
open Go.RowKit

/-- The shorter rest lies in A's block, whatever it is. -/
theorem rd_out {w : World} {T : TypeId} {A : Option Addr} {n g : Nat} {s : Bool} {l : List UInt8} (hl : l.length = 0) (h : Rd w T g l s) : ∃ A' n' c', w.heap[g]? = some (.cells #[.slice A' n' c', .bool s] T (0, 0)) ∧ Sl w A' n' c' l ∧ Sub A' n' A n := by
  obtain ⟨A', n', c', h1, h2⟩ := h
  exact ⟨A', n', c', h1, h2, fun h0 => absurd h2.1 (by omega)⟩
theorem rd_u8e (g : Nat) (A : Option Addr) (n c : Nat) (l : List UInt8) (s : Bool) (w : World) (h : w.heap[g]? = some (.cells #[.slice A n c, .bool s] 88 (0, 0))) (hs : Sl w A n c l) :
    Calls Try.prog 35 #[.pointer (some ⟨g, 0, none⟩)] w fun e w' => ∃ A' n' c', ∃ (x : Nat) (s' : Bool), Hid (s' = (s || decide (l.length < 1))) ∧ (x : Int) < 256 ∧ e = .returned (.int .i64 x) ∧ w'.heap[g]? = some (.cells #[.slice A' n' c', .bool s'] 88 (0, 0)) ∧ Sl w' A' n' c' (l.drop 1) ∧ Sub A' n' A n ∧ w.grownBy w' (some g) := by
  rcases l with _ | ⟨x, r⟩
  · refine (u8_no g [] s w ⟨A, n, c, h, hs⟩ (by simp)).mono ?_
    rintro e w' ⟨rfl, h1, h3⟩
    obtain ⟨A', n', c', h4, h5, h6⟩ := rd_out (A := A) (n := n) rfl h1
    exact ⟨A', n', c', 0, true, Lib.hid (by simp), by decide, rfl, h4, h5, h6, h3⟩
  · refine (u8_q1 g _ x r s w (ro_in h hs)).mono ?_
    rintro e w' ⟨rfl, h1, h3⟩
    obtain ⟨A', n', c', h4, h5, h6⟩ := ro_out (n := n) (by have := hs.1; simp at this; omega) h1
    exact ⟨A', n', c', x.toNat, s, Lib.hid (by simp), by have := x.toNat_lt; omega, rfl, h4, h5, h6, h3⟩
theorem rd_u32e (g : Nat) (A : Option Addr) (n c : Nat) (l : List UInt8) (s : Bool) (w : World) (h : w.heap[g]? = some (.cells #[.slice A n c, .bool s] 88 (0, 0))) (hs : Sl w A n c l) :
    Calls Try.prog 37 #[.pointer (some ⟨g, 0, none⟩)] w fun e w' => ∃ A' n' c', ∃ (x : Nat) (s' : Bool), Hid (s' = (s || decide (l.length < 4))) ∧ e = .returned (.int .u32 x) ∧ w'.heap[g]? = some (.cells #[.slice A' n' c', .bool s'] 88 (0, 0)) ∧ Sl w' A' n' c' (l.drop 4) ∧ Sub A' n' A n ∧ w.grownBy w' (some g) := by
  by_cases hk : l.length < 4
  · refine (u32_no g l s w ⟨A, n, c, h, hs⟩ hk).mono ?_
    rintro e w' ⟨rfl, h1, h3⟩
    have hd : l.drop 4 = [] := List.drop_eq_nil_of_le (by omega)
    rw [hd]
    obtain ⟨A', n', c', h4, h5, h6⟩ := rd_out (A := A) (n := n) rfl h1
    exact ⟨A', n', c', 0, true, Lib.hid (by simp [hk]), rfl, h4, h5, h6, h3⟩
  · refine (u32_yes_q g _ l s w (ro_in h hs) (by omega)).mono ?_
    rintro e w' ⟨rfl, h1, h3⟩
    obtain ⟨A', n', c', h4, h5, h6⟩ := ro_out (n := n) (by rw [List.length_drop]; have := hs.1; omega) h1
    exact ⟨A', n', c', _, s, Lib.hid (by simp [hk]), rfl, h4, h5, h6, h3⟩
/-- Bytes(k): there are not as many. -/
theorem rd_bytes_no (k : Nat) (g : Nat) (A : Option Addr) (n c : Nat) (l : List UInt8) (s : Bool) (w : World) (h : w.heap[g]? = some (.cells #[.slice A n c, .bool s] 88 (0, 0))) (hs : Sl w A n c l) (hk : l.length < k) :
    Calls Try.prog 40 #[.pointer (some ⟨g, 0, none⟩), .int .i64 (k : Int)] w fun e w' => ∃ Ab cb A' n' c', e = .returned (.slice Ab 0 cb) ∧ w'.heap[g]? = some (.cells #[.slice A' n' c', .bool true] 88 (0, 0)) ∧ Sl w' A' n' c' [] ∧ Sub A' n' A n ∧ w.grownBy w' (some g) := by
  refine (bytes_no g l s k w ⟨A, n, c, h, hs⟩ (by omega)).mono ?_
  rintro e w' ⟨Ab, cb, rfl, h0, h1, h3⟩
  obtain ⟨A', n', c', h4, h5, h6⟩ := rd_out (A := A) (n := n) rfl h1
  exact ⟨Ab, cb, A', n', c', rfl, h4, h5, h6, h3⟩
theorem sl_at {w : World} {g o n c j : Nat} {l : List UInt8} {x : UInt8} (h : Sl w (some ⟨g, o, none⟩) n c l) (hx : l[j]? = some x) : w.cell? ⟨g, o + j, none⟩ = some (.int .u8 (x.toNat : Int)) := by
  obtain ⟨h1, h2, h3, h4⟩ := h
  have hj : j < l.length := by
    rcases Nat.lt_or_ge j l.length with h | h
    · exact h
    · rw [List.getElem?_eq_none h] at hx
      exact absurd hx (by simp)
  obtain ⟨g', o', e, hc⟩ := h4 (by omega)
  injection e with e
  injection e with e1 e2
  subst e1
  subst e2
  exact hc j x hx
theorem sl_some {w : World} {A : Option Addr} {n c : Nat} {l : List UInt8} (h : Sl w A n c l) (hn : 0 < n) : ∃ g o, A = some ⟨g, o, none⟩ := by
  obtain ⟨g, o, e, _⟩ := h.2.2.2 hn
  exact ⟨g, o, e⟩
theorem at32_b (A : Option Addr) (n c k : Nat) (l : List UInt8) (w : World) (hl : Sl w A n c l) (hk : k + 4 ≤ n) (hm : k + 4 ≤ 100000) :
    Calls Try.prog 45 #[.slice A n c, .int .i64 k] w fun e w' => e = .returned (.int .u32 (be ((l.drop k).take 4))) ∧ Below w.heap.size w w' := by
  have hlen := hl.1
  have HB : Hid (be ((l.drop k).take 4) = be ((l.drop k).take 2) * 65536 + be ((l.drop (k + 2)).take 2)) := by
    unfold Hid
    rw [show 4 = 2 + 2 from rfl, List.take_add, be_append, List.drop_drop]
    rw [show ((l.drop (k + 2)).take 2).length = 2 by rw [List.length_take, List.length_drop]; omega]
  have p1 := be_lt 2 ((l.drop k).take 2) (by rw [List.length_take, List.length_drop]; omega)
  have p2 := be_lt 2 ((l.drop (k + 2)).take 2) (by rw [List.length_take, List.length_drop]; omega)
  have c1 := fun W (h : Sl W A n c l) => at16_any A n c k l W h (by omega) (by omega)
  have c2 := fun W (h : Sl W A n c l) => at16_any A n c (k + 2) l W h (by omega) (by omega)
  generalize be ((l.drop k).take 2) = x at *
  generalize be ((l.drop (k + 2)).take 2) = y at *
  have b1 : (0 : Int) ≤ x := by omega
  have b2 : (x : Int) < 65536 := by omega
  have b3 : (0 : Int) ≤ y := by omega
  have b4 : (y : Int) < 65536 := by omega
  have b5 : (0 : Int) ≤ k := by omega
  have b6 : (k : Int) ≤ 100000 := by omega
  have hor := or_u32_16 x y (by omega) (by omega)
  have C1 : Hid _ := c1
  have C2 : Hid _ := c2
  clear c1 c2 hlen
  go_enter Try.func45, Try.ntmps45
  go_wp2_with fail
  refine (C1.out _ hl).mono ?_
  rintro e w1 ⟨rfl, q, rfl⟩
  go_wp2_with fail
  refine (C2.out _ (hl.drewN q)).mono ?_
  rintro e w2 ⟨rfl, q2, rfl⟩
  go_wp2
  exact bodyPost_ret (v := .int .u32 (be ((l.drop k).take 4))) (by simp [results, Try.results45, go_sem, HB.out]) rfl ⟨rfl, belowN (Below.refl _ _) (q + q2)⟩
theorem at32_4 (A : Option Addr) (n c : Nat) (l : List UInt8) (w : World) (hl : Sl w A n c l) (hk : 8 ≤ n) :
    Calls Try.prog 45 #[.slice A n c, .int .i64 4] w fun e w' => e = .returned (.int .u32 (be ((l.drop 4).take 4))) ∧ Below w.heap.size w w' :=
  at32_b A n c 4 l w hl hk (by omega)
theorem at32_8 (A : Option Addr) (n c : Nat) (l : List UInt8) (w : World) (hl : Sl w A n c l) (hk : 12 ≤ n) :
    Calls Try.prog 45 #[.slice A n c, .int .i64 8] w fun e w' => e = .returned (.int .u32 (be ((l.drop 8).take 4))) ∧ Below w.heap.size w w' :=
  at32_b A n c 8 l w hl hk (by omega)
theorem at16_18 (A : Option Addr) (n c : Nat) (l : List UInt8) (w : World) (hl : Sl w A n c l) (hk : 20 ≤ n) :
    Calls Try.prog 64 #[.slice A n c, .int .i64 18] w fun e w' => e = .returned (.int .i64 (be ((l.drop 18).take 2))) ∧ Below w.heap.size w w' :=
  at16_b A n c 18 l w hl hk (by omega)
theorem w32_oto (A : Option Addr) (n m c : Nat) (l : List UInt8) (v0 : Int) (w : World) (h0 : 0 ≤ v0) (h1 : v0 < 4294967296) (hm : n + 4 = m) (hl : Sl w A n c l) (hs : n + 4 ≤ 140737488355328) :
    Calls Try.prog 51 #[.slice A n c, .int .u32 v0] w fun e w' => ∃ v, e = .returned v ∧ w'.ownsRow w.heap.size 5 1 v m ((l ++ four v0).map u8v) ∧ Below w.heap.size w w' := by
  subst hm; exact w32_o A n c l v0 w h0 h1 hl hs
theorem i64_and63 (n : Int) : bits .and .i64 n 63 = n % 64 := by
  have hm : (BitVec.ofInt 64 63).toNat = 2 ^ 6 - 1 := by decide
  have key : (BitVec.ofInt 64 n &&& BitVec.ofInt 64 63).toNat = (n % ((2 ^ 64 : Nat) : Int)).toNat % 2 ^ 6 := by
    rw [BitVec.toNat_and, BitVec.toNat_ofInt, hm, Nat.and_two_pow_sub_one_eq_mod]
  show IntKind.i64.wrap ((BitVec.ofInt 64 n &&& BitVec.ofInt 64 63).toNat : Nat) = n % 64
  rw [key, IntKind.wrap_i64]
  omega
theorem u8_and63 (n : Nat) : bits .and .u8 (n : Int) 63 = ((n % 64 : Nat) : Int) := by
  have hm : (BitVec.ofInt 8 63).toNat = 2 ^ 6 - 1 := by decide
  have key : (BitVec.ofInt 8 (n : Int) &&& BitVec.ofInt 8 63).toNat = n % 64 := by
    rw [BitVec.toNat_and, BitVec.ofInt_natCast, BitVec.toNat_ofNat, hm, Nat.and_two_pow_sub_one_eq_mod]
    omega
  show IntKind.u8.wrap ((BitVec.ofInt 8 (n : Int) &&& BitVec.ofInt 8 63).toNat : Nat) = _
  rw [key]
  simp [IntKind.wrap, IntKind.signed, IntKind.bits]
  omega
set_option maxRecDepth 100000 in
set_option maxHeartbeats 16000000 in
theorem r32_oto (A : Option Addr) (n m c : Nat) (l : List UInt8) (v0 : Int) (w : World) (h0 : 0 ≤ v0) (h1 : v0 < 4294967296) (hm : n + 4 = m) (hl : Sl w A n c l) (hs : n + 4 ≤ 140737488355328) :
    Calls Try.prog 48 #[.slice A n c, .int .u32 v0] w fun e w' => ∃ v, e = .returned v ∧ w'.ownsRow w.heap.size 5 1 v m ((l ++ four v0).map u8v) ∧ Below w.heap.size w w' := by
  subst hm
  have ha := and_u32 v0 h0 h1
  have x1 : 0 ≤ v0 % 65536 := by omega
  have x2 : v0 % 65536 < 65536 := by omega
  have bel := Below.refl w.heap.size w
  go_enter Try.func48, Try.ntmps48
  go_wp2_with fail
  with_reducible refine (r16_oto _ _ (n + 2) _ _ _ _ rfl hl (by omega)).mono ?_
  rintro e w1 ⟨v, rfl, e1w, b1⟩
  have bl_hl_e1 := hl.bl_new
  have e1lo := bel.size
  have lz_e1 := b1.size
  replace hl := hl.below b1
  replace bel := bel.trans (b1.mono bel.size)
  clear b1
  obtain ⟨Ae1, ce1, rfl⟩ := own_val e1w
  have e1 := (own_sl e1w).1
  have fr_e1 := (own_sl e1w).2
  go_wp2_with fail
  with_reducible refine (r16_oto _ _ (n + 4) _ _ _ _ rfl e1 (by omega)).mono ?_
  rintro e w2 ⟨v, rfl, e2w, b2⟩
  have bl_hl_e2 := hl.bl_new
  have bl_e1_e2 := e1.bl_new
  have e2lo := bel.size
  have lz_e2 := b2.size
  replace hl := hl.below b2
  replace e1 := e1.below b2
  replace e1w := own_under e1w b2
  replace lz_e1 := Nat.le_trans lz_e1 b2.size
  replace bel := bel.trans (b2.mono bel.size)
  clear b2
  obtain ⟨Ae2, ce2, rfl⟩ := own_val e2w
  have e2 := (own_sl e2w).1
  have fr_e2 := (own_sl e2w).2
  go_wp2_with fail
  go_ret
  exact ⟨_, rfl, by rw [← four_two, ← List.append_assoc]; exact ownsRow_mono e2w e2lo, bel⟩
end Go.Proofs.Ytfmllopeeiecjaa
