/- Texts put together: Adr2, Adr3, Ref3p, Adr4, Walkw, Ref3t, Ref3a, Nets, Refn, Ref3s, Back3. -/
import Derived.Test.YtdfobilagidmfaaQ1
import Derived.Test.YtdfobilagidmfaaQ2
import Derived.Deep.QuietTactic
import Derived.BigQuiet
import Derived.Deep.RegionHeld3
import Derived.Lib.Hide
import Derived.Deep.LoopGhost
namespace Go.Proofs.Ytdfobilagidmfaa
open Go.RowKit

theorem hexI_ok {c : UInt8} (h : 0 ≤ hexI c) : (48 ≤ c.toNat ∧ c.toNat ≤ 57 ∧ hexI c = (c.toNat : Int) - 48) ∨ (97 ≤ c.toNat ∧ c.toNat ≤ 102 ∧ hexI c = (c.toNat : Int) - 97 + 10) ∨ (65 ≤ c.toNat ∧ c.toNat ≤ 70 ∧ hexI c = (c.toNat : Int) - 65 + 10) := by
  unfold hexI at h ⊢
  split at h
  · exact .inl ⟨by omega, by omega, by rw [if_pos (by omega)]⟩
  · split at h
    · exact .inr (.inl ⟨by omega, by omega, by rw [if_neg (by omega), if_pos (by omega)]⟩)
    · split at h
      · exact .inr (.inr ⟨by omega, by omega, by rw [if_neg (by omega), if_neg (by omega), if_pos (by omega)]⟩)
      · omega
theorem hexI_no {c : UInt8} (h : hexI c < 0) : ¬ (48 ≤ c.toNat ∧ c.toNat ≤ 57) ∧ ¬ (97 ≤ c.toNat ∧ c.toNat ≤ 102) ∧ ¬ (65 ≤ c.toNat ∧ c.toNat ≤ 70) := by
  unfold hexI at h
  split at h
  · omega
  · split at h
    · omega
    · split at h
      · omega
      · exact ⟨by assumption, by assumption, by assumption⟩

set_option maxRecDepth 100000 in
theorem hexDigit_ok (c : UInt8) (h : 0 ≤ hexI c) (w : World) : Calls Try.prog 84 #[.int .i32 (c.toNat : Int)] w fun e w' => e = .returned (.tuple #[.int .u8 (hexI c), .bool true]) ∧ w = w' := by
  rcases hexI_ok h with ⟨h1, h2, e⟩ | ⟨h1, h2, e⟩ | ⟨h1, h2, e⟩
  · rw [e]
    have t1 : (48 : Int) ≤ c.toNat := by omega
    have t2 : (c.toNat : Int) ≤ 57 := by omega
    clear e h
    go_enter Try.func84, Try.ntmps84
    go_wp2
    go_ret2
    exact ⟨rfl, rfl⟩
  · rw [e]
    have t1 : (97 : Int) ≤ c.toNat := by omega
    have t2 : (c.toNat : Int) ≤ 102 := by omega
    have t3 : (48 : Int) ≤ c.toNat := by omega
    have t4 : decide ((c.toNat : Int) ≤ 57) = false := decide_eq_false (by omega)
    clear e h
    go_enter Try.func84, Try.ntmps84
    go_wp2
    go_ret2
    exact ⟨rfl, rfl⟩
  · rw [e]
    have t1 : (65 : Int) ≤ c.toNat := by omega
    have t2 : (c.toNat : Int) ≤ 70 := by omega
    have t3 : (48 : Int) ≤ c.toNat := by omega
    have t4 : decide ((c.toNat : Int) ≤ 57) = false := decide_eq_false (by omega)
    have t5 : decide ((97 : Int) ≤ c.toNat) = false := decide_eq_false (by omega)
    clear e h
    go_enter Try.func84, Try.ntmps84
    go_wp2
    go_ret2
    exact ⟨rfl, rfl⟩

set_option maxRecDepth 100000 in
theorem hexDigit_no (r : Nat) (hr : r ≤ 1114111) (h : ¬ (48 ≤ r ∧ r ≤ 57) ∧ ¬ (97 ≤ r ∧ r ≤ 102) ∧ ¬ (65 ≤ r ∧ r ≤ 70)) (w : World) : Calls Try.prog 84 #[.int .i32 (r : Int)] w fun e w' => e = .returned (.tuple #[.int .u8 0, .bool false]) ∧ w = w' := by
  have r1 : (r : Int) ≤ 1114111 := by omega
  have r0 : (0 : Int) ≤ r := by omega
  rcases (by omega : r < 48 ∨ (57 < r ∧ r < 65) ∨ (70 < r ∧ r < 97) ∨ 102 < r) with k | ⟨k1, k2⟩ | ⟨k1, k2⟩ | k
  · have t1 : decide ((48 : Int) ≤ r) = false := decide_eq_false (by omega)
    have t2 : decide ((97 : Int) ≤ r) = false := decide_eq_false (by omega)
    have t3 : decide ((65 : Int) ≤ r) = false := decide_eq_false (by omega)
    clear h
    go_enter Try.func84, Try.ntmps84
    go_wp2
    go_ret2
    exact ⟨rfl, rfl⟩
  · have t1 : (48 : Int) ≤ r := by omega
    have t2 : decide ((r : Int) ≤ 57) = false := decide_eq_false (by omega)
    have t3 : decide ((97 : Int) ≤ r) = false := decide_eq_false (by omega)
    have t4 : decide ((65 : Int) ≤ r) = false := decide_eq_false (by omega)
    clear h
    go_enter Try.func84, Try.ntmps84
    go_wp2
    go_ret2
    exact ⟨rfl, rfl⟩
  · have t1 : (48 : Int) ≤ r := by omega
    have t2 : decide ((r : Int) ≤ 57) = false := decide_eq_false (by omega)
    have t3 : decide ((97 : Int) ≤ r) = false := decide_eq_false (by omega)
    have t4 : (65 : Int) ≤ r := by omega
    have t5 : decide ((r : Int) ≤ 70) = false := decide_eq_false (by omega)
    clear h
    go_enter Try.func84, Try.ntmps84
    go_wp2
    go_ret2
    exact ⟨rfl, rfl⟩
  · have t1 : (48 : Int) ≤ r := by omega
    have t2 : decide ((r : Int) ≤ 57) = false := decide_eq_false (by omega)
    have t3 : (97 : Int) ≤ r := by omega
    have t4 : decide ((r : Int) ≤ 102) = false := decide_eq_false (by omega)
    have t5 : (65 : Int) ≤ r := by omega
    have t6 : decide ((r : Int) ≤ 70) = false := decide_eq_false (by omega)
    clear h
    go_enter Try.func84, Try.ntmps84
    go_wp2
    go_ret2
    exact ⟨rfl, rfl⟩

theorem hex_rune (s : ByteArray) (pos : Nat) (h : pos < s.size) :
    (0 ≤ hexI (s[pos]'h) ∧ Utf8.decode s pos = ((s[pos]'h).toNat, 1)) ∨ (hexI (s[pos]'h) < 0 ∧ ∃ r k, Utf8.decode s pos = (r, k) ∧ r ≤ 1114111 ∧ ¬ (48 ≤ r ∧ r ≤ 57) ∧ ¬ (97 ≤ r ∧ r ≤ 102) ∧ ¬ (65 ≤ r ∧ r ≤ 70)) := by
  by_cases ha : (s[pos]'h).toNat < 128
  · have hd := decode_ascii s pos h ha
    by_cases hx : 0 ≤ hexI (s[pos]'h)
    · exact .inl ⟨hx, hd⟩
    · have hn := hexI_no (c := s[pos]'h) (by omega)
      exact .inr ⟨by omega, _, _, hd, by omega, hn.1, hn.2.1, hn.2.2⟩
  · obtain ⟨h1, h2, h3, _, _⟩ := rune_hi s pos h (by omega)
    refine .inr ⟨?_, (Utf8.decode s pos).1, (Utf8.decode s pos).2, rfl, h2, ?_⟩
    · have : ¬ 0 ≤ hexI (s[pos]'h) := fun h0 => by rcases hexI_ok h0 with h | h | h <;> omega
      omega
    · generalize (Utf8.decode s pos).1 = r at *
      omega

theorem hexPair_len (s : ByteArray) (h : s.size ≠ 2) (w : World) : Calls Try.prog 83 #[.string s] w fun e w' => e = .returned (.tuple #[.int .u8 0, .bool false]) ∧ Below w.heap.size w w' := by
  have t1 : ((s.size : Int) == 2) = false := beq_eq_false_iff_ne.2 (by omega)
  have t2 : ((s.size : Int) != 2) = true := by rw [bne, t1]; rfl
  clear h
  go_enter Try.func83, Try.ntmps83
  go_wp2
  go_ret2
  exact ⟨rfl, Below.refl _ _⟩

theorem or_u8_16 : ∀ a b : Fin 16, bits .or .u8 (IntKind.u8.wrap ((a.val : Int) * 16)) (b.val : Int) = ((a.val * 16 + b.val : Nat) : Int) := by decide +kernel

set_option maxRecDepth 100000 in
set_option maxHeartbeats 2000000 in
theorem hexPair_no (s : ByteArray) (h : s.size = 2) (hn : hexI (s[0]'(by omega)) < 0 ∨ hexI (s[1]'(by omega)) < 0) (w : World) : Calls Try.prog 83 #[.string s] w fun e w' => e = .returned (.tuple #[.int .u8 0, .bool false]) ∧ Below w.heap.size w w' := by
  have t1 : ((s.size : Int) == 2) = true := beq_iff_eq.2 (by omega)
  have t2 : ((s.size : Int) != 2) = false := by rw [bne, t1]; rfl
  have bel : ∀ p, Below w.heap.size w (w.iter s p) := fun p => (Below.refl _ _).alloc (Nat.le_refl _) _
  have nx := fun ty pos hp => run_next_any (P := Try.prog) w s pos ty hp
  rcases hex_rune s 0 (by omega) with ⟨h0, d0⟩ | ⟨h0, r, k, d0, hr, hno⟩
  · rcases hex_rune s 1 (by omega) with ⟨h1, d1⟩ | ⟨h1, r, k, d1, hr, hno⟩
    · omega
    have n0 : ∀ ty, (Instr.next (.pointer (some ⟨w.heap.size, 0, none⟩)) true ty).run Try.prog (w.iter s 0) = .ok (.tuple #[.bool true, .int .i64 0, .int .i32 ((s[0]'(by omega)).toNat : Int)]) (w.iter s 1) := fun ty => by
      have := nx ty 0 (by omega); rw [d0] at this; exact this
    have n1 : ∀ ty, (Instr.next (.pointer (some ⟨w.heap.size, 0, none⟩)) true ty).run Try.prog (w.iter s 1) = .ok (.tuple #[.bool true, .int .i64 1, .int .i32 r]) (w.iter s (1 + k)) := fun ty => by
      have := nx ty 1 (by omega); rw [d1] at this; exact this
    have hr0 := hexI_range (s[0]'(by omega))
    have HD0 := Lib.hid (fun W => hexDigit_ok _ h0 W)
    have HD := Lib.hid (fun W => hexDigit_no r hr hno W)
    have H := Lib.hid h
    obtain ⟨c, hc⟩ : ∃ c, s[0]'(by omega) = c := ⟨_, rfl⟩
    rw [hc] at n0 h0 HD0 hr0
    have x0 : 0 ≤ hexI c := h0
    have x1 : hexI c ≤ 15 := by omega
    generalize hexI c = x at *
    clear nx d0 d1 hn h1 h hno hc hr0 h0
    go_enter Try.func83, Try.ntmps83
    go_wp2
    refine wp_loop_rounds 3 ?_
    rw [rounds_succ]
    go_wp2_with fail
    with_reducible refine (HD0.out _).mono ?_
    rintro e w2 ⟨rfl, rfl⟩
    go_wp2_with fail
    rw [rounds_succ]
    go_wp2_with fail
    with_reducible refine (HD.out _).mono ?_
    rintro e w2 ⟨rfl, rfl⟩
    go_wp2
    go_ret2
    exact ⟨rfl, bel _⟩
  · have n0 : ∀ ty, (Instr.next (.pointer (some ⟨w.heap.size, 0, none⟩)) true ty).run Try.prog (w.iter s 0) = .ok (.tuple #[.bool true, .int .i64 0, .int .i32 r]) (w.iter s (0 + k)) := fun ty => by
      have := nx ty 0 (by omega); rw [d0] at this; exact this
    clear nx d0 hn h0
    have HD := Lib.hid (fun W => hexDigit_no r hr hno W)
    have H := Lib.hid h
    clear h hno
    go_enter Try.func83, Try.ntmps83
    go_wp2
    refine wp_loop_rounds 3 ?_
    rw [rounds_succ]
    go_wp2_with fail
    with_reducible refine (HD.out _).mono ?_
    rintro e w2 ⟨rfl, rfl⟩
    go_wp2
    go_ret2
    exact ⟨rfl, bel _⟩

set_option maxRecDepth 100000 in
set_option maxHeartbeats 2000000 in
theorem hexPair_ok (s : ByteArray) (h : s.size = 2) (h0 : 0 ≤ hexI (s[0]'(by omega))) (h1 : 0 ≤ hexI (s[1]'(by omega))) (w : World) : Calls Try.prog 83 #[.string s] w fun e w' => e = .returned (.tuple #[.int .u8 (16 * hexI (s[0]'(by omega)) + hexI (s[1]'(by omega))), .bool true]) ∧ Below w.heap.size w w' := by
  have t1 : ((s.size : Int) == 2) = true := beq_iff_eq.2 (by omega)
  have t2 : ((s.size : Int) != 2) = false := by rw [bne, t1]; rfl
  have bel : ∀ p, Below w.heap.size w (w.iter s p) := fun p => (Below.refl _ _).alloc (Nat.le_refl _) _
  have nx := fun ty pos hp => run_next_any (P := Try.prog) w s pos ty hp
  rcases hex_rune s 0 (by omega) with ⟨g0, d0⟩ | ⟨k0, _⟩
  rotate_left
  · omega
  rcases hex_rune s 1 (by omega) with ⟨g1, d1⟩ | ⟨k1, _⟩
  rotate_left
  · omega
  have n0 : ∀ ty, (Instr.next (.pointer (some ⟨w.heap.size, 0, none⟩)) true ty).run Try.prog (w.iter s 0) = .ok (.tuple #[.bool true, .int .i64 0, .int .i32 ((s[0]'(by omega)).toNat : Int)]) (w.iter s 1) := fun ty => by
    have := nx ty 0 (by omega); rw [d0] at this; exact this
  have n1 : ∀ ty, (Instr.next (.pointer (some ⟨w.heap.size, 0, none⟩)) true ty).run Try.prog (w.iter s 1) = .ok (.tuple #[.bool true, .int .i64 1, .int .i32 ((s[1]'(by omega)).toNat : Int)]) (w.iter s 2) := fun ty => by
    have := nx ty 1 (by omega); rw [d1] at this; exact this
  have n2 : ∀ ty, (Instr.next (.pointer (some ⟨w.heap.size, 0, none⟩)) true ty).run Try.prog (w.iter s 2) = .ok (.tuple #[.bool false]) (w.iter s 2) := fun ty => run_next_end w s 2 ty (by omega)
  have hr0 := hexI_range (s[0]'(by omega))
  have hr1 := hexI_range (s[1]'(by omega))
  have HD0 := Lib.hid (fun W => hexDigit_ok _ h0 W)
  have HD1 := Lib.hid (fun W => hexDigit_ok _ h1 W)
  obtain ⟨c, hc⟩ : ∃ c, s[0]'(by omega) = c := ⟨_, rfl⟩
  obtain ⟨d, hd⟩ : ∃ d, s[1]'(by omega) = d := ⟨_, rfl⟩
  rw [hc] at n0 h0 HD0 hr0
  rw [hd] at n1 h1 HD1 hr1
  rw [hc, hd]
  have x0 : 0 ≤ hexI c := h0
  have x1 : hexI c ≤ 15 := by omega
  have y0 : 0 ≤ hexI d := h1
  have y1 : hexI d ≤ 15 := by omega
  have hor : bits .or .u8 (hexI c * 16) (hexI d) = 16 * hexI c + hexI d := by
    have := or_u8_16 ⟨(hexI c).toNat, by omega⟩ ⟨(hexI d).toNat, by omega⟩
    simp only [Int.toNat_of_nonneg x0, Int.toNat_of_nonneg y0] at this
    rw [show IntKind.u8.wrap (hexI c * 16) = hexI c * 16 by simp [IntKind.wrap, IntKind.signed, IntKind.bits]; omega] at this
    rw [this]; omega
  have hor0 : bits .or .u8 0 (hexI c) = hexI c := by
    have := or_u8_16 ⟨0, by omega⟩ ⟨(hexI c).toNat, by omega⟩
    simp only [Int.toNat_of_nonneg x0] at this
    rw [show IntKind.u8.wrap ((((0 : Nat) : Int)) * 16) = 0 by decide] at this
    rw [this]; omega
  generalize hexI c = x at *
  generalize hexI d = y at *
  have H := Lib.hid h
  clear nx d0 d1 h1 g0 g1 h hc hd hr0 hr1 h0
  go_enter Try.func83, Try.ntmps83
  go_wp2
  refine wp_loop_rounds 3 ?_
  rw [rounds_succ]
  go_wp2_with fail
  with_reducible refine (HD0.out _).mono ?_
  rintro e w2 ⟨rfl, rfl⟩
  go_wp2_with fail
  rw [rounds_succ]
  go_wp2_with fail
  with_reducible refine (HD1.out _).mono ?_
  rintro e w2 ⟨rfl, rfl⟩
  go_wp2_with fail
  rw [rounds_succ]
  go_wp2
  go_ret2
  exact ⟨rfl, bel _⟩
open Go.RowKit

theorem sep_rune (s : ByteArray) (pos : Nat) (h : pos < s.size) (b : UInt8) (hb : b.toNat < 128) :
    (s.data.toList[pos]? = some b ∧ Utf8.decode s pos = (b.toNat, 1)) ∨
    (∃ r k, Utf8.decode s pos = (r, k) ∧ r ≤ 1114111 ∧ r ≠ b.toNat ∧ 1 ≤ k ∧ pos + k ≤ s.size ∧ ∀ j, j < k → s.data.toList.getD (pos + j) 0 ≠ b) := by
  by_cases ha : (s[pos]'h).toNat < 128
  · have hd := decode_ascii s pos h ha
    by_cases hx : s[pos]'h = b
    · exact .inl ⟨by rw [get?_at s pos h, hx], by rw [hd, hx]⟩
    · refine .inr ⟨_, _, hd, by omega, fun e => hx (UInt8.toNat_inj.1 e), Nat.le_refl _, by omega, fun j hj => ?_⟩
      obtain rfl : j = 0 := by omega
      rw [Nat.add_zero, getD_at s pos h]; exact hx
  · obtain ⟨h1, h2, h3, h4, h5⟩ := rune_hi s pos h (by omega)
    refine .inr ⟨(Utf8.decode s pos).1, (Utf8.decode s pos).2, rfl, h2, fun e => by omega, h3, h4, fun j hj e => ?_⟩
    have := h5 j hj
    rw [e] at this
    omega

theorem own_slice {w : World} {base : Nat} {e : TypeId} {size : Nat} {v : Value} {n : Nat} {xs : List Value} (h : w.ownsRow base e size v n xs) : ∃ A cap, v = .slice A n cap := by
  rcases h.2 with ⟨rfl, rfl⟩ | ⟨g, cap, _, rfl, _⟩
  · exact ⟨_, _, rfl⟩
  · exact ⟨_, _, rfl⟩
theorem own_iterAt {w : World} {base : Nat} {e : TypeId} {size : Nat} {v : Value} {n : Nat} {xs : List Value} (h : w.ownsRow base e size v n xs) {k : Nat} {s : ByteArray} {pos : Nat} (hk : w.heap[k]? = some (.stringIter s pos)) (pos' : Nat) : (w.iterAt k s pos').ownsRow base e size v n xs := by
  refine ⟨h.1, ?_⟩
  rcases h.2 with hn | ⟨g, cap, cur, hv, hbg, hg, rest⟩
  · exact .inl hn
  · have hkg : g ≠ k := by
      intro e1
      rw [e1, hk] at hg
      cases hg
    exact .inr ⟨g, cap, cur, hv, hbg, (Lib.iterAt_other w k g s pos' hkg).trans hg, rest⟩
/-- An iterator stays behind what writes a row of the call's own. -/
theorem iter_grown {w w' : World} {base : Nat} {e : TypeId} {size : Nat} {v : Value} {n : Nat} {xs : List Value} (h : w.ownsRow base e size v n xs) {k : Nat} {s : ByteArray} {pos : Nat} (hk : w.heap[k]? = some (.stringIter s pos)) (hg : w.grownBy w' v.ownBlock) : w'.heap[k]? = some (.stringIter s pos) := by
  rw [hg.block k (Array.getElem?_eq_some_iff.1 hk).1 ?_, hk]
  intro e1
  rcases h.2 with ⟨rfl, _⟩ | ⟨g, cap, cur, rfl, hbg, hg', rest⟩
  · simp [Value.ownBlock] at e1
  · simp only [Value.ownBlock, Option.some.injEq] at e1
    subst e1
    rw [hk] at hg'
    cases hg'

/-- What split answers: the pieces, if there are just so many. -/
def SpPost (b : UInt8) (l : List UInt8) (m : Nat) (w : World) (e : Ending) (w' : World) : Prop :=
  (if (cutF b l).length = m then ∃ g cap, e = .returned (.tuple #[.slice (some ⟨g, 0, none⟩) m cap, .bool true]) ∧ m ≤ cap ∧ w.heap.size ≤ g ∧ g < w'.heap.size ∧ (∀ (j : Nat) (x : List UInt8), (cutF b l)[j]? = some x → w'.cell? ⟨g, j, none⟩ = some (.string ⟨x.toArray⟩))
   else e = .returned (.tuple #[.slice none 0 0, .bool false])) ∧ Below w.heap.size w w'
theorem spPost_no {b : UInt8} {l : List UInt8} {m : Nat} {w w' : World} (h : (cutF b l).length ≠ m) (hb : Below w.heap.size w w') : SpPost b l m w (.returned (.tuple #[.slice none 0 0, .bool false])) w' := by
  unfold SpPost; rw [if_neg h]; exact ⟨rfl, hb⟩
theorem spPost_yes {b : UInt8} {l : List UInt8} {m : Nat} {w w' : World} {v : Value} (h : (cutF b l).length = m) (hm : 0 < m) (hb : Below w.heap.size w w') (hown : w'.ownsRow w.heap.size 9 1 v m ((cutF b l).map strv)) : SpPost b l m w (.returned (.tuple #[v, .bool true])) w' := by
  unfold SpPost; rw [if_pos h]
  refine ⟨?_, hb⟩
  rcases hown.2 with ⟨_, h0⟩ | ⟨g, cap, _, rfl, hgb, hh, hcap, _⟩
  · omega
  refine ⟨g, cap, rfl, hcap, hgb, (Array.getElem?_eq_some_iff.1 hh).1, fun j x hj => ?_⟩
  have hjl : j < (cutF b l).length := (List.getElem?_eq_some_iff.1 hj).1
  rw [hown.cellAt j (by omega), List.getElem?_map, hj]
  rfl

set_option maxRecDepth 100000 in
set_option maxHeartbeats 4000000 in
theorem asplit_any (s : ByteArray) (b : UInt8) (hb : b.toNat < 128) (m : Nat) (hm : 0 < m) (hm1 : m < 1000) (w : World) (hs : s.size ≤ 140737488355328) :
    Calls Try.prog 81 #[.string s, .int .i32 (b.toNat : Int), .int .i64 (m : Int)] w (SpPost b s.data.toList m w) := by
  obtain ⟨i0, hi, hz0, hz1, hz2⟩ := info_parts Try.info_str
  have hlen : s.data.toList.length = s.size := by simp
  have HLEN := Lib.hid hlen
  clear hlen
  have s1 : (s.size : Int) ≤ 140737488355328 := by omega
  have hb0 : (0 : Int) ≤ b.toNat := by omega
  have hb1 : (b.toNat : Int) < 128 := by omega
  have m0 : (0 : Int) < m := by omega
  have m1 : (m : Int) < 1000 := by omega
  go_enter Try.func81, Try.ntmps81
  go_wp2_with (at_make; refine wpList_make_own _ rfl _ _ 47 rfl w.heap.size 9 i0 (.string ⟨#[]⟩) 1 Try.underlying47 hi hz0 hz1 .i64 .i64 _ m rfl rfl rfl (by rw [hz2]; omega) (by unfold maxLen; omega) (Nat.le_refl _) ?_; intro w0 hown0 hgrow0; refine Hid.out ?_)
  refine Lib.hid ?_
  have bel0 : Below w.heap.size w w0 := (Below.refl _ _).grown hgrow0 (Nat.le_refl _) (fun k h => by cases h)
  obtain ⟨B, hB⟩ : ∃ B, Hid (B = w.heap.size) := ⟨_, Lib.hid rfl⟩
  obtain ⟨I, hI⟩ : ∃ I, Hid (I = w0.heap.size) := ⟨_, Lib.hid rfl⟩
  go_wp2
  go_loopw [8, 9] (fun p f wr => ∃ (pos start : Nat) (ps : List (List UInt8)) (v0 : Value), v0 = p ∧ f = .int .i64 start ∧ CutInv b s.data.toList pos start ps ∧ ps.length < m ∧ wr.ownsRow w.heap.size 9 1 p ps.length (ps.map strv) ∧ wr.heap[w0.heap.size]? = some (.stringIter s pos) ∧ Below w.heap.size w wr) (fun _ _ wr => s.size - wr.iterPos w0.heap.size)
  case atStart => exact ⟨0, 0, [], _, rfl, rfl, cutInv_start _ _, hm, hown0.alloc _, World.iter_heap _ _ _, bel0.alloc bel0.size _⟩
  case round =>
    obtain ⟨pos, start, ps, v, rfl, rfl, hci, hps, hown, hit, bel⟩ := hrel
    have hsl := hci.1
    have hpl : pos ≤ s.size := by have := hci.2.1; have := HLEN.out; omega
    obtain ⟨A, cap, rfl⟩ := own_slice hown
    have x0 : (0 : Int) ≤ start := by omega
    have x1 : (start : Int) ≤ pos := by omega
    have x2 : (pos : Int) ≤ s.size := by omega
    have y1 : (ps.length : Int) < m := by omega
    have hex := Lib.hid (extract_str s start pos)
    by_cases hlt : pos < s.size
    · have x3 : (pos : Int) < s.size := by omega
      rcases sep_rune s pos hlt b hb with ⟨hat, hd⟩ | ⟨r, k, hd, hr, hne, hk, hkl, hfree⟩
      · have hnx : ∀ ty, (Instr.next (.pointer (some ⟨w0.heap.size, 0, none⟩)) true ty).run Try.prog wr = .ok (.tuple #[.bool true, .int .i64 pos, .int .i32 (b.toNat : Int)]) (wr.iterAt w0.heap.size s (pos + 1)) := fun ty => by
          have := Lib.run_next_any_at (P := Try.prog) wr w0.heap.size s pos ty hit hlt
          rw [hd] at this; exact this
        by_cases hk : ps.length = m - 1
        · have hno : Hid ((cutF b s.data.toList).length ≠ m) := Lib.hid (by have := cutInv_many hci hat; omega)
          have t1 : ((ps.length : Int) == (m : Int) - 1) = true := beq_iff_eq.2 (by omega)
          have bel2 := Lib.below_iterAt bel (k := w0.heap.size) bel0.size s (pos + 1)
          clear hd hat hci hk hown hown0
          go_wp2
          go_ret2
          exact spPost_no hno.out bel2
        · have t1 : ((ps.length : Int) == (m : Int) - 1) = false := beq_eq_false_iff_ne.2 (by omega)
          have hst := Lib.hid (cutInv_sep hci hat)
          have hown2 := own_iterAt hown hit (pos + 1)
          have hit2 := Lib.iterAt_heap wr w0.heap.size s pos (pos + 1) hit
          have bel2 := Lib.below_iterAt bel (k := w0.heap.size) bel0.size s (pos + 1)
          have hlt2 : ps.length + 1 < m := by omega
          clear hd hat hci hk hown hown0 bel
          go_wp2_with (at_builtin; refine wpList_append_own _ rfl (.tmp 28) (.tmp 33) 47 rfl w.heap.size 9 i0 (.string ⟨#[]⟩) 1 16 Try.underlying47 hi hz0 hz1 hz2 rfl (by decide) _ _ _ rfl (hown2.alloc _) ⟨(wr.iterAt w0.heap.size s (pos + 1)).heap.size, 0, none⟩ 1 1 [.string (s.extract start pos)] rfl rfl ?c1 ?c2 ?c3 ?c4 ?c5 ?_)
          case c1 => exact cell_one_new _ _ _
          case c2 => intro u hu; rw [List.mem_singleton.1 hu]; rfl
          case c3 => unfold maxLen; omega
          case c4 => omega
          case c5 => have := bel2.size; simp; omega
          intro v' w1 hown1 hg1 _
          have bel3 : Below w.heap.size w w1 := (bel2.alloc bel2.size _).grown hg1 (by have := bel2.size; simp; omega) (fun k h => (hown2.lt k h).1)
          have hit3 := iter_grown (hown2.alloc _) ((Go.heap_alloc_old _ _ (Array.getElem?_eq_some_iff.1 hit2).1).trans hit2) hg1
          have hown3 : w1.ownsRow w.heap.size 9 1 v' (ps ++ [(s.data.toList.take pos).drop start]).length ((ps ++ [(s.data.toList.take pos).drop start]).map strv) := by
            rw [List.map_append, List.length_append]
            have e : strv ((s.data.toList.take pos).drop start) = .string (s.extract start pos) := by rw [hex.out]; rfl
            rw [List.map_singleton, e]
            exact hown1
          clear hown1 hg1 hown2 hit2 bel2
          go_wp2
          go_roundw
          case rel => exact ⟨pos + 1, pos + 1, _, _, rfl, by go_num, hst.out, by rw [List.length_append]; exact hlt2, hown3, hit3, bel3⟩
          case measure => simp [World.iterPos, hit, hit3]; omega
      · have hnx : ∀ ty, (Instr.next (.pointer (some ⟨w0.heap.size, 0, none⟩)) true ty).run Try.prog wr = .ok (.tuple #[.bool true, .int .i64 pos, .int .i32 (r : Int)]) (wr.iterAt w0.heap.size s (pos + k)) := fun ty => by
          have := Lib.run_next_any_at (P := Try.prog) wr w0.heap.size s pos ty hit hlt
          rw [hd] at this; exact this
        have r0 : (0 : Int) ≤ r := by omega
        have r1 : (r : Int) ≤ 1114111 := by omega
        have t1 : ((r : Int) == (b.toNat : Int)) = false := beq_eq_false_iff_ne.2 (by omega)
        have t2 : ((r : Int) != (b.toNat : Int)) = true := by rw [bne, t1]; rfl
        have hst := Lib.hid (cutInv_skip hci k (by have := HLEN.out; omega) hfree)
        have hown2 := own_iterAt hown hit (pos + k)
        have hit2 := Lib.iterAt_heap wr w0.heap.size s pos (pos + k) hit
        have bel2 := Lib.below_iterAt bel (k := w0.heap.size) bel0.size s (pos + k)
        clear hd hci hown hown0 bel hne hfree
        go_wp2
        go_roundw
        case rel => exact ⟨pos + k, start, ps, _, rfl, rfl, hst.out, hps, hown2, hit2, bel2⟩
        case measure => simp [World.iterPos, hit, hit2]; omega
    · obtain rfl : pos = s.size := by omega
      have hnx : ∀ ty, (Instr.next (.pointer (some ⟨w0.heap.size, 0, none⟩)) true ty).run Try.prog wr = .ok (.tuple #[.bool false]) wr := fun ty => Lib.run_next_end_at wr w0.heap.size s s.size ty hit hlt
      have hend : cutF b s.data.toList = ps ++ [s.data.toList.drop start] := by
        rw [← HLEN.out] at hci; exact cutInv_end hci
      have hex2 := Lib.hid (extract_end s start)
      clear hex
      by_cases hk : ps.length < m - 1
      · have hno : Hid ((cutF b s.data.toList).length ≠ m) := Lib.hid (by rw [hend, List.length_append, List.length_singleton]; omega)
        have t1 : (ps.length : Int) < (m : Int) - 1 := by omega
        clear hend hci hk hown hown0
        go_wp2
        go_ret2
        exact spPost_no hno.out bel
      · have hk1 : ps.length + 1 = m := by omega
        have hyes : Hid ((cutF b s.data.toList).length = m) := Lib.hid (by rw [hend, List.length_append, List.length_singleton]; omega)
        have t1 : decide ((ps.length : Int) < (m : Int) - 1) = false := decide_eq_false (by omega)
        have HEND := Lib.hid hend
        have HK1 := Lib.hid hk1
        clear hend hci hk hown0 hk1
        go_wp2_with (at_builtin; refine wpList_append_own _ rfl (.tmp 42) (.tmp 46) 47 rfl w.heap.size 9 i0 (.string ⟨#[]⟩) 1 16 Try.underlying47 hi hz0 hz1 hz2 rfl (by decide) _ _ _ rfl (hown.alloc _) ⟨wr.heap.size, 0, none⟩ 1 1 [.string (s.extract start s.size)] rfl rfl ?d1 ?d2 ?d3 ?d4 ?d5 ?_)
        case d1 => exact cell_one_new _ _ _
        case d2 => intro u hu; rw [List.mem_singleton.1 hu]; rfl
        case d3 => unfold maxLen; omega
        case d4 => omega
        case d5 => have := bel.size; simp; omega
        intro v' w1 hown1 hg1 _
        have bel3 : Below w.heap.size w w1 := (bel.alloc bel.size _).grown hg1 (by have := bel.size; simp; omega) (fun k h => (hown.lt k h).1)
        have hown3 : w1.ownsRow w.heap.size 9 1 v' m ((cutF b s.data.toList).map strv) := by
          rw [HEND.out, List.map_append, ← HK1.out]
          have e : strv (s.data.toList.drop start) = .string (s.extract start s.size) := by rw [hex2.out]; rfl
          rw [List.map_singleton, e]
          exact hown1
        clear hown1 hg1 hown bel
        go_wp2
        go_ret2
        exact spPost_yes hyes.out hm bel3 hown3
open Go.RowKit

/-- An address, as the reference reads it. -/
def parse4 (l : List UInt8) : Option (UInt8 × UInt8 × UInt8 × UInt8) :=
  if 15 < l.length then none else match cutF 46 l with
  | [a, b, c, d] => if 0 ≤ numI a 255 ∧ 0 ≤ numI b 255 ∧ 0 ≤ numI c 255 ∧ 0 ≤ numI d 255 then some (byteOf (numI a 255), byteOf (numI b 255), byteOf (numI c 255), byteOf (numI d 255)) else none
  | _ => none
def addrV (a b c d : UInt8) : Value := .agg #[u8v a, u8v b, u8v c, u8v d]

/-- What Cut gives: a slice of strings of the call's own. -/
theorem cut_as (s : ByteArray) (b : Int) (bb : UInt8) (hb : b = (bb.toNat : Int)) (w : World) (hs : s.size ≤ 1000) :
    Calls Try.prog 43 #[.string s, .int .u8 b] w fun e w' => ∃ g cap, e = .returned (.slice (some ⟨g, 0, none⟩) (cutF bb s.data.toList).length cap) ∧ (cutF bb s.data.toList).length ≤ cap ∧ w.heap.size ≤ g ∧ g < w'.heap.size ∧
      (∀ (j : Nat) (x : List UInt8), (cutF bb s.data.toList)[j]? = some x → w'.cell? ⟨g, j, none⟩ = some (.string ⟨x.toArray⟩)) ∧ Below w.heap.size w w' := by
  subst hb
  refine (cut_any s bb w hs).mono ?_
  rintro e w1 ⟨v, rfl, hown, bel⟩
  have hne := cutF_ne bb s.data.toList
  have hpos : 0 < (cutF bb s.data.toList).length := List.length_pos_iff.2 hne
  generalize cutF bb s.data.toList = ls at *
  rcases hown.2 with ⟨_, h0⟩ | ⟨g, cap, _, rfl, hgb, hh, hcap, _⟩
  · omega
  refine ⟨g, cap, rfl, hcap, hgb, (Array.getElem?_eq_some_iff.1 hh).1, fun j x hj => ?_, bel⟩
  have hjl : j < ls.length := (List.getElem?_eq_some_iff.1 hj).1
  rw [hown.cellAt j (by omega), List.getElem?_map, hj]
  rfl

theorem u8v_byteOf {x : Int} (h0 : 0 ≤ x) (h1 : x ≤ 255) : u8v (byteOf x) = .int .u8 x := by
  unfold u8v; rw [byteOf_val]; congr 1; omega
theorem size_bs (l : List UInt8) : (⟨l.toArray⟩ : ByteArray).size = l.length := by simp [ByteArray.size]
/-- The result's block behind a call: as it was laid. -/
theorem old_addr {w w1 : World} (h : Below (w.alloc (.cells #[.int .u8 0, .int .u8 0, .int .u8 0, .int .u8 0] 24)).heap.size (w.alloc (.cells #[.int .u8 0, .int .u8 0, .int .u8 0, .int .u8 0] 24)) w1) :
    w1.heap[w.heap.size]? = some (.cells #[.int .u8 0, .int .u8 0, .int .u8 0, .int .u8 0] 24 (0, 0)) ∧ w.heap.size < w1.heap.size := by
  have hs := h.size
  simp at hs
  exact ⟨(h.block _ (by simp)).trans (heap_alloc_new w _), by omega⟩

theorem parse_long (s : ByteArray) (w : World) (h : 15 < s.size) (hs : s.size ≤ 100000) :
    Calls Try.prog 45 #[.string s] w fun e w' => e = .returned (.tuple #[addrV 0 0 0 0, .bool false]) ∧ Below w.heap.size w w' := by
  have b1 : (15 : Int) < s.size := by omega
  have s1 : (s.size : Int) ≤ 100000 := by omega
  clear h hs
  go_enter Try.func45, Try.ntmps45
  go_wp2
  exact bodyPost_ret (v := .tuple #[addrV 0 0 0 0, .bool false]) (by simp [results, Try.results45, go_sem, addrV, u8v]) rfl ⟨rfl, (Below.refl _ _).alloc (Nat.le_refl _) _⟩

set_option maxHeartbeats 1000000 in
theorem parse_pieces (s : ByteArray) (w : World) (hs : s.size ≤ 15) (hp : (cutF 46 s.data.toList).length ≠ 4) :
    Calls Try.prog 45 #[.string s] w fun e w' => e = .returned (.tuple #[addrV 0 0 0 0, .bool false]) ∧ Below w.heap.size w w' := by
  have b1 : (s.size : Int) ≤ 15 := by omega
  go_enter Try.func45, Try.ntmps45
  go_wp2_with fail
  have hne : (((cutF 46 s.data.toList).length : Int) == 4) = false := beq_eq_false_iff_ne.2 (by omega)
  with_reducible refine (cut_as s 46 46 rfl _ (by omega)).mono ?_
  rintro e w1 ⟨g, cap, rfl, hcap, hg0, hg1, hc, bel1⟩
  have bel := ((Below.refl w.heap.size w).alloc (Nat.le_refl _) (.cells #[.int .u8 0, .int .u8 0, .int .u8 0, .int .u8 0] 24)).trans (bel1.mono (by simp))
  obtain ⟨r0, r1⟩ := old_addr bel1
  obtain ⟨⟨q0, q1, q2, q3⟩, f0, f1, f2, f3⟩ := cells4 r0
  generalize (cutF 46 s.data.toList).length = n at *
  have HP := Lib.hid hp
  clear hp hc hcap hs r0
  go_wp2
  exact bodyPost_ret (v := .tuple #[addrV 0 0 0 0, .bool false]) (by simp [results, Try.results45, go_sem, addrV, u8v, q0, q1, q2, q3]) rfl ⟨rfl, ((((bel).setCell (Nat.le_refl _) _).setCell (Nat.le_refl _) _).setCell (Nat.le_refl _) _).setCell (Nat.le_refl _) _⟩

set_option maxHeartbeats 4000000 in
theorem parse_at0 (s : ByteArray) (w : World) (a b c d : List UInt8) (hs : s.size ≤ 15) (hp : cutF 46 s.data.toList = [a, b, c, d])  (ha : numI a 255 < 0) :
    Calls Try.prog 45 #[.string s] w fun e w' => e = .returned (.tuple #[addrV 0 0 0 0, .bool false]) ∧ Below w.heap.size w w' := by
  have b1 : (s.size : Int) ≤ 15 := by omega
  have hpc := cutF_piece 46 s.data.toList
  rw [hp] at hpc
  have HPC := Lib.hid hpc
  have HP := Lib.hid hp
  clear hp hpc
  go_enter Try.func45, Try.ntmps45
  go_wp2_with fail
  with_reducible refine (cut_as s 46 46 rfl _ (by omega)).mono ?_
  rintro e w1 ⟨g, cap, rfl, hcap, hg0, hg1, hc, bel1⟩
  have bel := ((Below.refl w.heap.size w).alloc (Nat.le_refl _) (.cells #[.int .u8 0, .int .u8 0, .int .u8 0, .int .u8 0] 24)).trans (bel1.mono (by simp))
  obtain ⟨r0, r1⟩ := old_addr bel1
  obtain ⟨⟨q0, q1, q2, q3⟩, f0, f1, f2, f3⟩ := cells4 r0
  rw [HP.out] at hc hcap ⊢
  have p0 := hc 0 a rfl
  have p1 := hc 1 b rfl
  have p2 := hc 2 c rfl
  have p3 := hc 3 d rfl
  have hcap4 : (4 : Int) ≤ cap := by simp at hcap; omega
  have hgw : g ≠ w.heap.size := by simp at hg0; omega
  have hgb : g ≠ w1.heap.size := by omega
  have hwb : w.heap.size ≠ w1.heap.size := by omega
  have hl4 : ([a, b, c, d] : List (List UInt8)).length = 4 := rfl
  rw [hl4]
  have hsz : s.data.toList.length ≤ 15 := by simp; omega
  have HSZ := Lib.hid hsz
  have HR0 := Lib.hid r0
  clear hc hcap r0 hl4 hg0 hs hsz
  go_wp2_with fail
  refine wp_loop_rounds 5 ?_
  rw [rounds_succ]
  go_wp2_with fail
  with_reducible refine (number_any ⟨a.toArray⟩ 255 _ (by rw [size_bs]; have := HPC.out a (by simp); have := HSZ.out; unfold maxLen; omega)).mono ?_
  rintro e w2 ⟨rfl, rfl⟩
  rw [show (⟨a.toArray⟩ : ByteArray).data.toList = a by simp]
  go_wp2
  have R4 : ((((w1.setCell ⟨w.heap.size, 0, none⟩ (.int .u8 0)).setCell ⟨w.heap.size, 1, none⟩ (.int .u8 0)).setCell ⟨w.heap.size, 2, none⟩ (.int .u8 0)).setCell ⟨w.heap.size, 3, none⟩ (.int .u8 0)).heap[w.heap.size]? = some (.cells #[.int .u8 0, .int .u8 0, .int .u8 0, .int .u8 0] 24 (0, 0)) := put4 HR0.out
  have R5 := (Go.heap_alloc_old ((((w1.setCell ⟨w.heap.size, 0, none⟩ (.int .u8 0)).setCell ⟨w.heap.size, 1, none⟩ (.int .u8 0)).setCell ⟨w.heap.size, 2, none⟩ (.int .u8 0)).setCell ⟨w.heap.size, 3, none⟩ (.int .u8 0)) (.cells #[.int .u8 0, .int .u8 0, .int .u8 0, .int .u8 0] 24) (r := w.heap.size) (by simp; exact r1)).trans R4
  obtain ⟨⟨k0, k1, k2, k3⟩, _⟩ := cells4 R5
  clear R4 R5
  exact bodyPost_ret (v := .tuple #[addrV 0 0 0 0, .bool false]) (by simp [results, Try.results45, go_sem, addrV, u8v, k0, k1, k2, k3]) rfl ⟨rfl, (((((bel.setCell (Nat.le_refl _) _).setCell (Nat.le_refl _) _).setCell (Nat.le_refl _) _).setCell (Nat.le_refl _) _).alloc (by simp; omega) _)⟩

set_option maxHeartbeats 4000000 in
theorem parse_at1 (s : ByteArray) (w : World) (a b c d : List UInt8) (hs : s.size ≤ 15) (hp : cutF 46 s.data.toList = [a, b, c, d]) (ha : 0 ≤ numI a 255) (hb : numI b 255 < 0) :
    Calls Try.prog 45 #[.string s] w fun e w' => e = .returned (.tuple #[addrV 0 0 0 0, .bool false]) ∧ Below w.heap.size w w' := by
  have b1 : (s.size : Int) ≤ 15 := by omega
  have hpc := cutF_piece 46 s.data.toList
  rw [hp] at hpc
  have HPC := Lib.hid hpc
  have HP := Lib.hid hp
  clear hp hpc
  have ra := numI_range a 255
  have ra1 : numI a 255 ≤ 255 := by omega
  clear ra
  go_enter Try.func45, Try.ntmps45
  go_wp2_with fail
  with_reducible refine (cut_as s 46 46 rfl _ (by omega)).mono ?_
  rintro e w1 ⟨g, cap, rfl, hcap, hg0, hg1, hc, bel1⟩
  have bel := ((Below.refl w.heap.size w).alloc (Nat.le_refl _) (.cells #[.int .u8 0, .int .u8 0, .int .u8 0, .int .u8 0] 24)).trans (bel1.mono (by simp))
  obtain ⟨r0, r1⟩ := old_addr bel1
  obtain ⟨⟨q0, q1, q2, q3⟩, f0, f1, f2, f3⟩ := cells4 r0
  rw [HP.out] at hc hcap ⊢
  have p0 := hc 0 a rfl
  have p1 := hc 1 b rfl
  have p2 := hc 2 c rfl
  have p3 := hc 3 d rfl
  have hcap4 : (4 : Int) ≤ cap := by simp at hcap; omega
  have hgw : g ≠ w.heap.size := by simp at hg0; omega
  have hgb : g ≠ w1.heap.size := by omega
  have hwb : w.heap.size ≠ w1.heap.size := by omega
  have hl4 : ([a, b, c, d] : List (List UInt8)).length = 4 := rfl
  rw [hl4]
  have hsz : s.data.toList.length ≤ 15 := by simp; omega
  have HSZ := Lib.hid hsz
  have HR0 := Lib.hid r0
  clear hc hcap r0 hl4 hg0 hs hsz
  go_wp2_with fail
  refine wp_loop_rounds 5 ?_
  rw [rounds_succ]
  go_wp2_with fail
  with_reducible refine (number_any ⟨a.toArray⟩ 255 _ (by rw [size_bs]; have := HPC.out a (by simp); have := HSZ.out; unfold maxLen; omega)).mono ?_
  rintro e w2 ⟨rfl, rfl⟩
  rw [show (⟨a.toArray⟩ : ByteArray).data.toList = a by simp]
  go_wp2_with fail
  rw [rounds_succ]
  go_wp2_with fail
  with_reducible refine (number_any ⟨b.toArray⟩ 255 _ (by rw [size_bs]; have := HPC.out b (by simp); have := HSZ.out; unfold maxLen; omega)).mono ?_
  rintro e w2 ⟨rfl, rfl⟩
  rw [show (⟨b.toArray⟩ : ByteArray).data.toList = b by simp]
  go_wp2
  have R4 : ((((w1.setCell ⟨w.heap.size, 0, none⟩ (.int .u8 0)).setCell ⟨w.heap.size, 1, none⟩ (.int .u8 0)).setCell ⟨w.heap.size, 2, none⟩ (.int .u8 0)).setCell ⟨w.heap.size, 3, none⟩ (.int .u8 0)).heap[w.heap.size]? = some (.cells #[.int .u8 0, .int .u8 0, .int .u8 0, .int .u8 0] 24 (0, 0)) := put4 HR0.out
  have R5 := (Go.heap_alloc_old ((((w1.setCell ⟨w.heap.size, 0, none⟩ (.int .u8 0)).setCell ⟨w.heap.size, 1, none⟩ (.int .u8 0)).setCell ⟨w.heap.size, 2, none⟩ (.int .u8 0)).setCell ⟨w.heap.size, 3, none⟩ (.int .u8 0)) (.cells #[.int .u8 (numI a 255), .int .u8 0, .int .u8 0, .int .u8 0] 24) (r := w.heap.size) (by simp; exact r1)).trans R4
  obtain ⟨⟨k0, k1, k2, k3⟩, _⟩ := cells4 R5
  clear R4 R5
  exact bodyPost_ret (v := .tuple #[addrV 0 0 0 0, .bool false]) (by simp [results, Try.results45, go_sem, addrV, u8v, k0, k1, k2, k3]) rfl ⟨rfl, (((((bel.setCell (Nat.le_refl _) _).setCell (Nat.le_refl _) _).setCell (Nat.le_refl _) _).setCell (Nat.le_refl _) _).alloc (by simp; omega) _)⟩

set_option maxHeartbeats 4000000 in
theorem parse_at2 (s : ByteArray) (w : World) (a b c d : List UInt8) (hs : s.size ≤ 15) (hp : cutF 46 s.data.toList = [a, b, c, d]) (ha : 0 ≤ numI a 255) (hb : 0 ≤ numI b 255) (hc : numI c 255 < 0) :
    Calls Try.prog 45 #[.string s] w fun e w' => e = .returned (.tuple #[addrV 0 0 0 0, .bool false]) ∧ Below w.heap.size w w' := by
  have b1 : (s.size : Int) ≤ 15 := by omega
  have hpc := cutF_piece 46 s.data.toList
  rw [hp] at hpc
  have HPC := Lib.hid hpc
  have HP := Lib.hid hp
  clear hp hpc
  have ra := numI_range a 255
  have ra1 : numI a 255 ≤ 255 := by omega
  clear ra
  have rb := numI_range b 255
  have rb1 : numI b 255 ≤ 255 := by omega
  clear rb
  go_enter Try.func45, Try.ntmps45
  go_wp2_with fail
  with_reducible refine (cut_as s 46 46 rfl _ (by omega)).mono ?_
  rintro e w1 ⟨g, cap, rfl, hcap, hg0, hg1, hc, bel1⟩
  have bel := ((Below.refl w.heap.size w).alloc (Nat.le_refl _) (.cells #[.int .u8 0, .int .u8 0, .int .u8 0, .int .u8 0] 24)).trans (bel1.mono (by simp))
  obtain ⟨r0, r1⟩ := old_addr bel1
  obtain ⟨⟨q0, q1, q2, q3⟩, f0, f1, f2, f3⟩ := cells4 r0
  rw [HP.out] at hc hcap ⊢
  have p0 := hc 0 a rfl
  have p1 := hc 1 b rfl
  have p2 := hc 2 c rfl
  have p3 := hc 3 d rfl
  have hcap4 : (4 : Int) ≤ cap := by simp at hcap; omega
  have hgw : g ≠ w.heap.size := by simp at hg0; omega
  have hgb : g ≠ w1.heap.size := by omega
  have hwb : w.heap.size ≠ w1.heap.size := by omega
  have hl4 : ([a, b, c, d] : List (List UInt8)).length = 4 := rfl
  rw [hl4]
  have hsz : s.data.toList.length ≤ 15 := by simp; omega
  have HSZ := Lib.hid hsz
  have HR0 := Lib.hid r0
  clear hc hcap r0 hl4 hg0 hs hsz
  go_wp2_with fail
  refine wp_loop_rounds 5 ?_
  rw [rounds_succ]
  go_wp2_with fail
  with_reducible refine (number_any ⟨a.toArray⟩ 255 _ (by rw [size_bs]; have := HPC.out a (by simp); have := HSZ.out; unfold maxLen; omega)).mono ?_
  rintro e w2 ⟨rfl, rfl⟩
  rw [show (⟨a.toArray⟩ : ByteArray).data.toList = a by simp]
  go_wp2_with fail
  rw [rounds_succ]
  go_wp2_with fail
  with_reducible refine (number_any ⟨b.toArray⟩ 255 _ (by rw [size_bs]; have := HPC.out b (by simp); have := HSZ.out; unfold maxLen; omega)).mono ?_
  rintro e w2 ⟨rfl, rfl⟩
  rw [show (⟨b.toArray⟩ : ByteArray).data.toList = b by simp]
  go_wp2_with fail
  rw [rounds_succ]
  go_wp2_with fail
  with_reducible refine (number_any ⟨c.toArray⟩ 255 _ (by rw [size_bs]; have := HPC.out c (by simp); have := HSZ.out; unfold maxLen; omega)).mono ?_
  rintro e w2 ⟨rfl, rfl⟩
  rw [show (⟨c.toArray⟩ : ByteArray).data.toList = c by simp]
  go_wp2
  have R4 : ((((w1.setCell ⟨w.heap.size, 0, none⟩ (.int .u8 0)).setCell ⟨w.heap.size, 1, none⟩ (.int .u8 0)).setCell ⟨w.heap.size, 2, none⟩ (.int .u8 0)).setCell ⟨w.heap.size, 3, none⟩ (.int .u8 0)).heap[w.heap.size]? = some (.cells #[.int .u8 0, .int .u8 0, .int .u8 0, .int .u8 0] 24 (0, 0)) := put4 HR0.out
  have R5 := (Go.heap_alloc_old ((((w1.setCell ⟨w.heap.size, 0, none⟩ (.int .u8 0)).setCell ⟨w.heap.size, 1, none⟩ (.int .u8 0)).setCell ⟨w.heap.size, 2, none⟩ (.int .u8 0)).setCell ⟨w.heap.size, 3, none⟩ (.int .u8 0)) (.cells #[.int .u8 (numI a 255), .int .u8 (numI b 255), .int .u8 0, .int .u8 0] 24) (r := w.heap.size) (by simp; exact r1)).trans R4
  obtain ⟨⟨k0, k1, k2, k3⟩, _⟩ := cells4 R5
  clear R4 R5
  exact bodyPost_ret (v := .tuple #[addrV 0 0 0 0, .bool false]) (by simp [results, Try.results45, go_sem, addrV, u8v, k0, k1, k2, k3]) rfl ⟨rfl, (((((bel.setCell (Nat.le_refl _) _).setCell (Nat.le_refl _) _).setCell (Nat.le_refl _) _).setCell (Nat.le_refl _) _).alloc (by simp; omega) _)⟩

set_option maxHeartbeats 4000000 in
theorem parse_at3 (s : ByteArray) (w : World) (a b c d : List UInt8) (hs : s.size ≤ 15) (hp : cutF 46 s.data.toList = [a, b, c, d]) (ha : 0 ≤ numI a 255) (hb : 0 ≤ numI b 255) (hc : 0 ≤ numI c 255) (hd : numI d 255 < 0) :
    Calls Try.prog 45 #[.string s] w fun e w' => e = .returned (.tuple #[addrV 0 0 0 0, .bool false]) ∧ Below w.heap.size w w' := by
  have b1 : (s.size : Int) ≤ 15 := by omega
  have hpc := cutF_piece 46 s.data.toList
  rw [hp] at hpc
  have HPC := Lib.hid hpc
  have HP := Lib.hid hp
  clear hp hpc
  have ra := numI_range a 255
  have ra1 : numI a 255 ≤ 255 := by omega
  clear ra
  have rb := numI_range b 255
  have rb1 : numI b 255 ≤ 255 := by omega
  clear rb
  have rc := numI_range c 255
  have rc1 : numI c 255 ≤ 255 := by omega
  clear rc
  go_enter Try.func45, Try.ntmps45
  go_wp2_with fail
  with_reducible refine (cut_as s 46 46 rfl _ (by omega)).mono ?_
  rintro e w1 ⟨g, cap, rfl, hcap, hg0, hg1, hc, bel1⟩
  have bel := ((Below.refl w.heap.size w).alloc (Nat.le_refl _) (.cells #[.int .u8 0, .int .u8 0, .int .u8 0, .int .u8 0] 24)).trans (bel1.mono (by simp))
  obtain ⟨r0, r1⟩ := old_addr bel1
  obtain ⟨⟨q0, q1, q2, q3⟩, f0, f1, f2, f3⟩ := cells4 r0
  rw [HP.out] at hc hcap ⊢
  have p0 := hc 0 a rfl
  have p1 := hc 1 b rfl
  have p2 := hc 2 c rfl
  have p3 := hc 3 d rfl
  have hcap4 : (4 : Int) ≤ cap := by simp at hcap; omega
  have hgw : g ≠ w.heap.size := by simp at hg0; omega
  have hgb : g ≠ w1.heap.size := by omega
  have hwb : w.heap.size ≠ w1.heap.size := by omega
  have hl4 : ([a, b, c, d] : List (List UInt8)).length = 4 := rfl
  rw [hl4]
  have hsz : s.data.toList.length ≤ 15 := by simp; omega
  have HSZ := Lib.hid hsz
  have HR0 := Lib.hid r0
  clear hc hcap r0 hl4 hg0 hs hsz
  go_wp2_with fail
  refine wp_loop_rounds 5 ?_
  rw [rounds_succ]
  go_wp2_with fail
  with_reducible refine (number_any ⟨a.toArray⟩ 255 _ (by rw [size_bs]; have := HPC.out a (by simp); have := HSZ.out; unfold maxLen; omega)).mono ?_
  rintro e w2 ⟨rfl, rfl⟩
  rw [show (⟨a.toArray⟩ : ByteArray).data.toList = a by simp]
  go_wp2_with fail
  rw [rounds_succ]
  go_wp2_with fail
  with_reducible refine (number_any ⟨b.toArray⟩ 255 _ (by rw [size_bs]; have := HPC.out b (by simp); have := HSZ.out; unfold maxLen; omega)).mono ?_
  rintro e w2 ⟨rfl, rfl⟩
  rw [show (⟨b.toArray⟩ : ByteArray).data.toList = b by simp]
  go_wp2_with fail
  rw [rounds_succ]
  go_wp2_with fail
  with_reducible refine (number_any ⟨c.toArray⟩ 255 _ (by rw [size_bs]; have := HPC.out c (by simp); have := HSZ.out; unfold maxLen; omega)).mono ?_
  rintro e w2 ⟨rfl, rfl⟩
  rw [show (⟨c.toArray⟩ : ByteArray).data.toList = c by simp]
  go_wp2_with fail
  rw [rounds_succ]
  go_wp2_with fail
  with_reducible refine (number_any ⟨d.toArray⟩ 255 _ (by rw [size_bs]; have := HPC.out d (by simp); have := HSZ.out; unfold maxLen; omega)).mono ?_
  rintro e w2 ⟨rfl, rfl⟩
  rw [show (⟨d.toArray⟩ : ByteArray).data.toList = d by simp]
  go_wp2
  have R4 : ((((w1.setCell ⟨w.heap.size, 0, none⟩ (.int .u8 0)).setCell ⟨w.heap.size, 1, none⟩ (.int .u8 0)).setCell ⟨w.heap.size, 2, none⟩ (.int .u8 0)).setCell ⟨w.heap.size, 3, none⟩ (.int .u8 0)).heap[w.heap.size]? = some (.cells #[.int .u8 0, .int .u8 0, .int .u8 0, .int .u8 0] 24 (0, 0)) := put4 HR0.out
  have R5 := (Go.heap_alloc_old ((((w1.setCell ⟨w.heap.size, 0, none⟩ (.int .u8 0)).setCell ⟨w.heap.size, 1, none⟩ (.int .u8 0)).setCell ⟨w.heap.size, 2, none⟩ (.int .u8 0)).setCell ⟨w.heap.size, 3, none⟩ (.int .u8 0)) (.cells #[.int .u8 (numI a 255), .int .u8 (numI b 255), .int .u8 (numI c 255), .int .u8 0] 24) (r := w.heap.size) (by simp; exact r1)).trans R4
  obtain ⟨⟨k0, k1, k2, k3⟩, _⟩ := cells4 R5
  clear R4 R5
  exact bodyPost_ret (v := .tuple #[addrV 0 0 0 0, .bool false]) (by simp [results, Try.results45, go_sem, addrV, u8v, k0, k1, k2, k3]) rfl ⟨rfl, (((((bel.setCell (Nat.le_refl _) _).setCell (Nat.le_refl _) _).setCell (Nat.le_refl _) _).setCell (Nat.le_refl _) _).alloc (by simp; omega) _)⟩

set_option maxHeartbeats 4000000 in
theorem parse_at4 (s : ByteArray) (w : World) (a b c d : List UInt8) (hs : s.size ≤ 15) (hp : cutF 46 s.data.toList = [a, b, c, d]) (ha : 0 ≤ numI a 255) (hb : 0 ≤ numI b 255) (hc : 0 ≤ numI c 255) (hd : 0 ≤ numI d 255) :
    Calls Try.prog 45 #[.string s] w fun e w' => e = .returned (.tuple #[addrV (byteOf (numI a 255)) (byteOf (numI b 255)) (byteOf (numI c 255)) (byteOf (numI d 255)), .bool true]) ∧ Below w.heap.size w w' := by
  have b1 : (s.size : Int) ≤ 15 := by omega
  have hpc := cutF_piece 46 s.data.toList
  rw [hp] at hpc
  have HPC := Lib.hid hpc
  have HP := Lib.hid hp
  clear hp hpc
  have ra := numI_range a 255
  have ra1 : numI a 255 ≤ 255 := by omega
  clear ra
  have rb := numI_range b 255
  have rb1 : numI b 255 ≤ 255 := by omega
  clear rb
  have rc := numI_range c 255
  have rc1 : numI c 255 ≤ 255 := by omega
  clear rc
  have rd := numI_range d 255
  have rd1 : numI d 255 ≤ 255 := by omega
  clear rd
  go_enter Try.func45, Try.ntmps45
  go_wp2_with fail
  with_reducible refine (cut_as s 46 46 rfl _ (by omega)).mono ?_
  rintro e w1 ⟨g, cap, rfl, hcap, hg0, hg1, hc, bel1⟩
  have bel := ((Below.refl w.heap.size w).alloc (Nat.le_refl _) (.cells #[.int .u8 0, .int .u8 0, .int .u8 0, .int .u8 0] 24)).trans (bel1.mono (by simp))
  obtain ⟨r0, r1⟩ := old_addr bel1
  obtain ⟨⟨q0, q1, q2, q3⟩, f0, f1, f2, f3⟩ := cells4 r0
  rw [HP.out] at hc hcap ⊢
  have p0 := hc 0 a rfl
  have p1 := hc 1 b rfl
  have p2 := hc 2 c rfl
  have p3 := hc 3 d rfl
  have hcap4 : (4 : Int) ≤ cap := by simp at hcap; omega
  have hgw : g ≠ w.heap.size := by simp at hg0; omega
  have hgb : g ≠ w1.heap.size := by omega
  have hwb : w.heap.size ≠ w1.heap.size := by omega
  have hl4 : ([a, b, c, d] : List (List UInt8)).length = 4 := rfl
  rw [hl4]
  have hsz : s.data.toList.length ≤ 15 := by simp; omega
  have HSZ := Lib.hid hsz
  have HR0 := Lib.hid r0
  clear hc hcap r0 hl4 hg0 hs hsz
  go_wp2_with fail
  refine wp_loop_rounds 5 ?_
  rw [rounds_succ]
  go_wp2_with fail
  with_reducible refine (number_any ⟨a.toArray⟩ 255 _ (by rw [size_bs]; have := HPC.out a (by simp); have := HSZ.out; unfold maxLen; omega)).mono ?_
  rintro e w2 ⟨rfl, rfl⟩
  rw [show (⟨a.toArray⟩ : ByteArray).data.toList = a by simp]
  go_wp2_with fail
  rw [rounds_succ]
  go_wp2_with fail
  with_reducible refine (number_any ⟨b.toArray⟩ 255 _ (by rw [size_bs]; have := HPC.out b (by simp); have := HSZ.out; unfold maxLen; omega)).mono ?_
  rintro e w2 ⟨rfl, rfl⟩
  rw [show (⟨b.toArray⟩ : ByteArray).data.toList = b by simp]
  go_wp2_with fail
  rw [rounds_succ]
  go_wp2_with fail
  with_reducible refine (number_any ⟨c.toArray⟩ 255 _ (by rw [size_bs]; have := HPC.out c (by simp); have := HSZ.out; unfold maxLen; omega)).mono ?_
  rintro e w2 ⟨rfl, rfl⟩
  rw [show (⟨c.toArray⟩ : ByteArray).data.toList = c by simp]
  go_wp2_with fail
  rw [rounds_succ]
  go_wp2_with fail
  with_reducible refine (number_any ⟨d.toArray⟩ 255 _ (by rw [size_bs]; have := HPC.out d (by simp); have := HSZ.out; unfold maxLen; omega)).mono ?_
  rintro e w2 ⟨rfl, rfl⟩
  rw [show (⟨d.toArray⟩ : ByteArray).data.toList = d by simp]
  go_wp2_with fail
  rw [rounds_succ]
  go_wp2
  have ea : u8v (byteOf (numI a 255)) = .int .u8 (numI a 255) := u8v_byteOf ha ra1
  have eb : u8v (byteOf (numI b 255)) = .int .u8 (numI b 255) := u8v_byteOf hb rb1
  have ec : u8v (byteOf (numI c 255)) = .int .u8 (numI c 255) := u8v_byteOf hc rc1
  have ed : u8v (byteOf (numI d 255)) = .int .u8 (numI d 255) := u8v_byteOf hd rd1
  have R4 : ((((w1.setCell ⟨w.heap.size, 0, none⟩ (.int .u8 (numI a 255))).setCell ⟨w.heap.size, 1, none⟩ (.int .u8 (numI b 255))).setCell ⟨w.heap.size, 2, none⟩ (.int .u8 (numI c 255))).setCell ⟨w.heap.size, 3, none⟩ (.int .u8 (numI d 255))).heap[w.heap.size]? = some (.cells #[.int .u8 (numI a 255), .int .u8 (numI b 255), .int .u8 (numI c 255), .int .u8 (numI d 255)] 24 (0, 0)) := put4 HR0.out
  have R5 := (Go.heap_alloc_old ((((w1.setCell ⟨w.heap.size, 0, none⟩ (.int .u8 (numI a 255))).setCell ⟨w.heap.size, 1, none⟩ (.int .u8 (numI b 255))).setCell ⟨w.heap.size, 2, none⟩ (.int .u8 (numI c 255))).setCell ⟨w.heap.size, 3, none⟩ (.int .u8 (numI d 255))) (.cells #[.int .u8 (numI a 255), .int .u8 (numI b 255), .int .u8 (numI c 255), .int .u8 (numI d 255)] 24) (r := w.heap.size) (by simp; exact r1)).trans R4
  obtain ⟨⟨k0, k1, k2, k3⟩, _⟩ := cells4 R5
  clear R4 R5
  exact bodyPost_ret (v := .tuple #[addrV (byteOf (numI a 255)) (byteOf (numI b 255)) (byteOf (numI c 255)) (byteOf (numI d 255)), .bool true]) (by simp [results, Try.results45, go_sem, addrV, ea, eb, ec, ed, k0, k1, k2, k3]) rfl ⟨rfl, (((((bel.setCell (Nat.le_refl _) _).setCell (Nat.le_refl _) _).setCell (Nat.le_refl _) _).setCell (Nat.le_refl _) _).alloc (by simp; omega) _)⟩

/-- What Parse answers. -/
def ParsePost (l : List UInt8) (w : World) (e : Ending) (w' : World) : Prop :=
  (match parse4 l with
   | none => e = .returned (.tuple #[addrV 0 0 0 0, .bool false])
   | some (a, b, c, d) => e = .returned (.tuple #[addrV a b c d, .bool true])) ∧ Below w.heap.size w w'
theorem parse_any (s : ByteArray) (w : World) (hs : s.size ≤ 100000) : Calls Try.prog 45 #[.string s] w (ParsePost s.data.toList w) := by
  have hlen : s.data.toList.length = s.size := by simp
  by_cases h15 : 15 < s.size
  · refine (parse_long s w h15 hs).mono fun e w' h => ?_
    unfold ParsePost parse4
    rw [if_pos (by omega)]
    exact h
  · have hu : parse4 s.data.toList = match cutF 46 s.data.toList with
      | [a, b, c, d] => if 0 ≤ numI a 255 ∧ 0 ≤ numI b 255 ∧ 0 ≤ numI c 255 ∧ 0 ≤ numI d 255 then some (byteOf (numI a 255), byteOf (numI b 255), byteOf (numI c 255), byteOf (numI d 255)) else none
      | _ => none := if_neg (by omega)
    match hm : cutF 46 s.data.toList with
    | [a, b, c, d] =>
      rw [hm] at hu
      simp only at hu
      by_cases ha : 0 ≤ numI a 255
      · by_cases hb : 0 ≤ numI b 255
        · by_cases hc : 0 ≤ numI c 255
          · by_cases hd : 0 ≤ numI d 255
            · refine (parse_at4 s w a b c d (by omega) hm ha hb hc hd).mono fun e w' h => ?_
              unfold ParsePost; rw [hu, if_pos ⟨ha, hb, hc, hd⟩]; exact h
            · refine (parse_at3 s w a b c d (by omega) hm ha hb hc (by omega)).mono fun e w' h => ?_
              unfold ParsePost; rw [hu, if_neg (fun k => hd k.2.2.2)]; exact h
          · refine (parse_at2 s w a b c d (by omega) hm ha hb (by omega)).mono fun e w' h => ?_
            unfold ParsePost; rw [hu, if_neg (fun k => hc k.2.2.1)]; exact h
        · refine (parse_at1 s w a b c d (by omega) hm ha (by omega)).mono fun e w' h => ?_
          unfold ParsePost; rw [hu, if_neg (fun k => hb k.2.1)]; exact h
      · refine (parse_at0 s w a b c d (by omega) hm (by omega)).mono fun e w' h => ?_
        unfold ParsePost; rw [hu, if_neg (fun k => ha k.1)]; exact h
    | [] | [_] | [_, _] | [_, _, _] | _ :: _ :: _ :: _ :: _ :: _ =>
      rw [hm] at hu
      refine (parse_pieces s w (by omega) (by rw [hm]; simp)).mono fun e w' h => ?_
      unfold ParsePost; rw [hu]; exact h
open Go.RowKit

/-! ### A cut text and its pieces -/
def joinF (b : UInt8) : List (List UInt8) → List UInt8
  | [] => []
  | [x] => x
  | x :: y :: t => x ++ [b] ++ joinF b (y :: t)
theorem joinF_cons (b : UInt8) (x : List UInt8) (t : List (List UInt8)) (h : t ≠ []) : joinF b (x :: t) = x ++ [b] ++ joinF b t := by
  cases t with
  | nil => exact absurd rfl h
  | cons y t => rfl
theorem joinF_snoc (b : UInt8) : ∀ (ls : List (List UInt8)) (x : List UInt8), ls ≠ [] → joinF b (ls ++ [x]) = joinF b ls ++ [b] ++ x
  | [], x, h => absurd rfl h
  | [y], x, _ => by simp [joinF]
  | y :: z :: t, x, _ => by
    rw [List.cons_append, joinF_cons b y _ (by simp), joinF_snoc b (z :: t) x (by simp), joinF_cons b y (z :: t) (by simp)]
    simp
theorem joinF_last (b : UInt8) (c : UInt8) : ∀ (ls : List (List UInt8)) (x : List UInt8), joinF b (ls ++ [x ++ [c]]) = joinF b (ls ++ [x]) ++ [c]
  | [], x => by simp [joinF]
  | y :: t, x => by
    rw [joinF_snoc b (y :: t) _ (by simp), joinF_snoc b (y :: t) _ (by simp)]
    simp
/-- The pieces, joined again, are the text. -/
theorem joinF_rev (b : UInt8) : ∀ r : List UInt8, joinF b (cutF b r.reverse) = r.reverse
  | [] => by simp [cutF, joinF]
  | c :: r => by
    have ih := joinF_rev b r
    have hne := cutF_ne b r.reverse
    rw [List.reverse_cons, cutF_snoc]
    generalize cutF b r.reverse = ls at *
    obtain ⟨i, x, rfl⟩ : ∃ i x, ls = i ++ [x] := ⟨ls.dropLast, ls.getLast hne, (List.dropLast_concat_getLast hne).symm⟩
    unfold cutStep
    split
    · rename_i h
      subst h
      rw [joinF_snoc _ _ _ hne, ih]; simp
    · simp only [List.dropLast_concat, List.getLastD_concat]
      rw [joinF_last, ih]
theorem joinF_cut (b : UInt8) (l : List UInt8) : joinF b (cutF b l) = l := by
  have := joinF_rev b l.reverse
  rwa [List.reverse_reverse] at this

/-- A number of at most 255 has at most three digits. -/
theorem numGo_ge : ∀ (t : List UInt8) (v n : Nat), numGo t v = some n → v * 10 ^ t.length ≤ n
  | [], v, n, h => by simp [numGo] at h; subst h; simp
  | c :: t, v, n, h => by
    rw [numGo] at h
    split at h
    · cases h
    · have := numGo_ge t _ n h
      have h2 : 10 * v * 10 ^ t.length ≤ (10 * v + (c.toNat - 48)) * 10 ^ t.length := Nat.mul_le_mul_right _ (by omega)
      have h3 : v * 10 ^ (c :: t).length = 10 * v * 10 ^ t.length := by
        rw [List.length_cons, Nat.pow_succ, Nat.mul_comm 10 v, Nat.mul_assoc, Nat.mul_comm 10]
      omega
theorem numI_len {l : List UInt8} {most : Int} (h : 0 ≤ numI l most) (hm : most < 1000) : l.length ≤ 3 := by
  have hs : ¬ (l.length < 1 ∨ 9 < l.length ∨ (1 < l.length ∧ l[0]? = some 48)) := fun hs => by rw [numI_shape most hs] at h; omega
  match hg : numGo l 0 with
  | none => rw [numI_none most hg] at h; omega
  | some n =>
    rw [numI_some most n hs hg] at h
    have hn : (n : Int) ≤ most := by split at h <;> omega
    cases l with
    | nil => simp at hs
    | cons c t =>
      rw [numGo] at hg
      split at hg
      · cases hg
      rename_i hd
      by_cases ht : t.length ≤ 2
      · rw [List.length_cons]; omega
      exfalso
      have h0 : c.toNat ≠ 48 := fun e => hs (.inr (.inr ⟨by rw [List.length_cons]; omega, by
        rw [List.getElem?_cons_zero]; congr 1; exact UInt8.toNat_inj.1 e⟩))
      have h1 := numGo_ge t _ n hg
      have h2 : (10 : Nat) ^ 3 ≤ 10 ^ t.length := Nat.pow_le_pow_right (by omega) (by omega)
      have h3 : 1 * 10 ^ t.length ≤ (10 * 0 + (c.toNat - 48)) * 10 ^ t.length := Nat.mul_le_mul_right _ (by omega)
      omega

/-- Parse, with no bound on the length. -/
theorem parse4_cut {l a b c d : List UInt8} (h : cutF 46 l = [a, b, c, d]) :
    parse4 l = if 0 ≤ numI a 255 ∧ 0 ≤ numI b 255 ∧ 0 ≤ numI c 255 ∧ 0 ≤ numI d 255 then some (byteOf (numI a 255), byteOf (numI b 255), byteOf (numI c 255), byteOf (numI d 255)) else none := by
  unfold parse4
  by_cases hk : 0 ≤ numI a 255 ∧ 0 ≤ numI b 255 ∧ 0 ≤ numI c 255 ∧ 0 ≤ numI d 255
  · have ha := numI_len hk.1 (by omega)
    have hb := numI_len hk.2.1 (by omega)
    have hc := numI_len hk.2.2.1 (by omega)
    have hd := numI_len hk.2.2.2 (by omega)
    have hj := joinF_cut 46 l
    rw [h] at hj
    have hl : l.length ≤ 15 := by
      rw [← hj]; simp only [joinF, List.length_append, List.length_singleton]; omega
    rw [if_neg (by omega), h]
  · rw [if_neg hk]
    split
    · rfl
    · rw [h]; exact if_neg hk
theorem parse4_not {l : List UInt8} (h : (cutF 46 l).length ≠ 4) : parse4 l = none := by
  unfold parse4
  split
  · rfl
  · match hm : cutF 46 l with
    | [a, b, c, d] => rw [hm] at h; exact absurd rfl h
    | [] | [_] | [_, _] | [_, _, _] | _ :: _ :: _ :: _ :: _ :: _ => rfl

/-- The bytes that are read so far. -/
def pBs (ls : List (List UInt8)) (k : Nat) : List UInt8 := (List.range 4).map fun i => if i < k then byteOf (numI (ls.getD i []) 255) else 0
theorem pBs_len (ls : List (List UInt8)) (k : Nat) : (pBs ls k).length = 4 := by simp [pBs]
theorem pBs_zero (ls : List (List UInt8)) : pBs ls 0 = [0, 0, 0, 0] := by simp [pBs, List.range, List.range.loop]
theorem pBs_four (a b c d : List UInt8) : pBs [a, b, c, d] 4 = [byteOf (numI a 255), byteOf (numI b 255), byteOf (numI c 255), byteOf (numI d 255)] := by simp [pBs, List.range, List.range.loop]
theorem pBs_set (ls : List (List UInt8)) (k : Nat) : (pBs ls k).set k (byteOf (numI (ls.getD k []) 255)) = pBs ls (k + 1) := by
  apply List.ext_getElem
  · simp [pBs]
  · intro i h1 h2
    rw [List.getElem_set]
    simp only [pBs, List.getElem_map, List.getElem_range]
    by_cases e : k = i
    · subst e; simp
    · rw [if_neg e]
      by_cases e2 : i < k
      · rw [if_pos e2, if_pos (by omega)]
      · rw [if_neg e2, if_neg (by omega)]

theorem decimal_no (s : ByteArray) (most : Int) (w : World) (hs : s.size ≤ 140737488355328) (hm0 : 0 ≤ most) (hm1 : most < 1000) (h : numI s.data.toList most = -1) :
    Calls Try.prog 82 #[.string s, .int .i64 most] w fun e w' => e = .returned (.tuple #[.int .i64 0, .bool false]) ∧ Below w.heap.size w w' :=
  (decimal_any s most w hs hm0 hm1).mono fun e w' hh => by unfold DecPost at hh; rw [h] at hh; exact hh
theorem decimal_yes (s : ByteArray) (most : Int) (w : World) (hs : s.size ≤ 140737488355328) (hm0 : 0 ≤ most) (hm1 : most < 1000) (h : 0 ≤ numI s.data.toList most) :
    Calls Try.prog 82 #[.string s, .int .i64 most] w fun e w' => e = .returned (.tuple #[.int .i64 (numI s.data.toList most), .bool true]) ∧ Below w.heap.size w w' :=
  (decimal_any s most w hs hm0 hm1).mono fun e w' hh => by unfold DecPost at hh; rw [if_pos h, decide_eq_true h] at hh; exact hh

/-- What Parse answers. -/
def AParsePost (l : List UInt8) (w : World) (e : Ending) (w' : World) : Prop :=
  (match parse4 l with
   | none => e = .returned (.tuple #[addrV 0 0 0 0, .int .i64 9])
   | some (a, b, c, d) => e = .returned (.tuple #[addrV a b c d, .int .i64 0])) ∧ Below w.heap.size w w'
theorem aparse_no {l : List UInt8} {w w' : World} (h : parse4 l = none) (hb : Below w.heap.size w w') : AParsePost l w (.returned (.tuple #[addrV 0 0 0 0, .int .i64 9])) w' := by
  unfold AParsePost; rw [h]; exact ⟨rfl, hb⟩
theorem aparse_yes {l : List UInt8} {w w' : World} {a b c d : UInt8} (h : parse4 l = some (a, b, c, d)) (hb : Below w.heap.size w w') : AParsePost l w (.returned (.tuple #[addrV a b c d, .int .i64 0])) w' := by
  unfold AParsePost; rw [h]; exact ⟨rfl, hb⟩

/-- Two blocks of four zeros, behind a call. -/
theorem two_addr {w w1 : World} (h : Below ((w.alloc (.cells #[.int .u8 0, .int .u8 0, .int .u8 0, .int .u8 0] 24)).alloc (.cells #[.int .u8 0, .int .u8 0, .int .u8 0, .int .u8 0] 24)).heap.size ((w.alloc (.cells #[.int .u8 0, .int .u8 0, .int .u8 0, .int .u8 0] 24)).alloc (.cells #[.int .u8 0, .int .u8 0, .int .u8 0, .int .u8 0] 24)) w1) :
    w1.heap[w.heap.size]? = some (.cells #[.int .u8 0, .int .u8 0, .int .u8 0, .int .u8 0] 24 (0, 0)) ∧ w1.heap[w.heap.size + 1]? = some (.cells #[.int .u8 0, .int .u8 0, .int .u8 0, .int .u8 0] 24 (0, 0)) ∧ w.heap.size + 1 < w1.heap.size ∧ Below w.heap.size w w1 := by
  have hs := h.size
  simp at hs
  have h0 : ((w.alloc (.cells #[.int .u8 0, .int .u8 0, .int .u8 0, .int .u8 0] 24)).alloc (.cells #[.int .u8 0, .int .u8 0, .int .u8 0, .int .u8 0] 24)).heap[w.heap.size]? = some (.cells #[.int .u8 0, .int .u8 0, .int .u8 0, .int .u8 0] 24 (0, 0)) :=
    (Go.heap_alloc_old (w.alloc (.cells #[.int .u8 0, .int .u8 0, .int .u8 0, .int .u8 0] 24)) (.cells #[.int .u8 0, .int .u8 0, .int .u8 0, .int .u8 0] 24) (r := w.heap.size) (by simp)).trans (heap_alloc_new w _)
  have h1 : ((w.alloc (.cells #[.int .u8 0, .int .u8 0, .int .u8 0, .int .u8 0] 24)).alloc (.cells #[.int .u8 0, .int .u8 0, .int .u8 0, .int .u8 0] 24)).heap[w.heap.size + 1]? = some (.cells #[.int .u8 0, .int .u8 0, .int .u8 0, .int .u8 0] 24 (0, 0)) := by
    have := heap_alloc_new (w.alloc (.cells #[.int .u8 0, .int .u8 0, .int .u8 0, .int .u8 0] 24)) (.cells #[.int .u8 0, .int .u8 0, .int .u8 0, .int .u8 0] 24); simpa using this
  refine ⟨(h.block _ (by simp; omega)).trans h0, (h.block _ (by simp)).trans h1, by omega, ?_⟩
  exact (((Below.refl w.heap.size w).alloc (Nat.le_refl _) _).alloc (by simp) _).trans (h.mono (by simp; omega))

theorem asplit_as (s : ByteArray) (b n : Int) (bb : UInt8) (m : Nat) (hb : b = (bb.toNat : Int)) (hn : n = (m : Int)) (hb7 : bb.toNat < 128) (hm : 0 < m) (hm1 : m < 1000) (w : World) (hs : s.size ≤ 140737488355328) :
    Calls Try.prog 81 #[.string s, .int .i32 b, .int .i64 n] w (SpPost bb s.data.toList m w) := by
  subst hb; subst hn; exact asplit_any s bb hb7 m hm hm1 w hs
theorem asplit_no (s : ByteArray) (b n : Int) (bb : UInt8) (m : Nat) (hb : b = (bb.toNat : Int)) (hn : n = (m : Int)) (hb7 : bb.toNat < 128) (hm : 0 < m) (hm1 : m < 1000) (w : World) (hs : s.size ≤ 140737488355328) (h : (cutF bb s.data.toList).length ≠ m) :
    Calls Try.prog 81 #[.string s, .int .i32 b, .int .i64 n] w fun e w' => e = .returned (.tuple #[.slice none 0 0, .bool false]) ∧ Below w.heap.size w w' :=
  (asplit_as s b n bb m hb hn hb7 hm hm1 w hs).mono fun e w' hh => by unfold SpPost at hh; rw [if_neg h] at hh; exact hh
theorem asplit_yes (s : ByteArray) (b n : Int) (bb : UInt8) (m : Nat) (hb : b = (bb.toNat : Int)) (hn : n = (m : Int)) (hb7 : bb.toNat < 128) (hm : 0 < m) (hm1 : m < 1000) (w : World) (hs : s.size ≤ 140737488355328) (h : (cutF bb s.data.toList).length = m) :
    Calls Try.prog 81 #[.string s, .int .i32 b, .int .i64 n] w fun e w' => ∃ g cap, e = .returned (.tuple #[.slice (some ⟨g, 0, none⟩) m cap, .bool true]) ∧ m ≤ cap ∧ w.heap.size ≤ g ∧ g < w'.heap.size ∧ (∀ (j : Nat) (x : List UInt8), (cutF bb s.data.toList)[j]? = some x → w'.cell? ⟨g, j, none⟩ = some (.string ⟨x.toArray⟩)) ∧ Below w.heap.size w w' :=
  (asplit_as s b n bb m hb hn hb7 hm hm1 w hs).mono fun e w' hh => by
    unfold SpPost at hh; rw [if_pos h] at hh
    obtain ⟨⟨g, cap, h1, h2, h3, h4, h5⟩, h6⟩ := hh
    exact ⟨g, cap, h1, h2, h3, h4, h5, h6⟩

set_option maxRecDepth 100000 in
set_option maxHeartbeats 4000000 in
theorem aparse_pieces (s : ByteArray) (w : World) (hs : s.size ≤ 140737488355328) (h : (cutF 46 s.data.toList).length ≠ 4) : Calls Try.prog 77 #[.string s] w (AParsePost s.data.toList w) := by
  have NO := Lib.hid (parse4_not h)
  have SP := Lib.hid fun W => asplit_no s 46 4 46 4 rfl rfl (by decide) (by omega) (by omega) W hs h
  clear h hs
  go_enter Try.func77, Try.ntmps77
  go_wp2_with fail
  with_reducible refine (SP.out _).mono ?_
  rintro e w1 ⟨rfl, bel1⟩
  obtain ⟨r0, r1, r2, bel⟩ := two_addr bel1
  obtain ⟨⟨q0, q1, q2, q3⟩, f0, f1, f2, f3⟩ := cells4 r0
  have R0 := Lib.hid r0
  clear r0 r1 bel1
  go_wp2
  have R4 := put4 (x := .int .u8 0) (y := .int .u8 0) (z := .int .u8 0) (u := .int .u8 0) R0.out
  obtain ⟨⟨k0, k1, k2, k3⟩, _⟩ := cells4 R4
  clear R4
  exact bodyPost_ret (v := .tuple #[addrV 0 0 0 0, .int .i64 9]) (by simp [results, Try.results77, go_sem, addrV, u8v, k0, k1, k2, k3]) rfl (aparse_no NO.out ((((bel.setCell (Nat.le_refl _) _).setCell (Nat.le_refl _) _).setCell (Nat.le_refl _) _).setCell (Nat.le_refl _) _))

set_option maxRecDepth 100000 in
set_option maxHeartbeats 4000000 in
theorem aparse_four (s : ByteArray) (w : World) (hs : s.size ≤ 140737488355328) (a b c d : List UInt8) (h : cutF 46 s.data.toList = [a, b, c, d]) : Calls Try.prog 77 #[.string s] w (AParsePost s.data.toList w) := by
  have P4 := Lib.hid (parse4_cut h)
  have hpc := cutF_piece 46 s.data.toList
  rw [h] at hpc
  have HPC := Lib.hid hpc
  have HS := Lib.hid hs
  have SP := fun W => asplit_yes s 46 4 46 4 rfl rfl (by decide) (by omega) (by omega) W hs (by rw [h]; rfl)
  rw [h] at SP
  have SPH := Lib.hid SP
  have HLS : Hid (([a, b, c, d] : List (List UInt8)).length = 4) := Lib.hid rfl
  obtain ⟨ls, hls⟩ : ∃ ls, Hid (ls = [a, b, c, d]) := ⟨_, Lib.hid rfl⟩
  rw [← hls.out] at SPH HLS HPC
  clear SP hpc hs h
  go_enter Try.func77, Try.ntmps77
  go_wp2_with fail
  with_reducible refine (SPH.out _).mono ?_
  rintro e w1 ⟨g, cap, rfl, hcap, hg0, hg1, hc, bel1⟩
  obtain ⟨r0, r1, r2, bel⟩ := two_addr bel1
  have hgw : g ≠ w.heap.size := by simp at hg0; omega
  have hgw1 : g ≠ w.heap.size + 1 := by simp at hg0; omega
  have HC := Lib.hid hc
  have hcap' : (4 : Int) ≤ cap := by omega
  clear hc bel1 hg0 hcap
  go_wp2_with fail
  go_loopw [21] (fun i wr => ∃ k : Nat, k ≤ 4 ∧ i = .int .i64 k ∧ (∀ j, j < k → 0 ≤ numI (ls.getD j []) 255) ∧ wr.heap[w.heap.size]? = some (.cells #[.int .u8 0, .int .u8 0, .int .u8 0, .int .u8 0] 24 (0, 0)) ∧ Ow 24 wr (w.heap.size + 1) 4 (pBs ls k) ∧ (∀ (j : Nat) (x : List UInt8), ls[j]? = some x → wr.cell? ⟨g, j, none⟩ = some (.string ⟨x.toArray⟩)) ∧ g < wr.heap.size ∧ Below w.heap.size w wr) (fun i _ => 4 - (intOf i).toNat)
  case atStart =>
    refine ⟨0, by omega, rfl, fun j hj => by omega, r0, ?_, HC.out, hg1, bel⟩
    rw [pBs_zero]
    refine ⟨by simp, by unfold maxLen; omega, _, r1, fun j b hj => ?_⟩
    match j, hj with
    | 0, hj | 1, hj | 2, hj | 3, hj => simp at hj; subst hj; rfl
    | j + 4, hj => simp at hj
  case round =>
    clear r0 r1 bel hg1
    obtain ⟨k, hk, rfl, hall, hz, hb, hcs, hgl, bel⟩ := hrel
    have HZ := Lib.hid hz
    have HALL := Lib.hid hall
    have HCS := Lib.hid hcs
    have hzl : w.heap.size + 1 < wr.heap.size := hb.lt
    clear hz hall hcs
    by_cases hlt : k < 4
    · obtain ⟨x, hx⟩ : ∃ x, Hid (ls.getD k [] = x) := ⟨_, Lib.hid rfl⟩
      have hxk : ls[k]? = some x := by
        have := HLS.out
        rw [List.getElem?_eq_getElem (by omega), ← hx.out, List.getD_eq_getElem?_getD, List.getElem?_eq_getElem (by omega)]; rfl
      have hcx := HCS.out k x hxk
      have hxs : (⟨x.toArray⟩ : ByteArray).size ≤ 140737488355328 := by
        rw [size_bs]
        have := HPC.out x (List.mem_of_getElem? hxk)
        have := HS.out
        simp at *; omega
      have k0 : (0 : Int) ≤ k := by omega
      have k4 : (k : Int) < 4 := by omega
      have DX : (⟨x.toArray⟩ : ByteArray).data.toList = x := by simp
      by_cases hn : 0 ≤ numI x 255
      · have DEC := fun W => decimal_yes ⟨x.toArray⟩ 255 W hxs (by omega) (by omega) (by rw [DX]; exact hn)
        rw [DX] at DEC
        have DECH := Lib.hid DEC
        have hr := numI_range x 255
        have n1 : numI x 255 ≤ 255 := by omega
        have ALL : Hid (∀ j, j < k + 1 → 0 ≤ numI (ls.getD j []) 255) := Lib.hid fun j hj => by
          by_cases e : j = k
          · subst e; rw [hx.out]; exact hn
          · exact HALL.out j (by omega)
        have MS : Hid ((pBs ls k).set k (byteOf (numI x 255)) = pBs ls (k + 1)) := Lib.hid (by rw [← pBs_set, hx.out])
        have UB : Hid (u8v (byteOf (numI x 255)) = .int .u8 (numI x 255)) := Lib.hid (u8v_byteOf hn n1)
        clear hxk hxs DX DEC hr
        go_wp2_with fail
        with_reducible refine (DECH.out _).mono ?_
        rintro e w2 ⟨rfl, bel2⟩
        have hz2 := (bel2.block _ (by omega)).trans HZ.out
        have hb2 := hb.below bel2
        have HCS2 : Hid (∀ (j : Nat) (x : List UInt8), ls[j]? = some x → w2.cell? ⟨g, j, none⟩ = some (.string ⟨x.toArray⟩)) := Lib.hid fun j x hj => (bel2.cell (p := ⟨g, j, none⟩) hgl).trans (HCS.out j x hj)
        have hgl2 := Nat.lt_of_lt_of_le hgl bel2.size
        have belb := bel.trans (bel2.mono (by omega))
        obtain ⟨_, _, cb, fb⟩ := hb2.at_ k (by rw [pBs_len]; exact hlt)
        have HZ2' := Lib.hid hz2
        clear hz2 bel bel2 hb hcx hgl hzl
        go_wp2
        have OW2 := hb2.set k (byteOf (numI x 255))
        rw [UB.out, MS.out] at OW2
        have HZ2 := (Below.heap_setCell w2 ⟨w.heap.size + 1, k, none⟩ (.int .u8 (numI x 255)) w.heap.size (by simp)).trans HZ2'.out
        have BE2 := belb.setCell (p := ⟨w.heap.size + 1, k, none⟩) (by simp) (.int .u8 (numI x 255))
        have CS2 : ∀ (j : Nat) (x' : List UInt8), ls[j]? = some x' → (w2.setCell ⟨w.heap.size + 1, k, none⟩ (.int .u8 (numI x 255))).cell? ⟨g, j, none⟩ = some (.string ⟨x'.toArray⟩) := fun j x' hj => by
          rw [World.cell?_of_block (w := w2) (Below.heap_setCell w2 ⟨w.heap.size + 1, k, none⟩ (.int .u8 (numI x 255)) g (fun e => hgw1 e))]
          exact HCS2.out j x' hj
        go_roundw
        case rel => exact ⟨k + 1, by omega, by go_num, ALL.out, HZ2, OW2, CS2, by simp; exact hgl2, BE2⟩
        case measure => simp [intOf]; omega
      · have hn1 : numI x 255 = -1 := by have := numI_range x 255; omega
        have DEC := Lib.hid fun W => decimal_no ⟨x.toArray⟩ 255 W hxs (by omega) (by omega) (by rw [DX]; exact hn1)
        have NO : Hid (parse4 s.data.toList = none) := Lib.hid (by
          rw [P4.out, if_neg]
          have h1 := hx.out
          rw [hls.out] at h1
          rintro ⟨g0, g1, g2, g3⟩
          match k, hlt, h1 with
          | 0, _, h1 | 1, _, h1 | 2, _, h1 | 3, _, h1 => simp at h1; subst h1; omega)
        clear hxk hxs DX hn hn1
        go_wp2_with fail
        with_reducible refine (DEC.out _).mono ?_
        rintro e w2 ⟨rfl, bel2⟩
        have hz2 := (bel2.block _ (by omega)).trans HZ.out
        have belb := bel.trans (bel2.mono (by omega))
        obtain ⟨⟨q0, q1, q2, q3⟩, f0, f1, f2, f3⟩ := cells4 hz2
        have R0 := Lib.hid hz2
        clear hz2 bel bel2 hb hcx hgl hzl
        go_wp2
        have R4 := put4 (x := .int .u8 0) (y := .int .u8 0) (z := .int .u8 0) (u := .int .u8 0) R0.out
        obtain ⟨⟨k0, k1, k2, k3⟩, _⟩ := cells4 R4
        clear R4
        exact bodyPost_ret (v := .tuple #[addrV 0 0 0 0, .int .i64 9]) (by simp [results, Try.results77, go_sem, addrV, u8v, k0, k1, k2, k3]) rfl (aparse_no NO.out ((((belb.setCell (Nat.le_refl _) _).setCell (Nat.le_refl _) _).setCell (Nat.le_refl _) _).setCell (Nat.le_refl _) _))
    · obtain rfl : k = 4 := by omega
      have YES : Hid (parse4 s.data.toList = some (byteOf (numI a 255), byteOf (numI b 255), byteOf (numI c 255), byteOf (numI d 255))) := Lib.hid (by
        have hall := HALL.out
        rw [hls.out] at hall
        rw [P4.out, if_pos ⟨hall 0 (by omega), hall 1 (by omega), hall 2 (by omega), hall 3 (by omega)⟩])
      have hb4 := hb
      rw [hls.out, pBs_four] at hb4
      obtain ⟨p0, _⟩ := hb4.cell 0 (by simp)
      obtain ⟨p1, _⟩ := hb4.cell 1 (by simp)
      obtain ⟨p2, _⟩ := hb4.cell 2 (by simp)
      obtain ⟨p3, _⟩ := hb4.cell 3 (by simp)
      simp only [List.getElem_cons_zero, List.getElem_cons_succ] at p0 p1 p2 p3
      obtain ⟨⟨q0, q1, q2, q3⟩, f0, f1, f2, f3⟩ := cells4 HZ.out
      clear hb hb4 HALL hgl hzl
      go_wp2
      have R4 := put4 (x := u8v (byteOf (numI a 255))) (y := u8v (byteOf (numI b 255))) (z := u8v (byteOf (numI c 255))) (u := u8v (byteOf (numI d 255))) HZ.out
      obtain ⟨⟨k0', k1', k2', k3'⟩, _⟩ := cells4 R4
      clear R4
      simp only [u8v] at k0' k1' k2' k3'
      exact bodyPost_ret (v := .tuple #[addrV (byteOf (numI a 255)) (byteOf (numI b 255)) (byteOf (numI c 255)) (byteOf (numI d 255)), .int .i64 0]) (by simp [results, Try.results77, go_sem, addrV, u8v, k0', k1', k2', k3']) rfl (aparse_yes YES.out ((((bel.setCell (Nat.le_refl _) _).setCell (Nat.le_refl _) _).setCell (Nat.le_refl _) _).setCell (Nat.le_refl _) _))

theorem aparse_any (s : ByteArray) (w : World) (hs : s.size ≤ 140737488355328) : Calls Try.prog 77 #[.string s] w (AParsePost s.data.toList w) := by
  match hm : cutF 46 s.data.toList with
  | [a, b, c, d] => exact aparse_four s w hs a b c d hm
  | [] | [_] | [_, _] | [_, _, _] | _ :: _ :: _ :: _ :: _ :: _ => exact aparse_pieces s w hs (by rw [hm]; simp)
open Go.RowKit

theorem at16_any (A : Option Addr) (n c k : Nat) (l : List UInt8) (w : World) (hl : Sl w A n c l) (hk : k + 2 ≤ n) (hm : k + 2 ≤ 100000) :
    Calls Try.prog 72 #[.slice A n c, .int .i64 k] w fun e w' => e = .returned (.int .i64 (be ((l.drop k).take 2))) ∧ ∃ q, w' = w.drewN q := by
  obtain ⟨h1, h2, h3, h4⟩ := hl
  obtain ⟨d, o, rfl, hc⟩ := h4 (by omega)
  have k1 : k < l.length := by omega
  have k2 : k + 1 < l.length := by omega
  have c1 := hc k _ (List.getElem?_eq_getElem k1)
  have c2 := hc (k + 1) _ (List.getElem?_eq_getElem k2)
  have HB : Hid (be ((l.drop k).take 2) = l[k].toNat * 256 + l[k + 1].toNat) := by
    unfold Hid
    rw [List.drop_eq_getElem_cons k1, List.drop_eq_getElem_cons k2]
    exact be_two _ _
  have u1 := l[k].toNat_lt
  have u2 := l[k + 1].toNat_lt
  unfold u8v at c1 c2
  generalize l[k].toNat = x at *
  generalize l[k + 1].toNat = y at *
  have b1 : (0 : Int) ≤ k := by omega
  have b2 : (k : Int) < n := by omega
  have b3 : (k : Int) + 1 < n := by omega
  have b4 : (x : Int) < 256 := by omega
  have b5 : (y : Int) < 256 := by omega
  have b6 : (0 : Int) ≤ x := by omega
  have b7 : (0 : Int) ≤ y := by omega
  have b8 : (k : Int) ≤ 100000 := by omega
  clear hc h1 h4 u1 u2
  go_enter Try.func72, Try.ntmps72
  go_wp2
  go_quiet (fail)
  go_wp2
  have hor := or_i64 x y (by omega) (by omega)
  refine bodyPost_ret (v := .int .i64 (be ((l.drop k).take 2))) (by simp [results, Try.results72, go_sem, hor, HB.out]) rfl ⟨rfl, nq, rfl⟩

theorem Sl.drewN {w : World} {A : Option Addr} {n c : Nat} {l : List UInt8} (h : Sl w A n c l) (q : Nat) : Sl (w.drewN q) A n c l := h.keep fun _ _ _ hc => hc

theorem at32_any (A : Option Addr) (n c : Nat) (l : List UInt8) (w : World) (hl : Sl w A n c l) (hk : 4 ≤ n) :
    Calls Try.prog 49 #[.slice A n c, .int .i64 0] w fun e w' => e = .returned (.int .u32 (be (l.take 4))) ∧ ∃ q, w' = w.drewN q := by
  have hlen := hl.1
  have HB : Hid (be (l.take 4) = be (l.take 2) * 65536 + be ((l.drop 2).take 2)) := by
    unfold Hid
    rw [show 4 = 2 + 2 from rfl, List.take_add, be_append]
    rw [show ((l.drop 2).take 2).length = 2 by rw [List.length_take, List.length_drop]; omega]
  have p1 := be_lt 2 (l.take 2) (by rw [List.length_take]; omega)
  have p2 := be_lt 2 ((l.drop 2).take 2) (by rw [List.length_take, List.length_drop]; omega)
  have c1 := fun W (h : Sl W A n c l) => at16_any A n c 0 l W h (by omega) (by omega)
  have c2 := fun W (h : Sl W A n c l) => at16_any A n c 2 l W h (by omega) (by omega)
  simp only [List.drop_zero] at c1
  generalize be (l.take 2) = x at *
  generalize be ((l.drop 2).take 2) = y at *
  have b1 : (0 : Int) ≤ x := by omega
  have b2 : (x : Int) < 65536 := by omega
  have b3 : (0 : Int) ≤ y := by omega
  have b4 : (y : Int) < 65536 := by omega
  have hor := or_u32_16 x y (by omega) (by omega)
  have C1 : Hid _ := c1
  have C2 : Hid _ := c2
  clear c1 c2 hlen
  go_enter Try.func49, Try.ntmps49
  go_wp2_with fail
  refine (C1.out _ hl).mono ?_
  rintro e w1 ⟨rfl, q, rfl⟩
  go_wp2_with fail
  refine (C2.out _ (hl.drewN q)).mono ?_
  rintro e w2 ⟨rfl, q2, rfl⟩
  go_wp2
  refine bodyPost_ret (v := .int .u32 (be (l.take 4))) (by simp [results, Try.results49, go_sem, HB.out]) rfl ⟨rfl, q + q2, ?_⟩
  simp

/-! awake: what the document tells of three bytes. -/
open Go.RowKit

/-- A digit's byte. -/
def digT (n : Nat) : UInt8 := UInt8.ofNat (48 + n)
/-- A number's digits. -/
def decT (n : Nat) : List UInt8 := if n < 10 then [digT n] else decT (n / 10) ++ [digT (n % 10)]
decreasing_by omega
open Go.RowKit

/-- An address's text. -/
def adT (a b c d : UInt8) : List UInt8 := decT a.toNat ++ [46] ++ decT b.toNat ++ [46] ++ decT c.toNat ++ [46] ++ decT d.toNat
theorem and_clear (v j : Nat) (hv : v < 2 ^ 32) (hj : j < 32) : v &&& (4294967295 - 2 ^ j) = 2 ^ (j + 1) * (v / 2 ^ (j + 1)) + v % 2 ^ j := by
  have hlt : v % 2 ^ j < 2 ^ (j + 1) := by
    have h1 : v % 2 ^ j < 2 ^ j := Nat.mod_lt _ (Nat.two_pow_pos j)
    have h2 : (2 : Nat) ^ (j + 1) = 2 * 2 ^ j := by rw [Nat.pow_succ]; omega
    omega
  apply Nat.eq_of_testBit_eq
  intro i
  have hm : (4294967295 - 2 ^ j : Nat) = 2 ^ 32 - (2 ^ j + 1) := by omega
  have hpl : (2 : Nat) ^ j < 2 ^ 32 := Nat.pow_lt_pow_right (by omega) hj
  rw [Nat.testBit_and, hm, Nat.testBit_two_pow_sub_succ hpl, Nat.testBit_two_pow_mul_add _ hlt, Nat.testBit_two_pow, Nat.testBit_mod_two_pow, Nat.testBit_div_two_pow]
  by_cases h1 : i < j + 1
  · rw [if_pos h1]
    by_cases h2 : i = j
    · subst h2; simp
    · have h3 : i < j := by omega
      have h4 : i < 32 := by omega
      have h5 : ¬ j = i := fun e => h2 e.symm
      simp [h3, h4, h5]
  · rw [if_neg h1, show i - (j + 1) + (j + 1) = i by omega]
    have h5 : ¬ j = i := by omega
    by_cases h6 : i < 32
    · simp [h5, h6]
    · have : v.testBit i = false := Nat.testBit_lt_two_pow (Nat.lt_of_lt_of_le hv (Nat.pow_le_pow_right (by omega) (by omega)))
      simp [this]
theorem or_set (v j : Nat) : v ||| 2 ^ j = 2 ^ (j + 1) * (v / 2 ^ (j + 1)) + (2 ^ j + v % 2 ^ j) := by
  have h1 : v % 2 ^ j < 2 ^ j := Nat.mod_lt _ (Nat.two_pow_pos j)
  have h2 : (2 : Nat) ^ (j + 1) = 2 * 2 ^ j := by rw [Nat.pow_succ]; omega
  have hlt : 2 ^ j + v % 2 ^ j < 2 ^ (j + 1) := by omega
  apply Nat.eq_of_testBit_eq
  intro i
  rw [Nat.testBit_or, Nat.testBit_two_pow_mul_add _ hlt, Nat.testBit_two_pow, Nat.testBit_div_two_pow]
  by_cases h3 : i < j + 1
  · rw [if_pos h3]
    have e := Nat.testBit_two_pow_mul_add 1 h1 i
    rw [Nat.mul_one] at e
    rw [e, Nat.testBit_mod_two_pow]
    by_cases h4 : i = j
    · subst h4; simp
    · have h5 : i < j := by omega
      have h6 : ¬ j = i := fun e => h4 e.symm
      simp [h5, h6]
  · rw [if_neg h3, show i - (j + 1) + (j + 1) = i by omega]
    have h6 : ¬ j = i := by omega
    simp [h6]

/-- The first and the last number of a net of m bits. -/
def firstN (n m : Nat) : Nat := 2 ^ (32 - m) * (n / 2 ^ (32 - m))
def lastN (n m : Nat) : Nat := 2 ^ (32 - m) * (n / 2 ^ (32 - m)) + (2 ^ (32 - m) - 1)
/-- On the way from bit m to bit k. -/
def clrN (n m k : Nat) : Nat := 2 ^ (32 - m) * (n / 2 ^ (32 - m)) + n % 2 ^ (32 - k)
def setN (n m k : Nat) : Nat := 2 ^ (32 - m) * (n / 2 ^ (32 - m)) + (2 ^ (32 - m) - 2 ^ (32 - k)) + n % 2 ^ (32 - k)
theorem clrN_start (n m : Nat) : clrN n m m = n := Nat.div_add_mod n _
theorem clrN_end (n m : Nat) : clrN n m 32 = firstN n m := by simp [clrN, firstN, Nat.mod_one]
theorem setN_start (n m : Nat) : setN n m m = n := by
  unfold setN; rw [Nat.sub_self, Nat.add_zero]; exact Nat.div_add_mod n _
theorem setN_end (n m : Nat) : setN n m 32 = lastN n m := by simp [setN, lastN, Nat.mod_one]
theorem pow_split {m k : Nat} (h : m ≤ k) (hk : k < 32) : (2 : Nat) ^ (32 - m) = 2 ^ (k - m) * (2 * 2 ^ (31 - k)) ∧ (2 : Nat) ^ (32 - k) = 2 * 2 ^ (31 - k) := by
  have e : (2 : Nat) ^ (32 - k) = 2 * 2 ^ (31 - k) := by rw [show 32 - k = (31 - k) + 1 by omega, Nat.pow_succ]; omega
  refine ⟨?_, e⟩
  rw [← e, ← Nat.pow_add]
  congr 1; omega
theorem clr_step (t h R y : Nat) (hy : y < 2 * R) (hR : 0 < R) : 2 * R * ((t * (2 * R) * h + y) / (2 * R)) + (t * (2 * R) * h + y) % R = t * (2 * R) * h + y % R := by
  have e1 : t * (2 * R) * h = 2 * R * (t * h) := by rw [Nat.mul_comm t, Nat.mul_assoc]
  rw [e1, Nat.mul_add_div (by omega), Nat.div_eq_of_lt hy, Nat.add_zero]
  have e2 : 2 * R * (t * h) = R * (2 * (t * h)) := by rw [Nat.mul_comm 2 R, Nat.mul_assoc]
  rw [e2, Nat.mul_add_mod]
theorem clrN_step (n m k : Nat) (h : m ≤ k) (hk : k < 32) (hn : n < 2 ^ 32) : clrN n m k &&& (4294967295 - 2 ^ (31 - k)) = clrN n m (k + 1) ∧ clrN n m k < 2 ^ 32 := by
  obtain ⟨e1, e2⟩ := pow_split h hk
  have hR := Nat.two_pow_pos (31 - k)
  have hle : clrN n m k ≤ n := by
    have : n % 2 ^ (32 - k) ≤ n % 2 ^ (32 - m) := by
      rw [← Nat.mod_mod_of_dvd n (Nat.pow_dvd_pow 2 (by omega : 32 - k ≤ 32 - m))]
      exact Nat.mod_le _ _
    have := Nat.div_add_mod n (2 ^ (32 - m))
    unfold clrN; omega
  refine ⟨?_, by omega⟩
  rw [and_clear _ _ (by omega) (by omega)]
  unfold clrN
  rw [show 31 - k + 1 = 32 - k by omega, show 32 - (k + 1) = 31 - k by omega, e1, e2]
  have hy : n % (2 * 2 ^ (31 - k)) < 2 * 2 ^ (31 - k) := Nat.mod_lt _ (by omega)
  have hs := clr_step (2 ^ (k - m)) (n / (2 ^ (k - m) * (2 * 2 ^ (31 - k)))) (2 ^ (31 - k)) _ hy hR
  rw [hs]
  rw [Nat.mul_comm 2 (2 ^ (31 - k)), Nat.mod_mul_right_mod]
theorem setN_step (n m k : Nat) (h : m ≤ k) (hk : k < 32) (hm : m ≤ 32) (hn : n < 2 ^ 32) : setN n m k ||| 2 ^ (31 - k) = setN n m (k + 1) ∧ setN n m k < 2 ^ 32 := by
  obtain ⟨e1, e2⟩ := pow_split h hk
  have hR := Nat.two_pow_pos (31 - k)
  have hP := Nat.two_pow_pos (k - m)
  have hd := Nat.div_add_mod n (2 ^ (32 - m))
  have hml := Nat.mod_lt n (Nat.two_pow_pos (32 - m))
  have hmk := Nat.mod_lt n (Nat.two_pow_pos (32 - k))
  have hle : (2 : Nat) ^ (32 - k) ≤ 2 ^ (32 - m) := Nat.pow_le_pow_right (by omega) (by omega)
  have htop : 2 ^ (32 - m) * (n / 2 ^ (32 - m)) + 2 ^ (32 - m) ≤ 2 ^ 32 := by
    have h1 : n / 2 ^ (32 - m) < 2 ^ m := by
      rw [Nat.div_lt_iff_lt_mul (Nat.two_pow_pos _), ← Nat.pow_add, show m + (32 - m) = 32 by omega]; exact hn
    have h2 : 2 ^ (32 - m) * (n / 2 ^ (32 - m) + 1) ≤ 2 ^ (32 - m) * 2 ^ m := Nat.mul_le_mul_left _ h1
    rw [← Nat.pow_add, show 32 - m + m = 32 by omega, Nat.mul_add, Nat.mul_one] at h2
    exact h2
  refine ⟨?_, by unfold setN; omega⟩
  rw [or_set]
  unfold setN
  rw [show 31 - k + 1 = 32 - k by omega, show 32 - (k + 1) = 31 - k by omega, e1, e2]
  have hy : n % (2 * 2 ^ (31 - k)) < 2 * 2 ^ (31 - k) := Nat.mod_lt _ (by omega)
  have hmm : n % (2 * 2 ^ (31 - k)) % 2 ^ (31 - k) = n % 2 ^ (31 - k) := by rw [Nat.mul_comm 2 (2 ^ (31 - k)), Nat.mod_mul_right_mod]
  generalize n % (2 * 2 ^ (31 - k)) = y at *
  generalize n / (2 ^ (k - m) * (2 * 2 ^ (31 - k))) = q at *
  generalize n % 2 ^ (31 - k) = z at *
  generalize (2 : Nat) ^ (31 - k) = R at *
  generalize (2 : Nat) ^ (k - m) = t at *
  obtain ⟨u, rfl⟩ : ∃ u, t = u + 1 := ⟨t - 1, by omega⟩
  have e3 : (u + 1) * (2 * R) * q + ((u + 1) * (2 * R) - 2 * R) + y = 2 * R * ((u + 1) * q + u) + y := by
    have : (u + 1) * (2 * R) = u * (2 * R) + 2 * R := by rw [Nat.add_mul, Nat.one_mul]
    rw [this, Nat.add_sub_cancel, Nat.mul_add, ← this, Nat.mul_comm (u + 1) (2 * R), Nat.mul_assoc, Nat.mul_comm u (2 * R)]
  rw [e3, Nat.mul_add_div (by omega), Nat.div_eq_of_lt hy, Nat.add_zero]
  have e4 : 2 * R * ((u + 1) * q + u) = R * (2 * ((u + 1) * q + u)) := by rw [Nat.mul_comm 2 R, Nat.mul_assoc]
  rw [e4, Nat.mul_add_mod, hmm, ← e4]
  have e5 : (u + 1) * (2 * R) * q + ((u + 1) * (2 * R) - R) = 2 * R * ((u + 1) * q + u) + R := by
    have : (u + 1) * (2 * R) = u * (2 * R) + 2 * R := by rw [Nat.add_mul, Nat.one_mul]
    have h6 : (u + 1) * (2 * R) - R = u * (2 * R) + R := by omega
    rw [h6, Nat.mul_add, Nat.mul_comm (u + 1) (2 * R), Nat.mul_assoc, Nat.mul_comm u (2 * R)]; omega
  rw [e5]
  omega
theorem net_top (n m : Nat) (hm : m ≤ 32) (hn : n < 2 ^ 32) : 2 ^ (32 - m) * (n / 2 ^ (32 - m)) + 2 ^ (32 - m) ≤ 2 ^ 32 := by
  have h1 : n / 2 ^ (32 - m) < 2 ^ m := by
    rw [Nat.div_lt_iff_lt_mul (Nat.two_pow_pos _), ← Nat.pow_add, show m + (32 - m) = 32 by omega]; exact hn
  have h2 : 2 ^ (32 - m) * (n / 2 ^ (32 - m) + 1) ≤ 2 ^ (32 - m) * 2 ^ m := Nat.mul_le_mul_left _ h1
  rw [← Nat.pow_add, show 32 - m + m = 32 by omega, Nat.mul_add, Nat.mul_one] at h2
  exact h2
theorem lastN_lt (n m : Nat) (hm : m ≤ 32) (hn : n < 4294967296) : lastN n m < 4294967296 := by
  have := net_top n m hm hn
  have := Nat.two_pow_pos (32 - m)
  unfold lastN; omega
theorem firstN_le (n m : Nat) : firstN n m ≤ n := Nat.mul_div_le n _
/-- A net has a number: its first bits are the net's. -/
theorem firstN_eq (n k m : Nat) : firstN n m = firstN k m ↔ n / 2 ^ (32 - m) = k / 2 ^ (32 - m) := by
  unfold firstN
  exact ⟨fun h => Nat.eq_of_mul_eq_mul_left (Nat.two_pow_pos _) h, fun h => by rw [h]⟩
open Go.RowKit

/-- An address by its number. -/
def adr (n : Nat) : Value := .agg #[.int .u8 ((n : Int) / 16777216), .int .u8 ((n : Int) / 65536 % 256), .int .u8 ((n : Int) / 256 % 256), .int .u8 ((n : Int) % 256)]

def clamp (b : Int) : Nat := if b < 0 then 0 else if 32 < b then 32 else b.toNat
theorem clamp_le (b : Int) : clamp b ≤ 32 := by unfold clamp; split <;> (try split) <;> omega

theorem rbits_any (b : Int) (w : World) : Calls Try.prog 50 #[.int .i64 b] w fun e w' => e = .returned (.int .i64 (clamp b)) ∧ w = w' := by
  by_cases h0 : b < 0
  · have hc : clamp b = 0 := if_pos h0
    rw [hc]; clear hc
    go_enter Try.func50, Try.ntmps50
    go_wp2
    go_ret
    exact ⟨rfl, rfl⟩
  by_cases h1 : 32 < b
  · have hc : clamp b = 32 := by unfold clamp; rw [if_neg h0, if_pos h1]
    have b0 : 0 ≤ b := by omega
    rw [hc]; clear hc h0
    go_enter Try.func50, Try.ntmps50
    go_wp2
    go_ret
    exact ⟨rfl, rfl⟩
  · have hc : Hid ((clamp b : Int) = b) := Lib.hid (by unfold clamp; rw [if_neg h0, if_neg h1]; omega)
    have b0 : decide (b < 0) = false := decide_eq_false h0
    have b1 : decide (32 < b) = false := decide_eq_false h1
    clear h0 h1
    rw [hc.out]
    go_enter Try.func50, Try.ntmps50
    go_wp2
    go_ret
    exact ⟨rfl, rfl⟩

theorem rof4_any (n : Nat) (w : World) (hn : n < 4294967296) : Calls Try.prog 28 #[.int .u32 (n : Int)] w fun e w' => e = .returned (adr n) ∧ Below w.heap.size w w' := by
  have n0 : (0 : Int) ≤ n := by omega
  have n1 : (n : Int) < 4294967296 := by omega
  go_enter Try.func28, Try.ntmps28
  go_wp2
  exact bodyPost_ret (v := adr n) (by simp [results, Try.results28, go_sem, adr]) rfl ⟨rfl, (Below.refl _ _).alloc (Nat.le_refl _) _⟩

theorem made_abcd (a b c d : UInt8) (w : World) : Sl (w.alloc (.cells #[.int .u8 (a.toNat : Int), .int .u8 (b.toNat : Int), .int .u8 (c.toNat : Int), .int .u8 (d.toNat : Int)] 5)) (some ⟨w.heap.size, 0, none⟩) 4 4 [a, b, c, d] := Sl.made w 5 [a, b, c, d] (by simp [maxLen])

theorem rnum_any (a b c d : UInt8) (w : World) : Calls Try.prog 25 #[.agg #[.int .u8 (a.toNat : Int), .int .u8 (b.toNat : Int), .int .u8 (c.toNat : Int), .int .u8 (d.toNat : Int)]] w fun e w' => e = .returned (.int .u32 (be [a, b, c, d])) ∧ Below w.heap.size w w' := by
  have hm := made_abcd a b c d (w.alloc (.cells #[.int .u8 (a.toNat : Int), .int .u8 (b.toNat : Int), .int .u8 (c.toNat : Int), .int .u8 (d.toNat : Int)] 24))
  have bel := ((Below.refl w.heap.size w).alloc (Nat.le_refl _) (.cells #[.int .u8 (a.toNat : Int), .int .u8 (b.toNat : Int), .int .u8 (c.toNat : Int), .int .u8 (d.toNat : Int)] 24)).alloc (by simp) (.cells #[.int .u8 (a.toNat : Int), .int .u8 (b.toNat : Int), .int .u8 (c.toNat : Int), .int .u8 (d.toNat : Int)] 5)
  have hs : (w.alloc (.cells #[.int .u8 (a.toNat : Int), .int .u8 (b.toNat : Int), .int .u8 (c.toNat : Int), .int .u8 (d.toNat : Int)] 24)).heap.size = w.heap.size + 1 := by simp
  rw [hs] at hm
  have ha := fun W (h : Sl W (some ⟨w.heap.size + 1, 0, none⟩) 4 4 [a, b, c, d]) => at32_any _ 4 4 [a, b, c, d] W h (by omega)
  rw [show ([a, b, c, d] : List UInt8).take 4 = [a, b, c, d] from rfl] at ha
  generalize be [a, b, c, d] = n at *
  have HA := Lib.hid ha
  clear ha hs
  go_enter Try.func25, Try.ntmps25
  go_wp2_with fail
  with_reducible refine (HA.out _ hm).mono ?_
  rintro e w1 ⟨rfl, q, rfl⟩
  go_wp2
  go_ret
  exact ⟨rfl, ⟨bel.os, bel.tape, bel.output, bel.size, bel.block⟩⟩

theorem be_four_lt (a b c d : UInt8) : be [a, b, c, d] < 4294967296 := be_lt 4 [a, b, c, d] rfl

theorem clrN_le (n m k : Nat) (h : m ≤ k) : clrN n m k ≤ n := by
  have : n % 2 ^ (32 - k) ≤ n % 2 ^ (32 - m) := by
    rw [← Nat.mod_mod_of_dvd n (Nat.pow_dvd_pow 2 (by omega : 32 - k ≤ 32 - m))]
    exact Nat.mod_le _ _
  have := Nat.div_add_mod n (2 ^ (32 - m))
  unfold clrN; omega
theorem clr_walk (n m k : Nat) (h : m ≤ k) (hk : k < 32) (hn : n < 4294967296) : bits .andNot .u32 (clrN n m k : Int) ((2 : Int) ^ (31 - k) % 4294967296) = (clrN n m (k + 1) : Int) ∧ clrN n m k < 4294967296 := by
  have hle := clrN_le n m k h
  have hp : (2 : Nat) ^ (31 - k) ≤ 2 ^ 31 := Nat.pow_le_pow_right (by omega) (by omega)
  have e : ((2 : Int) ^ (31 - k) % 4294967296) = ((2 ^ (31 - k) : Nat) : Int) := by
    rw [show (2 : Int) ^ (31 - k) = ((2 ^ (31 - k) : Nat) : Int) by simp]
    generalize (2 : Nat) ^ (31 - k) = R at *
    omega
  rw [e, u32_andNot_nat _ _ (by omega) (by omega), (clrN_step n m k h hk (by omega)).1]
  exact ⟨rfl, by omega⟩

/-- The two blocks that First lays, behind what came later. -/
theorem first_kept {w w3 : World} {a b c d x0 x1 x2 x3 x4 : Value} (h : Below ((w.alloc (.cells #[a, b, c, d, x4] 36)).alloc (.cells #[x0, x1, x2, x3] 24)).heap.size ((w.alloc (.cells #[a, b, c, d, x4] 36)).alloc (.cells #[x0, x1, x2, x3] 24)) w3) :
    w3.cell? ⟨w.heap.size, 4, none⟩ = some x4 ∧ w3.heap[w.heap.size + 1]? = some (.cells #[x0, x1, x2, x3] 24 (0, 0)) ∧ Below w.heap.size w w3 ∧ w.heap.size + 1 < w3.heap.size := by
  have hs := h.size
  simp at hs
  have h1 : w3.heap[w.heap.size + 1]? = some (.cells #[x0, x1, x2, x3] 24 (0, 0)) := (h.block _ (by simp)).trans (by have := heap_alloc_new (w.alloc (.cells #[a, b, c, d, x4] 36)) (.cells #[x0, x1, x2, x3] 24); simpa using this)
  have h0 : w3.heap[w.heap.size]? = some (.cells #[a, b, c, d, x4] 36 (0, 0)) :=
    (h.block _ (by simp; omega)).trans ((Go.heap_alloc_old (w.alloc (.cells #[a, b, c, d, x4] 36)) (.cells #[x0, x1, x2, x3] 24) (r := w.heap.size) (by simp)).trans (heap_alloc_new w _))
  refine ⟨by simp [World.cell?, h0], h1, ?_, by omega⟩
  exact (((Below.refl w.heap.size w).alloc (Nat.le_refl _) _).alloc (by simp) _).trans (h.mono (by simp; omega))

set_option maxHeartbeats 1000000 in
theorem rfirst_any (a b c d : UInt8) (bt : Int) (w : World) :
    Calls Try.prog 26 #[.agg #[.int .u8 (a.toNat : Int), .int .u8 (b.toNat : Int), .int .u8 (c.toNat : Int), .int .u8 (d.toNat : Int), .int .i64 bt]] w fun e w' => e = .returned (adr (firstN (be [a, b, c, d]) (clamp bt))) ∧ Below w.heap.size w w' := by
  have hn := be_four_lt a b c d
  have hml := clamp_le bt
  have hnum := fun W => rnum_any a b c d W
  have hbits := fun W => rbits_any bt W
  generalize be [a, b, c, d] = n at *
  generalize clamp bt = m at *
  have HNUM := Lib.hid hnum
  have HBITS := Lib.hid hbits
  clear hnum hbits
  go_enter Try.func26, Try.ntmps26
  go_wp2_with fail
  with_reducible refine (HNUM.out _).mono ?_
  rintro e w3 ⟨rfl, bel3⟩
  obtain ⟨z4, hb4, bel, hsz⟩ := first_kept bel3
  clear bel3
  go_wp2_with fail
  with_reducible refine (HBITS.out _).mono ?_
  rintro e w4 ⟨rfl, rfl⟩
  have hst := Lib.hid (clrN_start n m)
  go_wp2_with fail
  go_loop [3, 4] (fun v i => ∃ k : Nat, m ≤ k ∧ k ≤ 32 ∧ i = .int .i64 k ∧ v = .int .u32 (clrN n m k)) (fun _ i => 32 - (intOf i).toNat)
  case atStart => exact ⟨m, Nat.le_refl _, hml, rfl, by rw [hst.out]⟩
  case round =>
    obtain ⟨k, hmk, hk, rfl, rfl⟩ := hrel
    by_cases hlt : k < 32
    · obtain ⟨hand, hvl⟩ := clr_walk n m k hmk hlt hn
      have k0 : (0 : Int) ≤ k := by omega
      have k1 : (k : Int) < 32 := by omega
      have v0 : (0 : Int) ≤ clrN n m k := by omega
      have v1 : (clrN n m k : Int) < 4294967296 := by omega
      go_wp2
      go_round
      case rel => exact ⟨k + 1, by omega, by omega, by go_num, rfl⟩
      case measure => simp [intOf]; omega
    · obtain rfl : k = 32 := by omega
      have he := clrN_end n m
      have hfl : firstN n m < 4294967296 := by
        have := clrN_le n m 32 hmk; rw [he] at this; omega
      rw [he]
      clear he
      go_wp2_with fail
      with_reducible refine (rof4_any (firstN n m) _ hfl).mono ?_
      rintro e w5 ⟨rfl, bel5⟩
      have bel6 := bel.trans (bel5.mono bel.size)
      have hb5 := (bel5.block _ hsz).trans hb4
      obtain ⟨⟨q0, q1, q2, q3⟩, f0, f1, f2, f3⟩ := cells4 hb5
      have HB := Lib.hid hb5
      clear hb5 hb4 z4 bel bel5
      simp only [adr]
      go_wp2
      have R4 := put4 (x := .int .u8 ((firstN n m : Int) / 16777216)) (y := .int .u8 ((firstN n m : Int) / 65536 % 256)) (z := .int .u8 ((firstN n m : Int) / 256 % 256)) (u := .int .u8 ((firstN n m : Int) % 256)) HB.out
      obtain ⟨⟨k0, k1, k2, k3⟩, _⟩ := cells4 R4
      clear R4
      exact bodyPost_ret (v := adr (firstN n m)) (by simp [results, Try.results26, go_sem, adr, k0, k1, k2, k3]) rfl ⟨rfl, (((bel6.setCell (by simp) _).setCell (by simp) _).setCell (by simp) _).setCell (by simp) _⟩

theorem set_walk (n m k : Nat) (h : m ≤ k) (hk : k < 32) (hm : m ≤ 32) (hn : n < 4294967296) : bits .or .u32 (setN n m k : Int) ((2 : Int) ^ (31 - k) % 4294967296) = (setN n m (k + 1) : Int) ∧ setN n m k < 4294967296 := by
  obtain ⟨h1, h2⟩ := setN_step n m k h hk hm (by omega)
  have hp : (2 : Nat) ^ (31 - k) ≤ 2 ^ 31 := Nat.pow_le_pow_right (by omega) (by omega)
  have e : ((2 : Int) ^ (31 - k) % 4294967296) = ((2 ^ (31 - k) : Nat) : Int) := by
    rw [show (2 : Int) ^ (31 - k) = ((2 ^ (31 - k) : Nat) : Int) by simp]
    generalize (2 : Nat) ^ (31 - k) = R at *
    omega
  rw [e, u32_or_nat _ _ (by omega) (by omega), h1]
  exact ⟨rfl, by omega⟩

set_option maxHeartbeats 1000000 in
theorem rlast_any (a b c d : UInt8) (bt : Int) (w : World) :
    Calls Try.prog 27 #[.agg #[.int .u8 (a.toNat : Int), .int .u8 (b.toNat : Int), .int .u8 (c.toNat : Int), .int .u8 (d.toNat : Int), .int .i64 bt]] w fun e w' => e = .returned (adr (lastN (be [a, b, c, d]) (clamp bt))) ∧ Below w.heap.size w w' := by
  have hn := be_four_lt a b c d
  have hml := clamp_le bt
  have hnum := fun W => rnum_any a b c d W
  have hbits := fun W => rbits_any bt W
  generalize be [a, b, c, d] = n at *
  generalize clamp bt = m at *
  have HNUM := Lib.hid hnum
  have HBITS := Lib.hid hbits
  clear hnum hbits
  go_enter Try.func27, Try.ntmps27
  go_wp2_with fail
  with_reducible refine (HNUM.out _).mono ?_
  rintro e w3 ⟨rfl, bel3⟩
  obtain ⟨z4, hb4, bel, hsz⟩ := first_kept bel3
  clear bel3
  go_wp2_with fail
  with_reducible refine (HBITS.out _).mono ?_
  rintro e w4 ⟨rfl, rfl⟩
  have hst := Lib.hid (setN_start n m)
  go_wp2_with fail
  go_loop [3, 4] (fun v i => ∃ k : Nat, m ≤ k ∧ k ≤ 32 ∧ i = .int .i64 k ∧ v = .int .u32 (setN n m k)) (fun _ i => 32 - (intOf i).toNat)
  case atStart => exact ⟨m, Nat.le_refl _, hml, rfl, by rw [hst.out]⟩
  case round =>
    obtain ⟨k, hmk, hk, rfl, rfl⟩ := hrel
    by_cases hlt : k < 32
    · obtain ⟨hand, hvl⟩ := set_walk n m k hmk hlt hml hn
      have k0 : (0 : Int) ≤ k := by omega
      have k1 : (k : Int) < 32 := by omega
      have v0 : (0 : Int) ≤ setN n m k := by omega
      have v1 : (setN n m k : Int) < 4294967296 := by omega
      go_wp2
      go_round
      case rel => exact ⟨k + 1, by omega, by omega, by go_num, rfl⟩
      case measure => simp [intOf]; omega
    · obtain rfl : k = 32 := by omega
      have he := setN_end n m
      have hfl : lastN n m < 4294967296 := by
        exact lastN_lt n m hml hn
      rw [he]
      clear he
      go_wp2_with fail
      with_reducible refine (rof4_any (lastN n m) _ hfl).mono ?_
      rintro e w5 ⟨rfl, bel5⟩
      have bel6 := bel.trans (bel5.mono bel.size)
      have hb5 := (bel5.block _ hsz).trans hb4
      obtain ⟨⟨q0, q1, q2, q3⟩, f0, f1, f2, f3⟩ := cells4 hb5
      have HB := Lib.hid hb5
      clear hb5 hb4 z4 bel bel5
      simp only [adr]
      go_wp2
      have R4 := put4 (x := .int .u8 ((lastN n m : Int) / 16777216)) (y := .int .u8 ((lastN n m : Int) / 65536 % 256)) (z := .int .u8 ((lastN n m : Int) / 256 % 256)) (u := .int .u8 ((lastN n m : Int) % 256)) HB.out
      obtain ⟨⟨k0, k1, k2, k3⟩, _⟩ := cells4 R4
      clear R4
      exact bodyPost_ret (v := adr (lastN n m)) (by simp [results, Try.results27, go_sem, adr, k0, k1, k2, k3]) rfl ⟨rfl, (((bel6.setCell (by simp) _).setCell (by simp) _).setCell (by simp) _).setCell (by simp) _⟩
open Go.RowKit

/-- An address and bits, as the reference reads them. -/
def splitA (l : List UInt8) : UInt8 × UInt8 × UInt8 × UInt8 :=
  if 18 < l.length then (0, 0, 0, 0) else match cutF 47 l with
  | [x, _] => (parse4 x).getD (0, 0, 0, 0)
  | _ => (0, 0, 0, 0)
def splitN (l : List UInt8) : Int :=
  if 18 < l.length then 0 else match cutF 47 l with
  | [_, y] => numI y 32
  | _ => 0
def splitOk (l : List UInt8) : Bool :=
  if 18 < l.length then false else match cutF 47 l with
  | [x, y] => (parse4 x).isSome && decide (0 ≤ numI y 32)
  | _ => false
/-- What Split answers. -/
def SplitPost (l : List UInt8) (w : World) (e : Ending) (w' : World) : Prop :=
  e = .returned (.tuple #[addrV (splitA l).1 (splitA l).2.1 (splitA l).2.2.1 (splitA l).2.2.2, .int .i64 (splitN l), .bool (splitOk l)]) ∧ Below w.heap.size w w'

theorem cut_free (b : UInt8) : ∀ (t : List UInt8) (ls : List (List UInt8)) (x : List UInt8), (∀ c ∈ t, c ≠ b) → t.foldl (cutStep b) (ls ++ [x]) = ls ++ [x ++ t]
  | [], ls, x, _ => by simp
  | c :: t, ls, x, h => by
    rw [List.foldl_cons]
    have hc : cutStep b (ls ++ [x]) c = ls ++ [x ++ [c]] := by
      unfold cutStep; rw [if_neg (h c (by simp))]; simp
    rw [hc, cut_free b t ls (x ++ [c]) (fun y hy => h y (by simp [hy]))]
    simp
theorem cut_at (b : UInt8) (l t : List UInt8) (ht : ∀ c ∈ t, c ≠ b) : cutF b (l ++ [b] ++ t) = cutF b l ++ [t] := by
  unfold cutF
  rw [List.foldl_append, List.foldl_append, List.foldl_cons, List.foldl_nil]
  have hb : cutStep b (List.foldl (cutStep b) [[]] l) b = List.foldl (cutStep b) [[]] l ++ [[]] := if_pos rfl
  rw [hb, cut_free b t _ [] ht]
  simp
theorem cut_none (b : UInt8) (t : List UInt8) (ht : ∀ c ∈ t, c ≠ b) : cutF b t = [t] := by
  have := cut_free b t [] [] ht
  simpa [cutF] using this
end Go.Proofs.Ytdfobilagidmfaa
