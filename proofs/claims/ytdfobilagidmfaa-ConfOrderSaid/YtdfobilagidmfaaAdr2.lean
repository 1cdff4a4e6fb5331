/- The contracts of addr's hexDigit, hexPair. -/
import Derived.Test.YtdfobilagidmfaaAdr1
import Derived.Test.YtdfobilagidmfaaRef3
namespace Go.Proofs.Ytdfobilagidmfaa
open Go.RowKit

theorem hexI_ok {c : UInt8} (h : 0 ≤ hexI c) : (48 ≤ c.toNat ∧ c.toNat ≤ 57 ∧ hexI c = (c.toNat : Int) - 48) ∨ (97 ≤ c.toNat ∧ c.toNat ≤ 102 ∧ hexI c = (c.toNat : Int) - 97 + 10) ∨ (65 ≤ c.toNat ∧ c.toNat ≤ 70 ∧ hexI c = (c.toNat : Int) - 65 + 10) := by
  unfold hexI at h ⊢
  split at h
  · exact .inl ⟨by omega, by omega, by rw [if_pos (by omega)]⟩
  · split at h
    · exact .inr (.inl ⟨by omega, by omega, by rw [if_neg (by omega), if_pos (by omega)]⟩)
    · split at h
      · exact .inr (.inr ⟨by omega, by omega, by rw [if_neg (by omega), if_neg (by omega), if_pos (by omega)]⟩)
      · omega
theorem hexI_no {c : UInt8} (h : hexI c < 0) : ¬ (48 ≤ c.toNat ∧ c.toNat ≤ 57) ∧ ¬ (97 ≤ c.toNat ∧ c.toNat ≤ 102) ∧ ¬ (65 ≤ c.toNat ∧ c.toNat ≤ 70) := by
  unfold hexI at h
  split at h
  · omega
  · split at h
    · omega
    · split at h
      · omega
      · exact ⟨by assumption, by assumption, by assumption⟩

set_option maxRecDepth 100000 in
theorem hexDigit_ok (c : UInt8) (h : 0 ≤ hexI c) (w : World) : Calls Try.prog 84 #[.int .i32 (c.toNat : Int)] w fun e w' => e = .returned (.tuple #[.int .u8 (hexI c), .bool true]) ∧ w = w' := by
  rcases hexI_ok h with ⟨h1, h2, e⟩ | ⟨h1, h2, e⟩ | ⟨h1, h2, e⟩
  · rw [e]
    have t1 : (48 : Int) ≤ c.toNat := by omega
    have t2 : (c.toNat : Int) ≤ 57 := by omega
    clear e h
    go_enter Try.func84, Try.ntmps84
    go_wp2
    go_ret2
    exact ⟨rfl, rfl⟩
  · rw [e]
    have t1 : (97 : Int) ≤ c.toNat := by omega
    have t2 : (c.toNat : Int) ≤ 102 := by omega
    have t3 : (48 : Int) ≤ c.toNat := by omega
    have t4 : decide ((c.toNat : Int) ≤ 57) = false := decide_eq_false (by omega)
    clear e h
    go_enter Try.func84, Try.ntmps84
    go_wp2
    go_ret2
    exact ⟨rfl, rfl⟩
  · rw [e]
    have t1 : (65 : Int) ≤ c.toNat := by omega
    have t2 : (c.toNat : Int) ≤ 70 := by omega
    have t3 : (48 : Int) ≤ c.toNat := by omega
    have t4 : decide ((c.toNat : Int) ≤ 57) = false := decide_eq_false (by omega)
    have t5 : decide ((97 : Int) ≤ c.toNat) = false := decide_eq_false (by omega)
    clear e h
    go_enter Try.func84, Try.ntmps84
    go_wp2
    go_ret2
    exact ⟨rfl, rfl⟩

set_option maxRecDepth 100000 in
theorem hexDigit_no (r : Nat) (hr : r ≤ 1114111) (h : ¬ (48 ≤ r ∧ r ≤ 57) ∧ ¬ (97 ≤ r ∧ r ≤ 102) ∧ ¬ (65 ≤ r ∧ r ≤ 70)) (w : World) : Calls Try.prog 84 #[.int .i32 (r : Int)] w fun e w' => e = .returned (.tuple #[.int .u8 0, .bool false]) ∧ w = w' := by
  have r1 : (r : Int) ≤ 1114111 := by omega
  have r0 : (0 : Int) ≤ r := by omega
  rcases (by omega : r < 48 ∨ (57 < r ∧ r < 65) ∨ (70 < r ∧ r < 97) ∨ 102 < r) with k | ⟨k1, k2⟩ | ⟨k1, k2⟩ | k
  · have t1 : decide ((48 : Int) ≤ r) = false := decide_eq_false (by omega)
    have t2 : decide ((97 : Int) ≤ r) = false := decide_eq_false (by omega)
    have t3 : decide ((65 : Int) ≤ r) = false := decide_eq_false (by omega)
    clear h
    go_enter Try.func84, Try.ntmps84
    go_wp2
    go_ret2
    exact ⟨rfl, rfl⟩
  · have t1 : (48 : Int) ≤ r := by omega
    have t2 : decide ((r : Int) ≤ 57) = false := decide_eq_false (by omega)
    have t3 : decide ((97 : Int) ≤ r) = false := decide_eq_false (by omega)
    have t4 : decide ((65 : Int) ≤ r) = false := decide_eq_false (by omega)
    clear h
    go_enter Try.func84, Try.ntmps84
    go_wp2
    go_ret2
    exact ⟨rfl, rfl⟩
  · have t1 : (48 : Int) ≤ r := by omega
    have t2 : decide ((r : Int) ≤ 57) = false := decide_eq_false (by omega)
    have t3 : decide ((97 : Int) ≤ r) = false := decide_eq_false (by omega)
    have t4 : (65 : Int) ≤ r := by omega
    have t5 : decide ((r : Int) ≤ 70) = false := decide_eq_false (by omega)
    clear h
    go_enter Try.func84, Try.ntmps84
    go_wp2
    go_ret2
    exact ⟨rfl, rfl⟩
  · have t1 : (48 : Int) ≤ r := by omega
    have t2 : decide ((r : Int) ≤ 57) = false := decide_eq_false (by omega)
    have t3 : (97 : Int) ≤ r := by omega
    have t4 : decide ((r : Int) ≤ 102) = false := decide_eq_false (by omega)
    have t5 : (65 : Int) ≤ r := by omega
    have t6 : decide ((r : Int) ≤ 70) = false := decide_eq_false (by omega)
    clear h
    go_enter Try.func84, Try.ntmps84
    go_wp2
    go_ret2
    exact ⟨rfl, rfl⟩

theorem hex_rune (s : ByteArray) (pos : Nat) (h : pos < s.size) :
    (0 ≤ hexI (s[pos]'h) ∧ Utf8.decode s pos = ((s[pos]'h).toNat, 1)) ∨ (hexI (s[pos]'h) < 0 ∧ ∃ r k, Utf8.decode s pos = (r, k) ∧ r ≤ 1114111 ∧ ¬ (48 ≤ r ∧ r ≤ 57) ∧ ¬ (97 ≤ r ∧ r ≤ 102) ∧ ¬ (65 ≤ r ∧ r ≤ 70)) := by
  by_cases ha : (s[pos]'h).toNat < 128
  · have hd := decode_ascii s pos h ha
    by_cases hx : 0 ≤ hexI (s[pos]'h)
    · exact .inl ⟨hx, hd⟩
    · have hn := hexI_no (c := s[pos]'h) (by omega)
      exact .inr ⟨by omega, _, _, hd, by omega, hn.1, hn.2.1, hn.2.2⟩
  · obtain ⟨h1, h2, h3, _, _⟩ := rune_hi s pos h (by omega)
    refine .inr ⟨?_, (Utf8.decode s pos).1, (Utf8.decode s pos).2, rfl, h2, ?_⟩
    · have : ¬ 0 ≤ hexI (s[pos]'h) := fun h0 => by rcases hexI_ok h0 with h | h | h <;> omega
      omega
    · generalize (Utf8.decode s pos).1 = r at *
      omega

theorem hexPair_len (s : ByteArray) (h : s.size ≠ 2) (w : World) : Calls Try.prog 83 #[.string s] w fun e w' => e = .returned (.tuple #[.int .u8 0, .bool false]) ∧ Below w.heap.size w w' := by
  have t1 : ((s.size : Int) == 2) = false := beq_eq_false_iff_ne.2 (by omega)
  have t2 : ((s.size : Int) != 2) = true := by rw [bne, t1]; rfl
  clear h
  go_enter Try.func83, Try.ntmps83
  go_wp2
  go_ret2
  exact ⟨rfl, Below.refl _ _⟩

theorem or_u8_16 : ∀ a b : Fin 16, bits .or .u8 (IntKind.u8.wrap ((a.val : Int) * 16)) (b.val : Int) = ((a.val * 16 + b.val : Nat) : Int) := by decide +kernel

set_option maxRecDepth 100000 in
set_option maxHeartbeats 2000000 in
theorem hexPair_no (s : ByteArray) (h : s.size = 2) (hn : hexI (s[0]'(by omega)) < 0 ∨ hexI (s[1]'(by omega)) < 0) (w : World) : Calls Try.prog 83 #[.string s] w fun e w' => e = .returned (.tuple #[.int .u8 0, .bool false]) ∧ Below w.heap.size w w' := by
  have t1 : ((s.size : Int) == 2) = true := beq_iff_eq.2 (by omega)
  have t2 : ((s.size : Int) != 2) = false := by rw [bne, t1]; rfl
  have bel : ∀ p, Below w.heap.size w (w.iter s p) := fun p => (Below.refl _ _).alloc (Nat.le_refl _) _
  have nx := fun ty pos hp => run_next_any (P := Try.prog) w s pos ty hp
  rcases hex_rune s 0 (by omega) with ⟨h0, d0⟩ | ⟨h0, r, k, d0, hr, hno⟩
  · rcases hex_rune s 1 (by omega) with ⟨h1, d1⟩ | ⟨h1, r, k, d1, hr, hno⟩
    · omega
    have n0 : ∀ ty, (Instr.next (.pointer (some ⟨w.heap.size, 0, none⟩)) true ty).run Try.prog (w.iter s 0) = .ok (.tuple #[.bool true, .int .i64 0, .int .i32 ((s[0]'(by omega)).toNat : Int)]) (w.iter s 1) := fun ty => by
      have := nx ty 0 (by omega); rw [d0] at this; exact this
    have n1 : ∀ ty, (Instr.next (.pointer (some ⟨w.heap.size, 0, none⟩)) true ty).run Try.prog (w.iter s 1) = .ok (.tuple #[.bool true, .int .i64 1, .int .i32 r]) (w.iter s (1 + k)) := fun ty => by
      have := nx ty 1 (by omega); rw [d1] at this; exact this
    have hr0 := hexI_range (s[0]'(by omega))
    have HD0 := Lib.hid (fun W => hexDigit_ok _ h0 W)
    have HD := Lib.hid (fun W => hexDigit_no r hr hno W)
    have H := Lib.hid h
    obtain ⟨c, hc⟩ : ∃ c, s[0]'(by omega) = c := ⟨_, rfl⟩
    rw [hc] at n0 h0 HD0 hr0
    have x0 : 0 ≤ hexI c := h0
    have x1 : hexI c ≤ 15 := by omega
    generalize hexI c = x at *
    clear nx d0 d1 hn h1 h hno hc hr0 h0
    go_enter Try.func83, Try.ntmps83
    go_wp2
    refine wp_loop_rounds 3 ?_
    rw [rounds_succ]
    go_wp2_with fail
    with_reducible refine (HD0.out _).mono ?_
    rintro e w2 ⟨rfl, rfl⟩
    go_wp2_with fail
    rw [rounds_succ]
    go_wp2_with fail
    with_reducible refine (HD.out _).mono ?_
    rintro e w2 ⟨rfl, rfl⟩
    go_wp2
    go_ret2
    exact ⟨rfl, bel _⟩
  · have n0 : ∀ ty, (Instr.next (.pointer (some ⟨w.heap.size, 0, none⟩)) true ty).run Try.prog (w.iter s 0) = .ok (.tuple #[.bool true, .int .i64 0, .int .i32 r]) (w.iter s (0 + k)) := fun ty => by
      have := nx ty 0 (by omega); rw [d0] at this; exact this
    clear nx d0 hn h0
    have HD := Lib.hid (fun W => hexDigit_no r hr hno W)
    have H := Lib.hid h
    clear h hno
    go_enter Try.func83, Try.ntmps83
    go_wp2
    refine wp_loop_rounds 3 ?_
    rw [rounds_succ]
    go_wp2_with fail
    with_reducible refine (HD.out _).mono ?_
    rintro e w2 ⟨rfl, rfl⟩
    go_wp2
    go_ret2
    exact ⟨rfl, bel _⟩

set_option maxRecDepth 100000 in
set_option maxHeartbeats 2000000 in
theorem hexPair_ok (s : ByteArray) (h : s.size = 2) (h0 : 0 ≤ hexI (s[0]'(by omega))) (h1 : 0 ≤ hexI (s[1]'(by omega))) (w : World) : Calls Try.prog 83 #[.string s] w fun e w' => e = .returned (.tuple #[.int .u8 (16 * hexI (s[0]'(by omega)) + hexI (s[1]'(by omega))), .bool true]) ∧ Below w.heap.size w w' := by
  have t1 : ((s.size : Int) == 2) = true := beq_iff_eq.2 (by omega)
  have t2 : ((s.size : Int) != 2) = false := by rw [bne, t1]; rfl
  have bel : ∀ p, Below w.heap.size w (w.iter s p) := fun p => (Below.refl _ _).alloc (Nat.le_refl _) _
  have nx := fun ty pos hp => run_next_any (P := Try.prog) w s pos ty hp
  rcases hex_rune s 0 (by omega) with ⟨g0, d0⟩ | ⟨k0, _⟩
  rotate_left
  · omega
  rcases hex_rune s 1 (by omega) with ⟨g1, d1⟩ | ⟨k1, _⟩
  rotate_left
  · omega
  have n0 : ∀ ty, (Instr.next (.pointer (some ⟨w.heap.size, 0, none⟩)) true ty).run Try.prog (w.iter s 0) = .ok (.tuple #[.bool true, .int .i64 0, .int .i32 ((s[0]'(by omega)).toNat : Int)]) (w.iter s 1) := fun ty => by
    have := nx ty 0 (by omega); rw [d0] at this; exact this
  have n1 : ∀ ty, (Instr.next (.pointer (some ⟨w.heap.size, 0, none⟩)) true ty).run Try.prog (w.iter s 1) = .ok (.tuple #[.bool true, .int .i64 1, .int .i32 ((s[1]'(by omega)).toNat : Int)]) (w.iter s 2) := fun ty => by
    have := nx ty 1 (by omega); rw [d1] at this; exact this
  have n2 : ∀ ty, (Instr.next (.pointer (some ⟨w.heap.size, 0, none⟩)) true ty).run Try.prog (w.iter s 2) = .ok (.tuple #[.bool false]) (w.iter s 2) := fun ty => run_next_end w s 2 ty (by omega)
  have hr0 := hexI_range (s[0]'(by omega))
  have hr1 := hexI_range (s[1]'(by omega))
  have HD0 := Lib.hid (fun W => hexDigit_ok _ h0 W)
  have HD1 := Lib.hid (fun W => hexDigit_ok _ h1 W)
  obtain ⟨c, hc⟩ : ∃ c, s[0]'(by omega) = c := ⟨_, rfl⟩
  obtain ⟨d, hd⟩ : ∃ d, s[1]'(by omega) = d := ⟨_, rfl⟩
  rw [hc] at n0 h0 HD0 hr0
  rw [hd] at n1 h1 HD1 hr1
  rw [hc, hd]
  have x0 : 0 ≤ hexI c := h0
  have x1 : hexI c ≤ 15 := by omega
  have y0 : 0 ≤ hexI d := h1
  have y1 : hexI d ≤ 15 := by omega
  have hor : bits .or .u8 (hexI c * 16) (hexI d) = 16 * hexI c + hexI d := by
    have := or_u8_16 ⟨(hexI c).toNat, by omega⟩ ⟨(hexI d).toNat, by omega⟩
    simp only [Int.toNat_of_nonneg x0, Int.toNat_of_nonneg y0] at this
    rw [show IntKind.u8.wrap (hexI c * 16) = hexI c * 16 by simp [IntKind.wrap, IntKind.signed, IntKind.bits]; omega] at this
    rw [this]; omega
  have hor0 : bits .or .u8 0 (hexI c) = hexI c := by
    have := or_u8_16 ⟨0, by omega⟩ ⟨(hexI c).toNat, by omega⟩
    simp only [Int.toNat_of_nonneg x0] at this
    rw [show IntKind.u8.wrap ((((0 : Nat) : Int)) * 16) = 0 by decide] at this
    rw [this]; omega
  generalize hexI c = x at *
  generalize hexI d = y at *
  have H := Lib.hid h
  clear nx d0 d1 h1 g0 g1 h hc hd hr0 hr1 h0
  go_enter Try.func83, Try.ntmps83
  go_wp2
  refine wp_loop_rounds 3 ?_
  rw [rounds_succ]
  go_wp2_with fail
  with_reducible refine (HD0.out _).mono ?_
  rintro e w2 ⟨rfl, rfl⟩
  go_wp2_with fail
  rw [rounds_succ]
  go_wp2_with fail
  with_reducible refine (HD1.out _).mono ?_
  rintro e w2 ⟨rfl, rfl⟩
  go_wp2_with fail
  rw [rounds_succ]
  go_wp2
  go_ret2
  exact ⟨rfl, bel _⟩
end Go.Proofs.Ytdfobilagidmfaa
