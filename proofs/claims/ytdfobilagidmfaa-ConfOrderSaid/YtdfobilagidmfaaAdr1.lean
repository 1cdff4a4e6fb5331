/- The contracts of addr's decimal, hexDigit, hexPair. -/
import Derived.Test.YtdfobilagidmfaaRows
import Derived.Test.YtdfobilagidmfaaMem
import Derived.Test.YtdfobilagidmfaaScan
import Derived.WalkSpells
import Derived.WalkLawsBesides
import Derived.Lib.Hide
import Derived.Lib.OthersKept
namespace Go.Proofs.Ytdfobilagidmfaa
open Go.RowKit

theorem dec_rune (s : ByteArray) (pos : Nat) (h : pos < s.size) : ∃ (r k : Nat) (c : UInt8), Utf8.decode s pos = (r, k) ∧ s.data.toList[pos]? = some c ∧ r ≤ 1114111 ∧ 1 ≤ k ∧
    ((c.toNat < 48 ∧ r < 48) ∨ (57 < c.toNat ∧ 57 < r) ∨ (48 ≤ c.toNat ∧ c.toNat ≤ 57 ∧ r = c.toNat ∧ k = 1)) := by
  by_cases ha : (s[pos]'h).toNat < 128
  · refine ⟨_, 1, s[pos]'h, decode_ascii s pos h ha, get?_at s pos h, by omega, Nat.le_refl _, by omega⟩
  · obtain ⟨h1, h2, h3, _, _⟩ := rune_hi s pos h (by omega)
    refine ⟨(Utf8.decode s pos).1, (Utf8.decode s pos).2, s[pos]'h, rfl, get?_at s pos h, h2, h3, .inr (.inl ⟨?_, ?_⟩)⟩ <;> omega

/-- What decimal answers. -/
def DecPost (l : List UInt8) (most : Int) (w : World) (e : Ending) (w' : World) : Prop :=
  e = .returned (.tuple #[.int .i64 (if 0 ≤ numI l most then numI l most else 0), .bool (decide (0 ≤ numI l most))]) ∧ Below w.heap.size w w'
theorem decPost_no {l : List UInt8} {most : Int} {w w' : World} (h : numI l most = -1) (hb : Below w.heap.size w w') : DecPost l most w (.returned (.tuple #[.int .i64 0, .bool false])) w' := by
  unfold DecPost; rw [h]; exact ⟨rfl, hb⟩
theorem decPost_yes {l : List UInt8} {most : Int} {w w' : World} {v : Nat} (h : numI l most = v) (hb : Below w.heap.size w w') : DecPost l most w (.returned (.tuple #[.int .i64 (v : Int), .bool true])) w' := by
  unfold DecPost; rw [h, if_pos (by omega), decide_eq_true (by omega)]; exact ⟨rfl, hb⟩

set_option maxRecDepth 100000 in
set_option maxHeartbeats 2000000 in
theorem decimal_any (s : ByteArray) (most : Int) (w : World) (hs : s.size ≤ 140737488355328) (hm0 : 0 ≤ most) (hm1 : most < 1000) :
    Calls Try.prog 82 #[.string s, .int .i64 most] w (DecPost s.data.toList most w) := by
  have hlen : s.data.toList.length = s.size := by simp
  have bel : ∀ p, Below w.heap.size w (w.iter s p) := fun p => (Below.refl _ _).alloc (Nat.le_refl _) _
  go_enter Try.func82, Try.ntmps82
  go_wp2
  go_loopw [6] (fun v wr => ∃ (pos n : Nat), v = .int .i64 n ∧ pos ≤ s.size ∧ wr = w.iter s pos ∧ DecInv s.data.toList pos n ∧ (n : Int) ≤ most) (fun _ wr => s.size - wr.iterPos w.heap.size)
  case atStart => exact ⟨0, 0, rfl, by omega, rfl, dec_start _, hm0⟩
  case round =>
    obtain ⟨pos, n, rfl, hp, rfl, hi, hn⟩ := hrel
    have n0 : (0 : Int) ≤ n := by omega
    have n1 : (n : Int) < 1000 := by omega
    by_cases hlt : pos < s.size
    · obtain ⟨r, k, c, hd, hc, hr, hk, hcase⟩ := dec_rune s pos hlt
      have hnx : ∀ ty, (Instr.next (.pointer (some ⟨w.heap.size, 0, none⟩)) true ty).run Try.prog (w.iter s pos) = .ok (.tuple #[.bool true, .int .i64 pos, .int .i32 r]) (w.iter s (pos + k)) := fun ty => by
        have := run_next_any (P := Try.prog) w s pos ty hlt
        rw [hd] at this; exact this
      have k0 : (0 : Int) ≤ pos := by omega
      have k1 : (pos : Int) < s.size := by omega
      have p1 : (s.size : Int) ≤ 140737488355328 := by omega
      have r0 : (0 : Int) ≤ r := by omega
      have r1 : (r : Int) ≤ 1114111 := by omega
      clear hd
      by_cases hz : 0 < pos ∧ n = 0
      · obtain ⟨hz1, rfl⟩ := hz
        have hno := Lib.hid (dec_zero hi hz1 hc most)
        have z1 : (0 : Int) < pos := by omega
        clear hcase hc hi
        go_wp2
        go_ret2
        exact decPost_no hno.out (bel _)
      have hi' := Lib.hid hi
      rcases hcase with ⟨hc1, hr1⟩ | ⟨hc1, hr1⟩ | ⟨hc1, hc2, rfl, rfl⟩
      · have hno := Lib.hid (dec_bad hi hc (.inl hc1) most)
        have t1 : (r : Int) < 48 := by omega
        clear hc hi hi'
        by_cases hp0 : pos = 0
        · subst hp0
          have hnx0 : ∀ ty, (Instr.next (.pointer (some ⟨w.heap.size, 0, none⟩)) true ty).run Try.prog (w.iter s 0) = .ok (.tuple #[.bool true, .int .i64 0, .int .i32 r]) (w.iter s k) := fun ty => by
            have := hnx ty; rwa [Nat.zero_add] at this
          clear hnx k0 k1 hlt hp
          go_wp2
          go_ret2
          exact decPost_no hno.out (bel _)
        · have z1 : (0 : Int) < pos := by omega
          have z2 : ((n : Int) == 0) = false := beq_eq_false_iff_ne.2 (by omega)
          go_wp2
          go_ret2
          exact decPost_no hno.out (bel _)
      · have hno := Lib.hid (dec_bad hi hc (.inr hc1) most)
        have t1 : decide ((r : Int) < 48) = false := decide_eq_false (by omega)
        have t2 : (57 : Int) < r := by omega
        clear hc hi hi'
        by_cases hp0 : pos = 0
        · subst hp0
          have hnx0 : ∀ ty, (Instr.next (.pointer (some ⟨w.heap.size, 0, none⟩)) true ty).run Try.prog (w.iter s 0) = .ok (.tuple #[.bool true, .int .i64 0, .int .i32 r]) (w.iter s k) := fun ty => by
            have := hnx ty; rwa [Nat.zero_add] at this
          clear hnx k0 k1 hlt hp
          go_wp2
          go_ret2
          exact decPost_no hno.out (bel _)
        · have z1 : (0 : Int) < pos := by omega
          have z2 : ((n : Int) == 0) = false := beq_eq_false_iff_ne.2 (by omega)
          go_wp2
          go_ret2
          exact decPost_no hno.out (bel _)
      · have t1 : decide ((c.toNat : Int) < 48) = false := decide_eq_false (by omega)
        have t2 : decide ((57 : Int) < c.toNat) = false := decide_eq_false (by omega)
        have q0 : (48 : Int) ≤ c.toNat := by omega
        have q1 : (c.toNat : Int) ≤ 57 := by omega
        have e1 : ((10 * n + (c.toNat - 48) : Nat) : Int) = 10 * n + (c.toNat - 48) := by omega
        by_cases hbig : most < ((10 * n + (c.toNat - 48) : Nat) : Int)
        · have hno := Lib.hid (dec_big hi hc hc1 hc2 most hbig)
          have t3 : most < 10 * (n : Int) + (c.toNat - 48) := by omega
          clear hc hi hi' hbig e1
          by_cases hp0 : pos = 0
          · subst hp0
            have hnx0 : ∀ ty, (Instr.next (.pointer (some ⟨w.heap.size, 0, none⟩)) true ty).run Try.prog (w.iter s 0) = .ok (.tuple #[.bool true, .int .i64 0, .int .i32 (c.toNat : Int)]) (w.iter s 1) := fun ty => by
              have := hnx ty; rwa [Nat.zero_add] at this
            clear hnx k0 k1 hlt hp
            go_wp2
            go_ret2
            exact decPost_no hno.out (bel _)
          · have z1 : (0 : Int) < pos := by omega
            have z2 : ((n : Int) == 0) = false := beq_eq_false_iff_ne.2 (by omega)
            go_wp2
            go_ret2
            exact decPost_no hno.out (bel _)
        · have hst := Lib.hid (dec_step hi hc hc1 hc2 hz)
          have t3 : decide (most < 10 * (n : Int) + (c.toNat - 48)) = false := decide_eq_false (by omega)
          have t4 : Hid (((10 * n + (c.toNat - 48) : Nat) : Int) ≤ most) := Lib.hid (by omega)
          have E1 := Lib.hid e1
          clear hc hi hi' hbig e1
          by_cases hp0 : pos = 0
          · subst hp0
            have hnx0 : ∀ ty, (Instr.next (.pointer (some ⟨w.heap.size, 0, none⟩)) true ty).run Try.prog (w.iter s 0) = .ok (.tuple #[.bool true, .int .i64 0, .int .i32 (c.toNat : Int)]) (w.iter s 1) := fun ty => by
              have := hnx ty; rwa [Nat.zero_add] at this
            clear hnx k0 k1
            go_wp2
            go_roundw
            case rel => exact ⟨1, 10 * n + (c.toNat - 48), by rw [E1.out], by omega, rfl, hst.out, t4.out⟩
            case measure => simp; omega
          · have z1 : (0 : Int) < pos := by omega
            have z2 : ((n : Int) == 0) = false := beq_eq_false_iff_ne.2 (by omega)
            go_wp2
            go_roundw
            case rel => exact ⟨pos + 1, 10 * n + (c.toNat - 48), by rw [E1.out], by omega, rfl, hst.out, t4.out⟩
            case measure => simp; omega
    · obtain rfl : pos = s.size := by omega
      have hnx : ∀ ty, (Instr.next (.pointer (some ⟨w.heap.size, 0, none⟩)) true ty).run Try.prog (w.iter s s.size) = .ok (.tuple #[.bool false]) (w.iter s s.size) := fun ty => run_next_end w s s.size ty hlt
      by_cases h0 : s.size = 0
      · have hl : s.data.toList = [] := List.eq_nil_of_length_eq_zero (by omega)
        have hno : Hid (numI s.data.toList most = -1) := Lib.hid (by rw [hl]; exact dec_none most)
        obtain ⟨rfl⟩ : n = 0 := by
          rcases hi.2 with h | h | h <;> omega
        have hem : s.toList.isEmpty = true := by rw [ByteArray.toList_eq, hl]; rfl
        have HN := Lib.hid hn
        clear h0 hl hi hn
        go_wp2
        go_ret2
        exact decPost_no hno.out (bel _)
      · have hem : s.toList.isEmpty = false := by
          rw [ByteArray.toList_eq]
          cases hl : s.data.toList with
          | nil => rw [hl] at hlen; simp at hlen; omega
          | cons _ _ => rfl
        have hno : Hid (numI s.data.toList most = n) := by
          rw [← hlen] at hi
          exact Lib.hid (dec_end hi (by omega) most hn hm1)
        clear h0 hi hn
        go_wp2
        go_ret2
        exact decPost_yes hno.out (bel _)
end Go.Proofs.Ytdfobilagidmfaa
