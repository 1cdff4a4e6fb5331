/- OptWrites. -/
import Derived.Test.YtmljgpefbbifmaaOp7
namespace Go.Proofs.Ytmljgpefbbifmaa
open Go.RowKit

theorem join_last {acc : OptL} {c : Int} {b x : List UInt8} (h : ∀ p ∈ acc, ¬ p.1 = c) : joinL (acc ++ [(c, b)]) c x = acc ++ [(c, b ++ x)] := by
  unfold joinL
  rw [if_pos (by simp), List.map_append]
  have e : acc.map (fun p => if p.1 = c then (p.1, p.2 ++ x) else p) = acc := by
    conv => rhs; rw [← List.map_id acc]
    refine List.map_congr_left (fun p hp => ?_)
    simp [h p hp]
  rw [e]
  simp
theorem byteOf_lt {n : Nat} (h : n ≤ 255) : (byteOf (n : Int)).toNat = n := by
  have := byteOf_val (n : Int)
  omega
theorem get_pieces : ∀ (n : Nat) (c : UInt8) (b : List UInt8), b.length = n → ¬ c = 0 → ¬ c = 255 → ∀ (acc : OptL) (b0 r : List UInt8), (∀ p ∈ acc, ¬ p.1 = (c.toNat : Int)) →
    getL (piecesL c b ++ r) (acc ++ [((c.toNat : Int), b0)]) = getL r (acc ++ [((c.toNat : Int), b0 ++ b)]) := by
  intro n
  induction n using Nat.strongRecOn with
  | ind n ih =>
    intro c b hb h0 h5 acc b0 r hacc
    by_cases h : 255 < b.length
    · rw [pieces_long h]
      simp only [List.append_assoc, List.cons_append, List.nil_append]
      have e5 : (255 : UInt8).toNat = 255 := rfl
      rw [get_one h5 h0 (by rw [e5, List.length_append, List.length_take]; omega), e5, List.drop_left' (by rw [List.length_take]; omega), List.take_left' (by rw [List.length_take]; omega), join_last hacc,
        ih (n - 255) (by omega) c (b.drop 255) (by simp; omega) h0 h5 acc _ r hacc, List.append_assoc, List.take_append_drop]
    · rw [pieces_last (by omega)]
      simp only [List.cons_append, List.nil_append]
      rw [get_one h5 h0 (by rw [byteOf_lt (by omega), List.length_append]; omega), byteOf_lt (by omega), List.drop_left' rfl, List.take_left' rfl, join_last hacc]
theorem get_pieces0 {c : UInt8} {b : List UInt8} (h0 : ¬ c = 0) (h5 : ¬ c = 255) {acc : OptL} {r : List UInt8} (hacc : ∀ p ∈ acc, ¬ p.1 = (c.toNat : Int)) : getL (piecesL c b ++ r) acc = getL r (acc ++ [((c.toNat : Int), b)]) := by
  by_cases h : 255 < b.length
  · rw [pieces_long h]
    simp only [List.append_assoc, List.cons_append, List.nil_append]
    have e5 : (255 : UInt8).toNat = 255 := rfl
    rw [get_one h5 h0 (by rw [e5, List.length_append, List.length_take]; omega), e5, List.drop_left' (by rw [List.length_take]; omega), List.take_left' (by rw [List.length_take]; omega), join_new hacc,
      get_pieces _ c (b.drop 255) rfl h0 h5 acc _ r hacc, List.take_append_drop]
  · rw [pieces_last (by omega)]
    simp only [List.cons_append, List.nil_append]
    rw [get_one h5 h0 (by rw [byteOf_lt (by omega), List.length_append]; omega), byteOf_lt (by omega), List.drop_left' rfl, List.take_left' rfl, join_new hacc]
theorem code_byte {c : Int} (h1 : 1 ≤ c) (h2 : c ≤ 254) : ((byteOf c).toNat : Int) = c ∧ ¬ byteOf c = 0 ∧ ¬ byteOf c = 255 := by
  have h := byteOf_val c
  have e : ((byteOf c).toNat : Int) = c := by omega
  refine ⟨e, fun h0 => ?_, fun h5 => ?_⟩
  · rw [h0] at e
    have : ((0 : UInt8).toNat : Int) = 0 := rfl
    omega
  · rw [h5] at e
    have : ((255 : UInt8).toNat : Int) = 255 := rfl
    omega
theorem get_all : ∀ (L acc : OptL), (∀ p ∈ L, 1 ≤ p.1 ∧ p.1 ≤ 254) → ((acc ++ L).map (·.1)).Nodup → getL (allL L ++ [255]) acc = some (acc ++ L)
  | [], acc, _, _ => by
    rw [List.append_nil]
    exact get_end [] acc
  | p :: L, acc, h1, h2 => by
    obtain ⟨c, b⟩ := p
    obtain ⟨hc1, hc2⟩ := h1 (c, b) List.mem_cons_self
    obtain ⟨e, e0, e5⟩ := code_byte hc1 hc2
    have hn : ∀ q ∈ acc, ¬ q.1 = ((byteOf c).toNat : Int) := by
      intro q hq e2
      rw [List.map_append, List.nodup_append] at h2
      exact h2.2.2 q.1 (List.mem_map.2 ⟨q, hq, rfl⟩) c (List.mem_map.2 ⟨(c, b), List.mem_cons_self, rfl⟩) (e2.trans e)
    have ea : allL ((c, b) :: L) = piecesL (byteOf c) b ++ allL L := rfl
    rw [ea, List.append_assoc, get_pieces0 e0 e5 hn, e, get_all L (acc ++ [(c, b)]) (fun q hq => h1 q (List.mem_cons_of_mem _ hq)) (by rw [List.append_assoc]; exact h2), List.append_assoc]
    rfl
theorem put_get {L : OptL} (h : (putL L).2 = 0) : getS (putL L).1 = (L, 0) := by
  unfold putL at h ⊢
  by_cases h1 : distinctB L = true
  · rw [if_pos h1] at h ⊢
    by_cases h2 : (allL L).length ≤ 1199
    · rw [if_pos h2]
      refine gets_ok ?_
      unfold distinctB at h1
      rw [Bool.and_eq_true, decide_eq_true_eq] at h1
      have := get_all L [] (fun p hp => by
        have h3 := List.all_eq_true.1 h1.1 p hp
        simpa [okC] using h3) (by simpa using h1.2)
      simpa using this
    · rw [if_neg h2] at h
      cases h
  · rw [if_neg h1] at h
    cases h
theorem put_len (L : OptL) : (putL L).1.length ≤ 1200 := by
  unfold putL
  split
  · split
    · simp; omega
    · simp
  · simp
theorem b_next {hs : List Oh} {k m : Nat} {x : Oh} (h : ∀ (j : Nat) (y : Oh), j < k → hs[j]? = some y → y.n ≤ m) (hx : hs[k]? = some x) (hm : x.n ≤ m) : ∀ (j : Nat) (y : Oh), j < k + 1 → hs[j]? = some y → y.n ≤ m := by
  intro j y hj hy
  rcases Nat.lt_or_ge j k with h_ | h_
  · exact h j y h_ hy
  · obtain rfl : j = k := by omega
    rw [hx] at hy
    cases hy
    exact hm
end Go.Proofs.Ytmljgpefbbifmaa
