/- What is written of a message is read back. No program. -/
import Derived.Test.YtmljgpefbbifmaaDh0
import Derived.Test.YtmljgpefbbifmaaLaw12c
namespace Go.Proofs.Ytmljgpefbbifmaa
open Go.RowKit

theorem get_allr : ∀ (L acc : OptL) (r : List UInt8), (∀ p ∈ L, 1 ≤ p.1 ∧ p.1 ≤ 254) → ((acc ++ L).map (·.1)).Nodup → getL (allL L ++ 255 :: r) acc = some (acc ++ L)
  | [], acc, r, _, _ => by
    rw [List.append_nil]
    exact get_end r acc
  | p :: L, acc, r, h1, h2 => by
    obtain ⟨c, b⟩ := p
    obtain ⟨hc1, hc2⟩ := h1 (c, b) List.mem_cons_self
    obtain ⟨e, e0, e5⟩ := code_byte hc1 hc2
    have hn : ∀ q ∈ acc, ¬ q.1 = ((byteOf c).toNat : Int) := by
      intro q hq e2
      rw [List.map_append, List.nodup_append] at h2
      exact h2.2.2 q.1 (List.mem_map.2 ⟨q, hq, rfl⟩) c (List.mem_map.2 ⟨(c, b), List.mem_cons_self, rfl⟩) (e2.trans e)
    have ea : allL ((c, b) :: L) = piecesL (byteOf c) b ++ allL L := rfl
    rw [ea, List.append_assoc, get_pieces0 e0 e5 hn, e, get_allr L (acc ++ [(c, b)]) r (fun q hq => h1 q (List.mem_cons_of_mem _ hq)) (by rw [List.append_assoc]; exact h2), List.append_assoc]
    rfl
theorem put_getr {L : OptL} (h : (putL L).2 = 0) (r : List UInt8) : getL ((putL L).1 ++ r) [] = some L := by
  unfold putL at h ⊢
  by_cases h1 : distinctB L = true
  · rw [if_pos h1] at h ⊢
    by_cases h2 : (allL L).length ≤ 1199
    · rw [if_pos h2]
      unfold distinctB at h1
      rw [Bool.and_eq_true, decide_eq_true_eq] at h1
      have := get_allr L [] r (fun p hp => by
        have h3 := List.all_eq_true.1 h1.1 p hp
        simpa [okC] using h3) (by simpa using h1.2)
      simpa using this
    · rw [if_neg h2] at h
      cases h
  · rw [if_neg h1] at h
    cases h
theorem head_cons (h : Mh) (t : List UInt8) : headB h ++ t = byteOf h.op :: 1 :: 6 :: byteOf h.hops :: byteOf (h.xid / 16777216) :: byteOf (h.xid / 65536) :: byteOf (h.xid / 256) :: byteOf h.xid :: byteOf (h.secs / 256) :: byteOf h.secs :: byteOf (h.flags / 256) :: byteOf h.flags :: h.c0 :: h.c1 :: h.c2 :: h.c3 :: h.y0 :: h.y1 :: h.y2 :: h.y3 :: h.s0 :: h.s1 :: h.s2 :: h.s3 :: h.r0 :: h.r1 :: h.r2 :: h.r3 :: h.m0 :: h.m1 :: h.m2 :: h.m3 :: h.m4 :: h.m5 :: (List.replicate 202 0 ++ 99 :: 130 :: 83 :: 99 :: t) := by
  simp only [headB, four, two, List.append_assoc, List.cons_append, List.nil_append]
theorem okM_parts {h : Mh} (hk : okM h = true) : (h.op = 1 ∨ h.op = 2) ∧ (0 ≤ h.hops ∧ h.hops ≤ 255) ∧ (0 ≤ h.secs ∧ h.secs ≤ 65535) ∧ (0 ≤ h.flags ∧ h.flags ≤ 65535) := by
  unfold okM isOp upB at hk
  simpa [Bool.and_eq_true, and_assoc] using hk
theorem be4 (a b c d : UInt8) : be [a, b, c, d] = ((a.toNat * 256 + b.toNat) * 256 + c.toNat) * 256 + d.toNat := by simp [be]
theorem head_back {h : Mh} (hk : okM h = true) (x0 : 0 ≤ h.xid) (x1 : h.xid < 4294967296) (t : List UInt8) : hdL (headB h ++ t) = h ∧ okH (headB h ++ t) = true ∧ List.drop 240 (headB h ++ t) = t := by
  obtain ⟨h1, h2, h3, h4⟩ := okM_parts hk
  rw [head_cons]
  have v0 := byteOf_val h.op
  have v1 := byteOf_val h.hops
  have v2 := be_four h.xid
  have v3 := be_byteOf h.secs
  have v4 := be_byteOf h.flags
  unfold four at v2
  unfold two at v3 v4
  have e0 : ((byteOf h.op).toNat : Int) = h.op := by omega
  refine ⟨?_, ?_, rest_at _ _ _ _ _ _ _ _ _ _ _ _ _ _ _ _ _ _ _ _ _ _ _ _ _ _ _ _ _ _ _ _ _ _ _ _ _ _ _ _ (List.length_replicate)⟩
  · rw [hd_at, e0, v1, v2, v3, v4, Int.emod_eq_of_lt h2.1 (by omega), Int.emod_eq_of_lt x0 x1, Int.emod_eq_of_lt h3.1 (by omega), Int.emod_eq_of_lt h4.1 (by omega)]
  · rw [ok_at _ _ _ _ _ _ _ _ _ _ _ _ _ _ _ _ _ _ _ _ _ _ _ _ _ _ _ _ _ _ _ _ _ _ _ _ _ _ _ _ (List.length_replicate), e0]
    have hi : isOp h.op = true := by unfold isOp; simpa using h1
    have hm : (((be [99, 130, 83, 99] : Nat) : Int) == 1669485411) = true := by rw [← mark_eq]; exact decide_eq_true rfl
    rw [hi, hm]
    rfl
theorem dget_put {h : Mh} {L : OptL} (hk : okM h = true) (ht : ¬ typeL L = 0) (hp : (putL L).2 = 0) (x0 : 0 ≤ h.xid) (x1 : h.xid < 4294967296) (z : List UInt8) : dGet (headB h ++ (putL L).1 ++ z) = ((h, L), 0) := by
  rw [List.append_assoc]
  obtain ⟨a, b, c⟩ := head_back hk x0 x1 ((putL L).1 ++ z)
  rw [dget_ok (by rw [List.length_append, head_len]; omega) b (by rw [c]; exact put_getr hp z) ht, a]
theorem dput_get {h : Mh} {L : OptL} (hz : (dPut h L).2 = 0) (x0 : 0 ≤ h.xid) (x1 : h.xid < 4294967296) : dGet (dPut h L).1 = ((h, L), 0) ∧ 300 ≤ (dPut h L).1.length ∧ (dPut h L).1.length ≤ 2000 := by
  by_cases h1 : okM h = true
  · by_cases h2 : typeL L = 0
    · rw [dput_bad (.inr h2)] at hz; cases hz
    · by_cases h3 : (putL L).2 = 0
      · rw [dput_ok h1 h2 h3]
        refine ⟨dget_put h1 h2 h3 x0 x1 _, ?_⟩
        have := put_len L
        simp only [List.length_append, head_len, List.length_replicate]
        omega
      · rw [dput_no h1 h2 h3] at hz; exact absurd hz h3
  · rw [dput_bad (.inl (by simpa using h1))] at hz; cases hz
theorem Bd.mk1 {w : World} {A : Option Addr} {n c : Nat} {l : List UInt8} (k : Int) (h : Sl w A n c l) : Bd w [⟨k, A, n, c⟩] [(k, l)] := by
  refine ⟨rfl, fun i x p hx hp => ?_⟩
  match i, hx, hp with
  | 0, hx, hp => cases hx; cases hp; exact ⟨rfl, h⟩
theorem hb1 {k : Int} {A : Option Addr} {n c m : Nat} (h : n ≤ m) : ∀ x ∈ ([⟨k, A, n, c⟩] : List Oh), x.n ≤ m := by
  intro x hx
  simp only [List.mem_singleton] at hx
  subst hx; exact h
/-- The message that the statements begin with. -/
abbrev hAw : Mh := ⟨1, 0, 7, 0, 0, 0, 0, 0, 0, 0, 0, 0, 0, 0, 0, 0, 0, 0, 0, 0, 0, 2, 0, 0, 0, 0, 0⟩
theorem put_53' : putL [(53, [1])] = ([53, 1, 1, 255], 0) := by
  unfold putL allL
  simp only [List.flatMap_cons, List.flatMap_nil, List.append_nil]
  rw [pieces_last (by decide)]
  rfl
theorem put_one {b : UInt8} : putL [(53, [b])] = ([53, 1, b, 255], 0) := by
  unfold putL allL
  simp only [List.flatMap_cons, List.flatMap_nil, List.append_nil]
  rw [pieces_last (by simp)]
  rfl
theorem aw_put : (dPut hAw [(53, [1])]).2 = 0 ∧ (dPut hAw [(53, [1])]).1.length = 300 := by
  rw [dput_ok rfl (by decide) (by rw [put_53'])]
  refine ⟨rfl, ?_⟩
  simp only [List.length_append, head_len, List.length_replicate, put_53', List.length_cons, List.length_nil]
theorem aw_get : dGet (dPut hAw [(53, [1])]).1 = ((hAw, [(53, [1])]), 0) := (dput_get aw_put.1 (by decide) (by decide)).1
end Go.Proofs.Ytmljgpefbbifmaa
