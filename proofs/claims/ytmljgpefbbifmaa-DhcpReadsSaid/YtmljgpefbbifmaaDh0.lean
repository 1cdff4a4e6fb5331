/- Messages of DHCP as lists, no program: what is read, which bytes they become. -/
import Derived.Test.YtmljgpefbbifmaaOp6
namespace Go.Proofs.Ytmljgpefbbifmaa
open Go.RowKit

/-- The numbers and bytes of a message. -/
structure Mh where
  op : Int
  hops : Int
  xid : Int
  secs : Int
  flags : Int
  (c0 c1 c2 c3 y0 y1 y2 y3 s0 s1 s2 s3 r0 r1 r2 r3 m0 m1 m2 m3 m4 m5 : UInt8)
/-- No message. -/
def Mh.zero : Mh := ⟨0, 0, 0, 0, 0, 0, 0, 0, 0, 0, 0, 0, 0, 0, 0, 0, 0, 0, 0, 0, 0, 0, 0, 0, 0, 0, 0⟩
/-- The type that the options tell. -/
def typeL (L : OptL) : Nat := match findL L 53 with
  | some [b] => if b.toNat ≤ 8 then b.toNat else 0
  | _ => 0
theorem type_one {L : OptL} {b : UInt8} (h : (findL L 53).getD [] = [b]) : typeL L = if b.toNat ≤ 8 then b.toNat else 0 := by
  unfold typeL
  cases hf : findL L 53 with
  | none => rw [hf] at h; simp at h
  | some l => rw [hf] at h; simp at h; subst h; rfl
theorem type_not {L : OptL} (h : ¬ ((findL L 53).getD []).length = 1) : typeL L = 0 := by
  unfold typeL
  cases hf : findL L 53 with
  | none => rfl
  | some l =>
    rw [hf] at h
    match l, h with
    | [], _ => rfl
    | [b], h => simp at h
    | _ :: _ :: _, _ => rfl
theorem type_le (L : OptL) : typeL L ≤ 8 := by
  unfold typeL
  split
  · split <;> omega
  · omega
def isOp (op : Int) : Bool := decide (op = 1) || decide (op = 2)
def g8 (l : List UInt8) (i : Nat) : UInt8 := l.getD i 0
/-- The head of a message. -/
def hdL (l : List UInt8) : Mh := ⟨(g8 l 0).toNat, (g8 l 3).toNat, be [g8 l 4, g8 l 5, g8 l 6, g8 l 7], be [g8 l 8, g8 l 9], be [g8 l 10, g8 l 11], g8 l 12, g8 l 13, g8 l 14, g8 l 15, g8 l 16, g8 l 17, g8 l 18, g8 l 19, g8 l 20, g8 l 21, g8 l 22, g8 l 23, g8 l 24, g8 l 25, g8 l 26, g8 l 27, g8 l 28, g8 l 29, g8 l 30, g8 l 31, g8 l 32, g8 l 33⟩
def okH (l : List UInt8) : Bool := isOp (g8 l 0).toNat && decide (g8 l 1 = 1) && decide (g8 l 2 = 6) && decide ((l.drop 236).take 4 = [99, 130, 83, 99])
def dGet (l : List UInt8) : (Mh × OptL) × Int :=
  if l.length < 240 then ((Mh.zero, []), 3)
  else if okH l = false then ((Mh.zero, []), 4)
  else match getL (l.drop 240) [] with
    | none => ((Mh.zero, []), 3)
    | some L => if typeL L = 0 then ((Mh.zero, []), 4) else ((hdL l, L), 0)
theorem dget_short {l : List UInt8} (h : l.length < 240) : dGet l = ((Mh.zero, []), 3) := if_pos h
theorem dget_bad {l : List UInt8} (h : ¬ l.length < 240) (h2 : okH l = false) : dGet l = ((Mh.zero, []), 4) := by
  unfold dGet; rw [if_neg h, if_pos h2]
theorem dget_cut {l : List UInt8} (h : ¬ l.length < 240) (h2 : okH l = true) (h3 : getL (l.drop 240) [] = none) : dGet l = ((Mh.zero, []), 3) := by
  unfold dGet; rw [if_neg h, if_neg (by rw [h2]; decide), h3]
theorem dget_type {l : List UInt8} {L : OptL} (h : ¬ l.length < 240) (h2 : okH l = true) (h3 : getL (l.drop 240) [] = some L) (h4 : typeL L = 0) : dGet l = ((Mh.zero, []), 4) := by
  unfold dGet; rw [if_neg h, if_neg (by rw [h2]; decide), h3]; exact if_pos h4
theorem dget_ok {l : List UInt8} {L : OptL} (h : ¬ l.length < 240) (h2 : okH l = true) (h3 : getL (l.drop 240) [] = some L) (h4 : ¬ typeL L = 0) : dGet l = ((hdL l, L), 0) := by
  unfold dGet; rw [if_neg h, if_neg (by rw [h2]; decide), h3]; exact if_neg h4
/-- May a message be written? -/
def upB (m v : Int) : Bool := decide (0 ≤ v) && decide (v ≤ m)
def okM (h : Mh) : Bool := isOp h.op && upB 255 h.hops && upB 65535 h.secs && upB 65535 h.flags
def headB (h : Mh) : List UInt8 := [byteOf h.op, 1, 6, byteOf h.hops] ++ four h.xid ++ two h.secs ++ two h.flags ++ [h.c0, h.c1, h.c2, h.c3] ++ [h.y0, h.y1, h.y2, h.y3] ++ [h.s0, h.s1, h.s2, h.s3] ++ [h.r0, h.r1, h.r2, h.r3] ++ [h.m0, h.m1, h.m2, h.m3, h.m4, h.m5] ++ List.replicate 202 0 ++ [99, 130, 83, 99]
theorem head_len (h : Mh) : (headB h).length = 240 := by
  simp only [headB, four, two, List.length_append, List.length_cons, List.length_nil, List.length_replicate]
def dPut (h : Mh) (L : OptL) : List UInt8 × Int :=
  if okM h = false ∨ typeL L = 0 then ([], 1)
  else if (putL L).2 ≠ 0 then ([], (putL L).2)
  else (headB h ++ (putL L).1 ++ List.replicate (60 - (putL L).1.length) 0, 0)
theorem dput_bad {h : Mh} {L : OptL} (hh : okM h = false ∨ typeL L = 0) : dPut h L = ([], 1) := if_pos hh
theorem dput_no {h : Mh} {L : OptL} (h1 : okM h = true) (h2 : ¬ typeL L = 0) (h3 : ¬ (putL L).2 = 0) : dPut h L = ([], (putL L).2) := by
  unfold dPut; rw [if_neg (by rw [h1]; simpa using h2), if_pos h3]
theorem dput_ok {h : Mh} {L : OptL} (h1 : okM h = true) (h2 : ¬ typeL L = 0) (h3 : (putL L).2 = 0) : dPut h L = (headB h ++ (putL L).1 ++ List.replicate (60 - (putL L).1.length) 0, 0) := by
  unfold dPut; rw [if_neg (by rw [h1]; simpa using h2), if_neg (by simpa using h3)]
theorem list_head {l : List UInt8} (h : 240 ≤ l.length) : ∃ x0 x1 x2 x3 x4 x5 x6 x7 x8 x9 x10 x11 x12 x13 x14 x15 x16 x17 x18 x19 x20 x21 x22 x23 x24 x25 x26 x27 x28 x29 x30 x31 x32 x33 k0 k1 k2 k3 : UInt8, ∃ u r : List UInt8, u.length = 202 ∧ l = x0 :: x1 :: x2 :: x3 :: x4 :: x5 :: x6 :: x7 :: x8 :: x9 :: x10 :: x11 :: x12 :: x13 :: x14 :: x15 :: x16 :: x17 :: x18 :: x19 :: x20 :: x21 :: x22 :: x23 :: x24 :: x25 :: x26 :: x27 :: x28 :: x29 :: x30 :: x31 :: x32 :: x33 :: (u ++ k0 :: k1 :: k2 :: k3 :: r) := by
  rcases l with _ | ⟨x0, l⟩
  · simp at h
  rcases l with _ | ⟨x1, l⟩
  · simp at h
  rcases l with _ | ⟨x2, l⟩
  · simp at h
  rcases l with _ | ⟨x3, l⟩
  · simp at h
  rcases l with _ | ⟨x4, l⟩
  · simp at h
  rcases l with _ | ⟨x5, l⟩
  · simp at h
  rcases l with _ | ⟨x6, l⟩
  · simp at h
  rcases l with _ | ⟨x7, l⟩
  · simp at h
  rcases l with _ | ⟨x8, l⟩
  · simp at h
  rcases l with _ | ⟨x9, l⟩
  · simp at h
  rcases l with _ | ⟨x10, l⟩
  · simp at h
  rcases l with _ | ⟨x11, l⟩
  · simp at h
  rcases l with _ | ⟨x12, l⟩
  · simp at h
  rcases l with _ | ⟨x13, l⟩
  · simp at h
  rcases l with _ | ⟨x14, l⟩
  · simp at h
  rcases l with _ | ⟨x15, l⟩
  · simp at h
  rcases l with _ | ⟨x16, l⟩
  · simp at h
  rcases l with _ | ⟨x17, l⟩
  · simp at h
  rcases l with _ | ⟨x18, l⟩
  · simp at h
  rcases l with _ | ⟨x19, l⟩
  · simp at h
  rcases l with _ | ⟨x20, l⟩
  · simp at h
  rcases l with _ | ⟨x21, l⟩
  · simp at h
  rcases l with _ | ⟨x22, l⟩
  · simp at h
  rcases l with _ | ⟨x23, l⟩
  · simp at h
  rcases l with _ | ⟨x24, l⟩
  · simp at h
  rcases l with _ | ⟨x25, l⟩
  · simp at h
  rcases l with _ | ⟨x26, l⟩
  · simp at h
  rcases l with _ | ⟨x27, l⟩
  · simp at h
  rcases l with _ | ⟨x28, l⟩
  · simp at h
  rcases l with _ | ⟨x29, l⟩
  · simp at h
  rcases l with _ | ⟨x30, l⟩
  · simp at h
  rcases l with _ | ⟨x31, l⟩
  · simp at h
  rcases l with _ | ⟨x32, l⟩
  · simp at h
  rcases l with _ | ⟨x33, l⟩
  · simp at h
  have hl : 206 ≤ l.length := by simp only [List.length_cons] at h; omega
  clear h
  have e := List.take_append_drop 202 l
  have hd : 4 ≤ (l.drop 202).length := by rw [List.length_drop]; omega
  have ht : (l.take 202).length = 202 := by rw [List.length_take]; omega
  generalize l.take 202 = u at e ht
  generalize l.drop 202 = d at e hd
  rcases d with _ | ⟨k0, d⟩
  · simp at hd
  rcases d with _ | ⟨k1, d⟩
  · simp at hd
  rcases d with _ | ⟨k2, d⟩
  · simp at hd
  rcases d with _ | ⟨k3, d⟩
  · simp at hd
  exact ⟨x0, x1, x2, x3, x4, x5, x6, x7, x8, x9, x10, x11, x12, x13, x14, x15, x16, x17, x18, x19, x20, x21, x22, x23, x24, x25, x26, x27, x28, x29, x30, x31, x32, x33, k0, k1, k2, k3, u, d, ht, by rw [e]⟩
theorem hd_at (x0 x1 x2 x3 x4 x5 x6 x7 x8 x9 x10 x11 x12 x13 x14 x15 x16 x17 x18 x19 x20 x21 x22 x23 x24 x25 x26 x27 x28 x29 x30 x31 x32 x33 : UInt8) (t : List UInt8) : hdL (x0 :: x1 :: x2 :: x3 :: x4 :: x5 :: x6 :: x7 :: x8 :: x9 :: x10 :: x11 :: x12 :: x13 :: x14 :: x15 :: x16 :: x17 :: x18 :: x19 :: x20 :: x21 :: x22 :: x23 :: x24 :: x25 :: x26 :: x27 :: x28 :: x29 :: x30 :: x31 :: x32 :: x33 :: t) = ⟨(x0.toNat : Int), (x3.toNat : Int), ((be [x4, x5, x6, x7] : Nat) : Int), ((be [x8, x9] : Nat) : Int), ((be [x10, x11] : Nat) : Int), x12, x13, x14, x15, x16, x17, x18, x19, x20, x21, x22, x23, x24, x25, x26, x27, x28, x29, x30, x31, x32, x33⟩ := rfl
theorem drop_34 (x0 x1 x2 x3 x4 x5 x6 x7 x8 x9 x10 x11 x12 x13 x14 x15 x16 x17 x18 x19 x20 x21 x22 x23 x24 x25 x26 x27 x28 x29 x30 x31 x32 x33 : UInt8) (t : List UInt8) (k : Nat) : List.drop (34 + k) (x0 :: x1 :: x2 :: x3 :: x4 :: x5 :: x6 :: x7 :: x8 :: x9 :: x10 :: x11 :: x12 :: x13 :: x14 :: x15 :: x16 :: x17 :: x18 :: x19 :: x20 :: x21 :: x22 :: x23 :: x24 :: x25 :: x26 :: x27 :: x28 :: x29 :: x30 :: x31 :: x32 :: x33 :: t) = t.drop k := by
  rw [Nat.add_comm]; rfl
theorem mark_eq (k0 k1 k2 k3 : UInt8) : decide ([k0, k1, k2, k3] = [99, 130, 83, 99]) = (((be [k0, k1, k2, k3] : Nat) : Int) == 1669485411) := by
  have e : be [k0, k1, k2, k3] = ((k0.toNat * 256 + k1.toNat) * 256 + k2.toNat) * 256 + k3.toNat := by simp [be]
  have h0 := k0.toNat_lt; have h1 := k1.toNat_lt; have h2 := k2.toNat_lt; have h3 := k3.toNat_lt
  by_cases h : be [k0, k1, k2, k3] = 1669485411
  · have a0 : k0 = 99 := UInt8.toNat_inj.1 (by show k0.toNat = 99; omega)
    have a1 : k1 = 130 := UInt8.toNat_inj.1 (by show k1.toNat = 130; omega)
    have a2 : k2 = 83 := UInt8.toNat_inj.1 (by show k2.toNat = 83; omega)
    have a3 : k3 = 99 := UInt8.toNat_inj.1 (by show k3.toNat = 99; omega)
    subst a0; subst a1; subst a2; subst a3
    rw [decide_eq_true rfl, h]
    rfl
  · rw [decide_eq_false, beq_eq_false_iff_ne.2 (by omega)]
    intro hk
    simp only [List.cons.injEq, and_true] at hk
    obtain ⟨rfl, rfl, rfl, rfl⟩ := hk
    exact h (by decide)
theorem ok_at (x0 x1 x2 x3 x4 x5 x6 x7 x8 x9 x10 x11 x12 x13 x14 x15 x16 x17 x18 x19 x20 x21 x22 x23 x24 x25 x26 x27 x28 x29 x30 x31 x32 x33 k0 k1 k2 k3 : UInt8) (u r : List UInt8) (hu : u.length = 202) : okH (x0 :: x1 :: x2 :: x3 :: x4 :: x5 :: x6 :: x7 :: x8 :: x9 :: x10 :: x11 :: x12 :: x13 :: x14 :: x15 :: x16 :: x17 :: x18 :: x19 :: x20 :: x21 :: x22 :: x23 :: x24 :: x25 :: x26 :: x27 :: x28 :: x29 :: x30 :: x31 :: x32 :: x33 :: (u ++ k0 :: k1 :: k2 :: k3 :: r)) = (isOp (x0.toNat : Int) && ((x1.toNat : Int) == 1) && ((x2.toNat : Int) == 6) && (((be [k0, k1, k2, k3] : Nat) : Int) == 1669485411)) := by
  have e1 : decide (x1 = 1) = ((x1.toNat : Int) == 1) := by
    by_cases h : x1 = 1
    · subst h; rfl
    · rw [decide_eq_false h, beq_eq_false_iff_ne.2 (fun h2 => h (UInt8.toNat_inj.1 (by show x1.toNat = 1; omega)))]
  have e2 : decide (x2 = 6) = ((x2.toNat : Int) == 6) := by
    by_cases h : x2 = 6
    · subst h; rfl
    · rw [decide_eq_false h, beq_eq_false_iff_ne.2 (fun h2 => h (UInt8.toNat_inj.1 (by show x2.toNat = 6; omega)))]
  have e3 : (List.drop 236 (x0 :: x1 :: x2 :: x3 :: x4 :: x5 :: x6 :: x7 :: x8 :: x9 :: x10 :: x11 :: x12 :: x13 :: x14 :: x15 :: x16 :: x17 :: x18 :: x19 :: x20 :: x21 :: x22 :: x23 :: x24 :: x25 :: x26 :: x27 :: x28 :: x29 :: x30 :: x31 :: x32 :: x33 :: (u ++ k0 :: k1 :: k2 :: k3 :: r))).take 4 = [k0, k1, k2, k3] := by
    rw [show 236 = 34 + 202 from rfl, drop_34, List.drop_left' hu]
    rfl
  unfold okH
  rw [e3, mark_eq, ← e1, ← e2]
  rfl
theorem rest_at (x0 x1 x2 x3 x4 x5 x6 x7 x8 x9 x10 x11 x12 x13 x14 x15 x16 x17 x18 x19 x20 x21 x22 x23 x24 x25 x26 x27 x28 x29 x30 x31 x32 x33 k0 k1 k2 k3 : UInt8) (u r : List UInt8) (hu : u.length = 202) : List.drop 240 (x0 :: x1 :: x2 :: x3 :: x4 :: x5 :: x6 :: x7 :: x8 :: x9 :: x10 :: x11 :: x12 :: x13 :: x14 :: x15 :: x16 :: x17 :: x18 :: x19 :: x20 :: x21 :: x22 :: x23 :: x24 :: x25 :: x26 :: x27 :: x28 :: x29 :: x30 :: x31 :: x32 :: x33 :: (u ++ k0 :: k1 :: k2 :: k3 :: r)) = r := by
  rw [show 240 = 34 + 206 from rfl, drop_34, show 206 = 202 + 4 from rfl, ← List.drop_drop, List.drop_left' hu]
  rfl
end Go.Proofs.Ytmljgpefbbifmaa
