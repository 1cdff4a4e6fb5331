/- The contract of addr's ParseMac. -/
import Derived.Test.YtdfobilagidmfaaAdr2
import Derived.Test.YtdfobilagidmfaaAdr4
import Derived.Test.YtdfobilagidmfaaBack3
import Derived.Test.YtdfobilagidmfaaRef3m
namespace Go.Proofs.Ytdfobilagidmfaa
open Go.RowKit

/-- Two digits' value; -1: none. -/
def hpI (x : List UInt8) : Int := match x with
  | [a, b] => if 0 ≤ hexI a ∧ 0 ≤ hexI b then 16 * hexI a + hexI b else -1
  | _ => -1
theorem hpI_range (x : List UInt8) : hpI x = -1 ∨ (0 ≤ hpI x ∧ hpI x ≤ 255) := by
  unfold hpI
  split
  · rename_i a b
    have := hexI_range a
    have := hexI_range b
    split
    · right; omega
    · exact .inl rfl
  · exact .inl rfl
theorem hpI_two {x : List UInt8} (h : 0 ≤ hpI x) : ∃ a b, x = [a, b] ∧ 0 ≤ hexI a ∧ 0 ≤ hexI b ∧ hpI x = 16 * hexI a + hexI b := by
  match x, h with
  | [a, b], h =>
    unfold hpI at h ⊢
    simp only at h ⊢
    by_cases hk : 0 ≤ hexI a ∧ 0 ≤ hexI b
    · rw [if_pos hk]; exact ⟨a, b, rfl, hk.1, hk.2, rfl⟩
    · rw [if_neg hk] at h; omega
  | [], h | [_], h | _ :: _ :: _ :: _, h => simp [hpI] at h
theorem hexI_58 {c : UInt8} (h : 0 ≤ hexI c) : c ≠ 58 := by
  intro e; subst e; revert h; decide
theorem macB_at {l : List UInt8} {i : Nat} {a b : UInt8} (h0 : l.getD (3 * i) 0 = a) (h1 : l.getD (3 * i + 1) 0 = b) (h2 : i < 5 → l.getD (3 * i + 2) 0 = 58) (ha : 0 ≤ hexI a) (hb : 0 ≤ hexI b) : macB l i = 16 * hexI a + hexI b := by
  unfold macB
  rw [h0, h1, if_neg]
  rintro (h | h | ⟨h, h'⟩)
  · omega
  · omega
  · exact h' (h2 h)
theorem mac_of_pieces {l p0 p1 p2 p3 p4 p5 : List UInt8} (h : cutF 58 l = [p0, p1, p2, p3, p4, p5]) (h0 : 0 ≤ hpI p0) (h1 : 0 ≤ hpI p1) (h2 : 0 ≤ hpI p2) (h3 : 0 ≤ hpI p3) (h4 : 0 ≤ hpI p4) (h5 : 0 ≤ hpI p5) :
    macOk l ∧ macBs l 6 = [byteOf (hpI p0), byteOf (hpI p1), byteOf (hpI p2), byteOf (hpI p3), byteOf (hpI p4), byteOf (hpI p5)] := by
  obtain ⟨a0, b0, rfl, x0, y0, e0⟩ := hpI_two h0
  obtain ⟨a1, b1, rfl, x1, y1, e1⟩ := hpI_two h1
  obtain ⟨a2, b2, rfl, x2, y2, e2⟩ := hpI_two h2
  obtain ⟨a3, b3, rfl, x3, y3, e3⟩ := hpI_two h3
  obtain ⟨a4, b4, rfl, x4, y4, e4⟩ := hpI_two h4
  obtain ⟨a5, b5, rfl, x5, y5, e5⟩ := hpI_two h5
  have hj := joinF_cut 58 l
  rw [h] at hj
  have hl : l = [a0, b0, 58, a1, b1, 58, a2, b2, 58, a3, b3, 58, a4, b4, 58, a5, b5] := by rw [← hj]; rfl
  subst hl
  have m0 : macB [a0, b0, 58, a1, b1, 58, a2, b2, 58, a3, b3, 58, a4, b4, 58, a5, b5] 0 = 16 * hexI a0 + hexI b0 := macB_at rfl rfl (fun _ => rfl) x0 y0
  have m1 : macB [a0, b0, 58, a1, b1, 58, a2, b2, 58, a3, b3, 58, a4, b4, 58, a5, b5] 1 = 16 * hexI a1 + hexI b1 := macB_at rfl rfl (fun _ => rfl) x1 y1
  have m2 : macB [a0, b0, 58, a1, b1, 58, a2, b2, 58, a3, b3, 58, a4, b4, 58, a5, b5] 2 = 16 * hexI a2 + hexI b2 := macB_at rfl rfl (fun _ => rfl) x2 y2
  have m3 : macB [a0, b0, 58, a1, b1, 58, a2, b2, 58, a3, b3, 58, a4, b4, 58, a5, b5] 3 = 16 * hexI a3 + hexI b3 := macB_at rfl rfl (fun _ => rfl) x3 y3
  have m4 : macB [a0, b0, 58, a1, b1, 58, a2, b2, 58, a3, b3, 58, a4, b4, 58, a5, b5] 4 = 16 * hexI a4 + hexI b4 := macB_at rfl rfl (fun _ => rfl) x4 y4
  have m5 : macB [a0, b0, 58, a1, b1, 58, a2, b2, 58, a3, b3, 58, a4, b4, 58, a5, b5] 5 = 16 * hexI a5 + hexI b5 := macB_at rfl rfl (fun h => absurd h (by omega)) x5 y5
  refine ⟨⟨rfl, fun i hi => ?_⟩, ?_⟩
  · rcases (by omega : i = 0 ∨ i = 1 ∨ i = 2 ∨ i = 3 ∨ i = 4 ∨ i = 5) with rfl | rfl | rfl | rfl | rfl | rfl
    · rw [m0]; omega
    · rw [m1]; omega
    · rw [m2]; omega
    · rw [m3]; omega
    · rw [m4]; omega
    · rw [m5]; omega
  · rw [e0, e1, e2, e3, e4, e5, ← m0, ← m1, ← m2, ← m3, ← m4, ← m5]
    rfl
theorem macB_parts {l : List UInt8} {i : Nat} (h : 0 ≤ macB l i) : 0 ≤ hexI (l.getD (3 * i) 0) ∧ 0 ≤ hexI (l.getD (3 * i + 1) 0) ∧ (i < 5 → l.getD (3 * i + 2) 0 = 58) := by
  unfold macB at h
  split at h
  · omega
  · rename_i hn
    refine ⟨by omega, by omega, fun h5 => ?_⟩
    by_cases e : l.getD (3 * i + 2) 0 = 58
    · exact e
    · exact absurd (.inr (.inr ⟨h5, e⟩)) hn
theorem pair_free {a b : UInt8} (ha : 0 ≤ hexI a) (hb : 0 ≤ hexI b) : ∀ c ∈ [a, b], c ≠ 58 := by
  intro c hc
  simp only [List.mem_cons, List.not_mem_nil, or_false] at hc
  rcases hc with rfl | rfl
  · exact hexI_58 ha
  · exact hexI_58 hb
theorem hpI_pair {a b : UInt8} (ha : 0 ≤ hexI a) (hb : 0 ≤ hexI b) : 0 ≤ hpI [a, b] := by
  unfold hpI; simp only; rw [if_pos ⟨ha, hb⟩]; omega
theorem list_17 (l : List UInt8) (h : l.length = 17) : ∃ a0 b0 c0 a1 b1 c1 a2 b2 c2 a3 b3 c3 a4 b4 c4 a5 b5 : UInt8, l = [a0, b0, c0, a1, b1, c1, a2, b2, c2, a3, b3, c3, a4, b4, c4, a5, b5] := by
  match l, h with
  | [a0, b0, c0, a1, b1, c1, a2, b2, c2, a3, b3, c3, a4, b4, c4, a5, b5], _ => exact ⟨_, _, _, _, _, _, _, _, _, _, _, _, _, _, _, _, _, rfl⟩
theorem pieces_of_mac {l : List UInt8} (h : macOk l) : ∃ p0 p1 p2 p3 p4 p5 : List UInt8, cutF 58 l = [p0, p1, p2, p3, p4, p5] ∧ 0 ≤ hpI p0 ∧ 0 ≤ hpI p1 ∧ 0 ≤ hpI p2 ∧ 0 ≤ hpI p3 ∧ 0 ≤ hpI p4 ∧ 0 ≤ hpI p5 := by
  obtain ⟨a0, b0, c0, a1, b1, c1, a2, b2, c2, a3, b3, c3, a4, b4, c4, a5, b5, rfl⟩ := list_17 l h.1
  obtain ⟨x0, y0, z0⟩ := macB_parts (h.2 0 (by omega))
  obtain ⟨x1, y1, z1⟩ := macB_parts (h.2 1 (by omega))
  obtain ⟨x2, y2, z2⟩ := macB_parts (h.2 2 (by omega))
  obtain ⟨x3, y3, z3⟩ := macB_parts (h.2 3 (by omega))
  obtain ⟨x4, y4, z4⟩ := macB_parts (h.2 4 (by omega))
  obtain ⟨x5, y5, _⟩ := macB_parts (h.2 5 (by omega))
  obtain rfl : c0 = 58 := z0 (by omega)
  obtain rfl : c1 = 58 := z1 (by omega)
  obtain rfl : c2 = 58 := z2 (by omega)
  obtain rfl : c3 = 58 := z3 (by omega)
  obtain rfl : c4 = 58 := z4 (by omega)
  replace x0 : 0 ≤ hexI a0 := x0
  replace y0 : 0 ≤ hexI b0 := y0
  replace x1 : 0 ≤ hexI a1 := x1
  replace y1 : 0 ≤ hexI b1 := y1
  replace x2 : 0 ≤ hexI a2 := x2
  replace y2 : 0 ≤ hexI b2 := y2
  replace x3 : 0 ≤ hexI a3 := x3
  replace y3 : 0 ≤ hexI b3 := y3
  replace x4 : 0 ≤ hexI a4 := x4
  replace y4 : 0 ≤ hexI b4 := y4
  replace x5 : 0 ≤ hexI a5 := x5
  replace y5 : 0 ≤ hexI b5 := y5
  have e : cutF 58 ([a0, b0] ++ [58] ++ [a1, b1] ++ [58] ++ [a2, b2] ++ [58] ++ [a3, b3] ++ [58] ++ [a4, b4] ++ [58] ++ [a5, b5]) = [[a0, b0], [a1, b1], [a2, b2], [a3, b3], [a4, b4], [a5, b5]] := by
    rw [cut_at 58 _ _ (pair_free x5 y5), cut_at 58 _ _ (pair_free x4 y4), cut_at 58 _ _ (pair_free x3 y3), cut_at 58 _ _ (pair_free x2 y2), cut_at 58 _ _ (pair_free x1 y1), cut_none 58 _ (pair_free x0 y0)]
    rfl
  exact ⟨_, _, _, _, _, _, e, hpI_pair x0 y0, hpI_pair x1 y1, hpI_pair x2 y2, hpI_pair x3 y3, hpI_pair x4 y4, hpI_pair x5 y5⟩

/-- The bytes that are read so far. -/
def mBs (ls : List (List UInt8)) (k : Nat) : List UInt8 := (List.range 6).map fun i => if i < k then byteOf (hpI (ls.getD i [])) else 0
theorem mBs_len (ls : List (List UInt8)) (k : Nat) : (mBs ls k).length = 6 := by simp [mBs]
theorem mBs_zero (ls : List (List UInt8)) : mBs ls 0 = [0, 0, 0, 0, 0, 0] := by simp [mBs, List.range, List.range.loop]
theorem mBs_six (a b c d e f : List UInt8) : mBs [a, b, c, d, e, f] 6 = [byteOf (hpI a), byteOf (hpI b), byteOf (hpI c), byteOf (hpI d), byteOf (hpI e), byteOf (hpI f)] := by simp [mBs, List.range, List.range.loop]
theorem mBs_set (ls : List (List UInt8)) (k : Nat) : (mBs ls k).set k (byteOf (hpI (ls.getD k []))) = mBs ls (k + 1) := by
  apply List.ext_getElem
  · simp [mBs]
  · intro i h1 h2
    rw [List.getElem_set]
    simp only [mBs, List.getElem_map, List.getElem_range]
    by_cases e : k = i
    · subst e; simp
    · rw [if_neg e]
      by_cases e2 : i < k
      · rw [if_pos e2, if_pos (by omega)]
      · rw [if_neg e2, if_neg (by omega)]

theorem bs_get (l : List UInt8) (k : Nat) (h : k < (⟨l.toArray⟩ : ByteArray).size) : (⟨l.toArray⟩ : ByteArray)[k] = l.getD k 0 := by
  rw [← getD_at _ k h]
theorem hexP_no (x : List UInt8) (h : hpI x = -1) (w : World) : Calls Try.prog 83 #[.string ⟨x.toArray⟩] w fun e w' => e = .returned (.tuple #[.int .u8 0, .bool false]) ∧ Below w.heap.size w w' := by
  have hsz : (⟨x.toArray⟩ : ByteArray).size = x.length := size_bs x
  by_cases h2 : x.length = 2
  · match x, h2, h, hsz with
    | [a, b], _, h, hsz =>
      refine hexPair_no ⟨#[a, b]⟩ rfl ?_ w
      unfold hpI at h
      simp only at h
      have ha : (⟨#[a, b]⟩ : ByteArray)[0]'(by show 0 < (2 : Nat); omega) = a := rfl
      have hb : (⟨#[a, b]⟩ : ByteArray)[1]'(by show 1 < (2 : Nat); omega) = b := rfl
      rw [ha, hb]
      have := hexI_range a
      have := hexI_range b
      split at h <;> omega
  · exact hexPair_len ⟨x.toArray⟩ (by rw [hsz]; exact h2) w
theorem hexP_yes (x : List UInt8) (h : 0 ≤ hpI x) (w : World) : Calls Try.prog 83 #[.string ⟨x.toArray⟩] w fun e w' => e = .returned (.tuple #[.int .u8 (hpI x), .bool true]) ∧ Below w.heap.size w w' := by
  obtain ⟨a, b, rfl, ha, hb, e⟩ := hpI_two h
  rw [e]
  exact hexPair_ok ⟨#[a, b]⟩ rfl ha hb w

/-- What ParseMac answers. -/
def AMacPost (l : List UInt8) (w : World) (e : Ending) (w' : World) : Prop :=
  (macOk l ∧ e = .returned (.tuple #[.agg ((macBs l 6).map u8v).toArray, .int .i64 0]) ∨ ¬ macOk l ∧ e = .returned (.tuple #[mac0, .int .i64 9])) ∧ Below w.heap.size w w'

abbrev z6 : Array Value := #[.int .u8 0, .int .u8 0, .int .u8 0, .int .u8 0, .int .u8 0, .int .u8 0]
/-- Two blocks of six zeros, behind a call. -/
theorem two_mac {w w1 : World} (h : Below ((w.alloc (.cells #[.int .u8 0, .int .u8 0, .int .u8 0, .int .u8 0, .int .u8 0, .int .u8 0] 28)).alloc (.cells #[.int .u8 0, .int .u8 0, .int .u8 0, .int .u8 0, .int .u8 0, .int .u8 0] 28)).heap.size ((w.alloc (.cells #[.int .u8 0, .int .u8 0, .int .u8 0, .int .u8 0, .int .u8 0, .int .u8 0] 28)).alloc (.cells #[.int .u8 0, .int .u8 0, .int .u8 0, .int .u8 0, .int .u8 0, .int .u8 0] 28)) w1) :
    w1.heap[w.heap.size]? = some (.cells #[.int .u8 0, .int .u8 0, .int .u8 0, .int .u8 0, .int .u8 0, .int .u8 0] 28 (0, 0)) ∧ w1.heap[w.heap.size + 1]? = some (.cells #[.int .u8 0, .int .u8 0, .int .u8 0, .int .u8 0, .int .u8 0, .int .u8 0] 28 (0, 0)) ∧ w.heap.size + 1 < w1.heap.size ∧ Below w.heap.size w w1 := by
  have hs := h.size
  simp at hs
  have h0 : ((w.alloc (.cells z6 28)).alloc (.cells z6 28)).heap[w.heap.size]? = some (.cells z6 28 (0, 0)) :=
    (Go.heap_alloc_old (w.alloc (.cells z6 28)) (.cells z6 28) (r := w.heap.size) (by simp)).trans (heap_alloc_new w _)
  have h1 : ((w.alloc (.cells z6 28)).alloc (.cells z6 28)).heap[w.heap.size + 1]? = some (.cells z6 28 (0, 0)) := by
    have := heap_alloc_new (w.alloc (.cells z6 28)) (.cells z6 28); simpa using this
  refine ⟨(h.block _ (by simp; omega)).trans h0, (h.block _ (by simp)).trans h1, by omega, ?_⟩
  exact (((Below.refl w.heap.size w).alloc (Nat.le_refl _) _).alloc (by simp) _).trans (h.mono (by simp; omega))

set_option maxRecDepth 100000 in
set_option maxHeartbeats 4000000 in
theorem amac_pieces (s : ByteArray) (w : World) (hs : s.size ≤ 140737488355328) (h : (cutF 58 s.data.toList).length ≠ 6) : Calls Try.prog 78 #[.string s] w (AMacPost s.data.toList w) := by
  have NO : Hid (¬ macOk s.data.toList) := Lib.hid fun hm => by
    obtain ⟨_, _, _, _, _, _, e, _⟩ := pieces_of_mac hm
    rw [e] at h; exact h rfl
  have SP := Lib.hid fun W => asplit_no s 58 6 58 6 rfl rfl (by decide) (by omega) (by omega) W hs h
  clear h hs
  go_enter Try.func78, Try.ntmps78
  go_wp2_with fail
  with_reducible refine (SP.out _).mono ?_
  rintro e w1 ⟨rfl, bel1⟩
  obtain ⟨r0, r1, r2, bel⟩ := two_mac bel1
  obtain ⟨⟨q0, q1, q2, q3, q4, q5⟩, f0, f1, f2, f3, f4, f5⟩ := cells6 r0
  have R0 := Lib.hid r0
  clear r0 r1 bel1
  go_wp2
  have R4 := put6 (x := .int .u8 0) (y := .int .u8 0) (z := .int .u8 0) (u := .int .u8 0) (v := .int .u8 0) (t := .int .u8 0) R0.out
  obtain ⟨⟨k0, k1, k2, k3, k4, k5⟩, _⟩ := cells6 R4
  clear R4
  exact bodyPost_ret (v := .tuple #[mac0, .int .i64 9]) (by simp [results, Try.results78, go_sem, mac0, k0, k1, k2, k3, k4, k5]) rfl ⟨.inr ⟨NO.out, rfl⟩, (((((bel.setCell (Nat.le_refl _) _).setCell (Nat.le_refl _) _).setCell (Nat.le_refl _) _).setCell (Nat.le_refl _) _).setCell (Nat.le_refl _) _).setCell (Nat.le_refl _) _⟩

set_option maxRecDepth 100000 in
set_option maxHeartbeats 4000000 in
theorem amac_six (s : ByteArray) (w : World) (hs : s.size ≤ 140737488355328) (p0 p1 p2 p3 p4 p5 : List UInt8) (h : cutF 58 s.data.toList = [p0, p1, p2, p3, p4, p5]) : Calls Try.prog 78 #[.string s] w (AMacPost s.data.toList w) := by
  have H6 := Lib.hid h
  have SP := fun W => asplit_yes s 58 6 58 6 rfl rfl (by decide) (by omega) (by omega) W hs (by rw [h]; rfl)
  rw [h] at SP
  have SPH := Lib.hid SP
  have HLS : Hid (([p0, p1, p2, p3, p4, p5] : List (List UInt8)).length = 6) := Lib.hid rfl
  obtain ⟨ls, hls⟩ : ∃ ls, Hid (ls = [p0, p1, p2, p3, p4, p5]) := ⟨_, Lib.hid rfl⟩
  rw [← hls.out] at SPH HLS
  clear SP hs h
  go_enter Try.func78, Try.ntmps78
  go_wp2_with fail
  with_reducible refine (SPH.out _).mono ?_
  rintro e w1 ⟨g, cap, rfl, hcap, hg0, hg1, hc, bel1⟩
  obtain ⟨r0, r1, r2, bel⟩ := two_mac bel1
  have hgw : g ≠ w.heap.size := by simp at hg0; omega
  have hgw1 : g ≠ w.heap.size + 1 := by simp at hg0; omega
  have HC := Lib.hid hc
  have hcap' : (6 : Int) ≤ cap := by omega
  clear hc bel1 hg0 hcap
  go_wp2_with fail
  go_loopw [21] (fun i wr => ∃ k : Nat, k ≤ 6 ∧ i = .int .i64 k ∧ (∀ j, j < k → 0 ≤ hpI (ls.getD j [])) ∧ wr.heap[w.heap.size]? = some (.cells #[.int .u8 0, .int .u8 0, .int .u8 0, .int .u8 0, .int .u8 0, .int .u8 0] 28 (0, 0)) ∧ Ow 28 wr (w.heap.size + 1) 6 (mBs ls k) ∧ (∀ (j : Nat) (x : List UInt8), ls[j]? = some x → wr.cell? ⟨g, j, none⟩ = some (.string ⟨x.toArray⟩)) ∧ g < wr.heap.size ∧ Below w.heap.size w wr) (fun i _ => 6 - (intOf i).toNat)
  case atStart =>
    refine ⟨0, by omega, rfl, fun j hj => by omega, r0, ?_, HC.out, hg1, bel⟩
    rw [mBs_zero]
    refine ⟨by simp, by unfold maxLen; omega, _, r1, fun j b hj => ?_⟩
    match j, hj with
    | 0, hj | 1, hj | 2, hj | 3, hj | 4, hj | 5, hj => simp at hj; subst hj; rfl
    | j + 6, hj => simp at hj
  case round =>
    clear r0 r1 bel hg1
    obtain ⟨k, hk, rfl, hall, hz, hb, hcs, hgl, bel⟩ := hrel
    have HZ := Lib.hid hz
    have HALL := Lib.hid hall
    have HCS := Lib.hid hcs
    have hzl : w.heap.size + 1 < wr.heap.size := hb.lt
    clear hz hall hcs
    by_cases hlt : k < 6
    · obtain ⟨x, hx⟩ : ∃ x, Hid (ls.getD k [] = x) := ⟨_, Lib.hid rfl⟩
      have hxk : ls[k]? = some x := by
        have := HLS.out
        rw [List.getElem?_eq_getElem (by omega), ← hx.out, List.getD_eq_getElem?_getD, List.getElem?_eq_getElem (by omega)]; rfl
      have hcx := HCS.out k x hxk
      have k0 : (0 : Int) ≤ k := by omega
      have k4 : (k : Int) < 6 := by omega
      by_cases hn : 0 ≤ hpI x
      · have DECH := Lib.hid fun W => hexP_yes x hn W
        have hr := hpI_range x
        have n1 : hpI x ≤ 255 := by omega
        have ALL : Hid (∀ j, j < k + 1 → 0 ≤ hpI (ls.getD j [])) := Lib.hid fun j hj => by
          by_cases e : j = k
          · subst e; rw [hx.out]; exact hn
          · exact HALL.out j (by omega)
        have MS : Hid ((mBs ls k).set k (byteOf (hpI x)) = mBs ls (k + 1)) := Lib.hid (by rw [← mBs_set, hx.out])
        have UB : Hid (u8v (byteOf (hpI x)) = .int .u8 (hpI x)) := Lib.hid (u8v_byteOf hn n1)
        clear hxk hr
        go_wp2_with fail
        with_reducible refine (DECH.out _).mono ?_
        rintro e w2 ⟨rfl, bel2⟩
        have hz2 := (bel2.block _ (by omega)).trans HZ.out
        have hb2 := hb.below bel2
        have HCS2 : Hid (∀ (j : Nat) (x : List UInt8), ls[j]? = some x → w2.cell? ⟨g, j, none⟩ = some (.string ⟨x.toArray⟩)) := Lib.hid fun j x hj => (bel2.cell (p := ⟨g, j, none⟩) hgl).trans (HCS.out j x hj)
        have hgl2 := Nat.lt_of_lt_of_le hgl bel2.size
        have belb := bel.trans (bel2.mono (by omega))
        obtain ⟨_, _, cb, fb⟩ := hb2.at_ k (by rw [mBs_len]; exact hlt)
        have HZ2' := Lib.hid hz2
        clear hz2 bel bel2 hb hcx hgl hzl
        go_wp2
        have OW2 := hb2.set k (byteOf (hpI x))
        rw [UB.out, MS.out] at OW2
        have HZ2 := (Below.heap_setCell w2 ⟨w.heap.size + 1, k, none⟩ (.int .u8 (hpI x)) w.heap.size (by simp)).trans HZ2'.out
        have BE2 := belb.setCell (p := ⟨w.heap.size + 1, k, none⟩) (by simp) (.int .u8 (hpI x))
        have CS2 : ∀ (j : Nat) (x' : List UInt8), ls[j]? = some x' → (w2.setCell ⟨w.heap.size + 1, k, none⟩ (.int .u8 (hpI x))).cell? ⟨g, j, none⟩ = some (.string ⟨x'.toArray⟩) := fun j x' hj => by
          rw [World.cell?_of_block (w := w2) (Below.heap_setCell w2 ⟨w.heap.size + 1, k, none⟩ (.int .u8 (hpI x)) g (fun e => hgw1 e))]
          exact HCS2.out j x' hj
        go_roundw
        case rel => exact ⟨k + 1, by omega, by go_num, ALL.out, HZ2, OW2, CS2, by simp; exact hgl2, BE2⟩
        case measure => simp [intOf]; omega
      · have hn1 : hpI x = -1 := by have := hpI_range x; omega
        have DEC := Lib.hid fun W => hexP_no x hn1 W
        have NO : Hid (¬ macOk s.data.toList) := Lib.hid fun hm => by
          obtain ⟨_, _, _, _, _, _, e, g0, g1, g2, g3, g4, g5⟩ := pieces_of_mac hm
          rw [H6.out] at e
          simp only [List.cons.injEq, and_true] at e
          obtain ⟨rfl, rfl, rfl, rfl, rfl, rfl⟩ := e
          have h1 := hx.out
          rw [hls.out] at h1
          match k, hlt, h1 with
          | 0, _, h1 | 1, _, h1 | 2, _, h1 | 3, _, h1 | 4, _, h1 | 5, _, h1 => simp at h1; subst h1; omega
        clear hxk hn hn1
        go_wp2_with fail
        with_reducible refine (DEC.out _).mono ?_
        rintro e w2 ⟨rfl, bel2⟩
        have hz2 := (bel2.block _ (by omega)).trans HZ.out
        have belb := bel.trans (bel2.mono (by omega))
        obtain ⟨⟨q0, q1, q2, q3, q4, q5⟩, f0, f1, f2, f3, f4, f5⟩ := cells6 hz2
        have R0 := Lib.hid hz2
        clear hz2 bel bel2 hb hcx hgl hzl
        go_wp2
        have R4 := put6 (x := .int .u8 0) (y := .int .u8 0) (z := .int .u8 0) (u := .int .u8 0) (v := .int .u8 0) (t := .int .u8 0) R0.out
        obtain ⟨⟨k0, k1, k2, k3, k4, k5⟩, _⟩ := cells6 R4
        clear R4
        exact bodyPost_ret (v := .tuple #[mac0, .int .i64 9]) (by simp [results, Try.results78, go_sem, mac0, k0, k1, k2, k3, k4, k5]) rfl ⟨.inr ⟨NO.out, rfl⟩, (((((belb.setCell (Nat.le_refl _) _).setCell (Nat.le_refl _) _).setCell (Nat.le_refl _) _).setCell (Nat.le_refl _) _).setCell (Nat.le_refl _) _).setCell (Nat.le_refl _) _⟩
    · obtain rfl : k = 6 := by omega
      have YES : Hid (macOk s.data.toList ∧ macBs s.data.toList 6 = [byteOf (hpI p0), byteOf (hpI p1), byteOf (hpI p2), byteOf (hpI p3), byteOf (hpI p4), byteOf (hpI p5)]) := Lib.hid (by
        have hall := HALL.out
        rw [hls.out] at hall
        exact mac_of_pieces H6.out (hall 0 (by omega)) (hall 1 (by omega)) (hall 2 (by omega)) (hall 3 (by omega)) (hall 4 (by omega)) (hall 5 (by omega)))
      have hb6 := hb
      rw [hls.out, mBs_six] at hb6
      generalize byteOf (hpI p0) = b0 at *
      generalize byteOf (hpI p1) = b1 at *
      generalize byteOf (hpI p2) = b2 at *
      generalize byteOf (hpI p3) = b3 at *
      generalize byteOf (hpI p4) = b4 at *
      generalize byteOf (hpI p5) = b5 at *
      obtain ⟨c0, _⟩ := hb6.cell 0 (by simp)
      obtain ⟨c1, _⟩ := hb6.cell 1 (by simp)
      obtain ⟨c2, _⟩ := hb6.cell 2 (by simp)
      obtain ⟨c3, _⟩ := hb6.cell 3 (by simp)
      obtain ⟨c4, _⟩ := hb6.cell 4 (by simp)
      obtain ⟨c5, _⟩ := hb6.cell 5 (by simp)
      simp only [List.getElem_cons_zero, List.getElem_cons_succ] at c0 c1 c2 c3 c4 c5
      obtain ⟨⟨q0, q1, q2, q3, q4, q5⟩, f0, f1, f2, f3, f4, f5⟩ := cells6 HZ.out
      clear hb hb6 HALL hgl hzl
      go_wp2
      have R4 := put6 (x := .int .u8 (b0.toNat : Int)) (y := .int .u8 (b1.toNat : Int)) (z := .int .u8 (b2.toNat : Int)) (u := .int .u8 (b3.toNat : Int)) (v := .int .u8 (b4.toNat : Int)) (t := .int .u8 (b5.toNat : Int)) HZ.out
      obtain ⟨⟨k0', k1', k2', k3', k4', k5'⟩, _⟩ := cells6 R4
      clear R4
      refine bodyPost_ret (v := .tuple #[.agg #[.int .u8 (b0.toNat : Int), .int .u8 (b1.toNat : Int), .int .u8 (b2.toNat : Int), .int .u8 (b3.toNat : Int), .int .u8 (b4.toNat : Int), .int .u8 (b5.toNat : Int)], .int .i64 0]) (by simp [results, Try.results78, go_sem, k0', k1', k2', k3', k4', k5']) rfl ⟨.inl ⟨YES.out.1, ?_⟩, (((((bel.setCell (Nat.le_refl _) _).setCell (Nat.le_refl _) _).setCell (Nat.le_refl _) _).setCell (Nat.le_refl _) _).setCell (Nat.le_refl _) _).setCell (Nat.le_refl _) _⟩
      rw [YES.out.2]; rfl

theorem amac_any (s : ByteArray) (w : World) (hs : s.size ≤ 140737488355328) : Calls Try.prog 78 #[.string s] w (AMacPost s.data.toList w) := by
  match hm : cutF 58 s.data.toList with
  | [p0, p1, p2, p3, p4, p5] => exact amac_six s w hs p0 p1 p2 p3 p4 p5 hm
  | [] | [_] | [_, _] | [_, _, _] | [_, _, _, _] | [_, _, _, _, _] | _ :: _ :: _ :: _ :: _ :: _ :: _ :: _ => exact amac_pieces s w hs (by rw [hm]; simp)
end Go.Proofs.Ytdfobilagidmfaa
