/- Texts put together: Adr5, AdrEq, Ref3n, Ref3h, Cf3, Eth1. -/
import Derived.Test.YtdfobilagidmfaaDoorQ1
import Derived.Test.YtdfobilagidmfaaDoorQ2
import Derived.Test.YtdfobilagidmfaaDoorQ3
import Derived.Stop.BytesEq
import Derived.Deep.RegionHeld3
import Derived.BigRegion
namespace Go.Proofs.YtdfobilagidmfaaDoor
open Go.RowKit

/-- Two digits' value; -1: none. -/
def hpI (x : List UInt8) : Int := match x with
  | [a, b] => if 0 ≤ hexI a ∧ 0 ≤ hexI b then 16 * hexI a + hexI b else -1
  | _ => -1
theorem hpI_range (x : List UInt8) : hpI x = -1 ∨ (0 ≤ hpI x ∧ hpI x ≤ 255) := by
  unfold hpI
  split
  · rename_i a b
    have := hexI_range a
    have := hexI_range b
    split
    · right; omega
    · exact .inl rfl
  · exact .inl rfl
theorem hpI_two {x : List UInt8} (h : 0 ≤ hpI x) : ∃ a b, x = [a, b] ∧ 0 ≤ hexI a ∧ 0 ≤ hexI b ∧ hpI x = 16 * hexI a + hexI b := by
  match x, h with
  | [a, b], h =>
    unfold hpI at h ⊢
    simp only at h ⊢
    by_cases hk : 0 ≤ hexI a ∧ 0 ≤ hexI b
    · rw [if_pos hk]; exact ⟨a, b, rfl, hk.1, hk.2, rfl⟩
    · rw [if_neg hk] at h; omega
  | [], h | [_], h | _ :: _ :: _ :: _, h => simp [hpI] at h
theorem hexI_58 {c : UInt8} (h : 0 ≤ hexI c) : c ≠ 58 := by
  intro e; subst e; revert h; decide
theorem macB_at {l : List UInt8} {i : Nat} {a b : UInt8} (h0 : l.getD (3 * i) 0 = a) (h1 : l.getD (3 * i + 1) 0 = b) (h2 : i < 5 → l.getD (3 * i + 2) 0 = 58) (ha : 0 ≤ hexI a) (hb : 0 ≤ hexI b) : macB l i = 16 * hexI a + hexI b := by
  unfold macB
  rw [h0, h1, if_neg]
  rintro (h | h | ⟨h, h'⟩)
  · omega
  · omega
  · exact h' (h2 h)
theorem mac_of_pieces {l p0 p1 p2 p3 p4 p5 : List UInt8} (h : cutF 58 l = [p0, p1, p2, p3, p4, p5]) (h0 : 0 ≤ hpI p0) (h1 : 0 ≤ hpI p1) (h2 : 0 ≤ hpI p2) (h3 : 0 ≤ hpI p3) (h4 : 0 ≤ hpI p4) (h5 : 0 ≤ hpI p5) :
    macOk l ∧ macBs l 6 = [byteOf (hpI p0), byteOf (hpI p1), byteOf (hpI p2), byteOf (hpI p3), byteOf (hpI p4), byteOf (hpI p5)] := by
  obtain ⟨a0, b0, rfl, x0, y0, e0⟩ := hpI_two h0
  obtain ⟨a1, b1, rfl, x1, y1, e1⟩ := hpI_two h1
  obtain ⟨a2, b2, rfl, x2, y2, e2⟩ := hpI_two h2
  obtain ⟨a3, b3, rfl, x3, y3, e3⟩ := hpI_two h3
  obtain ⟨a4, b4, rfl, x4, y4, e4⟩ := hpI_two h4
  obtain ⟨a5, b5, rfl, x5, y5, e5⟩ := hpI_two h5
  have hj := joinF_cut 58 l
  rw [h] at hj
  have hl : l = [a0, b0, 58, a1, b1, 58, a2, b2, 58, a3, b3, 58, a4, b4, 58, a5, b5] := by rw [← hj]; rfl
  subst hl
  have m0 : macB [a0, b0, 58, a1, b1, 58, a2, b2, 58, a3, b3, 58, a4, b4, 58, a5, b5] 0 = 16 * hexI a0 + hexI b0 := macB_at rfl rfl (fun _ => rfl) x0 y0
  have m1 : macB [a0, b0, 58, a1, b1, 58, a2, b2, 58, a3, b3, 58, a4, b4, 58, a5, b5] 1 = 16 * hexI a1 + hexI b1 := macB_at rfl rfl (fun _ => rfl) x1 y1
  have m2 : macB [a0, b0, 58, a1, b1, 58, a2, b2, 58, a3, b3, 58, a4, b4, 58, a5, b5] 2 = 16 * hexI a2 + hexI b2 := macB_at rfl rfl (fun _ => rfl) x2 y2
  have m3 : macB [a0, b0, 58, a1, b1, 58, a2, b2, 58, a3, b3, 58, a4, b4, 58, a5, b5] 3 = 16 * hexI a3 + hexI b3 := macB_at rfl rfl (fun _ => rfl) x3 y3
  have m4 : macB [a0, b0, 58, a1, b1, 58, a2, b2, 58, a3, b3, 58, a4, b4, 58, a5, b5] 4 = 16 * hexI a4 + hexI b4 := macB_at rfl rfl (fun _ => rfl) x4 y4
  have m5 : macB [a0, b0, 58, a1, b1, 58, a2, b2, 58, a3, b3, 58, a4, b4, 58, a5, b5] 5 = 16 * hexI a5 + hexI b5 := macB_at rfl rfl (fun h => absurd h (by omega)) x5 y5
  refine ⟨⟨rfl, fun i hi => ?_⟩, ?_⟩
  · rcases (by omega : i = 0 ∨ i = 1 ∨ i = 2 ∨ i = 3 ∨ i = 4 ∨ i = 5) with rfl | rfl | rfl | rfl | rfl | rfl
    · rw [m0]; omega
    · rw [m1]; omega
    · rw [m2]; omega
    · rw [m3]; omega
    · rw [m4]; omega
    · rw [m5]; omega
  · rw [e0, e1, e2, e3, e4, e5, ← m0, ← m1, ← m2, ← m3, ← m4, ← m5]
    rfl
theorem macB_parts {l : List UInt8} {i : Nat} (h : 0 ≤ macB l i) : 0 ≤ hexI (l.getD (3 * i) 0) ∧ 0 ≤ hexI (l.getD (3 * i + 1) 0) ∧ (i < 5 → l.getD (3 * i + 2) 0 = 58) := by
  unfold macB at h
  split at h
  · omega
  · rename_i hn
    refine ⟨by omega, by omega, fun h5 => ?_⟩
    by_cases e : l.getD (3 * i + 2) 0 = 58
    · exact e
    · exact absurd (.inr (.inr ⟨h5, e⟩)) hn
theorem pair_free {a b : UInt8} (ha : 0 ≤ hexI a) (hb : 0 ≤ hexI b) : ∀ c ∈ [a, b], c ≠ 58 := by
  intro c hc
  simp only [List.mem_cons, List.not_mem_nil, or_false] at hc
  rcases hc with rfl | rfl
  · exact hexI_58 ha
  · exact hexI_58 hb
theorem hpI_pair {a b : UInt8} (ha : 0 ≤ hexI a) (hb : 0 ≤ hexI b) : 0 ≤ hpI [a, b] := by
  unfold hpI; simp only; rw [if_pos ⟨ha, hb⟩]; omega
theorem list_17 (l : List UInt8) (h : l.length = 17) : ∃ a0 b0 c0 a1 b1 c1 a2 b2 c2 a3 b3 c3 a4 b4 c4 a5 b5 : UInt8, l = [a0, b0, c0, a1, b1, c1, a2, b2, c2, a3, b3, c3, a4, b4, c4, a5, b5] := by
  match l, h with
  | [a0, b0, c0, a1, b1, c1, a2, b2, c2, a3, b3, c3, a4, b4, c4, a5, b5], _ => exact ⟨_, _, _, _, _, _, _, _, _, _, _, _, _, _, _, _, _, rfl⟩
theorem pieces_of_mac {l : List UInt8} (h : macOk l) : ∃ p0 p1 p2 p3 p4 p5 : List UInt8, cutF 58 l = [p0, p1, p2, p3, p4, p5] ∧ 0 ≤ hpI p0 ∧ 0 ≤ hpI p1 ∧ 0 ≤ hpI p2 ∧ 0 ≤ hpI p3 ∧ 0 ≤ hpI p4 ∧ 0 ≤ hpI p5 := by
  obtain ⟨a0, b0, c0, a1, b1, c1, a2, b2, c2, a3, b3, c3, a4, b4, c4, a5, b5, rfl⟩ := list_17 l h.1
  obtain ⟨x0, y0, z0⟩ := macB_parts (h.2 0 (by omega))
  obtain ⟨x1, y1, z1⟩ := macB_parts (h.2 1 (by omega))
  obtain ⟨x2, y2, z2⟩ := macB_parts (h.2 2 (by omega))
  obtain ⟨x3, y3, z3⟩ := macB_parts (h.2 3 (by omega))
  obtain ⟨x4, y4, z4⟩ := macB_parts (h.2 4 (by omega))
  obtain ⟨x5, y5, _⟩ := macB_parts (h.2 5 (by omega))
  obtain rfl : c0 = 58 := z0 (by omega)
  obtain rfl : c1 = 58 := z1 (by omega)
  obtain rfl : c2 = 58 := z2 (by omega)
  obtain rfl : c3 = 58 := z3 (by omega)
  obtain rfl : c4 = 58 := z4 (by omega)
  replace x0 : 0 ≤ hexI a0 := x0
  replace y0 : 0 ≤ hexI b0 := y0
  replace x1 : 0 ≤ hexI a1 := x1
  replace y1 : 0 ≤ hexI b1 := y1
  replace x2 : 0 ≤ hexI a2 := x2
  replace y2 : 0 ≤ hexI b2 := y2
  replace x3 : 0 ≤ hexI a3 := x3
  replace y3 : 0 ≤ hexI b3 := y3
  replace x4 : 0 ≤ hexI a4 := x4
  replace y4 : 0 ≤ hexI b4 := y4
  replace x5 : 0 ≤ hexI a5 := x5
  replace y5 : 0 ≤ hexI b5 := y5
  have e : cutF 58 ([a0, b0] ++ [58] ++ [a1, b1] ++ [58] ++ [a2, b2] ++ [58] ++ [a3, b3] ++ [58] ++ [a4, b4] ++ [58] ++ [a5, b5]) = [[a0, b0], [a1, b1], [a2, b2], [a3, b3], [a4, b4], [a5, b5]] := by
    rw [cut_at 58 _ _ (pair_free x5 y5), cut_at 58 _ _ (pair_free x4 y4), cut_at 58 _ _ (pair_free x3 y3), cut_at 58 _ _ (pair_free x2 y2), cut_at 58 _ _ (pair_free x1 y1), cut_none 58 _ (pair_free x0 y0)]
    rfl
  exact ⟨_, _, _, _, _, _, e, hpI_pair x0 y0, hpI_pair x1 y1, hpI_pair x2 y2, hpI_pair x3 y3, hpI_pair x4 y4, hpI_pair x5 y5⟩

/-- The bytes that are read so far. -/
def mBs (ls : List (List UInt8)) (k : Nat) : List UInt8 := (List.range 6).map fun i => if i < k then byteOf (hpI (ls.getD i [])) else 0
theorem mBs_len (ls : List (List UInt8)) (k : Nat) : (mBs ls k).length = 6 := by simp [mBs]
theorem mBs_zero (ls : List (List UInt8)) : mBs ls 0 = [0, 0, 0, 0, 0, 0] := by simp [mBs, List.range, List.range.loop]
theorem mBs_six (a b c d e f : List UInt8) : mBs [a, b, c, d, e, f] 6 = [byteOf (hpI a), byteOf (hpI b), byteOf (hpI c), byteOf (hpI d), byteOf (hpI e), byteOf (hpI f)] := by simp [mBs, List.range, List.range.loop]
theorem mBs_set (ls : List (List UInt8)) (k : Nat) : (mBs ls k).set k (byteOf (hpI (ls.getD k []))) = mBs ls (k + 1) := by
  apply List.ext_getElem
  · simp [mBs]
  · intro i h1 h2
    rw [List.getElem_set]
    simp only [mBs, List.getElem_map, List.getElem_range]
    by_cases e : k = i
    · subst e; simp
    · rw [if_neg e]
      by_cases e2 : i < k
      · rw [if_pos e2, if_pos (by omega)]
      · rw [if_neg e2, if_neg (by omega)]

theorem hexP_no (x : List UInt8) (h : hpI x = -1) (w : World) : Calls Tryd.prog 93 #[.string ⟨x.toArray⟩] w fun e w' => e = .returned (.tuple #[.int .u8 0, .bool false]) ∧ Below w.heap.size w w' := by
  have hsz : (⟨x.toArray⟩ : ByteArray).size = x.length := size_bs x
  by_cases h2 : x.length = 2
  · match x, h2, h, hsz with
    | [a, b], _, h, hsz =>
      refine hexPair_no ⟨#[a, b]⟩ rfl ?_ w
      unfold hpI at h
      simp only at h
      have ha : (⟨#[a, b]⟩ : ByteArray)[0]'(by show 0 < (2 : Nat); omega) = a := rfl
      have hb : (⟨#[a, b]⟩ : ByteArray)[1]'(by show 1 < (2 : Nat); omega) = b := rfl
      rw [ha, hb]
      have := hexI_range a
      have := hexI_range b
      split at h <;> omega
  · exact hexPair_len ⟨x.toArray⟩ (by rw [hsz]; exact h2) w
theorem hexP_yes (x : List UInt8) (h : 0 ≤ hpI x) (w : World) : Calls Tryd.prog 93 #[.string ⟨x.toArray⟩] w fun e w' => e = .returned (.tuple #[.int .u8 (hpI x), .bool true]) ∧ Below w.heap.size w w' := by
  obtain ⟨a, b, rfl, ha, hb, e⟩ := hpI_two h
  rw [e]
  exact hexPair_ok ⟨#[a, b]⟩ rfl ha hb w

/-- What ParseMac answers. -/
def AMacPost (l : List UInt8) (w : World) (e : Ending) (w' : World) : Prop :=
  (macOk l ∧ e = .returned (.tuple #[.agg ((macBs l 6).map u8v).toArray, .int .i64 0]) ∨ ¬ macOk l ∧ e = .returned (.tuple #[mac0, .int .i64 9])) ∧ Below w.heap.size w w'

abbrev z6 : Array Value := #[.int .u8 0, .int .u8 0, .int .u8 0, .int .u8 0, .int .u8 0, .int .u8 0]
/-- Two blocks of six zeros, behind a call. -/
theorem two_mac {w w1 : World} (h : Below ((w.alloc (.cells #[.int .u8 0, .int .u8 0, .int .u8 0, .int .u8 0, .int .u8 0, .int .u8 0] 28)).alloc (.cells #[.int .u8 0, .int .u8 0, .int .u8 0, .int .u8 0, .int .u8 0, .int .u8 0] 28)).heap.size ((w.alloc (.cells #[.int .u8 0, .int .u8 0, .int .u8 0, .int .u8 0, .int .u8 0, .int .u8 0] 28)).alloc (.cells #[.int .u8 0, .int .u8 0, .int .u8 0, .int .u8 0, .int .u8 0, .int .u8 0] 28)) w1) :
    w1.heap[w.heap.size]? = some (.cells #[.int .u8 0, .int .u8 0, .int .u8 0, .int .u8 0, .int .u8 0, .int .u8 0] 28 (0, 0)) ∧ w1.heap[w.heap.size + 1]? = some (.cells #[.int .u8 0, .int .u8 0, .int .u8 0, .int .u8 0, .int .u8 0, .int .u8 0] 28 (0, 0)) ∧ w.heap.size + 1 < w1.heap.size ∧ Below w.heap.size w w1 := by
  have hs := h.size
  simp at hs
  have h0 : ((w.alloc (.cells z6 28)).alloc (.cells z6 28)).heap[w.heap.size]? = some (.cells z6 28 (0, 0)) :=
    (Go.heap_alloc_old (w.alloc (.cells z6 28)) (.cells z6 28) (r := w.heap.size) (by simp)).trans (heap_alloc_new w _)
  have h1 : ((w.alloc (.cells z6 28)).alloc (.cells z6 28)).heap[w.heap.size + 1]? = some (.cells z6 28 (0, 0)) := by
    have := heap_alloc_new (w.alloc (.cells z6 28)) (.cells z6 28); simpa using this
  refine ⟨(h.block _ (by simp; omega)).trans h0, (h.block _ (by simp)).trans h1, by omega, ?_⟩
  exact (((Below.refl w.heap.size w).alloc (Nat.le_refl _) _).alloc (by simp) _).trans (h.mono (by simp; omega))

set_option maxRecDepth 100000 in
set_option maxHeartbeats 4000000 in
theorem amac_pieces (s : ByteArray) (w : World) (hs : s.size ≤ 140737488355328) (h : (cutF 58 s.data.toList).length ≠ 6) : Calls Tryd.prog 84 #[.string s] w (AMacPost s.data.toList w) := by
  have NO : Hid (¬ macOk s.data.toList) := Lib.hid fun hm => by
    obtain ⟨_, _, _, _, _, _, e, _⟩ := pieces_of_mac hm
    rw [e] at h; exact h rfl
  have SP := Lib.hid fun W => asplit_no s 58 6 58 6 rfl rfl (by decide) (by omega) (by omega) W hs h
  clear h hs
  go_enter Tryd.func84, Tryd.ntmps84
  go_wp2_with fail
  with_reducible refine (SP.out _).mono ?_
  rintro e w1 ⟨rfl, bel1⟩
  obtain ⟨r0, r1, r2, bel⟩ := two_mac bel1
  obtain ⟨⟨q0, q1, q2, q3, q4, q5⟩, f0, f1, f2, f3, f4, f5⟩ := cells6 r0
  have R0 := Lib.hid r0
  clear r0 r1 bel1
  go_wp2
  have R4 := put6 (x := .int .u8 0) (y := .int .u8 0) (z := .int .u8 0) (u := .int .u8 0) (v := .int .u8 0) (t := .int .u8 0) R0.out
  obtain ⟨⟨k0, k1, k2, k3, k4, k5⟩, _⟩ := cells6 R4
  clear R4
  exact bodyPost_ret (v := .tuple #[mac0, .int .i64 9]) (by simp [results, Tryd.results84, go_sem, mac0, k0, k1, k2, k3, k4, k5]) rfl ⟨.inr ⟨NO.out, rfl⟩, (((((bel.setCell (Nat.le_refl _) _).setCell (Nat.le_refl _) _).setCell (Nat.le_refl _) _).setCell (Nat.le_refl _) _).setCell (Nat.le_refl _) _).setCell (Nat.le_refl _) _⟩

set_option maxRecDepth 100000 in
set_option maxHeartbeats 4000000 in
theorem amac_six (s : ByteArray) (w : World) (hs : s.size ≤ 140737488355328) (p0 p1 p2 p3 p4 p5 : List UInt8) (h : cutF 58 s.data.toList = [p0, p1, p2, p3, p4, p5]) : Calls Tryd.prog 84 #[.string s] w (AMacPost s.data.toList w) := by
  have H6 := Lib.hid h
  have SP := fun W => asplit_yes s 58 6 58 6 rfl rfl (by decide) (by omega) (by omega) W hs (by rw [h]; rfl)
  rw [h] at SP
  have SPH := Lib.hid SP
  have HLS : Hid (([p0, p1, p2, p3, p4, p5] : List (List UInt8)).length = 6) := Lib.hid rfl
  obtain ⟨ls, hls⟩ : ∃ ls, Hid (ls = [p0, p1, p2, p3, p4, p5]) := ⟨_, Lib.hid rfl⟩
  rw [← hls.out] at SPH HLS
  clear SP hs h
  go_enter Tryd.func84, Tryd.ntmps84
  go_wp2_with fail
  with_reducible refine (SPH.out _).mono ?_
  rintro e w1 ⟨g, cap, rfl, hcap, hg0, hg1, hc, bel1⟩
  obtain ⟨r0, r1, r2, bel⟩ := two_mac bel1
  have hgw : g ≠ w.heap.size := by simp at hg0; omega
  have hgw1 : g ≠ w.heap.size + 1 := by simp at hg0; omega
  have HC := Lib.hid hc
  have hcap' : (6 : Int) ≤ cap := by omega
  clear hc bel1 hg0 hcap
  go_wp2_with fail
  go_loopw [21] (fun i wr => ∃ k : Nat, k ≤ 6 ∧ i = .int .i64 k ∧ (∀ j, j < k → 0 ≤ hpI (ls.getD j [])) ∧ wr.heap[w.heap.size]? = some (.cells #[.int .u8 0, .int .u8 0, .int .u8 0, .int .u8 0, .int .u8 0, .int .u8 0] 28 (0, 0)) ∧ Ow 28 wr (w.heap.size + 1) 6 (mBs ls k) ∧ (∀ (j : Nat) (x : List UInt8), ls[j]? = some x → wr.cell? ⟨g, j, none⟩ = some (.string ⟨x.toArray⟩)) ∧ g < wr.heap.size ∧ Below w.heap.size w wr) (fun i _ => 6 - (intOf i).toNat)
  case atStart =>
    refine ⟨0, by omega, rfl, fun j hj => by omega, r0, ?_, HC.out, hg1, bel⟩
    rw [mBs_zero]
    refine ⟨by simp, by unfold maxLen; omega, _, r1, fun j b hj => ?_⟩
    match j, hj with
    | 0, hj | 1, hj | 2, hj | 3, hj | 4, hj | 5, hj => simp at hj; subst hj; rfl
    | j + 6, hj => simp at hj
  case round =>
    clear r0 r1 bel hg1
    obtain ⟨k, hk, rfl, hall, hz, hb, hcs, hgl, bel⟩ := hrel
    have HZ := Lib.hid hz
    have HALL := Lib.hid hall
    have HCS := Lib.hid hcs
    have hzl : w.heap.size + 1 < wr.heap.size := hb.lt
    clear hz hall hcs
    by_cases hlt : k < 6
    · obtain ⟨x, hx⟩ : ∃ x, Hid (ls.getD k [] = x) := ⟨_, Lib.hid rfl⟩
      have hxk : ls[k]? = some x := by
        have := HLS.out
        rw [List.getElem?_eq_getElem (by omega), ← hx.out, List.getD_eq_getElem?_getD, List.getElem?_eq_getElem (by omega)]; rfl
      have hcx := HCS.out k x hxk
      have k0 : (0 : Int) ≤ k := by omega
      have k4 : (k : Int) < 6 := by omega
      by_cases hn : 0 ≤ hpI x
      · have DECH := Lib.hid fun W => hexP_yes x hn W
        have hr := hpI_range x
        have n1 : hpI x ≤ 255 := by omega
        have ALL : Hid (∀ j, j < k + 1 → 0 ≤ hpI (ls.getD j [])) := Lib.hid fun j hj => by
          by_cases e : j = k
          · subst e; rw [hx.out]; exact hn
          · exact HALL.out j (by omega)
        have MS : Hid ((mBs ls k).set k (byteOf (hpI x)) = mBs ls (k + 1)) := Lib.hid (by rw [← mBs_set, hx.out])
        have UB : Hid (u8v (byteOf (hpI x)) = .int .u8 (hpI x)) := Lib.hid (u8v_byteOf hn n1)
        clear hxk hr
        go_wp2_with fail
        with_reducible refine (DECH.out _).mono ?_
        rintro e w2 ⟨rfl, bel2⟩
        have hz2 := (bel2.block _ (by omega)).trans HZ.out
        have hb2 := hb.below bel2
        have HCS2 : Hid (∀ (j : Nat) (x : List UInt8), ls[j]? = some x → w2.cell? ⟨g, j, none⟩ = some (.string ⟨x.toArray⟩)) := Lib.hid fun j x hj => (bel2.cell (p := ⟨g, j, none⟩) hgl).trans (HCS.out j x hj)
        have hgl2 := Nat.lt_of_lt_of_le hgl bel2.size
        have belb := bel.trans (bel2.mono (by omega))
        obtain ⟨_, _, cb, fb⟩ := hb2.at_ k (by rw [mBs_len]; exact hlt)
        have HZ2' := Lib.hid hz2
        clear hz2 bel bel2 hb hcx hgl hzl
        go_wp2
        have OW2 := hb2.set k (byteOf (hpI x))
        rw [UB.out, MS.out] at OW2
        have HZ2 := (Below.heap_setCell w2 ⟨w.heap.size + 1, k, none⟩ (.int .u8 (hpI x)) w.heap.size (by simp)).trans HZ2'.out
        have BE2 := belb.setCell (p := ⟨w.heap.size + 1, k, none⟩) (by simp) (.int .u8 (hpI x))
        have CS2 : ∀ (j : Nat) (x' : List UInt8), ls[j]? = some x' → (w2.setCell ⟨w.heap.size + 1, k, none⟩ (.int .u8 (hpI x))).cell? ⟨g, j, none⟩ = some (.string ⟨x'.toArray⟩) := fun j x' hj => by
          rw [World.cell?_of_block (w := w2) (Below.heap_setCell w2 ⟨w.heap.size + 1, k, none⟩ (.int .u8 (hpI x)) g (fun e => hgw1 e))]
          exact HCS2.out j x' hj
        go_roundw
        case rel => exact ⟨k + 1, by omega, by go_num, ALL.out, HZ2, OW2, CS2, by simp; exact hgl2, BE2⟩
        case measure => simp [intOf]; omega
      · have hn1 : hpI x = -1 := by have := hpI_range x; omega
        have DEC := Lib.hid fun W => hexP_no x hn1 W
        have NO : Hid (¬ macOk s.data.toList) := Lib.hid fun hm => by
          obtain ⟨_, _, _, _, _, _, e, g0, g1, g2, g3, g4, g5⟩ := pieces_of_mac hm
          rw [H6.out] at e
          simp only [List.cons.injEq, and_true] at e
          obtain ⟨rfl, rfl, rfl, rfl, rfl, rfl⟩ := e
          have h1 := hx.out
          rw [hls.out] at h1
          match k, hlt, h1 with
          | 0, _, h1 | 1, _, h1 | 2, _, h1 | 3, _, h1 | 4, _, h1 | 5, _, h1 => simp at h1; subst h1; omega
        clear hxk hn hn1
        go_wp2_with fail
        with_reducible refine (DEC.out _).mono ?_
        rintro e w2 ⟨rfl, bel2⟩
        have hz2 := (bel2.block _ (by omega)).trans HZ.out
        have belb := bel.trans (bel2.mono (by omega))
        obtain ⟨⟨q0, q1, q2, q3, q4, q5⟩, f0, f1, f2, f3, f4, f5⟩ := cells6 hz2
        have R0 := Lib.hid hz2
        clear hz2 bel bel2 hb hcx hgl hzl
        go_wp2
        have R4 := put6 (x := .int .u8 0) (y := .int .u8 0) (z := .int .u8 0) (u := .int .u8 0) (v := .int .u8 0) (t := .int .u8 0) R0.out
        obtain ⟨⟨k0, k1, k2, k3, k4, k5⟩, _⟩ := cells6 R4
        clear R4
        exact bodyPost_ret (v := .tuple #[mac0, .int .i64 9]) (by simp [results, Tryd.results84, go_sem, mac0, k0, k1, k2, k3, k4, k5]) rfl ⟨.inr ⟨NO.out, rfl⟩, (((((belb.setCell (Nat.le_refl _) _).setCell (Nat.le_refl _) _).setCell (Nat.le_refl _) _).setCell (Nat.le_refl _) _).setCell (Nat.le_refl _) _).setCell (Nat.le_refl _) _⟩
    · obtain rfl : k = 6 := by omega
      have YES : Hid (macOk s.data.toList ∧ macBs s.data.toList 6 = [byteOf (hpI p0), byteOf (hpI p1), byteOf (hpI p2), byteOf (hpI p3), byteOf (hpI p4), byteOf (hpI p5)]) := Lib.hid (by
        have hall := HALL.out
        rw [hls.out] at hall
        exact mac_of_pieces H6.out (hall 0 (by omega)) (hall 1 (by omega)) (hall 2 (by omega)) (hall 3 (by omega)) (hall 4 (by omega)) (hall 5 (by omega)))
      have hb6 := hb
      rw [hls.out, mBs_six] at hb6
      generalize byteOf (hpI p0) = b0 at *
      generalize byteOf (hpI p1) = b1 at *
      generalize byteOf (hpI p2) = b2 at *
      generalize byteOf (hpI p3) = b3 at *
      generalize byteOf (hpI p4) = b4 at *
      generalize byteOf (hpI p5) = b5 at *
      obtain ⟨c0, _⟩ := hb6.cell 0 (by simp)
      obtain ⟨c1, _⟩ := hb6.cell 1 (by simp)
      obtain ⟨c2, _⟩ := hb6.cell 2 (by simp)
      obtain ⟨c3, _⟩ := hb6.cell 3 (by simp)
      obtain ⟨c4, _⟩ := hb6.cell 4 (by simp)
      obtain ⟨c5, _⟩ := hb6.cell 5 (by simp)
      simp only [List.getElem_cons_zero, List.getElem_cons_succ] at c0 c1 c2 c3 c4 c5
      obtain ⟨⟨q0, q1, q2, q3, q4, q5⟩, f0, f1, f2, f3, f4, f5⟩ := cells6 HZ.out
      clear hb hb6 HALL hgl hzl
      go_wp2
      have R4 := put6 (x := .int .u8 (b0.toNat : Int)) (y := .int .u8 (b1.toNat : Int)) (z := .int .u8 (b2.toNat : Int)) (u := .int .u8 (b3.toNat : Int)) (v := .int .u8 (b4.toNat : Int)) (t := .int .u8 (b5.toNat : Int)) HZ.out
      obtain ⟨⟨k0', k1', k2', k3', k4', k5'⟩, _⟩ := cells6 R4
      clear R4
      refine bodyPost_ret (v := .tuple #[.agg #[.int .u8 (b0.toNat : Int), .int .u8 (b1.toNat : Int), .int .u8 (b2.toNat : Int), .int .u8 (b3.toNat : Int), .int .u8 (b4.toNat : Int), .int .u8 (b5.toNat : Int)], .int .i64 0]) (by simp [results, Tryd.results84, go_sem, k0', k1', k2', k3', k4', k5']) rfl ⟨.inl ⟨YES.out.1, ?_⟩, (((((bel.setCell (Nat.le_refl _) _).setCell (Nat.le_refl _) _).setCell (Nat.le_refl _) _).setCell (Nat.le_refl _) _).setCell (Nat.le_refl _) _).setCell (Nat.le_refl _) _⟩
      rw [YES.out.2]; rfl

theorem amac_any (s : ByteArray) (w : World) (hs : s.size ≤ 140737488355328) : Calls Tryd.prog 84 #[.string s] w (AMacPost s.data.toList w) := by
  match hm : cutF 58 s.data.toList with
  | [p0, p1, p2, p3, p4, p5] => exact amac_six s w hs p0 p1 p2 p3 p4 p5 hm
  | [] | [_] | [_, _] | [_, _, _] | [_, _, _, _] | [_, _, _, _, _] | _ :: _ :: _ :: _ :: _ :: _ :: _ :: _ => exact amac_pieces s w hs (by rw [hm]; simp)
open Go.RowKit

theorem be_abcd (a b c d : UInt8) : be [a, b, c, d] = a.toNat * 16777216 + b.toNat * 65536 + c.toNat * 256 + d.toNat := by
  simp [be]; omega
theorem adr_be (a b c d : UInt8) : adr (be [a, b, c, d]) = .agg #[.int .u8 (a.toNat : Int), .int .u8 (b.toNat : Int), .int .u8 (c.toNat : Int), .int .u8 (d.toNat : Int)] := by
  have := a.toNat_lt; have := b.toNat_lt; have := c.toNat_lt; have := d.toNat_lt
  rw [be_abcd]
  unfold adr
  have e1 : ((a.toNat * 16777216 + b.toNat * 65536 + c.toNat * 256 + d.toNat : Nat) : Int) / 16777216 = a.toNat := by omega
  have e2 : ((a.toNat * 16777216 + b.toNat * 65536 + c.toNat * 256 + d.toNat : Nat) : Int) / 65536 % 256 = b.toNat := by omega
  have e3 : ((a.toNat * 16777216 + b.toNat * 65536 + c.toNat * 256 + d.toNat : Nat) : Int) / 256 % 256 = c.toNat := by omega
  have e4 : ((a.toNat * 16777216 + b.toNat * 65536 + c.toNat * 256 + d.toNat : Nat) : Int) % 256 = d.toNat := by omega
  rw [e1, e2, e3, e4]
theorem be_inj (a b c d a' b' c' d' : UInt8) : be [a, b, c, d] = be [a', b', c', d'] ↔ [a, b, c, d] = [a', b', c', d'] := by
  have := a.toNat_lt; have := b.toNat_lt; have := c.toNat_lt; have := d.toNat_lt
  have := a'.toNat_lt; have := b'.toNat_lt; have := c'.toNat_lt; have := d'.toNat_lt
  rw [be_abcd, be_abcd]
  constructor
  · intro h
    have e1 : a = a' := UInt8.toNat_inj.1 (by omega)
    have e2 : b = b' := UInt8.toNat_inj.1 (by omega)
    have e3 : c = c' := UInt8.toNat_inj.1 (by omega)
    have e4 : d = d' := UInt8.toNat_inj.1 (by omega)
    rw [e1, e2, e3, e4]
  · intro h
    simp only [List.cons.injEq, and_true] at h
    rw [h.1, h.2.1, h.2.2.1, h.2.2.2]
/-- Every number below 2^32 is four bytes'. -/
theorem be_onto (n : Nat) (h : n < 4294967296) : ∃ a b c d : UInt8, n = be [a, b, c, d] := by
  refine ⟨UInt8.ofNat (n / 16777216), UInt8.ofNat (n / 65536), UInt8.ofNat (n / 256), UInt8.ofNat n, ?_⟩
  rw [be_abcd, UInt8.toNat_ofNat', UInt8.toNat_ofNat', UInt8.toNat_ofNat', UInt8.toNat_ofNat']
  omega

theorem eql_adr (n k : Nat) (hn : n < 4294967296) (hk : k < 4294967296) (w : World) : (binOp .eql 24 (adr n) (adr k)).run Tryd.prog w = .ok (.bool (n == k)) w := by
  obtain ⟨a, b, c, d, rfl⟩ := be_onto n hn
  obtain ⟨a', b', c', d', rfl⟩ := be_onto k hk
  rw [adr_be, adr_be]
  have h := run_eql_bytes (P := Tryd.prog) w 24 5 4 (by kernel_rfl) (by kernel_rfl) (fun w => by kernel_rfl) [a, b, c, d] [a', b', c', d'] rfl rfl
  have e : (be [a, b, c, d] == be [a', b', c', d']) = ([a, b, c, d] == [a', b', c', d']) := by
    rw [Bool.eq_iff_iff, beq_iff_eq, beq_iff_eq]; exact be_inj ..
  rw [e]
  exact h
theorem neq_adr (n k : Nat) (hn : n < 4294967296) (hk : k < 4294967296) (w : World) : (binOp .neq 24 (adr n) (adr k)).run Tryd.prog w = .ok (.bool (!(n == k))) w := by
  have h := eql_adr n k hn hk w
  unfold adr at h ⊢
  rw [run_eql_struct] at h
  rw [run_neq_struct]
  revert h
  generalize (Op.equalIn 10000 24 (.agg #[.int .u8 ((n : Int) / 16777216), .int .u8 ((n : Int) / 65536 % 256), .int .u8 ((n : Int) / 256 % 256), .int .u8 ((n : Int) % 256)]) (.agg #[.int .u8 ((k : Int) / 16777216), .int .u8 ((k : Int) / 65536 % 256), .int .u8 ((k : Int) / 256 % 256), .int .u8 ((k : Int) % 256)])).run Tryd.prog w = r
  intro h
  cases r <;> simp_all [Result.andThen]
theorem guard_adr (op : BinOp) (x y : Operand) (n k : Nat) (w : World) : (eqGuard op 24 x y (adr n) (adr k)).run Tryd.prog w = .ok () w := by
  unfold adr; exact run_eqGuard_agg w op 24 x y _ _ (by kernel_rfl)
open Go.RowKit

/-- A net as a value. -/
def netV (a b c d : UInt8) (n : Int) : Value := .agg #[.int .u8 (a.toNat : Int), .int .u8 (b.toNat : Int), .int .u8 (c.toNat : Int), .int .u8 (d.toNat : Int), .int .i64 n]
theorem cells5 {w : World} {k : Nat} {a b c d e : Value} {T : TypeId} (h : w.heap[k]? = some (.cells #[a, b, c, d, e] T (0, 0))) :
    (w.cell? ⟨k, 0, none⟩ = some a ∧ w.cell? ⟨k, 1, none⟩ = some b ∧ w.cell? ⟨k, 2, none⟩ = some c ∧ w.cell? ⟨k, 3, none⟩ = some d ∧ w.cell? ⟨k, 4, none⟩ = some e) ∧
    (w.frozen? ⟨k, 0, none⟩ = false ∧ w.frozen? ⟨k, 1, none⟩ = false ∧ w.frozen? ⟨k, 2, none⟩ = false ∧ w.frozen? ⟨k, 3, none⟩ = false ∧ w.frozen? ⟨k, 4, none⟩ = false) := by
  simp [World.cell?, World.frozen?, h]
/-- What ParseNet answers. -/
def netE (l : List UInt8) : Int :=
  if splitOk l = false then 9 else if firstN (be [(splitA l).1, (splitA l).2.1, (splitA l).2.2.1, (splitA l).2.2.2]) (clamp (splitN l)) = be [(splitA l).1, (splitA l).2.1, (splitA l).2.2.1, (splitA l).2.2.2] then 0 else 1
def netA (l : List UInt8) : UInt8 × UInt8 × UInt8 × UInt8 := if netE l = 0 then splitA l else (0, 0, 0, 0)
def netN (l : List UInt8) : Int := if netE l = 0 then splitN l else 0
open Go.RowKit

set_option maxHeartbeats 4000000 in
theorem rhas_any (a b c d a2 b2 c2 d2 : UInt8) (bt : Int) (w : World) :
    Calls Tryd.prog 66 #[.agg #[.int .u8 (a.toNat : Int), .int .u8 (b.toNat : Int), .int .u8 (c.toNat : Int), .int .u8 (d.toNat : Int), .int .i64 bt], .agg #[.int .u8 (a2.toNat : Int), .int .u8 (b2.toNat : Int), .int .u8 (c2.toNat : Int), .int .u8 (d2.toNat : Int)]] w fun e w' => e = .returned (.bool (firstN (be [a, b, c, d]) (clamp bt) == firstN (be [a2, b2, c2, d2]) (clamp bt))) ∧ Below w.heap.size w w' := by
  have h1 := be_four_lt a b c d
  have h2 := be_four_lt a2 b2 c2 d2
  have l1 := firstN_le (be [a, b, c, d]) (clamp bt)
  have l2 := firstN_le (be [a2, b2, c2, d2]) (clamp bt)
  have heq := fun W => eql_adr (firstN (be [a, b, c, d]) (clamp bt)) (firstN (be [a2, b2, c2, d2]) (clamp bt)) (by omega) (by omega) W
  have hgd := fun op x y W => guard_adr op x y (firstN (be [a, b, c, d]) (clamp bt)) (firstN (be [a2, b2, c2, d2]) (clamp bt)) W
  have HF1 := Lib.hid fun W => rfirst_any a b c d bt W
  have HF2 := Lib.hid fun W => rfirst_any a2 b2 c2 d2 bt W
  generalize adr (firstN (be [a, b, c, d]) (clamp bt)) = f1 at *
  generalize adr (firstN (be [a2, b2, c2, d2]) (clamp bt)) = f2 at *
  generalize (firstN (be [a, b, c, d]) (clamp bt) == firstN (be [a2, b2, c2, d2]) (clamp bt)) = res at *
  clear h1 h2 l1 l2
  have hb1 : ((w.alloc (.cells #[.int .u8 (a.toNat : Int), .int .u8 (b.toNat : Int), .int .u8 (c.toNat : Int), .int .u8 (d.toNat : Int), .int .i64 bt] 40)).alloc (.cells #[.int .u8 (a2.toNat : Int), .int .u8 (b2.toNat : Int), .int .u8 (c2.toNat : Int), .int .u8 (d2.toNat : Int)] 24)).heap[w.heap.size + 1]? = some (.cells #[.int .u8 (a2.toNat : Int), .int .u8 (b2.toNat : Int), .int .u8 (c2.toNat : Int), .int .u8 (d2.toNat : Int)] 24 (0, 0)) := by have := heap_alloc_new (w.alloc (.cells #[.int .u8 (a.toNat : Int), .int .u8 (b.toNat : Int), .int .u8 (c.toNat : Int), .int .u8 (d.toNat : Int), .int .i64 bt] 40)) (.cells #[.int .u8 (a2.toNat : Int), .int .u8 (b2.toNat : Int), .int .u8 (c2.toNat : Int), .int .u8 (d2.toNat : Int)] 24); simpa using this
  have hb0 : ((w.alloc (.cells #[.int .u8 (a.toNat : Int), .int .u8 (b.toNat : Int), .int .u8 (c.toNat : Int), .int .u8 (d.toNat : Int), .int .i64 bt] 40)).alloc (.cells #[.int .u8 (a2.toNat : Int), .int .u8 (b2.toNat : Int), .int .u8 (c2.toNat : Int), .int .u8 (d2.toNat : Int)] 24)).heap[w.heap.size]? = some (.cells #[.int .u8 (a.toNat : Int), .int .u8 (b.toNat : Int), .int .u8 (c.toNat : Int), .int .u8 (d.toNat : Int), .int .i64 bt] 40 (0, 0)) := (Go.heap_alloc_old (w.alloc (.cells #[.int .u8 (a.toNat : Int), .int .u8 (b.toNat : Int), .int .u8 (c.toNat : Int), .int .u8 (d.toNat : Int), .int .i64 bt] 40)) (.cells #[.int .u8 (a2.toNat : Int), .int .u8 (b2.toNat : Int), .int .u8 (c2.toNat : Int), .int .u8 (d2.toNat : Int)] 24) (r := w.heap.size) (by simp)).trans (heap_alloc_new w _)
  have bel : Below w.heap.size w ((w.alloc (.cells #[.int .u8 (a.toNat : Int), .int .u8 (b.toNat : Int), .int .u8 (c.toNat : Int), .int .u8 (d.toNat : Int), .int .i64 bt] 40)).alloc (.cells #[.int .u8 (a2.toNat : Int), .int .u8 (b2.toNat : Int), .int .u8 (c2.toNat : Int), .int .u8 (d2.toNat : Int)] 24)) := ((Below.refl _ w).alloc (Nat.le_refl _) _).alloc (by simp) _
  have hz0 : w.heap.size < ((w.alloc (.cells #[.int .u8 (a.toNat : Int), .int .u8 (b.toNat : Int), .int .u8 (c.toNat : Int), .int .u8 (d.toNat : Int), .int .i64 bt] 40)).alloc (.cells #[.int .u8 (a2.toNat : Int), .int .u8 (b2.toNat : Int), .int .u8 (c2.toNat : Int), .int .u8 (d2.toNat : Int)] 24)).heap.size := by simp; omega
  have hz1 : w.heap.size + 1 < ((w.alloc (.cells #[.int .u8 (a.toNat : Int), .int .u8 (b.toNat : Int), .int .u8 (c.toNat : Int), .int .u8 (d.toNat : Int), .int .i64 bt] 40)).alloc (.cells #[.int .u8 (a2.toNat : Int), .int .u8 (b2.toNat : Int), .int .u8 (c2.toNat : Int), .int .u8 (d2.toNat : Int)] 24)).heap.size := by simp
  obtain ⟨⟨s0, s1, s2, s3, s4⟩, _⟩ := cells5 hb0
  obtain ⟨⟨s5, s6, s7, s8⟩, _⟩ := cells4 hb1
  clear hb0 hb1
  go_enter Tryd.func66, Tryd.ntmps66
  go_wp2_with fail
  generalize ((w.alloc (.cells #[.int .u8 (a.toNat : Int), .int .u8 (b.toNat : Int), .int .u8 (c.toNat : Int), .int .u8 (d.toNat : Int), .int .i64 bt] 40)).alloc (.cells #[.int .u8 (a2.toNat : Int), .int .u8 (b2.toNat : Int), .int .u8 (c2.toNat : Int), .int .u8 (d2.toNat : Int)] 24)) = w2 at s0 s1 s2 s3 s4 s5 s6 s7 s8 bel hz0 hz1 ⊢
  refine wp_region_held_drew (S := fun W => W.cell? ⟨w.heap.size, 0, none⟩ = some (.int .u8 (a.toNat : Int)) ∧ W.cell? ⟨w.heap.size, 1, none⟩ = some (.int .u8 (b.toNat : Int)) ∧ W.cell? ⟨w.heap.size, 2, none⟩ = some (.int .u8 (c.toNat : Int)) ∧ W.cell? ⟨w.heap.size, 3, none⟩ = some (.int .u8 (d.toNat : Int)) ∧ W.cell? ⟨w.heap.size, 4, none⟩ = some (.int .i64 bt) ∧ W.cell? ⟨w.heap.size + 1, 0, none⟩ = some (.int .u8 (a2.toNat : Int)) ∧ W.cell? ⟨w.heap.size + 1, 1, none⟩ = some (.int .u8 (b2.toNat : Int)) ∧ W.cell? ⟨w.heap.size + 1, 2, none⟩ = some (.int .u8 (c2.toNat : Int)) ∧ W.cell? ⟨w.heap.size + 1, 3, none⟩ = some (.int .u8 (d2.toNat : Int))) (by kernel_rfl) ⟨s0, s1, s2, s3, s4, s5, s6, s7, s8⟩ (fun hH => ?_)
  refine wpAnyH_take (i := 0) (v := ?_) rfl (by kernel_rfl) (by kernel_rfl) (by kernel_rfl) (fun _ _ _ h => h) (Or.inl ⟨by rfl, ?_⟩) hH ?_
  rotate_left
  · ((intro W hW; obtain ⟨s0, s1, s2, s3, s4, s5, s6, s7, s8⟩ := hW; go_simp) <;> with_reducible rfl)
  simp only [Act.put, List.getElem_toArray, List.getElem_cons_zero, List.setIfInBounds_toArray, List.set_cons_zero, List.set_cons_succ]
  refine wpAnyH_take (i := 2) (v := ?_) rfl (by kernel_rfl) (by kernel_rfl) (by kernel_rfl) (fun _ _ _ h => h) (Or.inl ⟨by rfl, ?_⟩) hH ?_
  rotate_left
  · ((intro W hW; obtain ⟨s0, s1, s2, s3, s4, s5, s6, s7, s8⟩ := hW; go_simp) <;> with_reducible rfl)
  simp only [Act.put, List.getElem_toArray, List.getElem_cons_zero, List.getElem_cons_succ, List.setIfInBounds_toArray, List.set_cons_zero, List.set_cons_succ]
  refine wpAnyH_take (i := 3) (v := ?_) rfl (by kernel_rfl) (by kernel_rfl) (by kernel_rfl) (fun _ _ _ h => h) (Or.inl ⟨by rfl, ?_⟩) hH ?_
  rotate_left
  · ((intro W hW; obtain ⟨s0, s1, s2, s3, s4, s5, s6, s7, s8⟩ := hW; go_simp) <;> with_reducible rfl)
  simp only [Act.put, List.getElem_toArray, List.getElem_cons_zero, List.getElem_cons_succ, List.setIfInBounds_toArray, List.set_cons_zero, List.set_cons_succ]
  refine wpAnyH_take (i := 4) (v := ?_) rfl (by kernel_rfl) (by kernel_rfl) (by kernel_rfl) (fun _ _ _ h => h) (Or.inl ⟨by rfl, ?_⟩) hH ?_
  rotate_left
  · ((intro W hW; obtain ⟨s0, s1, s2, s3, s4, s5, s6, s7, s8⟩ := hW; go_simp) <;> with_reducible rfl)
  simp only [Act.put, List.getElem_toArray, List.getElem_cons_zero, List.getElem_cons_succ, List.setIfInBounds_toArray, List.set_cons_zero, List.set_cons_succ]
  refine wpAnyH_take (i := 5) (v := ?_) rfl (by kernel_rfl) (by kernel_rfl) (by kernel_rfl) (fun _ _ _ h => h) (Or.inl ⟨by rfl, ?_⟩) hH ?_
  rotate_left
  · ((intro W hW; obtain ⟨s0, s1, s2, s3, s4, s5, s6, s7, s8⟩ := hW; go_simp) <;> with_reducible rfl)
  simp only [Act.put, List.getElem_toArray, List.getElem_cons_zero, List.getElem_cons_succ, List.setIfInBounds_toArray, List.set_cons_zero, List.set_cons_succ]
  refine wpAnyH_ready (rs := [1]) (by kernel_rfl) (by simp) ?_
  refine AllReadyH.cons (o := _) rfl (fun K hK => ?_) AllReadyH.nil
  simp only [List.getElem_toArray, List.getElem_cons_zero, List.getElem_cons_succ]
  go_simp
  refine (HF1.out _).mono ?_
  rintro e w3 ⟨rfl, b3⟩
  dsimp only
  have bel3 := bel.drew.trans (b3.mono bel.size)
  refine hK.out _ _ ⟨(b3.cell (p := ⟨_, 0, none⟩) hz0).trans hH.1, (b3.cell (p := ⟨_, 1, none⟩) hz0).trans hH.2.1, (b3.cell (p := ⟨_, 2, none⟩) hz0).trans hH.2.2.1, (b3.cell (p := ⟨_, 3, none⟩) hz0).trans hH.2.2.2.1, (b3.cell (p := ⟨_, 4, none⟩) hz0).trans hH.2.2.2.2.1, (b3.cell (p := ⟨_, 0, none⟩) hz1).trans hH.2.2.2.2.2.1, (b3.cell (p := ⟨_, 1, none⟩) hz1).trans hH.2.2.2.2.2.2.1, (b3.cell (p := ⟨_, 2, none⟩) hz1).trans hH.2.2.2.2.2.2.2.1, (b3.cell (p := ⟨_, 3, none⟩) hz1).trans hH.2.2.2.2.2.2.2.2⟩ (fun hH3 => ?_)
  clear hK K
  have hz0 := Nat.lt_of_lt_of_le hz0 b3.size
  have hz1 := Nat.lt_of_lt_of_le hz1 b3.size
  refine wpAnyH_ready (rs := [6]) (by kernel_rfl) (by simp) ?_
  refine AllReadyH.cons (o := _) rfl (fun K hK => ?_) AllReadyH.nil
  simp only [List.getElem_toArray, List.getElem_cons_zero, List.getElem_cons_succ]
  go_simp
  refine (HF2.out _).mono ?_
  rintro e w4 ⟨rfl, b4⟩
  dsimp only
  have bel4 := bel3.trans (b4.mono bel3.size)
  refine hK.out _ _ ⟨(b4.cell (p := ⟨_, 0, none⟩) hz0).trans hH3.1, (b4.cell (p := ⟨_, 1, none⟩) hz0).trans hH3.2.1, (b4.cell (p := ⟨_, 2, none⟩) hz0).trans hH3.2.2.1, (b4.cell (p := ⟨_, 3, none⟩) hz0).trans hH3.2.2.2.1, (b4.cell (p := ⟨_, 4, none⟩) hz0).trans hH3.2.2.2.2.1, (b4.cell (p := ⟨_, 0, none⟩) hz1).trans hH3.2.2.2.2.2.1, (b4.cell (p := ⟨_, 1, none⟩) hz1).trans hH3.2.2.2.2.2.2.1, (b4.cell (p := ⟨_, 2, none⟩) hz1).trans hH3.2.2.2.2.2.2.2.1, (b4.cell (p := ⟨_, 3, none⟩) hz1).trans hH3.2.2.2.2.2.2.2.2⟩ (fun hH4 => ?_)
  clear hK K
  refine wpAnyH_take (i := 7) (v := ?_) rfl (by kernel_rfl) (by kernel_rfl) (by kernel_rfl) (fun _ _ _ h => h) (Or.inl ⟨by rfl, ?_⟩) hH4 ?_
  rotate_left
  · ((intro w hw; clear hw; go_simp) <;> with_reducible rfl)
  simp only [Act.put, List.getElem_toArray, List.getElem_cons_zero, List.getElem_cons_succ, List.setIfInBounds_toArray, List.set_cons_zero, List.set_cons_succ]
  refine wpAnyH_take (i := 8) (v := ?_) rfl (by kernel_rfl) (by kernel_rfl) (by kernel_rfl) (fun _ _ _ h => h) (Or.inl ⟨by rfl, ?_⟩) hH4 ?_
  rotate_left
  · ((intro w hw; clear hw; go_simp) <;> with_reducible rfl)
  simp only [Act.put, List.getElem_toArray, List.getElem_cons_zero, List.getElem_cons_succ, List.setIfInBounds_toArray, List.set_cons_zero, List.set_cons_succ]
  refine wpAnyH_done (by kernel_rfl) ?_ _
  go_wp2
  go_ret
  exact ⟨rfl, bel4⟩
open Go.RowKit

structure Ad4 where
  (a b c d : UInt8)
structure Mc6 where
  (a b c d e f : UInt8)
def Ad4.num (x : Ad4) : Nat := be [x.a, x.b, x.c, x.d]
theorem Ad4.lt (x : Ad4) : x.num < 4294967296 := be_four_lt _ _ _ _
theorem Ad4.cells (x : Ad4) : adr x.num = .agg #[.int .u8 (x.a.toNat : Int), .int .u8 (x.b.toNat : Int), .int .u8 (x.c.toNat : Int), .int .u8 (x.d.toNat : Int)] := adr_be _ _ _ _
structure Cf where
  (own lan : Ad4)
  bits : Int
  (lanmac wanmac : Mc6)
  (first last : Ad4)
  time : Int
  dns : Ad4
  (udp tcp icmp low : Int)
  fixed : List (Mc6 × Ad4)
  opens : List (Int × Int × Ad4 × Int)
/-- The first and the last address of a configuration's net; an address of it, neither of them. -/
def Cf.fst (c : Cf) : Nat := firstN c.lan.num (clamp c.bits)
def Cf.lst (c : Cf) : Nat := lastN c.lan.num (clamp c.bits)
def Cf.has (c : Cf) (x : Ad4) : Bool := c.fst == firstN x.num (clamp c.bits)
def Cf.inner (c : Cf) (x : Ad4) : Bool := c.has x && (!(x.num == c.fst) && !(x.num == c.lst))
theorem Cf.fst_lt (c : Cf) : c.fst < 4294967296 := Nat.lt_of_le_of_lt (firstN_le _ _) c.lan.lt
theorem Cf.lst_lt (c : Cf) : c.lst < 4294967296 := lastN_lt _ _ (clamp_le _) c.lan.lt
theorem ad_eql (x : Ad4) (n : Nat) (hn : n < 4294967296) (W : World) : (binOp .eql 24 (.agg #[.int .u8 (x.a.toNat : Int), .int .u8 (x.b.toNat : Int), .int .u8 (x.c.toNat : Int), .int .u8 (x.d.toNat : Int)]) (adr n)).run Tryd.prog W = .ok (.bool (x.num == n)) W := by
  rw [← x.cells]; exact eql_adr _ _ x.lt hn W
theorem ad_neq (x : Ad4) (n : Nat) (hn : n < 4294967296) (W : World) : (binOp .neq 24 (.agg #[.int .u8 (x.a.toNat : Int), .int .u8 (x.b.toNat : Int), .int .u8 (x.c.toNat : Int), .int .u8 (x.d.toNat : Int)]) (adr n)).run Tryd.prog W = .ok (.bool (!(x.num == n))) W := by
  rw [← x.cells]; exact neq_adr _ _ x.lt hn W
theorem ad_guard (op : BinOp) (y z : Operand) (x : Array Value) (n : Nat) (W : World) : (eqGuard op 24 y z (.agg x) (adr n)).run Tryd.prog W = .ok () W := by
  unfold adr; exact run_eqGuard_agg W op 24 y z _ _ (by kernel_rfl)
set_option linter.unusedVariables false in
set_option maxRecDepth 100000 in
set_option maxHeartbeats 16000000 in
theorem inner_any (c : Cf) (x : Ad4) (Fx : Option Addr) (nf cf : Nat) (Ox : Option Addr) (nx cx : Nat) (w : World) : Calls Tryd.prog 40 #[.agg #[.int .u8 (c.own.a.toNat : Int), .int .u8 (c.own.b.toNat : Int), .int .u8 (c.own.c.toNat : Int), .int .u8 (c.own.d.toNat : Int), .int .u8 (c.lan.a.toNat : Int), .int .u8 (c.lan.b.toNat : Int), .int .u8 (c.lan.c.toNat : Int), .int .u8 (c.lan.d.toNat : Int), .int .i64 c.bits, .int .u8 (c.lanmac.a.toNat : Int), .int .u8 (c.lanmac.b.toNat : Int), .int .u8 (c.lanmac.c.toNat : Int), .int .u8 (c.lanmac.d.toNat : Int), .int .u8 (c.lanmac.e.toNat : Int), .int .u8 (c.lanmac.f.toNat : Int), .int .u8 (c.wanmac.a.toNat : Int), .int .u8 (c.wanmac.b.toNat : Int), .int .u8 (c.wanmac.c.toNat : Int), .int .u8 (c.wanmac.d.toNat : Int), .int .u8 (c.wanmac.e.toNat : Int), .int .u8 (c.wanmac.f.toNat : Int), .int .u8 (c.first.a.toNat : Int), .int .u8 (c.first.b.toNat : Int), .int .u8 (c.first.c.toNat : Int), .int .u8 (c.first.d.toNat : Int), .int .u8 (c.last.a.toNat : Int), .int .u8 (c.last.b.toNat : Int), .int .u8 (c.last.c.toNat : Int), .int .u8 (c.last.d.toNat : Int), .int .i64 c.time, .int .u8 (c.dns.a.toNat : Int), .int .u8 (c.dns.b.toNat : Int), .int .u8 (c.dns.c.toNat : Int), .int .u8 (c.dns.d.toNat : Int), .int .i64 c.udp, .int .i64 c.tcp, .int .i64 c.icmp, .int .i64 c.low, .slice Fx nf cf, .slice Ox nx cx], .agg #[.int .u8 (x.a.toNat : Int), .int .u8 (x.b.toNat : Int), .int .u8 (x.c.toNat : Int), .int .u8 (x.d.toNat : Int)]] w fun e w' => e = .returned (.bool (c.inner x)) ∧ Below w.heap.size w w' := by
  have gd := ad_guard
  have bel := Below.refl w.heap.size w
  go_enter Tryd.func40, Tryd.ntmps40
  go_wp2_with (first | ((with_reducible show wpList _ _ _ (⟨some 2, _, _, _, _, _⟩ :: _) _ _); refine wpList_box_n rfl 44 (.tmp 0) rfl #[.int .u8 (c.own.a.toNat : Int), .int .u8 (c.own.b.toNat : Int), .int .u8 (c.own.c.toNat : Int), .int .u8 (c.own.d.toNat : Int), .int .u8 (c.lan.a.toNat : Int), .int .u8 (c.lan.b.toNat : Int), .int .u8 (c.lan.c.toNat : Int), .int .u8 (c.lan.d.toNat : Int), .int .i64 c.bits, .int .u8 (c.lanmac.a.toNat : Int), .int .u8 (c.lanmac.b.toNat : Int), .int .u8 (c.lanmac.c.toNat : Int), .int .u8 (c.lanmac.d.toNat : Int), .int .u8 (c.lanmac.e.toNat : Int), .int .u8 (c.lanmac.f.toNat : Int), .int .u8 (c.wanmac.a.toNat : Int), .int .u8 (c.wanmac.b.toNat : Int), .int .u8 (c.wanmac.c.toNat : Int), .int .u8 (c.wanmac.d.toNat : Int), .int .u8 (c.wanmac.e.toNat : Int), .int .u8 (c.wanmac.f.toNat : Int), .int .u8 (c.first.a.toNat : Int), .int .u8 (c.first.b.toNat : Int), .int .u8 (c.first.c.toNat : Int), .int .u8 (c.first.d.toNat : Int), .int .u8 (c.last.a.toNat : Int), .int .u8 (c.last.b.toNat : Int), .int .u8 (c.last.c.toNat : Int), .int .u8 (c.last.d.toNat : Int), .int .i64 c.time, .int .u8 (c.dns.a.toNat : Int), .int .u8 (c.dns.b.toNat : Int), .int .u8 (c.dns.c.toNat : Int), .int .u8 (c.dns.d.toNat : Int), .int .i64 c.udp, .int .i64 c.tcp, .int .i64 c.icmp, .int .i64 c.low, .slice Fx nf cf, .slice Ox nx cx] rfl ?_; intro g2 w1 ge lt hh bb; have op := Nat.le_trans bel.size ge; replace bel := bel.trans (bb.mono bel.size); have hp := hh; clear hh lt ge bb) | ((with_reducible show wpList _ _ _ (⟨some 3, _, _, _, _, _⟩ :: _) _ _); refine wpList_box_n rfl 24 (.tmp 1) rfl #[.int .u8 (x.a.toNat : Int), .int .u8 (x.b.toNat : Int), .int .u8 (x.c.toNat : Int), .int .u8 (x.d.toNat : Int)] rfl ?_; intro g3 w2 ge lt hh bb; have d_p_y := ne_new (hlt hp) ge; have oy := Nat.le_trans bel.size ge; replace hp := blk_u hp bb; replace bel := bel.trans (bb.mono bel.size); have hy := hh; clear hh lt ge bb))
  replace bel := bel.drew
  replace hp : w2.drew.heap[g2]? = _ := hp
  replace hy : w2.drew.heap[g3]? = _ := hy
  refine wp_region_held_drew (S := fun W => W.heap[g2]? = some (.cells #[.int .u8 (c.own.a.toNat : Int), .int .u8 (c.own.b.toNat : Int), .int .u8 (c.own.c.toNat : Int), .int .u8 (c.own.d.toNat : Int), .int .u8 (c.lan.a.toNat : Int), .int .u8 (c.lan.b.toNat : Int), .int .u8 (c.lan.c.toNat : Int), .int .u8 (c.lan.d.toNat : Int), .int .i64 c.bits, .int .u8 (c.lanmac.a.toNat : Int), .int .u8 (c.lanmac.b.toNat : Int), .int .u8 (c.lanmac.c.toNat : Int), .int .u8 (c.lanmac.d.toNat : Int), .int .u8 (c.lanmac.e.toNat : Int), .int .u8 (c.lanmac.f.toNat : Int), .int .u8 (c.wanmac.a.toNat : Int), .int .u8 (c.wanmac.b.toNat : Int), .int .u8 (c.wanmac.c.toNat : Int), .int .u8 (c.wanmac.d.toNat : Int), .int .u8 (c.wanmac.e.toNat : Int), .int .u8 (c.wanmac.f.toNat : Int), .int .u8 (c.first.a.toNat : Int), .int .u8 (c.first.b.toNat : Int), .int .u8 (c.first.c.toNat : Int), .int .u8 (c.first.d.toNat : Int), .int .u8 (c.last.a.toNat : Int), .int .u8 (c.last.b.toNat : Int), .int .u8 (c.last.c.toNat : Int), .int .u8 (c.last.d.toNat : Int), .int .i64 c.time, .int .u8 (c.dns.a.toNat : Int), .int .u8 (c.dns.b.toNat : Int), .int .u8 (c.dns.c.toNat : Int), .int .u8 (c.dns.d.toNat : Int), .int .i64 c.udp, .int .i64 c.tcp, .int .i64 c.icmp, .int .i64 c.low, .slice Fx nf cf, .slice Ox nx cx] 44 (0, 0)) ∧ W.heap[g3]? = some (.cells #[.int .u8 (x.a.toNat : Int), .int .u8 (x.b.toNat : Int), .int .u8 (x.c.toNat : Int), .int .u8 (x.d.toNat : Int)] 24 (0, 0))) (by kernel_rfl) ⟨hp, hy⟩ (fun hH => ?_)
  generalize w2.drew = w3 at bel hp hy hH ⊢
  refine wpAnyH_take (i := 0) (v := ?_) rfl (by kernel_rfl) (by kernel_rfl) (by kernel_rfl) (fun _ _ _ h => h) (Or.inl ⟨by rfl, ?_⟩) hH ?_
  rotate_left
  · ((intro W hW; clear hW; go_simp) <;> with_reducible rfl)
  simp only [Act.put, List.getElem_toArray, List.getElem_cons_zero, List.setIfInBounds_toArray, List.set_cons_zero, List.set_cons_succ]
  refine wpAnyH_take (i := 1) (v := .agg #[.int .u8 (c.lan.a.toNat : Int), .int .u8 (c.lan.b.toNat : Int), .int .u8 (c.lan.c.toNat : Int), .int .u8 (c.lan.d.toNat : Int), .int .i64 c.bits]) rfl (by kernel_rfl) (by kernel_rfl) (by kernel_rfl) (fun _ _ _ h => h) (yieldsIf_load_part (by kernel_rfl) 40 _ rfl g2 4 5 rfl _ 44 (0, 0) (fun W hW => hW.1) _ rfl _ Tryd.underlying40 rfl (by kernel_rfl)) hH ?_
  simp only [Act.put, List.getElem_toArray, List.getElem_cons_zero, List.getElem_cons_succ, List.setIfInBounds_toArray, List.set_cons_zero, List.set_cons_succ]
  refine wpAnyH_take (i := 2) (v := .agg #[.int .u8 (x.a.toNat : Int), .int .u8 (x.b.toNat : Int), .int .u8 (x.c.toNat : Int), .int .u8 (x.d.toNat : Int)]) rfl (by kernel_rfl) (by kernel_rfl) (by kernel_rfl) (fun _ _ _ h => h) (yieldsIf_load_part (by kernel_rfl) 24 _ rfl g3 0 4 rfl _ 24 (0, 0) (fun W hW => hW.2) _ rfl _ Tryd.underlying24 rfl (by kernel_rfl)) hH ?_
  simp only [Act.put, List.getElem_toArray, List.getElem_cons_zero, List.getElem_cons_succ, List.setIfInBounds_toArray, List.set_cons_zero, List.set_cons_succ]
  refine wpAnyH_ready (rs := [3]) (by kernel_rfl) (by simp) ?_
  refine AllReadyH.cons (o := _) rfl (fun K hK => ?_) AllReadyH.nil
  simp only [List.getElem_toArray, List.getElem_cons_zero, List.getElem_cons_succ]
  go_simp
  with_reducible refine (rhas_any _ _ _ _ _ _ _ _ _ _).mono ?_
  rintro e w4 ⟨rfl, b4⟩
  dsimp only
  replace hp := blk_u hp b4
  replace hy := blk_u hy b4
  replace bel := bel.trans (b4.mono bel.size)
  clear b4
  obtain ⟨h1, hh1⟩ : ∃ b, c.has x = b := ⟨_, rfl⟩
  rw [show (firstN (be [c.lan.a, c.lan.b, c.lan.c, c.lan.d]) (clamp c.bits) == firstN (be [x.a, x.b, x.c, x.d]) (clamp c.bits)) = h1 from hh1]
  have HH1 := Lib.hid hh1
  clear hh1
  refine hK.out _ _ ⟨hp, hy⟩ (fun hH5 => ?_)
  clear hK K
  refine wpAnyH_take (i := 4) (v := ?_) rfl (by kernel_rfl) (by kernel_rfl) (by kernel_rfl) (fun _ _ _ h => h) (Or.inl ⟨by rfl, ?_⟩) hH5 ?_
  rotate_left
  · ((intro W hW; clear hW; go_simp) <;> with_reducible rfl)
  simp only [Act.put, List.getElem_toArray, List.getElem_cons_zero, List.getElem_cons_succ, List.setIfInBounds_toArray, List.set_cons_zero, List.set_cons_succ]
  rcases h1 with _ | _
  · have HP : Hid (c.inner x = false) := Lib.hid (by unfold Cf.inner; rw [HH1.out, Bool.false_and])
    refine wpAnyH_take (i := 5) (v := undef) rfl (by kernel_rfl) (by kernel_rfl) (by kernel_rfl) (fun _ _ _ h => h) (Or.inr ⟨by rfl, rfl⟩) hH5 ?_
    simp only [Act.put, List.getElem_toArray, List.getElem_cons_zero, List.getElem_cons_succ, List.setIfInBounds_toArray, List.set_cons_zero, List.set_cons_succ]
    refine wpAnyH_take (i := 6) (v := undef) rfl (by kernel_rfl) (by kernel_rfl) (by kernel_rfl) (fun _ _ _ h => h) (Or.inr ⟨by rfl, rfl⟩) hH5 ?_
    simp only [Act.put, List.getElem_toArray, List.getElem_cons_zero, List.getElem_cons_succ, List.setIfInBounds_toArray, List.set_cons_zero, List.set_cons_succ]
    refine wpAnyH_take (i := 7) (v := undef) rfl (by kernel_rfl) (by kernel_rfl) (by kernel_rfl) (fun _ _ _ h => h) (Or.inr ⟨by rfl, rfl⟩) hH5 ?_
    simp only [Act.put, List.getElem_toArray, List.getElem_cons_zero, List.getElem_cons_succ, List.setIfInBounds_toArray, List.set_cons_zero, List.set_cons_succ]
    refine wpAnyH_take (i := 8) (v := undef) rfl (by kernel_rfl) (by kernel_rfl) (by kernel_rfl) (fun _ _ _ h => h) (Or.inr ⟨by rfl, rfl⟩) hH5 ?_
    simp only [Act.put, List.getElem_toArray, List.getElem_cons_zero, List.getElem_cons_succ, List.setIfInBounds_toArray, List.set_cons_zero, List.set_cons_succ]
    refine wpAnyH_take (i := 9) (v := undef) rfl (by kernel_rfl) (by kernel_rfl) (by kernel_rfl) (fun _ _ _ h => h) (Or.inr ⟨by rfl, rfl⟩) hH5 ?_
    simp only [Act.put, List.getElem_toArray, List.getElem_cons_zero, List.getElem_cons_succ, List.setIfInBounds_toArray, List.set_cons_zero, List.set_cons_succ]
    refine wpAnyH_take (i := 10) (v := ?_) rfl (by kernel_rfl) (by kernel_rfl) (by kernel_rfl) (fun _ _ _ h => h) (Or.inl ⟨by rfl, ?_⟩) hH5 ?_
    rotate_left
    · ((intro W hW; clear hW; go_simp) <;> with_reducible rfl)
    simp only [Act.put, List.getElem_toArray, List.getElem_cons_zero, List.getElem_cons_succ, List.setIfInBounds_toArray, List.set_cons_zero, List.set_cons_succ]
    refine wpAnyH_take (i := 11) (v := ?_) rfl (by kernel_rfl) (by kernel_rfl) (by kernel_rfl) (fun _ _ _ h => h) (Or.inl ⟨by rfl, ?_⟩) hH5 ?_
    rotate_left
    · ((intro W hW; clear hW; go_simp) <;> with_reducible rfl)
    simp only [Act.put, List.getElem_toArray, List.getElem_cons_zero, List.getElem_cons_succ, List.setIfInBounds_toArray, List.set_cons_zero, List.set_cons_succ]
    refine wpAnyH_take (i := 12) (v := undef) rfl (by kernel_rfl) (by kernel_rfl) (by kernel_rfl) (fun _ _ _ h => h) (Or.inr ⟨by rfl, rfl⟩) hH5 ?_
    simp only [Act.put, List.getElem_toArray, List.getElem_cons_zero, List.getElem_cons_succ, List.setIfInBounds_toArray, List.set_cons_zero, List.set_cons_succ]
    refine wpAnyH_take (i := 13) (v := undef) rfl (by kernel_rfl) (by kernel_rfl) (by kernel_rfl) (fun _ _ _ h => h) (Or.inr ⟨by rfl, rfl⟩) hH5 ?_
    simp only [Act.put, List.getElem_toArray, List.getElem_cons_zero, List.getElem_cons_succ, List.setIfInBounds_toArray, List.set_cons_zero, List.set_cons_succ]
    refine wpAnyH_take (i := 14) (v := undef) rfl (by kernel_rfl) (by kernel_rfl) (by kernel_rfl) (fun _ _ _ h => h) (Or.inr ⟨by rfl, rfl⟩) hH5 ?_
    simp only [Act.put, List.getElem_toArray, List.getElem_cons_zero, List.getElem_cons_succ, List.setIfInBounds_toArray, List.set_cons_zero, List.set_cons_succ]
    refine wpAnyH_take (i := 15) (v := undef) rfl (by kernel_rfl) (by kernel_rfl) (by kernel_rfl) (fun _ _ _ h => h) (Or.inr ⟨by rfl, rfl⟩) hH5 ?_
    simp only [Act.put, List.getElem_toArray, List.getElem_cons_zero, List.getElem_cons_succ, List.setIfInBounds_toArray, List.set_cons_zero, List.set_cons_succ]
    refine wpAnyH_take (i := 16) (v := undef) rfl (by kernel_rfl) (by kernel_rfl) (by kernel_rfl) (fun _ _ _ h => h) (Or.inr ⟨by rfl, rfl⟩) hH5 ?_
    simp only [Act.put, List.getElem_toArray, List.getElem_cons_zero, List.getElem_cons_succ, List.setIfInBounds_toArray, List.set_cons_zero, List.set_cons_succ]
    refine wpAnyH_take (i := 17) (v := ?_) rfl (by kernel_rfl) (by kernel_rfl) (by kernel_rfl) (fun _ _ _ h => h) (Or.inl ⟨by rfl, ?_⟩) hH5 ?_
    rotate_left
    · ((intro W hW; clear hW; go_simp) <;> with_reducible rfl)
    simp only [Act.put, List.getElem_toArray, List.getElem_cons_zero, List.getElem_cons_succ, List.setIfInBounds_toArray, List.set_cons_zero, List.set_cons_succ]
    refine wpAnyH_take (i := 18) (v := ?_) rfl (by kernel_rfl) (by kernel_rfl) (by kernel_rfl) (fun _ _ _ h => h) (Or.inl ⟨by rfl, ?_⟩) hH5 ?_
    rotate_left
    · ((intro W hW; clear hW; go_simp) <;> with_reducible rfl)
    simp only [Act.put, List.getElem_toArray, List.getElem_cons_zero, List.getElem_cons_succ, List.setIfInBounds_toArray, List.set_cons_zero, List.set_cons_succ]
    refine wpAnyH_done (by kernel_rfl) ?_ _
    go_wp2_with fail
    go_ret
    exact ⟨by rw [HP.out]; rfl, bel⟩
  · refine wpAnyH_take (i := 5) (v := .agg #[.int .u8 (x.a.toNat : Int), .int .u8 (x.b.toNat : Int), .int .u8 (x.c.toNat : Int), .int .u8 (x.d.toNat : Int)]) rfl (by kernel_rfl) (by kernel_rfl) (by kernel_rfl) (fun _ _ _ h => h) (yieldsIf_load_part (by kernel_rfl) 24 _ rfl g3 0 4 rfl _ 24 (0, 0) (fun W hW => hW.2) _ rfl _ Tryd.underlying24 rfl (by kernel_rfl)) hH5 ?_
    simp only [Act.put, List.getElem_toArray, List.getElem_cons_zero, List.getElem_cons_succ, List.setIfInBounds_toArray, List.set_cons_zero, List.set_cons_succ]
    refine wpAnyH_take (i := 6) (v := ?_) rfl (by kernel_rfl) (by kernel_rfl) (by kernel_rfl) (fun _ _ _ h => h) (Or.inl ⟨by rfl, ?_⟩) hH5 ?_
    rotate_left
    · ((intro W hW; clear hW; go_simp) <;> with_reducible rfl)
    simp only [Act.put, List.getElem_toArray, List.getElem_cons_zero, List.getElem_cons_succ, List.setIfInBounds_toArray, List.set_cons_zero, List.set_cons_succ]
    refine wpAnyH_take (i := 7) (v := .agg #[.int .u8 (c.lan.a.toNat : Int), .int .u8 (c.lan.b.toNat : Int), .int .u8 (c.lan.c.toNat : Int), .int .u8 (c.lan.d.toNat : Int), .int .i64 c.bits]) rfl (by kernel_rfl) (by kernel_rfl) (by kernel_rfl) (fun _ _ _ h => h) (yieldsIf_load_part (by kernel_rfl) 40 _ rfl g2 4 5 rfl _ 44 (0, 0) (fun W hW => hW.1) _ rfl _ Tryd.underlying40 rfl (by kernel_rfl)) hH5 ?_
    simp only [Act.put, List.getElem_toArray, List.getElem_cons_zero, List.getElem_cons_succ, List.setIfInBounds_toArray, List.set_cons_zero, List.set_cons_succ]
    refine wpAnyH_ready (rs := [8]) (by kernel_rfl) (by simp) ?_
    refine AllReadyH.cons (o := _) rfl (fun K hK => ?_) AllReadyH.nil
    simp only [List.getElem_toArray, List.getElem_cons_zero, List.getElem_cons_succ]
    go_simp
    with_reducible refine (rfirst_any _ _ _ _ _ _).mono ?_
    rintro e w6 ⟨rfl, b6⟩
    dsimp only
    replace hp := blk_u hp b6
    replace hy := blk_u hy b6
    replace bel := bel.trans (b6.mono bel.size)
    clear b6
    rw [show firstN (be [c.lan.a, c.lan.b, c.lan.c, c.lan.d]) (clamp c.bits) = c.fst from rfl]
    obtain ⟨h2, hh2⟩ : ∃ b, (!(x.num == c.fst)) = b := ⟨_, rfl⟩
    have q1 : ∀ W, (binOp .neq 24 (.agg #[.int .u8 (x.a.toNat : Int), .int .u8 (x.b.toNat : Int), .int .u8 (x.c.toNat : Int), .int .u8 (x.d.toNat : Int)]) (adr c.fst)).run Tryd.prog W = .ok (.bool h2) W := fun W => by rw [ad_neq x _ c.fst_lt, hh2]
    have HH2 := Lib.hid hh2
    clear hh2
    refine hK.out _ _ ⟨hp, hy⟩ (fun hH7 => ?_)
    clear hK K
    refine wpAnyH_take (i := 9) (v := ?_) rfl (by kernel_rfl) (by kernel_rfl) (by kernel_rfl) (fun _ _ _ h => h) (Or.inl ⟨by rfl, ?_⟩) hH7 ?_
    rotate_left
    · ((intro W hW; clear hW; go_simp) <;> with_reducible rfl)
    simp only [Act.put, List.getElem_toArray, List.getElem_cons_zero, List.getElem_cons_succ, List.setIfInBounds_toArray, List.set_cons_zero, List.set_cons_succ]
    refine wpAnyH_take (i := 10) (v := ?_) rfl (by kernel_rfl) (by kernel_rfl) (by kernel_rfl) (fun _ _ _ h => h) (Or.inl ⟨by rfl, ?_⟩) hH7 ?_
    rotate_left
    · ((intro W hW; clear hW; go_simp) <;> with_reducible rfl)
    simp only [Act.put, List.getElem_toArray, List.getElem_cons_zero, List.getElem_cons_succ, List.setIfInBounds_toArray, List.set_cons_zero, List.set_cons_succ]
    refine wpAnyH_take (i := 11) (v := ?_) rfl (by kernel_rfl) (by kernel_rfl) (by kernel_rfl) (fun _ _ _ h => h) (Or.inl ⟨by rfl, ?_⟩) hH7 ?_
    rotate_left
    · ((intro W hW; clear hW; go_simp) <;> with_reducible rfl)
    simp only [Act.put, List.getElem_toArray, List.getElem_cons_zero, List.getElem_cons_succ, List.setIfInBounds_toArray, List.set_cons_zero, List.set_cons_succ]
    rcases h2 with _ | _
    · have HP : Hid (c.inner x = false) := Lib.hid (by unfold Cf.inner; rw [HH1.out, HH2.out]; rfl)
      refine wpAnyH_take (i := 12) (v := undef) rfl (by kernel_rfl) (by kernel_rfl) (by kernel_rfl) (fun _ _ _ h => h) (Or.inr ⟨by rfl, rfl⟩) hH7 ?_
      simp only [Act.put, List.getElem_toArray, List.getElem_cons_zero, List.getElem_cons_succ, List.setIfInBounds_toArray, List.set_cons_zero, List.set_cons_succ]
      refine wpAnyH_take (i := 13) (v := undef) rfl (by kernel_rfl) (by kernel_rfl) (by kernel_rfl) (fun _ _ _ h => h) (Or.inr ⟨by rfl, rfl⟩) hH7 ?_
      simp only [Act.put, List.getElem_toArray, List.getElem_cons_zero, List.getElem_cons_succ, List.setIfInBounds_toArray, List.set_cons_zero, List.set_cons_succ]
      refine wpAnyH_take (i := 14) (v := undef) rfl (by kernel_rfl) (by kernel_rfl) (by kernel_rfl) (fun _ _ _ h => h) (Or.inr ⟨by rfl, rfl⟩) hH7 ?_
      simp only [Act.put, List.getElem_toArray, List.getElem_cons_zero, List.getElem_cons_succ, List.setIfInBounds_toArray, List.set_cons_zero, List.set_cons_succ]
      refine wpAnyH_take (i := 15) (v := undef) rfl (by kernel_rfl) (by kernel_rfl) (by kernel_rfl) (fun _ _ _ h => h) (Or.inr ⟨by rfl, rfl⟩) hH7 ?_
      simp only [Act.put, List.getElem_toArray, List.getElem_cons_zero, List.getElem_cons_succ, List.setIfInBounds_toArray, List.set_cons_zero, List.set_cons_succ]
      refine wpAnyH_take (i := 16) (v := undef) rfl (by kernel_rfl) (by kernel_rfl) (by kernel_rfl) (fun _ _ _ h => h) (Or.inr ⟨by rfl, rfl⟩) hH7 ?_
      simp only [Act.put, List.getElem_toArray, List.getElem_cons_zero, List.getElem_cons_succ, List.setIfInBounds_toArray, List.set_cons_zero, List.set_cons_succ]
      refine wpAnyH_take (i := 17) (v := ?_) rfl (by kernel_rfl) (by kernel_rfl) (by kernel_rfl) (fun _ _ _ h => h) (Or.inl ⟨by rfl, ?_⟩) hH7 ?_
      rotate_left
      · ((intro W hW; clear hW; go_simp) <;> with_reducible rfl)
      simp only [Act.put, List.getElem_toArray, List.getElem_cons_zero, List.getElem_cons_succ, List.setIfInBounds_toArray, List.set_cons_zero, List.set_cons_succ]
      refine wpAnyH_take (i := 18) (v := ?_) rfl (by kernel_rfl) (by kernel_rfl) (by kernel_rfl) (fun _ _ _ h => h) (Or.inl ⟨by rfl, ?_⟩) hH7 ?_
      rotate_left
      · ((intro W hW; clear hW; go_simp) <;> with_reducible rfl)
      simp only [Act.put, List.getElem_toArray, List.getElem_cons_zero, List.getElem_cons_succ, List.setIfInBounds_toArray, List.set_cons_zero, List.set_cons_succ]
      refine wpAnyH_done (by kernel_rfl) ?_ _
      go_wp2_with fail
      go_ret
      exact ⟨by rw [HP.out]; rfl, bel⟩
    · refine wpAnyH_take (i := 12) (v := .agg #[.int .u8 (x.a.toNat : Int), .int .u8 (x.b.toNat : Int), .int .u8 (x.c.toNat : Int), .int .u8 (x.d.toNat : Int)]) rfl (by kernel_rfl) (by kernel_rfl) (by kernel_rfl) (fun _ _ _ h => h) (yieldsIf_load_part (by kernel_rfl) 24 _ rfl g3 0 4 rfl _ 24 (0, 0) (fun W hW => hW.2) _ rfl _ Tryd.underlying24 rfl (by kernel_rfl)) hH7 ?_
      simp only [Act.put, List.getElem_toArray, List.getElem_cons_zero, List.getElem_cons_succ, List.setIfInBounds_toArray, List.set_cons_zero, List.set_cons_succ]
      refine wpAnyH_take (i := 13) (v := ?_) rfl (by kernel_rfl) (by kernel_rfl) (by kernel_rfl) (fun _ _ _ h => h) (Or.inl ⟨by rfl, ?_⟩) hH7 ?_
      rotate_left
      · ((intro W hW; clear hW; go_simp) <;> with_reducible rfl)
      simp only [Act.put, List.getElem_toArray, List.getElem_cons_zero, List.getElem_cons_succ, List.setIfInBounds_toArray, List.set_cons_zero, List.set_cons_succ]
      refine wpAnyH_take (i := 14) (v := .agg #[.int .u8 (c.lan.a.toNat : Int), .int .u8 (c.lan.b.toNat : Int), .int .u8 (c.lan.c.toNat : Int), .int .u8 (c.lan.d.toNat : Int), .int .i64 c.bits]) rfl (by kernel_rfl) (by kernel_rfl) (by kernel_rfl) (fun _ _ _ h => h) (yieldsIf_load_part (by kernel_rfl) 40 _ rfl g2 4 5 rfl _ 44 (0, 0) (fun W hW => hW.1) _ rfl _ Tryd.underlying40 rfl (by kernel_rfl)) hH7 ?_
      simp only [Act.put, List.getElem_toArray, List.getElem_cons_zero, List.getElem_cons_succ, List.setIfInBounds_toArray, List.set_cons_zero, List.set_cons_succ]
      refine wpAnyH_ready (rs := [15]) (by kernel_rfl) (by simp) ?_
      refine AllReadyH.cons (o := _) rfl (fun K hK => ?_) AllReadyH.nil
      simp only [List.getElem_toArray, List.getElem_cons_zero, List.getElem_cons_succ]
      go_simp
      with_reducible refine (rlast_any _ _ _ _ _ _).mono ?_
      rintro e w8 ⟨rfl, b8⟩
      dsimp only
      replace hp := blk_u hp b8
      replace hy := blk_u hy b8
      replace bel := bel.trans (b8.mono bel.size)
      clear b8
      rw [show lastN (be [c.lan.a, c.lan.b, c.lan.c, c.lan.d]) (clamp c.bits) = c.lst from rfl]
      obtain ⟨h3, hh3⟩ : ∃ b, (!(x.num == c.lst)) = b := ⟨_, rfl⟩
      have HP : Hid (c.inner x = h3) := Lib.hid (by unfold Cf.inner; rw [HH1.out, HH2.out, hh3]; rfl)
      have q2 : ∀ W, (binOp .neq 24 (.agg #[.int .u8 (x.a.toNat : Int), .int .u8 (x.b.toNat : Int), .int .u8 (x.c.toNat : Int), .int .u8 (x.d.toNat : Int)]) (adr c.lst)).run Tryd.prog W = .ok (.bool h3) W := fun W => by rw [ad_neq x _ c.lst_lt, hh3]
      clear hh3
      refine hK.out _ _ ⟨hp, hy⟩ (fun hH9 => ?_)
      clear hK K
      refine wpAnyH_take (i := 16) (v := ?_) rfl (by kernel_rfl) (by kernel_rfl) (by kernel_rfl) (fun _ _ _ h => h) (Or.inl ⟨by rfl, ?_⟩) hH9 ?_
      rotate_left
      · ((intro W hW; clear hW; go_simp) <;> with_reducible rfl)
      simp only [Act.put, List.getElem_toArray, List.getElem_cons_zero, List.getElem_cons_succ, List.setIfInBounds_toArray, List.set_cons_zero, List.set_cons_succ]
      refine wpAnyH_take (i := 17) (v := ?_) rfl (by kernel_rfl) (by kernel_rfl) (by kernel_rfl) (fun _ _ _ h => h) (Or.inl ⟨by rfl, ?_⟩) hH9 ?_
      rotate_left
      · ((intro W hW; clear hW; go_simp) <;> with_reducible rfl)
      simp only [Act.put, List.getElem_toArray, List.getElem_cons_zero, List.getElem_cons_succ, List.setIfInBounds_toArray, List.set_cons_zero, List.set_cons_succ]
      refine wpAnyH_take (i := 18) (v := ?_) rfl (by kernel_rfl) (by kernel_rfl) (by kernel_rfl) (fun _ _ _ h => h) (Or.inl ⟨by rfl, ?_⟩) hH9 ?_
      rotate_left
      · ((intro W hW; clear hW; go_simp) <;> with_reducible rfl)
      simp only [Act.put, List.getElem_toArray, List.getElem_cons_zero, List.getElem_cons_succ, List.setIfInBounds_toArray, List.set_cons_zero, List.set_cons_succ]
      refine wpAnyH_done (by kernel_rfl) ?_ _
      go_wp2_with fail
      go_ret
      exact ⟨by rw [HP.out]; rfl, bel⟩
open Go.RowKit

theorem bel6 {B : Nat} {w0 w : World} {k : Nat} (y0 y1 y2 y3 y4 y5 : Value) (h : Below B w0 w) (hk : B ≤ k) : Below B w0 ((((((w.setCell ⟨k, 0, none⟩ y0).setCell ⟨k, 1, none⟩ y1).setCell ⟨k, 2, none⟩ y2).setCell ⟨k, 3, none⟩ y3).setCell ⟨k, 4, none⟩ y4).setCell ⟨k, 5, none⟩ y5) :=
  ((((((h.setCell hk _).setCell hk _).setCell hk _).setCell hk _).setCell hk _).setCell hk _)
/-- A group's address: its first byte is odd. -/
def isGroup (l : List UInt8) : Bool := decide (((l.getD 0 0).toNat : Int) % 2 = 1)

set_option maxRecDepth 100000 in
theorem rgroup_any (a0 a1 a2 a3 a4 a5 : UInt8) (w : World) : Calls Tryd.prog 41 #[.agg #[.int .u8 (a0.toNat : Int), .int .u8 (a1.toNat : Int), .int .u8 (a2.toNat : Int), .int .u8 (a3.toNat : Int), .int .u8 (a4.toNat : Int), .int .u8 (a5.toNat : Int)]] w fun e w' => e = .returned (.bool (isGroup [a0, a1, a2, a3, a4, a5])) ∧ Below w.heap.size w w' := by
  have bel := (Below.refl w.heap.size w).alloc (Nat.le_refl _) (.cells #[.int .u8 (a0.toNat : Int), .int .u8 (a1.toNat : Int), .int .u8 (a2.toNat : Int), .int .u8 (a3.toNat : Int), .int .u8 (a4.toNat : Int), .int .u8 (a5.toNat : Int)] 28)
  have h1 := a0.toNat_lt
  have c0 : (0 : Int) ≤ a0.toNat := by omega
  have c1 : (a0.toNat : Int) < 256 := by omega
  clear h1
  go_enter Tryd.func41, Tryd.ntmps41
  go_wp2
  go_ret
  exact ⟨by rfl, bel⟩
end Go.Proofs.YtdfobilagidmfaaDoor
