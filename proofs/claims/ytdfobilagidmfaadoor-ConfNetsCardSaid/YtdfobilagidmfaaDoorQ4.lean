/- Texts put together: Adr5, AdrEq, Ref3n, Ref3h, Cf3, Eth1, Cfz, Cg2. -/
import Derived.Test.YtdfobilagidmfaaDoorQ1
import Derived.Test.YtdfobilagidmfaaDoorQ2
import Derived.Test.YtdfobilagidmfaaDoorQ3
import Derived.Stop.BytesEq
import Derived.Deep.RegionHeld3
import Derived.BigRegion
import Derived.Deep.CutRange
namespace Go.Proofs.YtdfobilagidmfaaDoor
open Go.RowKit

/-- Two digits' value; -1: none. -/
def hpI (x : List UInt8) : Int := match x with
  | [a, b] => if 0 ≤ hexI a ∧ 0 ≤ hexI b then 16 * hexI a + hexI b else -1
  | _ => -1
theorem hpI_range (x : List UInt8) : hpI x = -1 ∨ (0 ≤ hpI x ∧ hpI x ≤ 255) := by
  unfold hpI
  split
  · rename_i a b
    have := hexI_range a
    have := hexI_range b
    split
    · right; omega
    · exact .inl rfl
  · exact .inl rfl
theorem hpI_two {x : List UInt8} (h : 0 ≤ hpI x) : ∃ a b, x = [a, b] ∧ 0 ≤ hexI a ∧ 0 ≤ hexI b ∧ hpI x = 16 * hexI a + hexI b := by
  match x, h with
  | [a, b], h =>
    unfold hpI at h ⊢
    simp only at h ⊢
    by_cases hk : 0 ≤ hexI a ∧ 0 ≤ hexI b
    · rw [if_pos hk]; exact ⟨a, b, rfl, hk.1, hk.2, rfl⟩
    · rw [if_neg hk] at h; omega
  | [], h | [_], h | _ :: _ :: _ :: _, h => simp [hpI] at h
theorem hexI_58 {c : UInt8} (h : 0 ≤ hexI c) : c ≠ 58 := by
  intro e; subst e; revert h; decide
theorem macB_at {l : List UInt8} {i : Nat} {a b : UInt8} (h0 : l.getD (3 * i) 0 = a) (h1 : l.getD (3 * i + 1) 0 = b) (h2 : i < 5 → l.getD (3 * i + 2) 0 = 58) (ha : 0 ≤ hexI a) (hb : 0 ≤ hexI b) : macB l i = 16 * hexI a + hexI b := by
  unfold macB
  rw [h0, h1, if_neg]
  rintro (h | h | ⟨h, h'⟩)
  · omega
  · omega
  · exact h' (h2 h)
theorem mac_of_pieces {l p0 p1 p2 p3 p4 p5 : List UInt8} (h : cutF 58 l = [p0, p1, p2, p3, p4, p5]) (h0 : 0 ≤ hpI p0) (h1 : 0 ≤ hpI p1) (h2 : 0 ≤ hpI p2) (h3 : 0 ≤ hpI p3) (h4 : 0 ≤ hpI p4) (h5 : 0 ≤ hpI p5) :
    macOk l ∧ macBs l 6 = [byteOf (hpI p0), byteOf (hpI p1), byteOf (hpI p2), byteOf (hpI p3), byteOf (hpI p4), byteOf (hpI p5)] := by
  obtain ⟨a0, b0, rfl, x0, y0, e0⟩ := hpI_two h0
  obtain ⟨a1, b1, rfl, x1, y1, e1⟩ := hpI_two h1
  obtain ⟨a2, b2, rfl, x2, y2, e2⟩ := hpI_two h2
  obtain ⟨a3, b3, rfl, x3, y3, e3⟩ := hpI_two h3
  obtain ⟨a4, b4, rfl, x4, y4, e4⟩ := hpI_two h4
  obtain ⟨a5, b5, rfl, x5, y5, e5⟩ := hpI_two h5
  have hj := joinF_cut 58 l
  rw [h] at hj
  have hl : l = [a0, b0, 58, a1, b1, 58, a2, b2, 58, a3, b3, 58, a4, b4, 58, a5, b5] := by rw [← hj]; rfl
  subst hl
  have m0 : macB [a0, b0, 58, a1, b1, 58, a2, b2, 58, a3, b3, 58, a4, b4, 58, a5, b5] 0 = 16 * hexI a0 + hexI b0 := macB_at rfl rfl (fun _ => rfl) x0 y0
  have m1 : macB [a0, b0, 58, a1, b1, 58, a2, b2, 58, a3, b3, 58, a4, b4, 58, a5, b5] 1 = 16 * hexI a1 + hexI b1 := macB_at rfl rfl (fun _ => rfl) x1 y1
  have m2 : macB [a0, b0, 58, a1, b1, 58, a2, b2, 58, a3, b3, 58, a4, b4, 58, a5, b5] 2 = 16 * hexI a2 + hexI b2 := macB_at rfl rfl (fun _ => rfl) x2 y2
  have m3 : macB [a0, b0, 58, a1, b1, 58, a2, b2, 58, a3, b3, 58, a4, b4, 58, a5, b5] 3 = 16 * hexI a3 + hexI b3 := macB_at rfl rfl (fun _ => rfl) x3 y3
  have m4 : macB [a0, b0, 58, a1, b1, 58, a2, b2, 58, a3, b3, 58, a4, b4, 58, a5, b5] 4 = 16 * hexI a4 + hexI b4 := macB_at rfl rfl (fun _ => rfl) x4 y4
  have m5 : macB [a0, b0, 58, a1, b1, 58, a2, b2, 58, a3, b3, 58, a4, b4, 58, a5, b5] 5 = 16 * hexI a5 + hexI b5 := macB_at rfl rfl (fun h => absurd h (by omega)) x5 y5
  refine ⟨⟨rfl, fun i hi => ?_⟩, ?_⟩
  · rcases (by omega : i = 0 ∨ i = 1 ∨ i = 2 ∨ i = 3 ∨ i = 4 ∨ i = 5) with rfl | rfl | rfl | rfl | rfl | rfl
    · rw [m0]; omega
    · rw [m1]; omega
    · rw [m2]; omega
    · rw [m3]; omega
    · rw [m4]; omega
    · rw [m5]; omega
  · rw [e0, e1, e2, e3, e4, e5, ← m0, ← m1, ← m2, ← m3, ← m4, ← m5]
    rfl
theorem macB_parts {l : List UInt8} {i : Nat} (h : 0 ≤ macB l i) : 0 ≤ hexI (l.getD (3 * i) 0) ∧ 0 ≤ hexI (l.getD (3 * i + 1) 0) ∧ (i < 5 → l.getD (3 * i + 2) 0 = 58) := by
  unfold macB at h
  split at h
  · omega
  · rename_i hn
    refine ⟨by omega, by omega, fun h5 => ?_⟩
    by_cases e : l.getD (3 * i + 2) 0 = 58
    · exact e
    · exact absurd (.inr (.inr ⟨h5, e⟩)) hn
theorem pair_free {a b : UInt8} (ha : 0 ≤ hexI a) (hb : 0 ≤ hexI b) : ∀ c ∈ [a, b], c ≠ 58 := by
  intro c hc
  simp only [List.mem_cons, List.not_mem_nil, or_false] at hc
  rcases hc with rfl | rfl
  · exact hexI_58 ha
  · exact hexI_58 hb
theorem hpI_pair {a b : UInt8} (ha : 0 ≤ hexI a) (hb : 0 ≤ hexI b) : 0 ≤ hpI [a, b] := by
  unfold hpI; simp only; rw [if_pos ⟨ha, hb⟩]; omega
theorem list_17 (l : List UInt8) (h : l.length = 17) : ∃ a0 b0 c0 a1 b1 c1 a2 b2 c2 a3 b3 c3 a4 b4 c4 a5 b5 : UInt8, l = [a0, b0, c0, a1, b1, c1, a2, b2, c2, a3, b3, c3, a4, b4, c4, a5, b5] := by
  match l, h with
  | [a0, b0, c0, a1, b1, c1, a2, b2, c2, a3, b3, c3, a4, b4, c4, a5, b5], _ => exact ⟨_, _, _, _, _, _, _, _, _, _, _, _, _, _, _, _, _, rfl⟩
theorem pieces_of_mac {l : List UInt8} (h : macOk l) : ∃ p0 p1 p2 p3 p4 p5 : List UInt8, cutF 58 l = [p0, p1, p2, p3, p4, p5] ∧ 0 ≤ hpI p0 ∧ 0 ≤ hpI p1 ∧ 0 ≤ hpI p2 ∧ 0 ≤ hpI p3 ∧ 0 ≤ hpI p4 ∧ 0 ≤ hpI p5 := by
  obtain ⟨a0, b0, c0, a1, b1, c1, a2, b2, c2, a3, b3, c3, a4, b4, c4, a5, b5, rfl⟩ := list_17 l h.1
  obtain ⟨x0, y0, z0⟩ := macB_parts (h.2 0 (by omega))
  obtain ⟨x1, y1, z1⟩ := macB_parts (h.2 1 (by omega))
  obtain ⟨x2, y2, z2⟩ := macB_parts (h.2 2 (by omega))
  obtain ⟨x3, y3, z3⟩ := macB_parts (h.2 3 (by omega))
  obtain ⟨x4, y4, z4⟩ := macB_parts (h.2 4 (by omega))
  obtain ⟨x5, y5, _⟩ := macB_parts (h.2 5 (by omega))
  obtain rfl : c0 = 58 := z0 (by omega)
  obtain rfl : c1 = 58 := z1 (by omega)
  obtain rfl : c2 = 58 := z2 (by omega)
  obtain rfl : c3 = 58 := z3 (by omega)
  obtain rfl : c4 = 58 := z4 (by omega)
  replace x0 : 0 ≤ hexI a0 := x0
  replace y0 : 0 ≤ hexI b0 := y0
  replace x1 : 0 ≤ hexI a1 := x1
  replace y1 : 0 ≤ hexI b1 := y1
  replace x2 : 0 ≤ hexI a2 := x2
  replace y2 : 0 ≤ hexI b2 := y2
  replace x3 : 0 ≤ hexI a3 := x3
  replace y3 : 0 ≤ hexI b3 := y3
  replace x4 : 0 ≤ hexI a4 := x4
  replace y4 : 0 ≤ hexI b4 := y4
  replace x5 : 0 ≤ hexI a5 := x5
  replace y5 : 0 ≤ hexI b5 := y5
  have e : cutF 58 ([a0, b0] ++ [58] ++ [a1, b1] ++ [58] ++ [a2, b2] ++ [58] ++ [a3, b3] ++ [58] ++ [a4, b4] ++ [58] ++ [a5, b5]) = [[a0, b0], [a1, b1], [a2, b2], [a3, b3], [a4, b4], [a5, b5]] := by
    rw [cut_at 58 _ _ (pair_free x5 y5), cut_at 58 _ _ (pair_free x4 y4), cut_at 58 _ _ (pair_free x3 y3), cut_at 58 _ _ (pair_free x2 y2), cut_at 58 _ _ (pair_free x1 y1), cut_none 58 _ (pair_free x0 y0)]
    rfl
  exact ⟨_, _, _, _, _, _, e, hpI_pair x0 y0, hpI_pair x1 y1, hpI_pair x2 y2, hpI_pair x3 y3, hpI_pair x4 y4, hpI_pair x5 y5⟩

/-- The bytes that are read so far. -/
def mBs (ls : List (List UInt8)) (k : Nat) : List UInt8 := (List.range 6).map fun i => if i < k then byteOf (hpI (ls.getD i [])) else 0
theorem mBs_len (ls : List (List UInt8)) (k : Nat) : (mBs ls k).length = 6 := by simp [mBs]
theorem mBs_zero (ls : List (List UInt8)) : mBs ls 0 = [0, 0, 0, 0, 0, 0] := by simp [mBs, List.range, List.range.loop]
theorem mBs_six (a b c d e f : List UInt8) : mBs [a, b, c, d, e, f] 6 = [byteOf (hpI a), byteOf (hpI b), byteOf (hpI c), byteOf (hpI d), byteOf (hpI e), byteOf (hpI f)] := by simp [mBs, List.range, List.range.loop]
theorem mBs_set (ls : List (List UInt8)) (k : Nat) : (mBs ls k).set k (byteOf (hpI (ls.getD k []))) = mBs ls (k + 1) := by
  apply List.ext_getElem
  · simp [mBs]
  · intro i h1 h2
    rw [List.getElem_set]
    simp only [mBs, List.getElem_map, List.getElem_range]
    by_cases e : k = i
    · subst e; simp
    · rw [if_neg e]
      by_cases e2 : i < k
      · rw [if_pos e2, if_pos (by omega)]
      · rw [if_neg e2, if_neg (by omega)]

theorem hexP_no (x : List UInt8) (h : hpI x = -1) (w : World) : Calls Tryd.prog 93 #[.string ⟨x.toArray⟩] w fun e w' => e = .returned (.tuple #[.int .u8 0, .bool false]) ∧ Below w.heap.size w w' := by
  have hsz : (⟨x.toArray⟩ : ByteArray).size = x.length := size_bs x
  by_cases h2 : x.length = 2
  · match x, h2, h, hsz with
    | [a, b], _, h, hsz =>
      refine hexPair_no ⟨#[a, b]⟩ rfl ?_ w
      unfold hpI at h
      simp only at h
      have ha : (⟨#[a, b]⟩ : ByteArray)[0]'(by show 0 < (2 : Nat); omega) = a := rfl
      have hb : (⟨#[a, b]⟩ : ByteArray)[1]'(by show 1 < (2 : Nat); omega) = b := rfl
      rw [ha, hb]
      have := hexI_range a
      have := hexI_range b
      split at h <;> omega
  · exact hexPair_len ⟨x.toArray⟩ (by rw [hsz]; exact h2) w
theorem hexP_yes (x : List UInt8) (h : 0 ≤ hpI x) (w : World) : Calls Tryd.prog 93 #[.string ⟨x.toArray⟩] w fun e w' => e = .returned (.tuple #[.int .u8 (hpI x), .bool true]) ∧ Below w.heap.size w w' := by
  obtain ⟨a, b, rfl, ha, hb, e⟩ := hpI_two h
  rw [e]
  exact hexPair_ok ⟨#[a, b]⟩ rfl ha hb w

/-- What ParseMac answers. -/
def AMacPost (l : List UInt8) (w : World) (e : Ending) (w' : World) : Prop :=
  (macOk l ∧ e = .returned (.tuple #[.agg ((macBs l 6).map u8v).toArray, .int .i64 0]) ∨ ¬ macOk l ∧ e = .returned (.tuple #[mac0, .int .i64 9])) ∧ Below w.heap.size w w'

abbrev z6 : Array Value := #[.int .u8 0, .int .u8 0, .int .u8 0, .int .u8 0, .int .u8 0, .int .u8 0]
/-- Two blocks of six zeros, behind a call. -/
theorem two_mac {w w1 : World} (h : Below ((w.alloc (.cells #[.int .u8 0, .int .u8 0, .int .u8 0, .int .u8 0, .int .u8 0, .int .u8 0] 28)).alloc (.cells #[.int .u8 0, .int .u8 0, .int .u8 0, .int .u8 0, .int .u8 0, .int .u8 0] 28)).heap.size ((w.alloc (.cells #[.int .u8 0, .int .u8 0, .int .u8 0, .int .u8 0, .int .u8 0, .int .u8 0] 28)).alloc (.cells #[.int .u8 0, .int .u8 0, .int .u8 0, .int .u8 0, .int .u8 0, .int .u8 0] 28)) w1) :
    w1.heap[w.heap.size]? = some (.cells #[.int .u8 0, .int .u8 0, .int .u8 0, .int .u8 0, .int .u8 0, .int .u8 0] 28 (0, 0)) ∧ w1.heap[w.heap.size + 1]? = some (.cells #[.int .u8 0, .int .u8 0, .int .u8 0, .int .u8 0, .int .u8 0, .int .u8 0] 28 (0, 0)) ∧ w.heap.size + 1 < w1.heap.size ∧ Below w.heap.size w w1 := by
  have hs := h.size
  simp at hs
  have h0 : ((w.alloc (.cells z6 28)).alloc (.cells z6 28)).heap[w.heap.size]? = some (.cells z6 28 (0, 0)) :=
    (Go.heap_alloc_old (w.alloc (.cells z6 28)) (.cells z6 28) (r := w.heap.size) (by simp)).trans (heap_alloc_new w _)
  have h1 : ((w.alloc (.cells z6 28)).alloc (.cells z6 28)).heap[w.heap.size + 1]? = some (.cells z6 28 (0, 0)) := by
    have := heap_alloc_new (w.alloc (.cells z6 28)) (.cells z6 28); simpa using this
  refine ⟨(h.block _ (by simp; omega)).trans h0, (h.block _ (by simp)).trans h1, by omega, ?_⟩
  exact (((Below.refl w.heap.size w).alloc (Nat.le_refl _) _).alloc (by simp) _).trans (h.mono (by simp; omega))

set_option maxRecDepth 100000 in
set_option maxHeartbeats 4000000 in
theorem amac_pieces (s : ByteArray) (w : World) (hs : s.size ≤ 140737488355328) (h : (cutF 58 s.data.toList).length ≠ 6) : Calls Tryd.prog 84 #[.string s] w (AMacPost s.data.toList w) := by
  have NO : Hid (¬ macOk s.data.toList) := Lib.hid fun hm => by
    obtain ⟨_, _, _, _, _, _, e, _⟩ := pieces_of_mac hm
    rw [e] at h; exact h rfl
  have SP := Lib.hid fun W => asplit_no s 58 6 58 6 rfl rfl (by decide) (by omega) (by omega) W hs h
  clear h hs
  go_enter Tryd.func84, Tryd.ntmps84
  go_wp2_with fail
  with_reducible refine (SP.out _).mono ?_
  rintro e w1 ⟨rfl, bel1⟩
  obtain ⟨r0, r1, r2, bel⟩ := two_mac bel1
  obtain ⟨⟨q0, q1, q2, q3, q4, q5⟩, f0, f1, f2, f3, f4, f5⟩ := cells6 r0
  have R0 := Lib.hid r0
  clear r0 r1 bel1
  go_wp2
  have R4 := put6 (x := .int .u8 0) (y := .int .u8 0) (z := .int .u8 0) (u := .int .u8 0) (v := .int .u8 0) (t := .int .u8 0) R0.out
  obtain ⟨⟨k0, k1, k2, k3, k4, k5⟩, _⟩ := cells6 R4
  clear R4
  exact bodyPost_ret (v := .tuple #[mac0, .int .i64 9]) (by simp [results, Tryd.results84, go_sem, mac0, k0, k1, k2, k3, k4, k5]) rfl ⟨.inr ⟨NO.out, rfl⟩, (((((bel.setCell (Nat.le_refl _) _).setCell (Nat.le_refl _) _).setCell (Nat.le_refl _) _).setCell (Nat.le_refl _) _).setCell (Nat.le_refl _) _).setCell (Nat.le_refl _) _⟩

set_option maxRecDepth 100000 in
set_option maxHeartbeats 4000000 in
theorem amac_six (s : ByteArray) (w : World) (hs : s.size ≤ 140737488355328) (p0 p1 p2 p3 p4 p5 : List UInt8) (h : cutF 58 s.data.toList = [p0, p1, p2, p3, p4, p5]) : Calls Tryd.prog 84 #[.string s] w (AMacPost s.data.toList w) := by
  have H6 := Lib.hid h
  have SP := fun W => asplit_yes s 58 6 58 6 rfl rfl (by decide) (by omega) (by omega) W hs (by rw [h]; rfl)
  rw [h] at SP
  have SPH := Lib.hid SP
  have HLS : Hid (([p0, p1, p2, p3, p4, p5] : List (List UInt8)).length = 6) := Lib.hid rfl
  obtain ⟨ls, hls⟩ : ∃ ls, Hid (ls = [p0, p1, p2, p3, p4, p5]) := ⟨_, Lib.hid rfl⟩
  rw [← hls.out] at SPH HLS
  clear SP hs h
  go_enter Tryd.func84, Tryd.ntmps84
  go_wp2_with fail
  with_reducible refine (SPH.out _).mono ?_
  rintro e w1 ⟨g, cap, rfl, hcap, hg0, hg1, hc, bel1⟩
  obtain ⟨r0, r1, r2, bel⟩ := two_mac bel1
  have hgw : g ≠ w.heap.size := by simp at hg0; omega
  have hgw1 : g ≠ w.heap.size + 1 := by simp at hg0; omega
  have HC := Lib.hid hc
  have hcap' : (6 : Int) ≤ cap := by omega
  clear hc bel1 hg0 hcap
  go_wp2_with fail
  go_loopw [21] (fun i wr => ∃ k : Nat, k ≤ 6 ∧ i = .int .i64 k ∧ (∀ j, j < k → 0 ≤ hpI (ls.getD j [])) ∧ wr.heap[w.heap.size]? = some (.cells #[.int .u8 0, .int .u8 0, .int .u8 0, .int .u8 0, .int .u8 0, .int .u8 0] 28 (0, 0)) ∧ Ow 28 wr (w.heap.size + 1) 6 (mBs ls k) ∧ (∀ (j : Nat) (x : List UInt8), ls[j]? = some x → wr.cell? ⟨g, j, none⟩ = some (.string ⟨x.toArray⟩)) ∧ g < wr.heap.size ∧ Below w.heap.size w wr) (fun i _ => 6 - (intOf i).toNat)
  case atStart =>
    refine ⟨0, by omega, rfl, fun j hj => by omega, r0, ?_, HC.out, hg1, bel⟩
    rw [mBs_zero]
    refine ⟨by simp, by unfold maxLen; omega, _, r1, fun j b hj => ?_⟩
    match j, hj with
    | 0, hj | 1, hj | 2, hj | 3, hj | 4, hj | 5, hj => simp at hj; subst hj; rfl
    | j + 6, hj => simp at hj
  case round =>
    clear r0 r1 bel hg1
    obtain ⟨k, hk, rfl, hall, hz, hb, hcs, hgl, bel⟩ := hrel
    have HZ := Lib.hid hz
    have HALL := Lib.hid hall
    have HCS := Lib.hid hcs
    have hzl : w.heap.size + 1 < wr.heap.size := hb.lt
    clear hz hall hcs
    by_cases hlt : k < 6
    · obtain ⟨x, hx⟩ : ∃ x, Hid (ls.getD k [] = x) := ⟨_, Lib.hid rfl⟩
      have hxk : ls[k]? = some x := by
        have := HLS.out
        rw [List.getElem?_eq_getElem (by omega), ← hx.out, List.getD_eq_getElem?_getD, List.getElem?_eq_getElem (by omega)]; rfl
      have hcx := HCS.out k x hxk
      have k0 : (0 : Int) ≤ k := by omega
      have k4 : (k : Int) < 6 := by omega
      by_cases hn : 0 ≤ hpI x
      · have DECH := Lib.hid fun W => hexP_yes x hn W
        have hr := hpI_range x
        have n1 : hpI x ≤ 255 := by omega
        have ALL : Hid (∀ j, j < k + 1 → 0 ≤ hpI (ls.getD j [])) := Lib.hid fun j hj => by
          by_cases e : j = k
          · subst e; rw [hx.out]; exact hn
          · exact HALL.out j (by omega)
        have MS : Hid ((mBs ls k).set k (byteOf (hpI x)) = mBs ls (k + 1)) := Lib.hid (by rw [← mBs_set, hx.out])
        have UB : Hid (u8v (byteOf (hpI x)) = .int .u8 (hpI x)) := Lib.hid (u8v_byteOf hn n1)
        clear hxk hr
        go_wp2_with fail
        with_reducible refine (DECH.out _).mono ?_
        rintro e w2 ⟨rfl, bel2⟩
        have hz2 := (bel2.block _ (by omega)).trans HZ.out
        have hb2 := hb.below bel2
        have HCS2 : Hid (∀ (j : Nat) (x : List UInt8), ls[j]? = some x → w2.cell? ⟨g, j, none⟩ = some (.string ⟨x.toArray⟩)) := Lib.hid fun j x hj => (bel2.cell (p := ⟨g, j, none⟩) hgl).trans (HCS.out j x hj)
        have hgl2 := Nat.lt_of_lt_of_le hgl bel2.size
        have belb := bel.trans (bel2.mono (by omega))
        obtain ⟨_, _, cb, fb⟩ := hb2.at_ k (by rw [mBs_len]; exact hlt)
        have HZ2' := Lib.hid hz2
        clear hz2 bel bel2 hb hcx hgl hzl
        go_wp2
        have OW2 := hb2.set k (byteOf (hpI x))
        rw [UB.out, MS.out] at OW2
        have HZ2 := (Below.heap_setCell w2 ⟨w.heap.size + 1, k, none⟩ (.int .u8 (hpI x)) w.heap.size (by simp)).trans HZ2'.out
        have BE2 := belb.setCell (p := ⟨w.heap.size + 1, k, none⟩) (by simp) (.int .u8 (hpI x))
        have CS2 : ∀ (j : Nat) (x' : List UInt8), ls[j]? = some x' → (w2.setCell ⟨w.heap.size + 1, k, none⟩ (.int .u8 (hpI x))).cell? ⟨g, j, none⟩ = some (.string ⟨x'.toArray⟩) := fun j x' hj => by
          rw [World.cell?_of_block (w := w2) (Below.heap_setCell w2 ⟨w.heap.size + 1, k, none⟩ (.int .u8 (hpI x)) g (fun e => hgw1 e))]
          exact HCS2.out j x' hj
        go_roundw
        case rel => exact ⟨k + 1, by omega, by go_num, ALL.out, HZ2, OW2, CS2, by simp; exact hgl2, BE2⟩
        case measure => simp [intOf]; omega
      · have hn1 : hpI x = -1 := by have := hpI_range x; omega
        have DEC := Lib.hid fun W => hexP_no x hn1 W
        have NO : Hid (¬ macOk s.data.toList) := Lib.hid fun hm => by
          obtain ⟨_, _, _, _, _, _, e, g0, g1, g2, g3, g4, g5⟩ := pieces_of_mac hm
          rw [H6.out] at e
          simp only [List.cons.injEq, and_true] at e
          obtain ⟨rfl, rfl, rfl, rfl, rfl, rfl⟩ := e
          have h1 := hx.out
          rw [hls.out] at h1
          match k, hlt, h1 with
          | 0, _, h1 | 1, _, h1 | 2, _, h1 | 3, _, h1 | 4, _, h1 | 5, _, h1 => simp at h1; subst h1; omega
        clear hxk hn hn1
        go_wp2_with fail
        with_reducible refine (DEC.out _).mono ?_
        rintro e w2 ⟨rfl, bel2⟩
        have hz2 := (bel2.block _ (by omega)).trans HZ.out
        have belb := bel.trans (bel2.mono (by omega))
        obtain ⟨⟨q0, q1, q2, q3, q4, q5⟩, f0, f1, f2, f3, f4, f5⟩ := cells6 hz2
        have R0 := Lib.hid hz2
        clear hz2 bel bel2 hb hcx hgl hzl
        go_wp2
        have R4 := put6 (x := .int .u8 0) (y := .int .u8 0) (z := .int .u8 0) (u := .int .u8 0) (v := .int .u8 0) (t := .int .u8 0) R0.out
        obtain ⟨⟨k0, k1, k2, k3, k4, k5⟩, _⟩ := cells6 R4
        clear R4
        exact bodyPost_ret (v := .tuple #[mac0, .int .i64 9]) (by simp [results, Tryd.results84, go_sem, mac0, k0, k1, k2, k3, k4, k5]) rfl ⟨.inr ⟨NO.out, rfl⟩, (((((belb.setCell (Nat.le_refl _) _).setCell (Nat.le_refl _) _).setCell (Nat.le_refl _) _).setCell (Nat.le_refl _) _).setCell (Nat.le_refl _) _).setCell (Nat.le_refl _) _⟩
    · obtain rfl : k = 6 := by omega
      have YES : Hid (macOk s.data.toList ∧ macBs s.data.toList 6 = [byteOf (hpI p0), byteOf (hpI p1), byteOf (hpI p2), byteOf (hpI p3), byteOf (hpI p4), byteOf (hpI p5)]) := Lib.hid (by
        have hall := HALL.out
        rw [hls.out] at hall
        exact mac_of_pieces H6.out (hall 0 (by omega)) (hall 1 (by omega)) (hall 2 (by omega)) (hall 3 (by omega)) (hall 4 (by omega)) (hall 5 (by omega)))
      have hb6 := hb
      rw [hls.out, mBs_six] at hb6
      generalize byteOf (hpI p0) = b0 at *
      generalize byteOf (hpI p1) = b1 at *
      generalize byteOf (hpI p2) = b2 at *
      generalize byteOf (hpI p3) = b3 at *
      generalize byteOf (hpI p4) = b4 at *
      generalize byteOf (hpI p5) = b5 at *
      obtain ⟨c0, _⟩ := hb6.cell 0 (by simp)
      obtain ⟨c1, _⟩ := hb6.cell 1 (by simp)
      obtain ⟨c2, _⟩ := hb6.cell 2 (by simp)
      obtain ⟨c3, _⟩ := hb6.cell 3 (by simp)
      obtain ⟨c4, _⟩ := hb6.cell 4 (by simp)
      obtain ⟨c5, _⟩ := hb6.cell 5 (by simp)
      simp only [List.getElem_cons_zero, List.getElem_cons_succ] at c0 c1 c2 c3 c4 c5
      obtain ⟨⟨q0, q1, q2, q3, q4, q5⟩, f0, f1, f2, f3, f4, f5⟩ := cells6 HZ.out
      clear hb hb6 HALL hgl hzl
      go_wp2
      have R4 := put6 (x := .int .u8 (b0.toNat : Int)) (y := .int .u8 (b1.toNat : Int)) (z := .int .u8 (b2.toNat : Int)) (u := .int .u8 (b3.toNat : Int)) (v := .int .u8 (b4.toNat : Int)) (t := .int .u8 (b5.toNat : Int)) HZ.out
      obtain ⟨⟨k0', k1', k2', k3', k4', k5'⟩, _⟩ := cells6 R4
      clear R4
      refine bodyPost_ret (v := .tuple #[.agg #[.int .u8 (b0.toNat : Int), .int .u8 (b1.toNat : Int), .int .u8 (b2.toNat : Int), .int .u8 (b3.toNat : Int), .int .u8 (b4.toNat : Int), .int .u8 (b5.toNat : Int)], .int .i64 0]) (by simp [results, Tryd.results84, go_sem, k0', k1', k2', k3', k4', k5']) rfl ⟨.inl ⟨YES.out.1, ?_⟩, (((((bel.setCell (Nat.le_refl _) _).setCell (Nat.le_refl _) _).setCell (Nat.le_refl _) _).setCell (Nat.le_refl _) _).setCell (Nat.le_refl _) _).setCell (Nat.le_refl _) _⟩
      rw [YES.out.2]; rfl

theorem amac_any (s : ByteArray) (w : World) (hs : s.size ≤ 140737488355328) : Calls Tryd.prog 84 #[.string s] w (AMacPost s.data.toList w) := by
  match hm : cutF 58 s.data.toList with
  | [p0, p1, p2, p3, p4, p5] => exact amac_six s w hs p0 p1 p2 p3 p4 p5 hm
  | [] | [_] | [_, _] | [_, _, _] | [_, _, _, _] | [_, _, _, _, _] | _ :: _ :: _ :: _ :: _ :: _ :: _ :: _ => exact amac_pieces s w hs (by rw [hm]; simp)
open Go.RowKit

theorem be_abcd (a b c d : UInt8) : be [a, b, c, d] = a.toNat * 16777216 + b.toNat * 65536 + c.toNat * 256 + d.toNat := by
  simp [be]; omega
theorem adr_be (a b c d : UInt8) : adr (be [a, b, c, d]) = .agg #[.int .u8 (a.toNat : Int), .int .u8 (b.toNat : Int), .int .u8 (c.toNat : Int), .int .u8 (d.toNat : Int)] := by
  have := a.toNat_lt; have := b.toNat_lt; have := c.toNat_lt; have := d.toNat_lt
  rw [be_abcd]
  unfold adr
  have e1 : ((a.toNat * 16777216 + b.toNat * 65536 + c.toNat * 256 + d.toNat : Nat) : Int) / 16777216 = a.toNat := by omega
  have e2 : ((a.toNat * 16777216 + b.toNat * 65536 + c.toNat * 256 + d.toNat : Nat) : Int) / 65536 % 256 = b.toNat := by omega
  have e3 : ((a.toNat * 16777216 + b.toNat * 65536 + c.toNat * 256 + d.toNat : Nat) : Int) / 256 % 256 = c.toNat := by omega
  have e4 : ((a.toNat * 16777216 + b.toNat * 65536 + c.toNat * 256 + d.toNat : Nat) : Int) % 256 = d.toNat := by omega
  rw [e1, e2, e3, e4]
theorem be_inj (a b c d a' b' c' d' : UInt8) : be [a, b, c, d] = be [a', b', c', d'] ↔ [a, b, c, d] = [a', b', c', d'] := by
  have := a.toNat_lt; have := b.toNat_lt; have := c.toNat_lt; have := d.toNat_lt
  have := a'.toNat_lt; have := b'.toNat_lt; have := c'.toNat_lt; have := d'.toNat_lt
  rw [be_abcd, be_abcd]
  constructor
  · intro h
    have e1 : a = a' := UInt8.toNat_inj.1 (by omega)
    have e2 : b = b' := UInt8.toNat_inj.1 (by omega)
    have e3 : c = c' := UInt8.toNat_inj.1 (by omega)
    have e4 : d = d' := UInt8.toNat_inj.1 (by omega)
    rw [e1, e2, e3, e4]
  · intro h
    simp only [List.cons.injEq, and_true] at h
    rw [h.1, h.2.1, h.2.2.1, h.2.2.2]
/-- Every number below 2^32 is four bytes'. -/
theorem be_onto (n : Nat) (h : n < 4294967296) : ∃ a b c d : UInt8, n = be [a, b, c, d] := by
  refine ⟨UInt8.ofNat (n / 16777216), UInt8.ofNat (n / 65536), UInt8.ofNat (n / 256), UInt8.ofNat n, ?_⟩
  rw [be_abcd, UInt8.toNat_ofNat', UInt8.toNat_ofNat', UInt8.toNat_ofNat', UInt8.toNat_ofNat']
  omega

theorem eql_adr (n k : Nat) (hn : n < 4294967296) (hk : k < 4294967296) (w : World) : (binOp .eql 24 (adr n) (adr k)).run Tryd.prog w = .ok (.bool (n == k)) w := by
  obtain ⟨a, b, c, d, rfl⟩ := be_onto n hn
  obtain ⟨a', b', c', d', rfl⟩ := be_onto k hk
  rw [adr_be, adr_be]
  have h := run_eql_bytes (P := Tryd.prog) w 24 5 4 (by kernel_rfl) (by kernel_rfl) (fun w => by kernel_rfl) [a, b, c, d] [a', b', c', d'] rfl rfl
  have e : (be [a, b, c, d] == be [a', b', c', d']) = ([a, b, c, d] == [a', b', c', d']) := by
    rw [Bool.eq_iff_iff, beq_iff_eq, beq_iff_eq]; exact be_inj ..
  rw [e]
  exact h
theorem neq_adr (n k : Nat) (hn : n < 4294967296) (hk : k < 4294967296) (w : World) : (binOp .neq 24 (adr n) (adr k)).run Tryd.prog w = .ok (.bool (!(n == k))) w := by
  have h := eql_adr n k hn hk w
  unfold adr at h ⊢
  rw [run_eql_struct] at h
  rw [run_neq_struct]
  revert h
  generalize (Op.equalIn 10000 24 (.agg #[.int .u8 ((n : Int) / 16777216), .int .u8 ((n : Int) / 65536 % 256), .int .u8 ((n : Int) / 256 % 256), .int .u8 ((n : Int) % 256)]) (.agg #[.int .u8 ((k : Int) / 16777216), .int .u8 ((k : Int) / 65536 % 256), .int .u8 ((k : Int) / 256 % 256), .int .u8 ((k : Int) % 256)])).run Tryd.prog w = r
  intro h
  cases r <;> simp_all [Result.andThen]
open Go.RowKit

/-- A net as a value. -/
def netV (a b c d : UInt8) (n : Int) : Value := .agg #[.int .u8 (a.toNat : Int), .int .u8 (b.toNat : Int), .int .u8 (c.toNat : Int), .int .u8 (d.toNat : Int), .int .i64 n]
theorem cells5 {w : World} {k : Nat} {a b c d e : Value} {T : TypeId} (h : w.heap[k]? = some (.cells #[a, b, c, d, e] T (0, 0))) :
    (w.cell? ⟨k, 0, none⟩ = some a ∧ w.cell? ⟨k, 1, none⟩ = some b ∧ w.cell? ⟨k, 2, none⟩ = some c ∧ w.cell? ⟨k, 3, none⟩ = some d ∧ w.cell? ⟨k, 4, none⟩ = some e) ∧
    (w.frozen? ⟨k, 0, none⟩ = false ∧ w.frozen? ⟨k, 1, none⟩ = false ∧ w.frozen? ⟨k, 2, none⟩ = false ∧ w.frozen? ⟨k, 3, none⟩ = false ∧ w.frozen? ⟨k, 4, none⟩ = false) := by
  simp [World.cell?, World.frozen?, h]
/-- What ParseNet answers. -/
def netE (l : List UInt8) : Int :=
  if splitOk l = false then 9 else if firstN (be [(splitA l).1, (splitA l).2.1, (splitA l).2.2.1, (splitA l).2.2.2]) (clamp (splitN l)) = be [(splitA l).1, (splitA l).2.1, (splitA l).2.2.1, (splitA l).2.2.2] then 0 else 1
def netA (l : List UInt8) : UInt8 × UInt8 × UInt8 × UInt8 := if netE l = 0 then splitA l else (0, 0, 0, 0)
def netN (l : List UInt8) : Int := if netE l = 0 then splitN l else 0
open Go.RowKit

open Go.RowKit

structure Ad4 where
  (a b c d : UInt8)
structure Mc6 where
  (a b c d e f : UInt8)
def Ad4.num (x : Ad4) : Nat := be [x.a, x.b, x.c, x.d]
theorem Ad4.lt (x : Ad4) : x.num < 4294967296 := be_four_lt _ _ _ _
theorem Ad4.cells (x : Ad4) : adr x.num = .agg #[.int .u8 (x.a.toNat : Int), .int .u8 (x.b.toNat : Int), .int .u8 (x.c.toNat : Int), .int .u8 (x.d.toNat : Int)] := adr_be _ _ _ _
structure Cf where
  (own lan : Ad4)
  bits : Int
  (lanmac wanmac : Mc6)
  (first last : Ad4)
  time : Int
  dns : Ad4
  (udp tcp icmp low : Int)
  fixed : List (Mc6 × Ad4)
  opens : List (Int × Int × Ad4 × Int)
/-- The first and the last address of a configuration's net; an address of it, neither of them. -/
def Cf.fst (c : Cf) : Nat := firstN c.lan.num (clamp c.bits)
def Cf.lst (c : Cf) : Nat := lastN c.lan.num (clamp c.bits)
def Cf.has (c : Cf) (x : Ad4) : Bool := c.fst == firstN x.num (clamp c.bits)
def Cf.inner (c : Cf) (x : Ad4) : Bool := c.has x && (!(x.num == c.fst) && !(x.num == c.lst))
theorem ad_eql (x : Ad4) (n : Nat) (hn : n < 4294967296) (W : World) : (binOp .eql 24 (.agg #[.int .u8 (x.a.toNat : Int), .int .u8 (x.b.toNat : Int), .int .u8 (x.c.toNat : Int), .int .u8 (x.d.toNat : Int)]) (adr n)).run Tryd.prog W = .ok (.bool (x.num == n)) W := by
  rw [← x.cells]; exact eql_adr _ _ x.lt hn W
theorem ad_neq (x : Ad4) (n : Nat) (hn : n < 4294967296) (W : World) : (binOp .neq 24 (.agg #[.int .u8 (x.a.toNat : Int), .int .u8 (x.b.toNat : Int), .int .u8 (x.c.toNat : Int), .int .u8 (x.d.toNat : Int)]) (adr n)).run Tryd.prog W = .ok (.bool (!(x.num == n))) W := by
  rw [← x.cells]; exact neq_adr _ _ x.lt hn W
theorem ad_guard (op : BinOp) (y z : Operand) (x : Array Value) (n : Nat) (W : World) : (eqGuard op 24 y z (.agg x) (adr n)).run Tryd.prog W = .ok () W := by
  unfold adr; exact run_eqGuard_agg W op 24 y z _ _ (by kernel_rfl)
open Go.RowKit

theorem cells6 {w : World} {k : Nat} {x0 x1 x2 x3 x4 x5 : Value} {T : TypeId} (h : w.heap[k]? = some (.cells #[x0, x1, x2, x3, x4, x5] T (0, 0))) :
    (w.cell? ⟨k, 0, none⟩ = some x0 ∧ w.cell? ⟨k, 1, none⟩ = some x1 ∧ w.cell? ⟨k, 2, none⟩ = some x2 ∧ w.cell? ⟨k, 3, none⟩ = some x3 ∧ w.cell? ⟨k, 4, none⟩ = some x4 ∧ w.cell? ⟨k, 5, none⟩ = some x5) ∧
    (w.frozen? ⟨k, 0, none⟩ = false ∧ w.frozen? ⟨k, 1, none⟩ = false ∧ w.frozen? ⟨k, 2, none⟩ = false ∧ w.frozen? ⟨k, 3, none⟩ = false ∧ w.frozen? ⟨k, 4, none⟩ = false ∧ w.frozen? ⟨k, 5, none⟩ = false) := by
  simp [World.cell?, World.frozen?, h]
theorem put6 {w : World} {k : Nat} {x0 x1 x2 x3 x4 x5 y0 y1 y2 y3 y4 y5 : Value} {T : TypeId} (h : w.heap[k]? = some (.cells #[x0, x1, x2, x3, x4, x5] T (0, 0))) :
    ((((((w.setCell ⟨k, 0, none⟩ y0).setCell ⟨k, 1, none⟩ y1).setCell ⟨k, 2, none⟩ y2).setCell ⟨k, 3, none⟩ y3).setCell ⟨k, 4, none⟩ y4).setCell ⟨k, 5, none⟩ y5).heap[k]? = some (.cells #[y0, y1, y2, y3, y4, y5] T (0, 0)) := by
  simp [World.setCell, Array.getElem?_modify, h]
/-- A group's address: its first byte is odd. -/
def isGroup (l : List UInt8) : Bool := decide (((l.getD 0 0).toNat : Int) % 2 = 1)

open Go.RowKit

/-- The cells of a configuration. -/
@[reducible] def cfl (c : Cf) (Fx : Option Addr) (nf cf : Nat) (Ox : Option Addr) (nx cx : Nat) : List Value := [.int .u8 (c.own.a.toNat : Int), .int .u8 (c.own.b.toNat : Int), .int .u8 (c.own.c.toNat : Int), .int .u8 (c.own.d.toNat : Int), .int .u8 (c.lan.a.toNat : Int), .int .u8 (c.lan.b.toNat : Int), .int .u8 (c.lan.c.toNat : Int), .int .u8 (c.lan.d.toNat : Int), .int .i64 c.bits, .int .u8 (c.lanmac.a.toNat : Int), .int .u8 (c.lanmac.b.toNat : Int), .int .u8 (c.lanmac.c.toNat : Int), .int .u8 (c.lanmac.d.toNat : Int), .int .u8 (c.lanmac.e.toNat : Int), .int .u8 (c.lanmac.f.toNat : Int), .int .u8 (c.wanmac.a.toNat : Int), .int .u8 (c.wanmac.b.toNat : Int), .int .u8 (c.wanmac.c.toNat : Int), .int .u8 (c.wanmac.d.toNat : Int), .int .u8 (c.wanmac.e.toNat : Int), .int .u8 (c.wanmac.f.toNat : Int), .int .u8 (c.first.a.toNat : Int), .int .u8 (c.first.b.toNat : Int), .int .u8 (c.first.c.toNat : Int), .int .u8 (c.first.d.toNat : Int), .int .u8 (c.last.a.toNat : Int), .int .u8 (c.last.b.toNat : Int), .int .u8 (c.last.c.toNat : Int), .int .u8 (c.last.d.toNat : Int), .int .i64 c.time, .int .u8 (c.dns.a.toNat : Int), .int .u8 (c.dns.b.toNat : Int), .int .u8 (c.dns.c.toNat : Int), .int .u8 (c.dns.d.toNat : Int), .int .i64 c.udp, .int .i64 c.tcp, .int .i64 c.icmp, .int .i64 c.low, .slice Fx nf cf, .slice Ox nx cx]
def Mc6.l (x : Mc6) : List UInt8 := [x.a, x.b, x.c, x.d, x.e, x.f]
def fxf (x : Mc6 × Ad4) : List Value := [.int .u8 (x.1.a.toNat : Int), .int .u8 (x.1.b.toNat : Int), .int .u8 (x.1.c.toNat : Int), .int .u8 (x.1.d.toNat : Int), .int .u8 (x.1.e.toNat : Int), .int .u8 (x.1.f.toNat : Int), .int .u8 (x.2.a.toNat : Int), .int .u8 (x.2.b.toNat : Int), .int .u8 (x.2.c.toNat : Int), .int .u8 (x.2.d.toNat : Int)]
def opf (x : Int × Int × Ad4 × Int) : List Value := [.int .i64 x.1, .int .i64 x.2.1, .int .u8 (x.2.2.1.a.toNat : Int), .int .u8 (x.2.2.1.b.toNat : Int), .int .u8 (x.2.2.1.c.toNat : Int), .int .u8 (x.2.2.1.d.toNat : Int), .int .i64 x.2.2.2]
theorem fxf_len (x : Mc6 × Ad4) : (fxf x).length = 10 := rfl
theorem opf_len (x : Int × Int × Ad4 × Int) : (opf x).length = 7 := rfl
def Cf.checkA (c : Cf) : Bool := inI c.bits 8 30 && (!(!(c.lan.num == c.fst)) && (c.inner c.own && (!isGroup c.lanmac.l && !isGroup c.wanmac.l)))
def Cf.checkB (c : Cf) : Bool := c.inner c.first && (c.inner c.last && (!decide (c.last.num < c.first.num) && (!decide (64 ≤ c.last.num - c.first.num) && !(decide (c.first.num ≤ c.own.num) && decide (c.own.num ≤ c.last.num)))))
def Cf.checkC (c : Cf) : Bool := inI c.time 60 86400 && (inI (c.dns.a.toNat : Int) 1 223 && (inI c.udp 10 86400 && (inI c.tcp 10 86400 && (inI c.icmp 10 86400 && (inI c.low 1024 60000 && (!decide (32 < c.fixed.length) && !decide (32 < c.opens.length)))))))
def fixBad (x y : Mc6 × Ad4) : Bool := (y.1.l == x.1.l) || (y.2.num == x.2.num)
def Cf.fixOne (c : Cf) (d : List (Mc6 × Ad4)) (x : Mc6 × Ad4) : Bool := c.inner x.2 && (!(x.2.num == c.own.num) && !d.any (fixBad x))
def Cf.fixAll (c : Cf) : List (Mc6 × Ad4) → List (Mc6 × Ad4) → Bool
  | _, [] => true
  | d, x :: l => c.fixOne d x && c.fixAll (d ++ [x]) l
def opBad (x y : Int × Int × Ad4 × Int) : Bool := (y.1 == x.1) && (y.2.1 == x.2.1)
def Cf.opOne (c : Cf) (d : List (Int × Int × Ad4 × Int)) (x : Int × Int × Ad4 × Int) : Bool := ((x.1 == 17) || (x.1 == 6)) && (inI x.2.1 1 (c.low - 1) && (inI x.2.2.2 1 65535 && (c.inner x.2.2.1 && (!(x.2.2.1.num == c.own.num) && !d.any (opBad x)))))
def Cf.opAll (c : Cf) : List (Int × Int × Ad4 × Int) → List (Int × Int × Ad4 × Int) → Bool
  | _, [] => true
  | d, x :: l => c.opOne d x && c.opAll (d ++ [x]) l
/-- May a configuration be? -/
def Cf.check (c : Cf) : Bool := c.checkA && (c.checkB && (c.checkC && (c.fixAll [] c.fixed && c.opAll [] c.opens)))
theorem ad_eq2 (x y : Ad4) (W : World) : (binOp .eql 24 (.agg #[.int .u8 (x.a.toNat : Int), .int .u8 (x.b.toNat : Int), .int .u8 (x.c.toNat : Int), .int .u8 (x.d.toNat : Int)]) (.agg #[.int .u8 (y.a.toNat : Int), .int .u8 (y.b.toNat : Int), .int .u8 (y.c.toNat : Int), .int .u8 (y.d.toNat : Int)])).run Tryd.prog W = .ok (.bool (x.num == y.num)) W := by
  rw [← x.cells, ← y.cells]; exact eql_adr _ _ x.lt y.lt W
theorem mc_eq2 (x y : Mc6) (W : World) : (binOp .eql 28 (.agg #[.int .u8 (x.a.toNat : Int), .int .u8 (x.b.toNat : Int), .int .u8 (x.c.toNat : Int), .int .u8 (x.d.toNat : Int), .int .u8 (x.e.toNat : Int), .int .u8 (x.f.toNat : Int)]) (.agg #[.int .u8 (y.a.toNat : Int), .int .u8 (y.b.toNat : Int), .int .u8 (y.c.toNat : Int), .int .u8 (y.d.toNat : Int), .int .u8 (y.e.toNat : Int), .int .u8 (y.f.toNat : Int)])).run Tryd.prog W = .ok (.bool (x.l == y.l)) W :=
  run_eql_bytes (P := Tryd.prog) W 28 5 6 (by kernel_rfl) (by kernel_rfl) (fun w => by kernel_rfl) x.l y.l rfl rfl
theorem ad_guard2 (op : BinOp) (y z : Operand) (a b : Array Value) (W : World) : (eqGuard op 24 y z (.agg a) (.agg b)).run Tryd.prog W = .ok () W := run_eqGuard_agg W op 24 y z _ _ (by kernel_rfl)
theorem mc_guard2 (op : BinOp) (y z : Operand) (a b : Array Value) (W : World) : (eqGuard op 28 y z (.agg a) (.agg b)).run Tryd.prog W = .ok () W := run_eqGuard_agg W op 28 y z _ _ (by kernel_rfl)
theorem any_more {α : Type} {p : α → Bool} {l : List α} {j : Nat} {x : α} (hx : l[j]? = some x) (h : (l.take j).any p = false) (hp : p x = false) : (l.take (j + 1)).any p = false := by
  rw [List.take_add_one, hx, Option.toList_some, List.any_append, h, List.any_cons, hp]
  rfl
theorem any_hit {α : Type} {p : α → Bool} {l : List α} {j i : Nat} {x : α} (hj : j < i) (hx : l[j]? = some x) (hp : p x = true) : (l.take i).any p = true := by
  rw [List.any_eq_true]
  exact ⟨x, List.mem_of_getElem? (i := j) (by rw [List.getElem?_take, if_pos hj]; exact hx), hp⟩
theorem Cf.fix_step {c : Cf} {l : List (Mc6 × Ad4)} {i : Nat} {x : Mc6 × Ad4} (hx : l[i]? = some x) : c.fixAll (l.take i) (l.drop i) = (c.fixOne (l.take i) x && c.fixAll (l.take (i + 1)) (l.drop (i + 1))) := by
  obtain ⟨hi, he⟩ := List.getElem?_eq_some_iff.1 hx
  rw [List.drop_eq_getElem_cons hi, he, Cf.fixAll, List.take_add_one, hx]
  rfl
theorem Cf.op_step {c : Cf} {l : List (Int × Int × Ad4 × Int)} {i : Nat} {x : Int × Int × Ad4 × Int} (hx : l[i]? = some x) : c.opAll (l.take i) (l.drop i) = (c.opOne (l.take i) x && c.opAll (l.take (i + 1)) (l.drop (i + 1))) := by
  obtain ⟨hi, he⟩ := List.getElem?_eq_some_iff.1 hx
  rw [List.drop_eq_getElem_cons hi, he, Cf.opAll, List.take_add_one, hx]
  rfl
open Go.RowKit

/-- A number's value, and whether it is one; an address's, a MAC's. -/
def decOk (l : List UInt8) : Bool := decide (0 ≤ numI l 999999999)
def decV (l : List UInt8) : Int := if 0 ≤ numI l 999999999 then numI l 999999999 else 0
theorem dec_no {l : List UInt8} (h : numI l 999999999 = -1) : decV l = 0 ∧ decOk l = false := by unfold decV decOk; rw [h]; exact ⟨rfl, rfl⟩
theorem dec_yes {l : List UInt8} {n : Nat} (h : numI l 999999999 = n) : decV l = n ∧ decOk l = true := by
  unfold decV decOk; rw [h, if_pos (by omega), decide_eq_true (by omega)]; exact ⟨rfl, rfl⟩
theorem decV_range (l : List UInt8) : 0 ≤ decV l ∧ decV l ≤ 999999999 := by
  have := numI_range l 999999999
  unfold decV
  split <;> omega
def p4 (l : List UInt8) : Ad4 := match parse4 l with
  | some (a, b, c, d) => ⟨a, b, c, d⟩
  | none => ⟨0, 0, 0, 0⟩
def p4ok (l : List UInt8) : Bool := (parse4 l).isSome
def errI (b : Bool) : Int := if b then 0 else 9
theorem aparse_l (l : List UInt8) (w : World) (hl : l.length ≤ 100000) : Calls Tryd.prog 83 #[.string ⟨l.toArray⟩] w fun e w' => e = .returned (.tuple #[.agg #[.int .u8 ((p4 l).a.toNat : Int), .int .u8 ((p4 l).b.toNat : Int), .int .u8 ((p4 l).c.toNat : Int), .int .u8 ((p4 l).d.toNat : Int)], .int .i64 (errI (p4ok l))]) ∧ Below w.heap.size w w' := by
  refine (aparse_any ⟨l.toArray⟩ w (by rw [st_size]; omega)).mono fun e w' h => ?_
  unfold AParsePost at h
  change (match parse4 l with
   | none => e = .returned (.tuple #[addrV 0 0 0 0, .int .i64 9])
   | some (a, b, c, d) => e = .returned (.tuple #[addrV a b c d, .int .i64 0])) ∧ Below w.heap.size w w' at h
  unfold p4 p4ok
  cases hp : parse4 l with
  | none => rw [hp] at h; exact h
  | some x => obtain ⟨a, b, c, d⟩ := x; rw [hp] at h; exact h
instance (l : List UInt8) : Decidable (macOk l) := by unfold macOk; infer_instance
def mcok (l : List UInt8) : Bool := decide (macOk l)
def mcl (l : List UInt8) : Mc6 := if macOk l then ⟨byteOf (macB l 0), byteOf (macB l 1), byteOf (macB l 2), byteOf (macB l 3), byteOf (macB l 4), byteOf (macB l 5)⟩ else ⟨0, 0, 0, 0, 0, 0⟩
theorem macBs_six (l : List UInt8) : macBs l 6 = [byteOf (macB l 0), byteOf (macB l 1), byteOf (macB l 2), byteOf (macB l 3), byteOf (macB l 4), byteOf (macB l 5)] := by simp [macBs, List.range, List.range.loop]
theorem amac_l (l : List UInt8) (w : World) (hl : l.length ≤ 100000) : Calls Tryd.prog 84 #[.string ⟨l.toArray⟩] w fun e w' => e = .returned (.tuple #[.agg #[.int .u8 ((mcl l).a.toNat : Int), .int .u8 ((mcl l).b.toNat : Int), .int .u8 ((mcl l).c.toNat : Int), .int .u8 ((mcl l).d.toNat : Int), .int .u8 ((mcl l).e.toNat : Int), .int .u8 ((mcl l).f.toNat : Int)], .int .i64 (errI (mcok l))]) ∧ Below w.heap.size w w' := by
  refine (amac_any ⟨l.toArray⟩ w (by rw [st_size]; omega)).mono fun e w' h => ?_
  unfold AMacPost at h
  change (macOk l ∧ e = .returned (.tuple #[.agg ((macBs l 6).map u8v).toArray, .int .i64 0]) ∨ ¬ macOk l ∧ e = .returned (.tuple #[mac0, .int .i64 9])) ∧ Below w.heap.size w w' at h
  obtain ⟨h | h, hb⟩ := h
  · refine ⟨?_, hb⟩
    rw [h.2, macBs_six]
    unfold mcl mcok
    rw [if_pos h.1, decide_eq_true h.1]
    rfl
  · refine ⟨?_, hb⟩
    rw [h.2]
    unfold mcl mcok
    rw [if_neg h.1, decide_eq_false h.1]
    rfl
theorem onlyW_none {l : List UInt8} (h : (wordsL l).length ≠ 1) : onlyW l = none := by
  unfold onlyW
  split
  · rename_i hh; rw [hh] at h; exact absurd rfl h
  · rfl
theorem onlyW_some {l x : List UInt8} (h : (wordsL l).length = 1) (hx : (wordsL l)[0]? = some x) : onlyW l = some x := by
  obtain ⟨y, hy⟩ := List.length_eq_one_iff.1 h
  rw [hy] at hx
  unfold onlyW
  rw [hy]
  simpa using hx
set_option linter.unusedVariables false in
set_option linter.unusedSimpArgs false in
set_option maxRecDepth 100000 in
set_option maxHeartbeats 16000000 in
theorem cdecimal_any (l : List UInt8) (w : World) : Calls Tryd.prog 82 #[.string ⟨l.toArray⟩] w fun e w' => e = .returned (.tuple #[.int .i64 (decV l), .bool (decOk l)]) ∧ Below w.heap.size w w' := by
  have bel := Below.refl w.heap.size w
  go_enter Tryd.func82, Tryd.ntmps82
  by_cases h9 : 9 < l.length
  · have h9k : (9 : Int) < l.length := by omega
    have HP : Hid (decV l = 0 ∧ decOk l = false) := Lib.hid (dec_no (numI_shape _ (.inr (.inl h9))))
    have R9 := fun W => st_len l 3 W
    go_wp2_with fail
    clear R9
    exact bodyPost_ret (v := .tuple #[.int .i64 0, .bool false]) (by simp [results, Tryd.results82, go_sem]) rfl ⟨by rw [HP.out.1, HP.out.2], bel⟩
  · have h9k : decide ((9 : Int) < l.length) = false := decide_eq_false (by omega)
    have R9 := fun W => st_len l 3 W
    go_wp2_with (first | ((with_reducible show wpList _ _ _ (⟨some 12, _, _, _, _, _⟩ :: _) _ _); refine wpList_range_n rfl 9 (.tmp 11) rfl (by kernel_rfl) (l) rfl ?_; intro g12 w1 ge lt hh bb; have oit := Nat.le_trans bel.size ge; replace bel := bel.trans (bb.mono bel.size); have hit := hh; clear hh lt ge bb))
    try clear R9
    simp only [Act.put, List.setIfInBounds_toArray, List.set_cons_zero, List.set_cons_succ]
    go_loopg [4] (l.length + 1) (fun gk s4 wr => ∃ pos : Nat, ∃ n : Nat, gk = l.length + 1 - pos ∧ pos ≤ l.length ∧ Hid (DecInv l pos n) ∧ Hid (n < 10 ^ pos) ∧ s4 = .int .i64 (n : Int) ∧ wr.heap[g12]? = some (.stringIter ⟨(l).toArray⟩ (pos)) ∧ Below w.heap.size w wr)
    case atStart => exact ⟨0, 0, rfl, Nat.zero_le _, Lib.hid (dec_start _), Lib.hid (by decide), rfl, hit, bel⟩
    case round =>
      clear hit bel
      obtain ⟨pos, n, HGK, hp, HI, HN, rfl, hit, bel⟩ := hrel
      have HGK_ := Lib.hid HGK
      clear HGK
      by_cases hpl : pos < l.length
      · obtain ⟨r, k, c, hd, hc, hr, hk, hcase⟩ := dec_rune ⟨l.toArray⟩ pos (by rw [st_size]; exact hpl)
        replace hc : l[pos]? = some c := hc
        have HD := Lib.hid hd
        have HC := Lib.hid hc
        clear hd hc
        have r0 : (0 : Int) ≤ r := by omega
        have r1 : (r : Int) ≤ 1114111 := by omega
        have n0 : (0 : Int) ≤ n := by omega
        have n1 : (n : Int) ≤ 99999999 := pow_le9 HN.out (by omega)
        obtain ⟨ip, hip⟩ : ∃ ip : Int, ip = (pos : Int) := ⟨_, rfl⟩
        have HIP := Lib.hid hip
        have ip0 : 0 ≤ ip := by omega
        have ip9 : ip ≤ 9 := by omega
        clear hip
        by_cases hz : 0 < pos ∧ n = 0
        · have HP : Hid (decV l = 0 ∧ decOk l = false) := Lib.hid (dec_no (by have h := HI.out; rw [hz.2] at h; exact dec_zero h hz.1 HC.out _))
          have en : ((n : Int) == 0) = true := beq_iff_eq.2 (by omega)
          have ip1 : (0 : Int) < ip := by have := HIP.out; omega
          clear hcase hz hk hr
          go_wp2_with (first | ((with_reducible show wpList _ _ _ (⟨some 13, _, _, _, _, _⟩ :: _) _ _); refine wpList_next_n rfl (.tmp 12) rfl g12 rfl (l) (pos) hit (r) (k) (HD.out) (hpl) (ip) (HIP.out) ?_; intro w2 hq gr; replace bel := below_grown bel gr oit bel.size; clear hit; have hit := hq; clear hq gr))
          exact bodyPost_ret (v := .tuple #[.int .i64 0, .bool false]) (by simp [results, Tryd.results82, go_sem]) rfl ⟨by rw [HP.out.1, HP.out.2], bel⟩
        · have HZ := Lib.hid hz
          clear hz
          by_cases hp0 : pos = 0
          · have ip1 : decide ((0 : Int) < ip) = false := decide_eq_false (by have := HIP.out; omega)
            rcases hcase with ⟨hc1, hr1⟩ | ⟨hc1, hr1⟩ | ⟨hc1, hc2, hrc, hk1⟩
            · have HP : Hid (decV l = 0 ∧ decOk l = false) := Lib.hid (dec_no (dec_bad HI.out HC.out (.inl hc1) _))
              have t1 : (r : Int) < 48 := by omega
              clear hc1 hr1 hk hr
              go_wp2_with (first | ((with_reducible show wpList _ _ _ (⟨some 13, _, _, _, _, _⟩ :: _) _ _); refine wpList_next_n rfl (.tmp 12) rfl g12 rfl (l) (pos) hit (r) (k) (HD.out) (hpl) (ip) (HIP.out) ?_; intro w2 hq gr; replace bel := below_grown bel gr oit bel.size; clear hit; have hit := hq; clear hq gr))
              exact bodyPost_ret (v := .tuple #[.int .i64 0, .bool false]) (by simp [results, Tryd.results82, go_sem]) rfl ⟨by rw [HP.out.1, HP.out.2], bel⟩
            · have HP : Hid (decV l = 0 ∧ decOk l = false) := Lib.hid (dec_no (dec_bad HI.out HC.out (.inr hc1) _))
              have t1 : decide ((r : Int) < 48) = false := decide_eq_false (by omega)
              have t2 : (57 : Int) < r := by omega
              clear hc1 hr1 hk hr
              go_wp2_with (first | ((with_reducible show wpList _ _ _ (⟨some 13, _, _, _, _, _⟩ :: _) _ _); refine wpList_next_n rfl (.tmp 12) rfl g12 rfl (l) (pos) hit (r) (k) (HD.out) (hpl) (ip) (HIP.out) ?_; intro w2 hq gr; replace bel := below_grown bel gr oit bel.size; clear hit; have hit := hq; clear hq gr))
              exact bodyPost_ret (v := .tuple #[.int .i64 0, .bool false]) (by simp [results, Tryd.results82, go_sem]) rfl ⟨by rw [HP.out.1, HP.out.2], bel⟩
            · have t1 : decide ((r : Int) < 48) = false := decide_eq_false (by omega)
              have t2 : decide ((57 : Int) < r) = false := decide_eq_false (by omega)
              have q0 : (48 : Int) ≤ r := by omega
              have q1 : (r : Int) ≤ 57 := by omega
              have E1 : Hid (((10 * n + (c.toNat - 48) : Nat) : Int) = 10 * n + (r - 48)) := Lib.hid (by omega)
              have HS := Lib.hid (dec_step HI.out HC.out hc1 hc2 HZ.out)
              have HPW := Lib.hid (pow_next (d := c.toNat - 48) HN.out (by omega))
              have HK1 := Lib.hid hk1
              clear hc1 hc2 hrc hk1 hk hr
              go_wp2_with (first | ((with_reducible show wpList _ _ _ (⟨some 13, _, _, _, _, _⟩ :: _) _ _); refine wpList_next_n rfl (.tmp 12) rfl g12 rfl (l) (pos) hit (r) (k) (HD.out) (hpl) (ip) (HIP.out) ?_; intro w2 hq gr; replace bel := below_grown bel gr oit bel.size; clear hit; have hit := hq; clear hq gr))
              go_roundg (l.length + 1 - (pos + k))
              case measure => have := HGK_.out; have := HK1.out; omega
              case rel => exact ⟨pos + k, 10 * n + (c.toNat - 48), rfl, by have := HK1.out; omega, by rw [HK1.out]; exact HS, by rw [HK1.out]; exact HPW, by rw [E1.out], hit, bel⟩
          · have ip1 : (0 : Int) < ip := by have := HIP.out; omega
            have en : ((n : Int) == 0) = false := beq_eq_false_iff_ne.2 (by have := HZ.out; omega)
            rcases hcase with ⟨hc1, hr1⟩ | ⟨hc1, hr1⟩ | ⟨hc1, hc2, hrc, hk1⟩
            · have HP : Hid (decV l = 0 ∧ decOk l = false) := Lib.hid (dec_no (dec_bad HI.out HC.out (.inl hc1) _))
              have t1 : (r : Int) < 48 := by omega
              clear hc1 hr1 hk hr
              go_wp2_with (first | ((with_reducible show wpList _ _ _ (⟨some 13, _, _, _, _, _⟩ :: _) _ _); refine wpList_next_n rfl (.tmp 12) rfl g12 rfl (l) (pos) hit (r) (k) (HD.out) (hpl) (ip) (HIP.out) ?_; intro w2 hq gr; replace bel := below_grown bel gr oit bel.size; clear hit; have hit := hq; clear hq gr))
              exact bodyPost_ret (v := .tuple #[.int .i64 0, .bool false]) (by simp [results, Tryd.results82, go_sem]) rfl ⟨by rw [HP.out.1, HP.out.2], bel⟩
            · have HP : Hid (decV l = 0 ∧ decOk l = false) := Lib.hid (dec_no (dec_bad HI.out HC.out (.inr hc1) _))
              have t1 : decide ((r : Int) < 48) = false := decide_eq_false (by omega)
              have t2 : (57 : Int) < r := by omega
              clear hc1 hr1 hk hr
              go_wp2_with (first | ((with_reducible show wpList _ _ _ (⟨some 13, _, _, _, _, _⟩ :: _) _ _); refine wpList_next_n rfl (.tmp 12) rfl g12 rfl (l) (pos) hit (r) (k) (HD.out) (hpl) (ip) (HIP.out) ?_; intro w2 hq gr; replace bel := below_grown bel gr oit bel.size; clear hit; have hit := hq; clear hq gr))
              exact bodyPost_ret (v := .tuple #[.int .i64 0, .bool false]) (by simp [results, Tryd.results82, go_sem]) rfl ⟨by rw [HP.out.1, HP.out.2], bel⟩
            · have t1 : decide ((r : Int) < 48) = false := decide_eq_false (by omega)
              have t2 : decide ((57 : Int) < r) = false := decide_eq_false (by omega)
              have q0 : (48 : Int) ≤ r := by omega
              have q1 : (r : Int) ≤ 57 := by omega
              have E1 : Hid (((10 * n + (c.toNat - 48) : Nat) : Int) = 10 * n + (r - 48)) := Lib.hid (by omega)
              have HS := Lib.hid (dec_step HI.out HC.out hc1 hc2 HZ.out)
              have HPW := Lib.hid (pow_next (d := c.toNat - 48) HN.out (by omega))
              have HK1 := Lib.hid hk1
              clear hc1 hc2 hrc hk1 hk hr
              go_wp2_with (first | ((with_reducible show wpList _ _ _ (⟨some 13, _, _, _, _, _⟩ :: _) _ _); refine wpList_next_n rfl (.tmp 12) rfl g12 rfl (l) (pos) hit (r) (k) (HD.out) (hpl) (ip) (HIP.out) ?_; intro w2 hq gr; replace bel := below_grown bel gr oit bel.size; clear hit; have hit := hq; clear hq gr))
              go_roundg (l.length + 1 - (pos + k))
              case measure => have := HGK_.out; have := HK1.out; omega
              case rel => exact ⟨pos + k, 10 * n + (c.toNat - 48), rfl, by have := HK1.out; omega, by rw [HK1.out]; exact HS, by rw [HK1.out]; exact HPW, by rw [E1.out], hit, bel⟩
      · obtain rfl : pos = l.length := by omega
        have n0 : (0 : Int) ≤ n := by omega
        have n1 : (n : Int) ≤ 999999999 := by have := HN.out; have h_ : (10 : Nat) ^ l.length ≤ 10 ^ 9 := Nat.pow_le_pow_right (by omega) (by omega); omega
        by_cases hn : l = []
        · have e9 : (l == []) = true := by rw [hn]; rfl
          have HNN : Hid ((n : Int) = 0) := Lib.hid (by rcases HI.out.2 with h | h | h <;> simp [hn] at h <;> omega)
          have HP : Hid (decV l = 0 ∧ decOk l = false) := Lib.hid (dec_no (by rw [hn]; exact dec_none _))
          clear hn
          have R13 := fun ty => next_end (P := Tryd.prog) ty hit (hpl)
          go_wp2_with fail
          clear R13
          exact bodyPost_ret (v := .tuple #[.int .i64 (n : Int), .bool false]) (by simp [results, Tryd.results82, go_sem]) rfl ⟨by rw [HP.out.1, HP.out.2, HNN.out], bel⟩
        · have e9 : (l == []) = false := by simpa using hn
          have HP : Hid (decV l = n ∧ decOk l = true) := Lib.hid (dec_yes (dec_end9 HI.out (List.length_pos_iff.2 hn) (by omega) _ n1))
          clear hn
          have R13 := fun ty => next_end (P := Tryd.prog) ty hit (hpl)
          go_wp2_with fail
          clear R13
          exact bodyPost_ret (v := .tuple #[.int .i64 (n : Int), .bool true]) (by simp [results, Tryd.results82, go_sem]) rfl ⟨by rw [HP.out.1, HP.out.2], bel⟩
set_option linter.unusedVariables false in
set_option linter.unusedSimpArgs false in
set_option maxRecDepth 100000 in
set_option maxHeartbeats 16000000 in
theorem onlyWord_any (l : List UInt8) (w : World) (hlen : l.length ≤ 100000) : Calls Tryd.prog 53 #[.string ⟨l.toArray⟩] w fun e w' => e = .returned (.tuple #[.string ⟨((onlyW l).getD []).toArray⟩, .bool (onlyW l).isSome]) ∧ Below w.heap.size w w' := by
  have bel := Below.refl w.heap.size w
  go_enter Tryd.func53, Tryd.ntmps53
  go_wp2_with fail
  with_reducible refine (wordsOf_any l _ hlen).mono ?_
  rintro e w1 ⟨v, rfl, wtw, b1⟩
  have wtlo := bel.size
  have lz_wt := b1.size
  replace bel := bel.trans (b1.mono bel.size)
  clear b1
  obtain ⟨Awt, cwt, rfl⟩ := owk_val wtw
  have wt := (owk_sle (by decide) stf_len wtw).1
  have fr_wt := (owk_sle (by decide) stf_len wtw).2
  obtain ⟨ws, hws⟩ : ∃ ws, wordsL l = ws := ⟨_, rfl⟩
  obtain ⟨n, hn⟩ : ∃ n, ws.length = n := ⟨_, rfl⟩
  rw [hws, hn] at wt wtw fr_wt
  rw [hws, hn]
  have HWS := Lib.hid hws
  have HNN := Lib.hid hn
  have n0 : (0 : Int) ≤ n := by omega
  clear hws hn
  by_cases h1 : n = 1
  · obtain ⟨x, hx⟩ : ∃ x, ws[0]? = some x := ⟨_, List.getElem?_eq_getElem (by rw [HNN.out]; omega)⟩
    have HX := Lib.hid hx
    have HP : Hid (onlyW l = some x) := Lib.hid (onlyW_some (by rw [HWS.out, HNN.out]; exact h1) (by rw [HWS.out]; exact hx))
    clear hx
    obtain ⟨g, o, rfl⟩ := wt.place (by omega)
    have h1k : ((n : Int) == 1) = true := beq_iff_eq.2 (by omega)
    have h1j : ((n : Int) != 1) = false := by rw [bne, h1k]; rfl
    have n1 : (1 : Int) ≤ n := by omega
    have R12 := (by have h_ := Sle.st (i := 0) wt HX.out; rw [Nat.add_zero] at h_; exact h_)
    go_wp2_with fail
    clear R12
    exact bodyPost_ret (v := .tuple #[.string ⟨(x).toArray⟩, .bool true]) (by simp [results, Tryd.results53, go_sem]) rfl ⟨by rw [HP.out]; rfl, bel⟩
  · have HP : Hid (onlyW l = none) := Lib.hid (onlyW_none (by rw [HWS.out, HNN.out]; exact h1))
    have h1k : ((n : Int) == 1) = false := beq_eq_false_iff_ne.2 (by omega)
    have h1j : ((n : Int) != 1) = true := by rw [bne, h1k]; rfl
    go_wp2_with fail
    exact bodyPost_ret (v := .tuple #[.string ⟨#[]⟩, .bool false]) (by simp [results, Tryd.results53, go_sem]) rfl ⟨by rw [HP.out]; rfl, bel⟩
/-- A name's kind. -/
def kindK (s : List UInt8) : Option Nat :=
  if (s == [108, 97, 110]) = true then some 2 else
  if (s == [108, 97, 110, 109, 97, 99]) = true then some 3 else
  if (s == [119, 97, 110, 109, 97, 99]) = true then some 3 else
  if (s == [102, 105, 114, 115, 116]) = true then some 1 else
  if (s == [108, 97, 115, 116]) = true then some 1 else
  if (s == [100, 110, 115]) = true then some 1 else
  if (s == [116, 105, 109, 101]) = true then some 0 else
  if (s == [117, 100, 112, 116, 105, 109, 101]) = true then some 0 else
  if (s == [116, 99, 112, 116, 105, 109, 101]) = true then some 0 else
  if (s == [105, 99, 109, 112, 116, 105, 109, 101]) = true then some 0 else
  if (s == [108, 111, 119]) = true then some 0 else
  none
set_option linter.unusedVariables false in
set_option linter.unusedSimpArgs false in
set_option maxRecDepth 100000 in
set_option maxHeartbeats 16000000 in
theorem kindOf_any (s : List UInt8) (w : World) : Calls Tryd.prog 74 #[.string ⟨s.toArray⟩] w fun e w' => e = .returned (.tuple #[.int .i64 (((kindK s).getD 0 : Nat) : Int), .bool (kindK s).isSome]) ∧ w = w' := by
  skip
  go_enter Tryd.func74, Tryd.ntmps74
  rcases (by decide : ∀ b : Bool, b = true ∨ b = false) (s == [108, 97, 110]) with b0 | b0
  · have HP : Hid (kindK s = some 2) := Lib.hid (by unfold kindK; rw [if_pos b0])
    go_wp2_with fail
    exact bodyPost_ret (v := .tuple #[.int .i64 2, .bool true]) (by simp [results, Tryd.results74, go_sem]) rfl ⟨by rw [HP.out]; rfl, rfl⟩
  · rcases (by decide : ∀ b : Bool, b = true ∨ b = false) (s == [108, 97, 110, 109, 97, 99]) with b1 | b1
    · have HP : Hid (kindK s = some 3) := Lib.hid (by unfold kindK; rw [if_neg (by rw [b0]; decide), if_pos b1])
      go_wp2_with fail
      exact bodyPost_ret (v := .tuple #[.int .i64 3, .bool true]) (by simp [results, Tryd.results74, go_sem]) rfl ⟨by rw [HP.out]; rfl, rfl⟩
    · rcases (by decide : ∀ b : Bool, b = true ∨ b = false) (s == [119, 97, 110, 109, 97, 99]) with b2 | b2
      · have HP : Hid (kindK s = some 3) := Lib.hid (by unfold kindK; rw [if_neg (by rw [b0]; decide), if_neg (by rw [b1]; decide), if_pos b2])
        go_wp2_with fail
        exact bodyPost_ret (v := .tuple #[.int .i64 3, .bool true]) (by simp [results, Tryd.results74, go_sem]) rfl ⟨by rw [HP.out]; rfl, rfl⟩
      · rcases (by decide : ∀ b : Bool, b = true ∨ b = false) (s == [102, 105, 114, 115, 116]) with b3 | b3
        · have HP : Hid (kindK s = some 1) := Lib.hid (by unfold kindK; rw [if_neg (by rw [b0]; decide), if_neg (by rw [b1]; decide), if_neg (by rw [b2]; decide), if_pos b3])
          go_wp2_with fail
          exact bodyPost_ret (v := .tuple #[.int .i64 1, .bool true]) (by simp [results, Tryd.results74, go_sem]) rfl ⟨by rw [HP.out]; rfl, rfl⟩
        · rcases (by decide : ∀ b : Bool, b = true ∨ b = false) (s == [108, 97, 115, 116]) with b4 | b4
          · have HP : Hid (kindK s = some 1) := Lib.hid (by unfold kindK; rw [if_neg (by rw [b0]; decide), if_neg (by rw [b1]; decide), if_neg (by rw [b2]; decide), if_neg (by rw [b3]; decide), if_pos b4])
            go_wp2_with fail
            exact bodyPost_ret (v := .tuple #[.int .i64 1, .bool true]) (by simp [results, Tryd.results74, go_sem]) rfl ⟨by rw [HP.out]; rfl, rfl⟩
          · rcases (by decide : ∀ b : Bool, b = true ∨ b = false) (s == [100, 110, 115]) with b5 | b5
            · have HP : Hid (kindK s = some 1) := Lib.hid (by unfold kindK; rw [if_neg (by rw [b0]; decide), if_neg (by rw [b1]; decide), if_neg (by rw [b2]; decide), if_neg (by rw [b3]; decide), if_neg (by rw [b4]; decide), if_pos b5])
              go_wp2_with fail
              exact bodyPost_ret (v := .tuple #[.int .i64 1, .bool true]) (by simp [results, Tryd.results74, go_sem]) rfl ⟨by rw [HP.out]; rfl, rfl⟩
            · rcases (by decide : ∀ b : Bool, b = true ∨ b = false) (s == [116, 105, 109, 101]) with b6 | b6
              · have HP : Hid (kindK s = some 0) := Lib.hid (by unfold kindK; rw [if_neg (by rw [b0]; decide), if_neg (by rw [b1]; decide), if_neg (by rw [b2]; decide), if_neg (by rw [b3]; decide), if_neg (by rw [b4]; decide), if_neg (by rw [b5]; decide), if_pos b6])
                go_wp2_with fail
                exact bodyPost_ret (v := .tuple #[.int .i64 0, .bool true]) (by simp [results, Tryd.results74, go_sem]) rfl ⟨by rw [HP.out]; rfl, rfl⟩
              · rcases (by decide : ∀ b : Bool, b = true ∨ b = false) (s == [117, 100, 112, 116, 105, 109, 101]) with b7 | b7
                · have HP : Hid (kindK s = some 0) := Lib.hid (by unfold kindK; rw [if_neg (by rw [b0]; decide), if_neg (by rw [b1]; decide), if_neg (by rw [b2]; decide), if_neg (by rw [b3]; decide), if_neg (by rw [b4]; decide), if_neg (by rw [b5]; decide), if_neg (by rw [b6]; decide), if_pos b7])
                  go_wp2_with fail
                  exact bodyPost_ret (v := .tuple #[.int .i64 0, .bool true]) (by simp [results, Tryd.results74, go_sem]) rfl ⟨by rw [HP.out]; rfl, rfl⟩
                · rcases (by decide : ∀ b : Bool, b = true ∨ b = false) (s == [116, 99, 112, 116, 105, 109, 101]) with b8 | b8
                  · have HP : Hid (kindK s = some 0) := Lib.hid (by unfold kindK; rw [if_neg (by rw [b0]; decide), if_neg (by rw [b1]; decide), if_neg (by rw [b2]; decide), if_neg (by rw [b3]; decide), if_neg (by rw [b4]; decide), if_neg (by rw [b5]; decide), if_neg (by rw [b6]; decide), if_neg (by rw [b7]; decide), if_pos b8])
                    go_wp2_with fail
                    exact bodyPost_ret (v := .tuple #[.int .i64 0, .bool true]) (by simp [results, Tryd.results74, go_sem]) rfl ⟨by rw [HP.out]; rfl, rfl⟩
                  · rcases (by decide : ∀ b : Bool, b = true ∨ b = false) (s == [105, 99, 109, 112, 116, 105, 109, 101]) with b9 | b9
                    · have HP : Hid (kindK s = some 0) := Lib.hid (by unfold kindK; rw [if_neg (by rw [b0]; decide), if_neg (by rw [b1]; decide), if_neg (by rw [b2]; decide), if_neg (by rw [b3]; decide), if_neg (by rw [b4]; decide), if_neg (by rw [b5]; decide), if_neg (by rw [b6]; decide), if_neg (by rw [b7]; decide), if_neg (by rw [b8]; decide), if_pos b9])
                      go_wp2_with fail
                      exact bodyPost_ret (v := .tuple #[.int .i64 0, .bool true]) (by simp [results, Tryd.results74, go_sem]) rfl ⟨by rw [HP.out]; rfl, rfl⟩
                    · rcases (by decide : ∀ b : Bool, b = true ∨ b = false) (s == [108, 111, 119]) with b10 | b10
                      · have HP : Hid (kindK s = some 0) := Lib.hid (by unfold kindK; rw [if_neg (by rw [b0]; decide), if_neg (by rw [b1]; decide), if_neg (by rw [b2]; decide), if_neg (by rw [b3]; decide), if_neg (by rw [b4]; decide), if_neg (by rw [b5]; decide), if_neg (by rw [b6]; decide), if_neg (by rw [b7]; decide), if_neg (by rw [b8]; decide), if_neg (by rw [b9]; decide), if_pos b10])
                        go_wp2_with fail
                        exact bodyPost_ret (v := .tuple #[.int .i64 0, .bool true]) (by simp [results, Tryd.results74, go_sem]) rfl ⟨by rw [HP.out]; rfl, rfl⟩
                      · have HP : Hid (kindK s = none) := Lib.hid (by unfold kindK; rw [if_neg (by rw [b0]; decide), if_neg (by rw [b1]; decide), if_neg (by rw [b2]; decide), if_neg (by rw [b3]; decide), if_neg (by rw [b4]; decide), if_neg (by rw [b5]; decide), if_neg (by rw [b6]; decide), if_neg (by rw [b7]; decide), if_neg (by rw [b8]; decide), if_neg (by rw [b9]; decide), if_neg (by rw [b10]; decide)])
                        go_wp2_with fail
                        exact bodyPost_ret (v := .tuple #[.int .i64 0, .bool false]) (by simp [results, Tryd.results74, go_sem]) rfl ⟨by rw [HP.out]; rfl, rfl⟩
def protoK (s : List UInt8) : Option Int :=
  if (s == [117, 100, 112]) = true then some 17 else
  if (s == [116, 99, 112]) = true then some 6 else
  none
set_option linter.unusedVariables false in
set_option linter.unusedSimpArgs false in
set_option maxRecDepth 100000 in
set_option maxHeartbeats 16000000 in
theorem protoOf_any (s : List UInt8) (w : World) : Calls Tryd.prog 73 #[.string ⟨s.toArray⟩] w fun e w' => e = .returned (.tuple #[.int .i64 ((protoK s).getD 0), .bool (protoK s).isSome]) ∧ w = w' := by
  skip
  go_enter Tryd.func73, Tryd.ntmps73
  rcases (by decide : ∀ b : Bool, b = true ∨ b = false) (s == [117, 100, 112]) with b0 | b0
  · have HP : Hid (protoK s = some 17) := Lib.hid (by unfold protoK; rw [if_pos b0])
    go_wp2_with fail
    exact bodyPost_ret (v := .tuple #[.int .i64 17, .bool true]) (by simp [results, Tryd.results73, go_sem]) rfl ⟨by rw [HP.out]; rfl, rfl⟩
  · rcases (by decide : ∀ b : Bool, b = true ∨ b = false) (s == [116, 99, 112]) with b1 | b1
    · have HP : Hid (protoK s = some 6) := Lib.hid (by unfold protoK; rw [if_neg (by rw [b0]; decide), if_pos b1])
      go_wp2_with fail
      exact bodyPost_ret (v := .tuple #[.int .i64 6, .bool true]) (by simp [results, Tryd.results73, go_sem]) rfl ⟨by rw [HP.out]; rfl, rfl⟩
    · have HP : Hid (protoK s = none) := Lib.hid (by unfold protoK; rw [if_neg (by rw [b0]; decide), if_neg (by rw [b1]; decide)])
      go_wp2_with fail
      exact bodyPost_ret (v := .tuple #[.int .i64 0, .bool false]) (by simp [results, Tryd.results73, go_sem]) rfl ⟨by rw [HP.out]; rfl, rfl⟩
set_option linter.unusedVariables false in
set_option linter.unusedSimpArgs false in
set_option maxRecDepth 100000 in
set_option maxHeartbeats 16000000 in
theorem sindex_any (A : Option Addr) (n c : Nat) (ls : List (List UInt8)) (s : List UInt8) (w : World) (hl : Sle stf 1 w A n c ls) (hm : n ≤ 100000) : Calls Tryd.prog 86 #[.slice A n c, .string ⟨s.toArray⟩] w fun e w' => e = .returned (.int .i64 (posI ls s)) ∧ w = w' := by
  have n0 : (n : Int) ≤ 100000 := by omega
  have bel := Below.refl w.heap.size w
  go_enter Tryd.func86, Tryd.ntmps86
  go_wp2_with fail
  go_loopg [8] (n + 1) (fun gk s8 wr => ∃ j : Nat, gk = n + 1 - j ∧ j ≤ n ∧ Hid ((ls.take j).contains s = false) ∧ s8 = .int .i64 (j : Int) ∧ w = wr)
  case atStart => exact ⟨0, rfl, Nat.zero_le _, Lib.hid rfl, rfl, rfl⟩
  case round =>
    obtain ⟨j, HGK, hj, HN, rfl, rfl⟩ := hrel
    have HGK_ := Lib.hid HGK
    clear HGK
    have j0 : (0 : Int) ≤ j := by omega
    by_cases hlj : j < n
    · obtain ⟨g, o, rfl⟩ := hl.place (by omega)
      have hjl : j < ls.length := by rw [hl.1]; exact hlj
      obtain ⟨x, hx⟩ : ∃ x, ls[j]? = some x := ⟨_, List.getElem?_eq_getElem hjl⟩
      have HX := Lib.hid hx
      clear hx
      rcases (by decide : ∀ b : Bool, b = true ∨ b = false) (s == x) with he | he
      · have HP : Hid (posI ls s = (j : Int)) := Lib.hid (by unfold posI; rw [posN_hit HN.out HX.out (by rw [eq_of_beq he]; exact beq_self_eq_true _)])
        have R15 := Sle.st (i := j) hl HX.out
        go_wp2_with fail
        clear R15
        go_ret
        exact ⟨by rw [HP.out]; rfl, rfl⟩
      · have HC : Hid ((ls.take (j + 1)).contains s = false) := Lib.hid (has_step HX.out HN.out (by rw [beq_eq_false_iff_ne] at he ⊢; exact fun e => he e.symm))
        have R15 := Sle.st (i := j) hl HX.out
        go_wp2_with fail
        clear R15
        go_roundg (n + 1 - (j + 1))
        case measure => have := HGK_.out; omega
        case rel => exact ⟨j + 1, rfl, by omega, HC, by go_num, rfl⟩
    · obtain rfl : j = n := by omega
      have HP : Hid (posI ls s = -1) := Lib.hid (by unfold posI; rw [posN_none (contains_none (by rw [hl.1]; exact Nat.le_refl _) HN.out)])
      go_wp2_with fail
      go_ret
      exact ⟨by rw [HP.out]; rfl, rfl⟩
theorem posI_has (ls : List (List UInt8)) (s : List UInt8) : decide (0 ≤ posI ls s) = ls.contains s := by
  cases h : ls.contains s with
  | false => unfold posI; rw [posN_none h]; rfl
  | true =>
    have : ∀ ls : List (List UInt8), ls.contains s = true → ∃ k, posN ls s = some k := by
      intro ls
      induction ls with
      | nil => intro h; simp at h
      | cons y l ih =>
        intro h
        rw [posN]
        by_cases hy : (y == s) = true
        · exact ⟨0, if_pos hy⟩
        · rw [if_neg hy]
          rw [List.contains_cons, Bool.or_eq_true] at h
          rcases h with h | h
          · exact absurd (by rw [eq_of_beq h]; exact beq_self_eq_true _) hy
          · obtain ⟨k, hk⟩ := ih h
            exact ⟨k + 1, by rw [hk]; rfl⟩
    obtain ⟨k, hk⟩ := this ls h
    unfold posI
    rw [hk]
    exact decide_eq_true (by simp)
set_option linter.unusedVariables false in
set_option linter.unusedSimpArgs false in
set_option maxRecDepth 100000 in
set_option maxHeartbeats 16000000 in
theorem scontains_any (A : Option Addr) (n c : Nat) (ls : List (List UInt8)) (s : List UInt8) (w : World) (hl : Sle stf 1 w A n c ls) (hm : n ≤ 100000) : Calls Tryd.prog 77 #[.slice A n c, .string ⟨s.toArray⟩] w fun e w' => e = .returned (.bool (ls.contains s)) ∧ w = w' := by
  have bel := Below.refl w.heap.size w
  go_enter Tryd.func77, Tryd.ntmps77
  go_wp2_with fail
  with_reducible refine (sindex_any _ _ _ ls s _ hl hm).mono ?_
  rintro e _ ⟨rfl, rfl⟩
  have hps := posI_has ls s
  obtain ⟨b, hb⟩ : ∃ b, ls.contains s = b := ⟨_, rfl⟩
  rw [hb] at hps
  have HP := Lib.hid hb
  generalize posI ls s = p at hps ⊢
  clear hb
  rcases b with _ | _
  · go_wp2_with fail
    go_ret
    exact ⟨by rw [HP.out]; rfl, rfl⟩
  · have hp : 0 ≤ p := of_decide_eq_true hps
    go_wp2_with fail
    go_ret
    exact ⟨by rw [HP.out]; rfl, rfl⟩
set_option maxRecDepth 100000 in
set_option maxHeartbeats 16000000 in
theorem within_any (v lo hi : Int) (w : World) : Calls Tryd.prog 60 #[.int .i64 v, .int .i64 lo, .int .i64 hi] w fun e w' => e = .returned (.bool (inI v lo hi)) ∧ w = w' := by
  unfold inI
  skip
  go_enter Tryd.func60, Tryd.ntmps60
  by_cases h0 : lo ≤ v
  · rw [decide_eq_true h0, Bool.true_and]
    by_cases h1 : v ≤ hi
    · rw [decide_eq_true h1]
      go_wp2_with fail
      go_ret
      exact ⟨rfl, rfl⟩
    · have h2 : decide (v ≤ hi) = false := decide_eq_false h1
      rw [h2]
      clear h1
      go_wp2_with fail
      go_ret
      exact ⟨rfl, rfl⟩
  · have h2 : decide (lo ≤ v) = false := decide_eq_false h0
    rw [h2, Bool.false_and]
    clear h0
    go_wp2_with fail
    go_ret
    exact ⟨rfl, rfl⟩
theorem group_is (m : Mc6) : isGroup m.l = (((m.a.toNat % 2 : Nat) : Int) == 1) := by
  unfold isGroup Mc6.l
  rw [Bool.eq_iff_iff, decide_eq_true_eq, beq_iff_eq, Int.natCast_emod]
  rfl
theorem u8_and1 (x : UInt8) : bits .and .u8 (x.toNat : Int) 1 = ((x.toNat % 2 : Nat) : Int) := by
  have : ∀ x : Fin 256, bits .and .u8 (x.val : Int) 1 = ((x.val % 2 : Nat) : Int) := by decide +kernel
  exact this ⟨x.toNat, x.toNat_lt⟩
set_option linter.unusedVariables false in
set_option linter.unusedSimpArgs false in
set_option maxRecDepth 100000 in
set_option maxHeartbeats 16000000 in
theorem isGroup_any (m : Mc6) (w : World) : Calls Tryd.prog 62 #[.agg #[.int .u8 (m.a.toNat : Int), .int .u8 (m.b.toNat : Int), .int .u8 (m.c.toNat : Int), .int .u8 (m.d.toNat : Int), .int .u8 (m.e.toNat : Int), .int .u8 (m.f.toNat : Int)]] w fun e w' => e = .returned (.bool (isGroup m.l)) ∧ Below w.heap.size w w' := by
  have e1 := u8_and1 m.a
  have HP : Hid (isGroup m.l = (((m.a.toNat % 2 : Nat) : Int) == 1)) := Lib.hid (group_is m)
  have bel := Below.refl w.heap.size w
  go_enter Tryd.func62, Tryd.ntmps62
  go_wp2_with (first | ((with_reducible show wpList _ _ _ (⟨some 1, _, _, _, _, _⟩ :: _) _ _); refine wpList_box_n rfl 28 (.tmp 0) rfl #[.int .u8 (m.a.toNat : Int), .int .u8 (m.b.toNat : Int), .int .u8 (m.c.toNat : Int), .int .u8 (m.d.toNat : Int), .int .u8 (m.e.toNat : Int), .int .u8 (m.f.toNat : Int)] rfl ?_; intro g1 w1 ge lt hh bb; have op := Nat.le_trans bel.size ge; replace bel := bel.trans (bb.mono bel.size); have hp := hh; clear hh lt ge bb; have R4 := cell_lit hp 0 _ rfl))
  try clear R4
  go_ret
  exact ⟨by rw [HP.out]; rfl, bel⟩
end Go.Proofs.YtdfobilagidmfaaDoor
