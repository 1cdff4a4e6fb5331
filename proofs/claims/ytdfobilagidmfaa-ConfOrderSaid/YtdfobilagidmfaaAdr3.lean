/- The contract of addr's split. -/
import Derived.Test.YtdfobilagidmfaaAdr1
import Derived.Test.YtdfobilagidmfaaRef3
namespace Go.Proofs.Ytdfobilagidmfaa
open Go.RowKit

theorem sep_rune (s : ByteArray) (pos : Nat) (h : pos < s.size) (b : UInt8) (hb : b.toNat < 128) :
    (s.data.toList[pos]? = some b ∧ Utf8.decode s pos = (b.toNat, 1)) ∨
    (∃ r k, Utf8.decode s pos = (r, k) ∧ r ≤ 1114111 ∧ r ≠ b.toNat ∧ 1 ≤ k ∧ pos + k ≤ s.size ∧ ∀ j, j < k → s.data.toList.getD (pos + j) 0 ≠ b) := by
  by_cases ha : (s[pos]'h).toNat < 128
  · have hd := decode_ascii s pos h ha
    by_cases hx : s[pos]'h = b
    · exact .inl ⟨by rw [get?_at s pos h, hx], by rw [hd, hx]⟩
    · refine .inr ⟨_, _, hd, by omega, fun e => hx (UInt8.toNat_inj.1 e), Nat.le_refl _, by omega, fun j hj => ?_⟩
      obtain rfl : j = 0 := by omega
      rw [Nat.add_zero, getD_at s pos h]; exact hx
  · obtain ⟨h1, h2, h3, h4, h5⟩ := rune_hi s pos h (by omega)
    refine .inr ⟨(Utf8.decode s pos).1, (Utf8.decode s pos).2, rfl, h2, fun e => by omega, h3, h4, fun j hj e => ?_⟩
    have := h5 j hj
    rw [e] at this
    omega

theorem own_slice {w : World} {base : Nat} {e : TypeId} {size : Nat} {v : Value} {n : Nat} {xs : List Value} (h : w.ownsRow base e size v n xs) : ∃ A cap, v = .slice A n cap := by
  rcases h.2 with ⟨rfl, rfl⟩ | ⟨g, cap, _, rfl, _⟩
  · exact ⟨_, _, rfl⟩
  · exact ⟨_, _, rfl⟩
theorem own_iterAt {w : World} {base : Nat} {e : TypeId} {size : Nat} {v : Value} {n : Nat} {xs : List Value} (h : w.ownsRow base e size v n xs) {k : Nat} {s : ByteArray} {pos : Nat} (hk : w.heap[k]? = some (.stringIter s pos)) (pos' : Nat) : (w.iterAt k s pos').ownsRow base e size v n xs := by
  refine ⟨h.1, ?_⟩
  rcases h.2 with hn | ⟨g, cap, cur, hv, hbg, hg, rest⟩
  · exact .inl hn
  · have hkg : g ≠ k := by
      intro e1
      rw [e1, hk] at hg
      cases hg
    exact .inr ⟨g, cap, cur, hv, hbg, (Lib.iterAt_other w k g s pos' hkg).trans hg, rest⟩
/-- An iterator stays behind what writes a row of the call's own. -/
theorem iter_grown {w w' : World} {base : Nat} {e : TypeId} {size : Nat} {v : Value} {n : Nat} {xs : List Value} (h : w.ownsRow base e size v n xs) {k : Nat} {s : ByteArray} {pos : Nat} (hk : w.heap[k]? = some (.stringIter s pos)) (hg : w.grownBy w' v.ownBlock) : w'.heap[k]? = some (.stringIter s pos) := by
  rw [hg.block k (Array.getElem?_eq_some_iff.1 hk).1 ?_, hk]
  intro e1
  rcases h.2 with ⟨rfl, _⟩ | ⟨g, cap, cur, rfl, hbg, hg', rest⟩
  · simp [Value.ownBlock] at e1
  · simp only [Value.ownBlock, Option.some.injEq] at e1
    subst e1
    rw [hk] at hg'
    cases hg'

/-- What split answers: the pieces, if there are just so many. -/
def SpPost (b : UInt8) (l : List UInt8) (m : Nat) (w : World) (e : Ending) (w' : World) : Prop :=
  (if (cutF b l).length = m then ∃ g cap, e = .returned (.tuple #[.slice (some ⟨g, 0, none⟩) m cap, .bool true]) ∧ m ≤ cap ∧ w.heap.size ≤ g ∧ g < w'.heap.size ∧ (∀ (j : Nat) (x : List UInt8), (cutF b l)[j]? = some x → w'.cell? ⟨g, j, none⟩ = some (.string ⟨x.toArray⟩))
   else e = .returned (.tuple #[.slice none 0 0, .bool false])) ∧ Below w.heap.size w w'
theorem spPost_no {b : UInt8} {l : List UInt8} {m : Nat} {w w' : World} (h : (cutF b l).length ≠ m) (hb : Below w.heap.size w w') : SpPost b l m w (.returned (.tuple #[.slice none 0 0, .bool false])) w' := by
  unfold SpPost; rw [if_neg h]; exact ⟨rfl, hb⟩
theorem spPost_yes {b : UInt8} {l : List UInt8} {m : Nat} {w w' : World} {v : Value} (h : (cutF b l).length = m) (hm : 0 < m) (hb : Below w.heap.size w w') (hown : w'.ownsRow w.heap.size 9 1 v m ((cutF b l).map strv)) : SpPost b l m w (.returned (.tuple #[v, .bool true])) w' := by
  unfold SpPost; rw [if_pos h]
  refine ⟨?_, hb⟩
  rcases hown.2 with ⟨_, h0⟩ | ⟨g, cap, _, rfl, hgb, hh, hcap, _⟩
  · omega
  refine ⟨g, cap, rfl, hcap, hgb, (Array.getElem?_eq_some_iff.1 hh).1, fun j x hj => ?_⟩
  have hjl : j < (cutF b l).length := (List.getElem?_eq_some_iff.1 hj).1
  rw [hown.cellAt j (by omega), List.getElem?_map, hj]
  rfl

set_option maxRecDepth 100000 in
set_option maxHeartbeats 4000000 in
theorem asplit_any (s : ByteArray) (b : UInt8) (hb : b.toNat < 128) (m : Nat) (hm : 0 < m) (hm1 : m < 1000) (w : World) (hs : s.size ≤ 140737488355328) :
    Calls Try.prog 81 #[.string s, .int .i32 (b.toNat : Int), .int .i64 (m : Int)] w (SpPost b s.data.toList m w) := by
  obtain ⟨i0, hi, hz0, hz1, hz2⟩ := info_parts Try.info_str
  have hlen : s.data.toList.length = s.size := by simp
  have HLEN := Lib.hid hlen
  clear hlen
  have s1 : (s.size : Int) ≤ 140737488355328 := by omega
  have hb0 : (0 : Int) ≤ b.toNat := by omega
  have hb1 : (b.toNat : Int) < 128 := by omega
  have m0 : (0 : Int) < m := by omega
  have m1 : (m : Int) < 1000 := by omega
  go_enter Try.func81, Try.ntmps81
  go_wp2_with (at_make; refine wpList_make_own _ rfl _ _ 47 rfl w.heap.size 9 i0 (.string ⟨#[]⟩) 1 Try.underlying47 hi hz0 hz1 .i64 .i64 _ m rfl rfl rfl (by rw [hz2]; omega) (by unfold maxLen; omega) (Nat.le_refl _) ?_; intro w0 hown0 hgrow0; refine Hid.out ?_)
  refine Lib.hid ?_
  have bel0 : Below w.heap.size w w0 := (Below.refl _ _).grown hgrow0 (Nat.le_refl _) (fun k h => by cases h)
  obtain ⟨B, hB⟩ : ∃ B, Hid (B = w.heap.size) := ⟨_, Lib.hid rfl⟩
  obtain ⟨I, hI⟩ : ∃ I, Hid (I = w0.heap.size) := ⟨_, Lib.hid rfl⟩
  go_wp2
  go_loopw [8, 9] (fun p f wr => ∃ (pos start : Nat) (ps : List (List UInt8)) (v0 : Value), v0 = p ∧ f = .int .i64 start ∧ CutInv b s.data.toList pos start ps ∧ ps.length < m ∧ wr.ownsRow w.heap.size 9 1 p ps.length (ps.map strv) ∧ wr.heap[w0.heap.size]? = some (.stringIter s pos) ∧ Below w.heap.size w wr) (fun _ _ wr => s.size - wr.iterPos w0.heap.size)
  case atStart => exact ⟨0, 0, [], _, rfl, rfl, cutInv_start _ _, hm, hown0.alloc _, World.iter_heap _ _ _, bel0.alloc bel0.size _⟩
  case round =>
    obtain ⟨pos, start, ps, v, rfl, rfl, hci, hps, hown, hit, bel⟩ := hrel
    have hsl := hci.1
    have hpl : pos ≤ s.size := by have := hci.2.1; have := HLEN.out; omega
    obtain ⟨A, cap, rfl⟩ := own_slice hown
    have x0 : (0 : Int) ≤ start := by omega
    have x1 : (start : Int) ≤ pos := by omega
    have x2 : (pos : Int) ≤ s.size := by omega
    have y1 : (ps.length : Int) < m := by omega
    have hex := Lib.hid (extract_str s start pos)
    by_cases hlt : pos < s.size
    · have x3 : (pos : Int) < s.size := by omega
      rcases sep_rune s pos hlt b hb with ⟨hat, hd⟩ | ⟨r, k, hd, hr, hne, hk, hkl, hfree⟩
      · have hnx : ∀ ty, (Instr.next (.pointer (some ⟨w0.heap.size, 0, none⟩)) true ty).run Try.prog wr = .ok (.tuple #[.bool true, .int .i64 pos, .int .i32 (b.toNat : Int)]) (wr.iterAt w0.heap.size s (pos + 1)) := fun ty => by
          have := Lib.run_next_any_at (P := Try.prog) wr w0.heap.size s pos ty hit hlt
          rw [hd] at this; exact this
        by_cases hk : ps.length = m - 1
        · have hno : Hid ((cutF b s.data.toList).length ≠ m) := Lib.hid (by have := cutInv_many hci hat; omega)
          have t1 : ((ps.length : Int) == (m : Int) - 1) = true := beq_iff_eq.2 (by omega)
          have bel2 := Lib.below_iterAt bel (k := w0.heap.size) bel0.size s (pos + 1)
          clear hd hat hci hk hown hown0
          go_wp2
          go_ret2
          exact spPost_no hno.out bel2
        · have t1 : ((ps.length : Int) == (m : Int) - 1) = false := beq_eq_false_iff_ne.2 (by omega)
          have hst := Lib.hid (cutInv_sep hci hat)
          have hown2 := own_iterAt hown hit (pos + 1)
          have hit2 := Lib.iterAt_heap wr w0.heap.size s pos (pos + 1) hit
          have bel2 := Lib.below_iterAt bel (k := w0.heap.size) bel0.size s (pos + 1)
          have hlt2 : ps.length + 1 < m := by omega
          clear hd hat hci hk hown hown0 bel
          go_wp2_with (at_builtin; refine wpList_append_own _ rfl (.tmp 28) (.tmp 33) 47 rfl w.heap.size 9 i0 (.string ⟨#[]⟩) 1 16 Try.underlying47 hi hz0 hz1 hz2 rfl (by decide) _ _ _ rfl (hown2.alloc _) ⟨(wr.iterAt w0.heap.size s (pos + 1)).heap.size, 0, none⟩ 1 1 [.string (s.extract start pos)] rfl rfl ?c1 ?c2 ?c3 ?c4 ?c5 ?_)
          case c1 => exact cell_one_new _ _ _
          case c2 => intro u hu; rw [List.mem_singleton.1 hu]; rfl
          case c3 => unfold maxLen; omega
          case c4 => omega
          case c5 => have := bel2.size; simp; omega
          intro v' w1 hown1 hg1 _
          have bel3 : Below w.heap.size w w1 := (bel2.alloc bel2.size _).grown hg1 (by have := bel2.size; simp; omega) (fun k h => (hown2.lt k h).1)
          have hit3 := iter_grown (hown2.alloc _) ((Go.heap_alloc_old _ _ (Array.getElem?_eq_some_iff.1 hit2).1).trans hit2) hg1
          have hown3 : w1.ownsRow w.heap.size 9 1 v' (ps ++ [(s.data.toList.take pos).drop start]).length ((ps ++ [(s.data.toList.take pos).drop start]).map strv) := by
            rw [List.map_append, List.length_append]
            have e : strv ((s.data.toList.take pos).drop start) = .string (s.extract start pos) := by rw [hex.out]; rfl
            rw [List.map_singleton, e]
            exact hown1
          clear hown1 hg1 hown2 hit2 bel2
          go_wp2
          go_roundw
          case rel => exact ⟨pos + 1, pos + 1, _, _, rfl, by go_num, hst.out, by rw [List.length_append]; exact hlt2, hown3, hit3, bel3⟩
          case measure => simp [World.iterPos, hit, hit3]; omega
      · have hnx : ∀ ty, (Instr.next (.pointer (some ⟨w0.heap.size, 0, none⟩)) true ty).run Try.prog wr = .ok (.tuple #[.bool true, .int .i64 pos, .int .i32 (r : Int)]) (wr.iterAt w0.heap.size s (pos + k)) := fun ty => by
          have := Lib.run_next_any_at (P := Try.prog) wr w0.heap.size s pos ty hit hlt
          rw [hd] at this; exact this
        have r0 : (0 : Int) ≤ r := by omega
        have r1 : (r : Int) ≤ 1114111 := by omega
        have t1 : ((r : Int) == (b.toNat : Int)) = false := beq_eq_false_iff_ne.2 (by omega)
        have t2 : ((r : Int) != (b.toNat : Int)) = true := by rw [bne, t1]; rfl
        have hst := Lib.hid (cutInv_skip hci k (by have := HLEN.out; omega) hfree)
        have hown2 := own_iterAt hown hit (pos + k)
        have hit2 := Lib.iterAt_heap wr w0.heap.size s pos (pos + k) hit
        have bel2 := Lib.below_iterAt bel (k := w0.heap.size) bel0.size s (pos + k)
        clear hd hci hown hown0 bel hne hfree
        go_wp2
        go_roundw
        case rel => exact ⟨pos + k, start, ps, _, rfl, rfl, hst.out, hps, hown2, hit2, bel2⟩
        case measure => simp [World.iterPos, hit, hit2]; omega
    · obtain rfl : pos = s.size := by omega
      have hnx : ∀ ty, (Instr.next (.pointer (some ⟨w0.heap.size, 0, none⟩)) true ty).run Try.prog wr = .ok (.tuple #[.bool false]) wr := fun ty => Lib.run_next_end_at wr w0.heap.size s s.size ty hit hlt
      have hend : cutF b s.data.toList = ps ++ [s.data.toList.drop start] := by
        rw [← HLEN.out] at hci; exact cutInv_end hci
      have hex2 := Lib.hid (extract_end s start)
      clear hex
      by_cases hk : ps.length < m - 1
      · have hno : Hid ((cutF b s.data.toList).length ≠ m) := Lib.hid (by rw [hend, List.length_append, List.length_singleton]; omega)
        have t1 : (ps.length : Int) < (m : Int) - 1 := by omega
        clear hend hci hk hown hown0
        go_wp2
        go_ret2
        exact spPost_no hno.out bel
      · have hk1 : ps.length + 1 = m := by omega
        have hyes : Hid ((cutF b s.data.toList).length = m) := Lib.hid (by rw [hend, List.length_append, List.length_singleton]; omega)
        have t1 : decide ((ps.length : Int) < (m : Int) - 1) = false := decide_eq_false (by omega)
        have HEND := Lib.hid hend
        have HK1 := Lib.hid hk1
        clear hend hci hk hown0 hk1
        go_wp2_with (at_builtin; refine wpList_append_own _ rfl (.tmp 42) (.tmp 46) 47 rfl w.heap.size 9 i0 (.string ⟨#[]⟩) 1 16 Try.underlying47 hi hz0 hz1 hz2 rfl (by decide) _ _ _ rfl (hown.alloc _) ⟨wr.heap.size, 0, none⟩ 1 1 [.string (s.extract start s.size)] rfl rfl ?d1 ?d2 ?d3 ?d4 ?d5 ?_)
        case d1 => exact cell_one_new _ _ _
        case d2 => intro u hu; rw [List.mem_singleton.1 hu]; rfl
        case d3 => unfold maxLen; omega
        case d4 => omega
        case d5 => have := bel.size; simp; omega
        intro v' w1 hown1 hg1 _
        have bel3 : Below w.heap.size w w1 := (bel.alloc bel.size _).grown hg1 (by have := bel.size; simp; omega) (fun k h => (hown.lt k h).1)
        have hown3 : w1.ownsRow w.heap.size 9 1 v' m ((cutF b s.data.toList).map strv) := by
          rw [HEND.out, List.map_append, ← HK1.out]
          have e : strv (s.data.toList.drop start) = .string (s.extract start s.size) := by rw [hex2.out]; rfl
          rw [List.map_singleton, e]
          exact hown1
        clear hown1 hg1 hown bel
        go_wp2
        go_ret2
        exact spPost_yes hyes.out hm bel3 hown3
end Go.Proofs.Ytdfobilagidmfaa
