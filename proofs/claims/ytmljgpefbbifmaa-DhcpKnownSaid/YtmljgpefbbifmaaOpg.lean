/- Bodies in rows of their own; the places of Codes; what is joined. -/
import Derived.Test.YtmljgpefbbifmaaOp2
import Derived.Test.YtmljgpefbbifmaaOpr
namespace Go.Proofs.Ytmljgpefbbifmaa
open Go.RowKit

def ohV (h : Oh) : Value := .slice h.A h.n h.cp
/-- The Bodies lie in rows of their own, apart from one another. -/
def Bo (w : World) (B : Nat) (hs : List Oh) (L : OptL) : Prop := hs.length = L.length ∧
  (∀ (i : Nat) (h : Oh) (p : Int × List UInt8), hs[i]? = some h → L[i]? = some p → h.c = p.1 ∧ w.ownsRow B 5 1 (ohV h) h.n (p.2.map u8v)) ∧
  (∀ (i j : Nat) (h h' : Oh) (g : Nat), i ≠ j → hs[i]? = some h → hs[j]? = some h' → (ohV h).ownBlock = some g → Ofs (ohV h') g)
theorem Bo.nil (w : World) (B : Nat) : Bo w B [] [] := ⟨rfl, fun i h p hx => by simp at hx, fun i j h h' g hij hx => by simp at hx⟩
theorem Bo.kt {S : List TypeId} {w w' : World} {B : Nat} {hs : List Oh} {L : OptL} (h : Bo w B hs L) (k : Kt S w w') (hS : 5 ∉ S) : Bo w' B hs L :=
  ⟨h.1, fun i x p hx hp => ⟨(h.2.1 i x p hx hp).1, k.own (h.2.1 i x p hx hp).2 hS⟩, h.2.2⟩
theorem Bo.below {w w' : World} {B : Nat} {hs : List Oh} {L : OptL} (h : Bo w B hs L) (b : Below w.heap.size w w') : Bo w' B hs L := h.kt (S := []) (kt_below b) (by decide)
theorem Bo.drew {w : World} {B : Nat} {hs : List Oh} {L : OptL} (h : Bo w B hs L) : Bo w.drew B hs L := h
theorem Bo.bd {w : World} {B : Nat} {hs : List Oh} {L : OptL} (h : Bo w B hs L) : Bd w hs L :=
  ⟨h.1, fun i x p hx hp => ⟨(h.2.1 i x p hx hp).1, (own_sl (h.2.1 i x p hx hp).2).1⟩⟩
theorem Bo.at {w : World} {B : Nat} {hs : List Oh} {L : OptL} (h : Bo w B hs L) {i : Nat} {p : Int × List UInt8} (hp : L[i]? = some p) : ∃ x, hs[i]? = some x ∧ x.c = p.1 ∧ w.ownsRow B 5 1 (ohV x) x.n (p.2.map u8v) := by
  have hi := (List.getElem?_eq_some_iff.1 hp).1
  have hx : hs[i]? = some (hs[i]'(by rw [h.1]; exact hi)) := List.getElem?_eq_getElem _
  exact ⟨_, hx, (h.2.1 i _ p hx hp).1, (h.2.1 i _ p hx hp).2⟩
theorem own_block_lt {w : World} {B k n g : Nat} {e : TypeId} {v : Value} {xs : List Value} (h : w.ownsRow B e k v n xs) (hg : v.ownBlock = some g) : g < w.heap.size := (h.lt g hg).2
theorem Bo.app {w w' : World} {B i n' c' : Nat} {A' : Option Addr} {hs : List Oh} {L : OptL} {x : Oh} {p : Int × List UInt8} {m : List UInt8} (h : Bo w B hs L) (hx : hs[i]? = some x) (hp : L[i]? = some p) (gw : w.grownBy w' (ohV x).ownBlock)
    (own' : w'.ownsRow B 5 1 (.slice A' n' c') n' ((p.2 ++ m).map u8v)) (hof : ∀ g, g < w.heap.size → Ofs (ohV x) g → Ofs (.slice A' n' c') g) : Bo w' B (hs.set i ⟨x.c, A', n', c'⟩) (L.set i (p.1, p.2 ++ m)) := by
  have hi := (List.getElem?_eq_some_iff.1 hx).1
  have hi2 := (List.getElem?_eq_some_iff.1 hp).1
  refine ⟨by rw [List.length_set, List.length_set]; exact h.1, ?_, ?_⟩
  · intro j y q hy hq
    by_cases e : i = j
    · subst e
      rw [List.getElem?_set_self hi] at hy
      rw [List.getElem?_set_self hi2] at hq
      cases hy
      cases hq
      exact ⟨(h.2.1 i x p hx hp).1, own'⟩
    · rw [List.getElem?_set_ne e] at hy hq
      obtain ⟨h1, h2⟩ := h.2.1 j y q hy hq
      refine ⟨h1, ⟨h2.1, ?_⟩⟩
      rcases h2.2 with h3 | ⟨g, cap, cur, e1, hb, hh, h3⟩
      · exact .inl h3
      · refine .inr ⟨g, cap, cur, e1, hb, (gw.block g (hlt hh) (fun e2 => ?_)).trans hh, h3⟩
        exact h.2.2 j i y x g (fun h => e h.symm) hy hx (by rw [e1]; rfl) g e2.symm rfl
  · intro j k y z g hjk hy hz hg
    by_cases e : i = j
    · subst e
      rw [List.getElem?_set_self hi] at hy
      cases hy
      rw [List.getElem?_set_ne hjk] at hz
      intro q hq e2
      subst e2
      have hk := (List.getElem?_eq_some_iff.1 hz).1
      obtain ⟨_, h4⟩ := h.2.1 k z _ hz (List.getElem?_eq_getElem (by rw [← h.1]; exact hk))
      exact hof q (own_block_lt h4 hq) (h.2.2 k i z x q (fun h => hjk h.symm) hz hx hq) q hg rfl
    · rw [List.getElem?_set_ne e] at hy
      by_cases e3 : i = k
      · subst e3
        rw [List.getElem?_set_self hi] at hz
        cases hz
        have hj := (List.getElem?_eq_some_iff.1 hy).1
        obtain ⟨_, h4⟩ := h.2.1 j y _ hy (List.getElem?_eq_getElem (by rw [← h.1]; exact hj))
        exact hof g (own_block_lt h4 hg) (h.2.2 j i y x g (fun h => e h.symm) hy hx hg)
      · rw [List.getElem?_set_ne e3] at hz
        exact h.2.2 j k y z g hjk hy hz hg
theorem Bo.push {w : World} {B n' c' : Nat} {A' : Option Addr} {c : Int} {hs : List Oh} {L : OptL} {m : List UInt8} (h : Bo w B hs L) (own' : w.ownsRow B 5 1 (.slice A' n' c') n' (m.map u8v))
    (hnew : ∀ (j : Nat) (y : Oh) (g : Nat), hs[j]? = some y → (ohV y).ownBlock = some g → Ofs (.slice A' n' c') g) : Bo w B (hs ++ [⟨c, A', n', c'⟩]) (L ++ [(c, m)]) := by
  refine ⟨by simp [h.1], ?_, ?_⟩
  · intro j y q hy hq
    rcases Nat.lt_or_ge j hs.length with h0 | h0
    · rw [List.getElem?_append_left h0] at hy
      rw [List.getElem?_append_left (by rw [← h.1]; exact h0)] at hq
      exact h.2.1 j y q hy hq
    · rw [List.getElem?_append_right h0] at hy
      rw [List.getElem?_append_right (by rw [← h.1]; exact h0)] at hq
      have hj : j - hs.length < 1 := by simpa using (List.getElem?_eq_some_iff.1 hy).1
      obtain rfl : j = hs.length := by omega
      rw [Nat.sub_self] at hy
      rw [h.1, Nat.sub_self] at hq
      cases hy
      cases hq
      exact ⟨rfl, own'⟩
  · intro j k y z g hjk hy hz hg
    rcases Nat.lt_or_ge j hs.length with h0 | h0
    · rw [List.getElem?_append_left h0] at hy
      rcases Nat.lt_or_ge k hs.length with h1 | h1
      · rw [List.getElem?_append_left h1] at hz
        exact h.2.2 j k y z g hjk hy hz hg
      · rw [List.getElem?_append_right h1] at hz
        have hk : k - hs.length < 1 := by simpa using (List.getElem?_eq_some_iff.1 hz).1
        obtain rfl : k = hs.length := by omega
        rw [Nat.sub_self] at hz
        cases hz
        exact hnew j y g hy hg
    · rw [List.getElem?_append_right h0] at hy
      have hj : j - hs.length < 1 := by simpa using (List.getElem?_eq_some_iff.1 hy).1
      obtain rfl : j = hs.length := by omega
      rw [Nat.sub_self] at hy
      cases hy
      rcases Nat.lt_or_ge k hs.length with h1 | h1
      · rw [List.getElem?_append_left h1] at hz
        intro q hq e2
        subst e2
        exact hnew k z q hz hq q hg rfl
      · rw [List.getElem?_append_right h1] at hz
        have hk : k - hs.length < 1 := by simpa using (List.getElem?_eq_some_iff.1 hz).1
        omega
theorem Bo.fresh {w : World} {B lo n' c' : Nat} {A' : Option Addr} {hs : List Oh} {L : OptL} {w' : World} {xs : List Value} (h : Bo w B hs L) (hlo : w.heap.size ≤ lo) (own' : w'.ownsRow lo 5 1 (.slice A' n' c') n' xs) :
    ∀ (j : Nat) (y : Oh) (g : Nat), hs[j]? = some y → (ohV y).ownBlock = some g → Ofs (.slice A' n' c') g := by
  intro j y g hy hg q hq e
  subst e
  have hj := (List.getElem?_eq_some_iff.1 hy).1
  obtain ⟨_, h4⟩ := h.2.1 j y _ hy (List.getElem?_eq_getElem (by rw [← h.1]; exact hj))
  have h1 := own_block_lt h4 hg
  have h2 := (own'.lt q hq).1
  omega
/-- Where a Code stands, counted from 1; 0: nowhere. -/
def posN (L : OptL) (i : Nat) : Nat := match L.findIdx? (fun p => p.1 == (i : Int)) with
  | some j => j + 1
  | none => 0
def placesL (L : OptL) : List Value := (List.range 255).map fun (i : Nat) => .int .i64 (posN L i : Int)
theorem places_len (L : OptL) : (placesL L).length = 255 := by simp [placesL]
theorem places_at (L : OptL) {i : Nat} (h : i < 255) : (placesL L)[i]? = some (.int .i64 (posN L i : Int)) := by
  unfold placesL
  rw [List.getElem?_map, List.getElem?_range h]
  rfl
theorem pos_set {L : OptL} {i : Nat} {p : Int × List UInt8} {m : List UInt8} (hp : L[i]? = some p) (k : Nat) : posN (L.set i (p.1, m)) k = posN L k := by
  have e : (L.set i (p.1, m)).map (·.1) = L.map (·.1) := by
    apply List.ext_getElem?
    intro j
    rw [List.getElem?_map, List.getElem?_map]
    by_cases e : i = j
    · subst e
      rw [List.getElem?_set_self (List.getElem?_eq_some_iff.1 hp).1, hp]
      rfl
    · rw [List.getElem?_set_ne e]
  have h : ∀ (M : OptL), M.findIdx? (fun p => p.1 == (k : Int)) = (M.map (·.1)).findIdx? (fun c => c == (k : Int)) := fun M => by
    rw [List.findIdx?_map]; rfl
  unfold posN
  rw [h, h, e]
theorem places_set {L : OptL} {i : Nat} {p : Int × List UInt8} {m : List UInt8} (hp : L[i]? = some p) : placesL (L.set i (p.1, m)) = placesL L := by
  unfold placesL
  refine List.map_congr_left (fun k _ => ?_)
  rw [pos_set hp]
theorem places_push {L : OptL} {i : Nat} {m : List UInt8} (h : L.findIdx? (fun p => p.1 == (i : Int)) = none) : (placesL L).set i (.int .i64 ((L.length + 1 : Nat) : Int)) = placesL (L ++ [((i : Int), m)]) := by
  apply List.ext_getElem?
  intro j
  rcases Nat.lt_or_ge j 255 with hj | hj
  · rw [places_at _ hj]
    by_cases e : i = j
    · subst e
      rw [List.getElem?_set_self (by rw [places_len]; exact hj)]
      unfold posN
      rw [List.findIdx?_append, h]
      simp
    · rw [List.getElem?_set_ne e, places_at _ hj]
      have e2 : ((i : Int) == (j : Int)) = false := beq_eq_false_iff_ne.2 (by omega)
      unfold posN
      rw [List.findIdx?_append]
      cases L.findIdx? (fun p => p.1 == (j : Int)) with
      | none => simp [List.findIdx?_cons, e2]
      | some q => simp
  · rw [List.getElem?_eq_none (by rw [List.length_set, places_len]; exact hj), List.getElem?_eq_none (by rw [places_len]; exact hj)]
theorem idx_none' {L : OptL} {c : Int} (h : L.findIdx? (fun p => p.1 == c) = none) : ∀ p ∈ L, ¬ p.1 = c := by
  intro p hp e
  have := List.findIdx?_eq_none_iff.1 h p hp
  simp [e] at this
theorem idx_some' {L : OptL} {c : Int} {i : Nat} (h : L.findIdx? (fun p => p.1 == c) = some i) : ∃ l, L[i]? = some (c, l) := by
  obtain ⟨hi, h1, _⟩ := List.findIdx?_eq_some_iff_getElem.1 h
  have : L[i].1 = c := by simpa using h1
  exact ⟨L[i].2, by rw [List.getElem?_eq_getElem hi, ← this]⟩
theorem join_new {L : OptL} {c : Int} {x : List UInt8} (h : ∀ p ∈ L, ¬ p.1 = c) : joinL L c x = L ++ [(c, x)] := by
  unfold joinL
  rw [if_neg]
  simp only [List.any_eq_true, beq_iff_eq, not_exists, not_and]
  exact fun p hp => h p hp
theorem join_at {L : OptL} {c : Int} {x l : List UInt8} {i : Nat} (hp : L[i]? = some (c, l)) (hn : (L.map (·.1)).Nodup) : joinL L c x = L.set i (c, l ++ x) := by
  unfold joinL
  have hm := List.mem_of_getElem? hp
  rw [if_pos (by simp only [List.any_eq_true, beq_iff_eq]; exact ⟨_, hm, rfl⟩)]
  apply List.ext_getElem?
  intro j
  rw [List.getElem?_map]
  by_cases e : i = j
  · subst e
    rw [List.getElem?_set_self (List.getElem?_eq_some_iff.1 hp).1, hp]
    simp
  · rw [List.getElem?_set_ne e]
    cases hj : L[j]? with
    | none => rfl
    | some p =>
      have hne : ¬ p.1 = c := by
        intro e2
        have h1 := (List.getElem?_eq_some_iff.1 hp).1
        have h2 := (List.getElem?_eq_some_iff.1 hj).1
        have e4 : (L.map (·.1))[i]? = (L.map (·.1))[j]? := by rw [List.getElem?_map, List.getElem?_map, hp, hj]; simp [e2]
        exact e ((List.getElem?_inj (by rw [List.length_map]; exact h1) hn).1 e4)
      simp [hne]
theorem nodup_set {L : OptL} {c : Int} {l m : List UInt8} {i : Nat} (hp : L[i]? = some (c, l)) (hn : (L.map (·.1)).Nodup) : ((L.set i (c, m)).map (·.1)).Nodup := by
  have : (L.set i (c, m)).map (·.1) = L.map (·.1) := by
    apply List.ext_getElem?
    intro j
    rw [List.getElem?_map, List.getElem?_map]
    by_cases e : i = j
    · subst e
      rw [List.getElem?_set_self (List.getElem?_eq_some_iff.1 hp).1, hp]
      rfl
    · rw [List.getElem?_set_ne e]
  rw [this]; exact hn
theorem nodup_push {L : OptL} {c : Int} {m : List UInt8} (h : ∀ p ∈ L, ¬ p.1 = c) (hn : (L.map (·.1)).Nodup) : ((L ++ [(c, m)]).map (·.1)).Nodup := by
  rw [List.map_append, List.nodup_append]
  refine ⟨hn, by simp, ?_⟩
  intro a ha b hb e
  simp at hb
  subst hb
  subst e
  obtain ⟨p, hp, e⟩ := List.mem_map.1 ha
  exact h p hp e
/-- What Get answers: the options, the error. -/
def getS (b : List UInt8) : OptL × Int := match getL b [] with
  | some L => (L, 0)
  | none => ([], 3)
theorem gets_ok {b : List UInt8} {L : OptL} (h : getL b [] = some L) : getS b = (L, 0) := by unfold getS; rw [h]
theorem gets_no {b : List UInt8} (h : getL b [] = none) : getS b = ([], 3) := by unfold getS; rw [h]
end Go.Proofs.Ytmljgpefbbifmaa
