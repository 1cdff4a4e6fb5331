/- A region that draws, in whatever order: an invariant over what is listed. Of no program. -/
import Derived.Test.YtjfboofnffghjaaMem
import Derived.Deep.RegionHeld
namespace Go.Proofs.Ytjfboofnffghjaa
open Go.RowKit

def lexOk (ops : Array Oper) : Bool := (List.range ops.size).all fun i => ((ops[i]?).map fun o => o.after.all (fun e => decide (e.on < i))).getD true
def cntF (L : Array Bool) : Nat := L.toList.count false
section
variable {P : Program} {md : Region.Mode} {ops : Array Oper} {Q : Exit → Act → World → Prop} {S : World → Prop}
theorem cnt_set {L : Array Bool} {i : Nat} (h : L.getD i true = false) : cntF (L.setIfInBounds i true) + 1 = cntF L := by
  have hi : i < L.size := by
    rcases Nat.lt_or_ge i L.size with h1 | h1
    · exact h1
    · simp [Array.getD, Nat.not_lt.2 h1] at h
  have h2 : L.toList[i]'(by simpa using hi) = false := by
    simp only [Array.getD, hi, dite_true] at h
    simpa using h
  unfold cntF
  rw [Array.toList_setIfInBounds, List.count_set (by simpa using hi)]
  have h3 : 0 < L.toList.count false := List.count_pos_iff.2 (h2 ▸ List.getElem_mem _)
  rw [h2]
  show L.toList.count false - 1 + 0 + 1 = _
  omega
theorem ready_some {L : Array Bool} {q : Nat} (hlex : lexOk ops = true) (hsz : L.size = ops.size) (hq : L.getD q true = false) : Region.ready md ops L ≠ [] := by
  have hex : ∃ i, L.getD i true = false := ⟨q, hq⟩
  obtain ⟨i, hi, hmin⟩ : ∃ i, L.getD i true = false ∧ ∀ j, j < i → ¬ L.getD j true = false := by
    clear hq
    obtain ⟨q, hq⟩ := hex
    induction q using Nat.strongRecOn with
    | ind q ih =>
      by_cases h : ∃ j, j < q ∧ L.getD j true = false
      · obtain ⟨j, hj, h1⟩ := h
        exact ih j hj h1
      · exact ⟨q, hq, fun j hj h1 => h ⟨j, hj, h1⟩⟩
  have hlt : i < L.size := by
    rcases Nat.lt_or_ge i L.size with h1 | h1
    · exact h1
    · simp [Array.getD, Nat.not_lt.2 h1] at hi
  have ho : ops[i]? = some ops[i] := Array.getElem?_eq_getElem (hsz ▸ hlt)
  have hm : i ∈ Region.ready md ops L := mem_ready.2 ⟨hi, ops[i], ho, fun e he _ => by
    have h1 := List.all_eq_true.1 hlex i (List.mem_range.2 (hsz ▸ hlt))
    rw [ho] at h1
    simp only [Option.map_some, Option.getD_some] at h1
    have h2 : e.on < i := of_decide_eq_true (Array.all_eq_true_iff_forall_mem.1 h1 e he)
    have h3 := hmin _ h2
    have h4 : e.on < L.size := Nat.lt_trans h2 hlt
    simp only [Array.getD, h4, dite_true] at h3 ⊢
    simpa using h3⟩
  exact fun h => by rw [h] at hm; cases hm
theorem ready_dep {L : Array Bool} {i : Nat} (j : Nat) (hi : i ∈ Region.ready md ops L) (h : ((ops[i]?).map fun o => o.after.any (fun e => e.on == j && Region.binds md e)) = some true) : L.getD j false = true := by
  obtain ⟨_, o, ho, hd⟩ := mem_ready.1 hi
  rw [ho] at h
  simp only [Option.map_some, Option.some.injEq] at h
  obtain ⟨k, hk, h1⟩ := Array.any_eq_true.1 h
  rw [Bool.and_eq_true] at h1
  have h2 := hd _ (Array.getElem_mem hk) h1.2
  rw [eq_of_beq h1.1] at h2
  exact h2
theorem ready_un {L : Array Bool} {i : Nat} (hi : i ∈ Region.ready md ops L) : L.getD i true = false := (mem_ready.1 hi).1
theorem ready_lt {L : Array Bool} {i : Nat} (hi : i ∈ Region.ready md ops L) : i < ops.size := by
  obtain ⟨_, o, ho, _⟩ := mem_ready.1 hi
  exact (Array.getElem?_eq_some_iff.1 ho).1
theorem wp_valz {P : Program} {o : Oper} {a : Act} {w : World} {K : Act → World → Prop} {Q : Exit → Act → World → Prop} {v : Value} (h : (execOp a.eval o).run P w = .ok (.value v) w) (hK : K (a.put o.dst v) w) : Oper.wp P o a w K Q := by
  unfold Oper.wp
  rw [h]
  exact hK
/-- A value that tells a new block. -/
def Fx (n : Nat) (W : World) (x : Value) (f : Nat → Value) (c : Array Value) (T : TypeId) : Prop := ∃ g, x = f g ∧ n ≤ g ∧ W.heap[g]? = some (.cells c T (0, 0))
theorem Fx.below {n : Nat} {W W' : World} {x : Value} {f : Nat → Value} {c : Array Value} {T : TypeId} (h : Fx n W x f c T) (b : Below W.heap.size W W') : Fx n W' x f c T := by
  obtain ⟨g, h1, h2, h3⟩ := h
  exact ⟨g, h1, h2, (b.block g (Array.getElem?_eq_some_iff.1 h3).1).trans h3⟩
/-- Whatever order: I holds at each state on the way to Le, the walk goes on from there. -/
theorem any_inv (I : Array Bool → Act → World → Prop) (Le : Array Bool) (q : Nat) (hlex : lexOk ops = true)
    (hI : ∀ L a w, I L a w → L.size = ops.size ∧ L.getD q true = false ∧ S w)
    (hstep : ∀ L a w i, I L a w → L ≠ Le → i ∈ Region.ready md ops L → wpOp P ops Q i (fun a' w' => I (L.setIfInBounds i true) a' w') a w)
    (hend : ∀ a w, I Le a w → wpAnyH P md ops Q S (cntF Le) Le a w) :
    ∀ (n : Nat) (L : Array Bool) (a : Act) (w : World), cntF L = n → I L a w → wpAnyH P md ops Q S n L a w := by
  intro n
  induction n with
  | zero =>
    intro L a w hn h
    have h1 := cnt_set (hI L a w h).2.1
    omega
  | succ n ih =>
    intro L a w hn h
    by_cases hL : L = Le
    · rw [← hn, hL]
      rw [hL] at h
      exact hend a w h
    · refine wpAnyH_all rfl (ready_some hlex (hI L a w h).1 (hI L a w h).2.1) fun i hi => ?_
      refine wpOp_mono (fun a' w' h' => ⟨(hI _ _ _ h').2.2, ih _ a' w' ?_ h'⟩) (hstep L a w i h hL hi)
      have h1 := cnt_set (mem_ready.1 hi).1
      omega
end
end Go.Proofs.Ytjfboofnffghjaa
