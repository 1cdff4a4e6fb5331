/- A store into a piece of a block, the block told as one list before and behind it. Laws of no program. -/
import Derived.Test.YtholgadifhjmgaaDoorBlk
namespace Go.Proofs.YtholgadifhjmgaaDoor
open Go.RowKit

theorem setCell_heap {w : World} {b : Nat} {L : List Value} {T : TypeId} {fr : Nat × Nat} (h : w.heap[b]? = some (.cells L.toArray T fr)) (o : Nat) (v : Value) : (w.setCell ⟨b, o, none⟩ v).heap[b]? = some (.cells (L.set o v).toArray T fr) := by
  simp [World.setCell, Array.getElem?_modify, h]
theorem setCells_heap {b : Nat} {T : TypeId} {fr : Nat × Nat} : ∀ (vs : List Value) (o : Nat) (w : World) (L : List Value), w.heap[b]? = some (.cells L.toArray T fr) → o + vs.length ≤ L.length →
    (w.setCells b o vs).heap[b]? = some (.cells (L.take o ++ vs ++ L.drop (o + vs.length)).toArray T fr)
  | [], o, w, L, h, _ => by
    show w.heap[b]? = _
    rw [h]; simp
  | v :: r, o, w, L, h, hn => by
    rw [List.length_cons] at hn
    rw [World.setCells, setCells_heap r (o + 1) _ _ (setCell_heap h o v) (by rw [List.length_set]; omega)]
    have e1 : (L.set o v).take (o + 1) = L.take o ++ [v] := by
      rw [List.take_add_one, List.take_set_of_le (Nat.le_refl _), List.getElem?_set_self (by omega)]
      rfl
    have e2 : (L.set o v).drop (o + 1 + r.length) = L.drop (o + (r.length + 1)) := by
      rw [List.drop_set_of_lt (by omega)]
      congr 1
      omega
    rw [e1, e2, List.length_cons]
    simp
theorem setCells_grown {b : Nat} : ∀ (vs : List Value) (o : Nat) (w : World), w.grownBy (w.setCells b o vs) (some b)
  | [], _, w => World.grownBy.refl w _
  | v :: r, o, w => by
    have h1 : w.grownBy (w.setCell ⟨b, o, none⟩ v) (some b) := grown_set (World.grownBy.refl w _) o v
    exact h1.trans (setCells_grown r (o + 1) _)
theorem run_storeAt_part {P : Program} (w : World) (b i : Nat) (ty : TypeId) (y : Value) (cs : List Value) (hy : y.cells = cs.toArray) (L : List Value) (T : TypeId) (hb : w.heap[b]? = some (.cells L.toArray T (0, 0))) (hn : i + cs.length ≤ L.length)
    (hi : (P.info? ty).map (·.size) = some cs.length) (h1 : cs.all (·.oneCell') = true) : (Instr.storeAt ty (.pointer (some ⟨b, i, none⟩)) y).run P w = .ok () (w.setCells b i cs) := by
  have hc : ∀ j, j < cs.length → (w.cell? ⟨b, i + 0 + j, none⟩).isSome = true := by
    intro j hj
    rw [cell_of_row w b (i + 0 + j) _ T (0, 0) hb]
    simp; omega
  have hf : ∀ j, j < cs.length → w.frozen? ⟨b, i + 0 + j, none⟩ = false := by
    intro j hj
    simp [World.frozen?, hb]
  have := run_storeCells_cells (P := P) b i cs 0 w hc hf (fun v hv => List.all_eq_true.1 h1 v hv)
  simp only [Nat.add_zero] at this
  cases hq : P.info? ty with
  | none => simp [hq] at hi
  | some x =>
    have hs : x.size = cs.length := by simpa [hq] using hi
    simp [Instr.storeAt, Instr.sureAddr, Sem.run_bind, Sem.run_pure, storeVar, sizeOf, typeInfo, hq, hy, hs, this]
theorem wp_store_part {P : Program} {o : Oper} {a : Act} {w : World} {K : Act → World → Prop} {Q : Exit → Act → World → Prop} (ty : TypeId) (x y : Operand) (ho : o.op = .store ty x y)
    (b i : Nat) (hx : a.eval x = .pointer (some ⟨b, i, none⟩)) (cs : List Value) (hy : (a.eval y).cells = cs.toArray) (L : List Value) (T : TypeId) (hb : w.heap[b]? = some (.cells L.toArray T (0, 0))) (hn : i + cs.length ≤ L.length)
    (L' : List Value) (hL : L.take i ++ cs ++ L.drop (i + cs.length) = L') (hi : (P.info? ty).map (·.size) = some cs.length) (h1 : cs.all (·.oneCell') = true)
    (h : ∀ w', w'.heap[b]? = some (.cells L'.toArray T (0, 0)) → w.grownBy w' (some b) → K (a.put o.dst undef) w') : Oper.wp P o a w K Q := by
  have hr := run_storeAt_part (P := P) w b i ty _ cs hy L T hb hn hi h1
  unfold Oper.wp execOp
  simp only [ho, hx, Sem.run_bind, Sem.run_pure, Result.andThen_ok, hr]
  exact h _ (hL ▸ setCells_heap cs i w L hb hn) (setCells_grown cs i w)
theorem wpList_store_part {P : Program} {ops : Array Oper} {rest : List Oper} {o : Oper} {a : Act} {w : World} {Q : Exit → Act → World → Prop} (hgd : o.guard = none) (ty : TypeId) (x y : Operand) (ho : o.op = .store ty x y)
    (b i : Nat) (hx : a.eval x = .pointer (some ⟨b, i, none⟩)) (cs : List Value) (hy : (a.eval y).cells = cs.toArray) (L : List Value) (T : TypeId) (hb : w.heap[b]? = some (.cells L.toArray T (0, 0))) (hn : i + cs.length ≤ L.length)
    (L' : List Value) (hL : L.take i ++ cs ++ L.drop (i + cs.length) = L') (hi : (P.info? ty).map (·.size) = some cs.length) (h1 : cs.all (·.oneCell') = true)
    (h : ∀ w', w'.heap[b]? = some (.cells L'.toArray T (0, 0)) → w.grownBy w' (some b) → wpList P ops Q rest (a.put o.dst undef) w') : wpList P ops Q (o :: rest) a w :=
  wpList_plain hgd fun _ hK => wp_store_part ty x y ho b i hx cs hy L T hb hn L' hL hi h1 (fun w' h1 h2 => hK _ _ (h w' h1 h2))
end Go.Proofs.YtholgadifhjmgaaDoor
