/- What makes memory, as one step each, the world behind it a name of its own: box, new, a slice's literal. Laws of no program. -/
import Derived.Test.YtholgadifhjmgaaDoorStp
import Derived.Laws.Tables
namespace Go.Proofs.YtholgadifhjmgaaDoor
open Go.RowKit

theorem below_new (w : World) (o : Obj) : Below w.heap.size w (w.alloc o) := (Below.refl _ _).alloc (Nat.le_refl _) o
theorem size_new (w : World) (o : Obj) : w.heap.size < (w.alloc o).heap.size := by simp
theorem wp_box_n {P : Program} {o : Oper} {a : Act} {w : World} {K : Act → World → Prop} {Q : Exit → Act → World → Prop} (e : TypeId) (x : Operand) (ho : o.op = .box e x) (cs : Array Value) (hx : (a.eval x).cells = cs)
    (h : ∀ g w', w.heap.size ≤ g → g < w'.heap.size → w'.heap[g]? = some (.cells cs e (0, 0)) → Below w.heap.size w w' → K (a.put o.dst (.pointer (some ⟨g, 0, none⟩))) w') : Oper.wp P o a w K Q := by
  have hr : (Instr.box e (a.eval x)).run P w = .ok (.pointer (some ⟨w.heap.size, 0, none⟩)) (w.alloc (.cells cs e)) := by
    simp [Instr.box, newVar, newRow, hx]
  unfold Oper.wp execOp
  simp only [ho, Sem.run_bind, hr, Result.andThen_ok]
  exact h _ _ (Nat.le_refl _) (size_new w _) (heap_alloc_new w _) (below_new w _)
theorem wpList_box_n {P : Program} {ops : Array Oper} {rest : List Oper} {o : Oper} {a : Act} {w : World} {Q : Exit → Act → World → Prop} (hgd : o.guard = none) (e : TypeId) (x : Operand) (ho : o.op = .box e x) (cs : Array Value) (hx : (a.eval x).cells = cs)
    (h : ∀ g w', w.heap.size ≤ g → g < w'.heap.size → w'.heap[g]? = some (.cells cs e (0, 0)) → Below w.heap.size w w' → wpList P ops Q rest (a.put o.dst (.pointer (some ⟨g, 0, none⟩))) w') : wpList P ops Q (o :: rest) a w :=
  wpList_plain hgd fun _ hK => wp_box_n e x ho cs hx fun g w' h1 h2 h3 h4 => hK _ _ (h g w' h1 h2 h3 h4)
theorem wp_new_i {P : Program} {o : Oper} {a : Act} {w : World} {K : Act → World → Prop} {Q : Exit → Act → World → Prop} (e : TypeId) (ho : o.op = .alloc e) (i : TypeInfo) (z : Value) (hi : P.info? e = some i) (hz : i.zero = some z) (cs : Array Value) (hx : z.cells = cs)
    (h : ∀ g w', w.heap.size ≤ g → g < w'.heap.size → w'.heap[g]? = some (.cells cs e (0, 0)) → Below w.heap.size w w' → K (a.put o.dst (.pointer (some ⟨g, 0, none⟩))) w') : Oper.wp P o a w K Q := by
  have hr : (Instr.alloc e true (.tuple #[])).run P w = .ok (.pointer (some ⟨w.heap.size, 0, none⟩)) (w.alloc (.cells cs e)) := by
    simp [Instr.alloc, newVar, newRow, zeroValue, typeInfo, hi, hz, hx]
  unfold Oper.wp execOp
  simp only [ho, Sem.run_bind, hr, Result.andThen_ok]
  exact h _ _ (Nat.le_refl _) (size_new w _) (heap_alloc_new w _) (below_new w _)
theorem info_zero {P : Program} {e : TypeId} {z : Value} (h : (P.info? e).bind (·.zero) = some z) : ∃ i, P.info? e = some i ∧ i.zero = some z := by
  cases hi : P.info? e with
  | none => simp [hi] at h
  | some i => exact ⟨i, rfl, by simpa [hi] using h⟩
theorem wp_new_n {P : Program} {o : Oper} {a : Act} {w : World} {K : Act → World → Prop} {Q : Exit → Act → World → Prop} (e : TypeId) (ho : o.op = .alloc e) (z : Value) (hi : (P.info? e).bind (·.zero) = some z) (cs : Array Value) (hx : z.cells = cs)
    (h : ∀ g w', w.heap.size ≤ g → g < w'.heap.size → w'.heap[g]? = some (.cells cs e (0, 0)) → Below w.heap.size w w' → K (a.put o.dst (.pointer (some ⟨g, 0, none⟩))) w') : Oper.wp P o a w K Q := by
  obtain ⟨i, h1, h2⟩ := info_zero hi
  exact wp_new_i e ho i z h1 h2 cs hx h
theorem wpList_new_n {P : Program} {ops : Array Oper} {rest : List Oper} {o : Oper} {a : Act} {w : World} {Q : Exit → Act → World → Prop} (hgd : o.guard = none) (e : TypeId) (ho : o.op = .alloc e) (z : Value) (hi : (P.info? e).bind (·.zero) = some z) (cs : Array Value) (hx : z.cells = cs)
    (h : ∀ g w', w.heap.size ≤ g → g < w'.heap.size → w'.heap[g]? = some (.cells cs e (0, 0)) → Below w.heap.size w w' → wpList P ops Q rest (a.put o.dst (.pointer (some ⟨g, 0, none⟩))) w') : wpList P ops Q (o :: rest) a w := by
  obtain ⟨i, h1, h2⟩ := info_zero hi
  exact wpList_plain hgd fun _ hK => wp_new_i e ho i z h1 h2 cs hx fun g w' h1 h2 h3 h4 => hK _ _ (h g w' h1 h2 h3 h4)
theorem run_lit_n {P : Program} (w : World) (t e : TypeId) (len : Nat) (parts : Array (Nat × Value))
    (cells : Array Value) (ie : TypeInfo) (z : Value) (hu : P.underlying t = some (.slice e)) (hie : P.info? e = some ie) (hz : ie.zero = some z) (hsmall : ¬ len * ie.size > 2 ^ 24)
    (hf : Instr.fill (fun i => some (i * ie.size, ie.size)) ((Array.range (len * ie.size)).map (z.cells[· % z.cells.size]!)) parts.toList = some cells) :
    (Instr.buildSlice t len parts).run P w = .ok (.slice (some ⟨w.heap.size, 0, none⟩) len len) (w.alloc (.cells cells e)) := by
  by_cases h0 : len * ie.size = 0
  · rw [h0] at hf
    have e0 : ∀ f : Nat → Value, (Array.range 0).map f = (#[] : Array Value) := fun f => by simp
    rw [e0] at hf
    simp [Instr.buildSlice, run_underlying hu, sizeOf, typeInfo, hie, h0, newRow]
    rw [e0, hf]
    simp
  · simp [Instr.buildSlice, run_underlying hu, sizeOf, typeInfo, zeroValue, hie, hz, hsmall, h0, hf, newRow]
theorem wp_lit_n {P : Program} {o : Oper} {a : Act} {w : World} {K : Act → World → Prop} {Q : Exit → Act → World → Prop} (t e : TypeId) (len : Nat) (parts : Array (Nat × Operand)) (ho : o.op = .buildSlice t len parts)
    (cells : Array Value) (z : Value) (hu : P.underlying t = some (.slice e)) (hz : (P.info? e).bind (·.zero) = some z) (n : Nat) (hn : (P.info? e).map (·.size) = some n) (hsmall : ¬ len * n > 2 ^ 24)
    (hf : Instr.fill (fun i => some (i * n, n)) ((Array.range (len * n)).map (z.cells[· % z.cells.size]!)) (parts.map fun (i, x) => (i, a.eval x)).toList = some cells)
    (h : ∀ g w', w.heap.size ≤ g → g < w'.heap.size → w'.heap[g]? = some (.cells cells e (0, 0)) → Below w.heap.size w w' → K (a.put o.dst (.slice (some ⟨g, 0, none⟩) len len)) w') : Oper.wp P o a w K Q := by
  obtain ⟨ie, hie, hz⟩ := info_zero hz
  have hn' : ie.size = n := by simpa [hie] using hn
  subst hn'
  unfold Oper.wp execOp
  simp only [ho, Sem.run_bind, run_lit_n w t e len _ cells ie z hu hie hz hsmall hf, Result.andThen_ok]
  exact h _ _ (Nat.le_refl _) (size_new w _) (heap_alloc_new w _) (below_new w _)
theorem wpList_lit_n {P : Program} {ops : Array Oper} {rest : List Oper} {o : Oper} {a : Act} {w : World} {Q : Exit → Act → World → Prop} (hgd : o.guard = none) (t e : TypeId) (len : Nat) (parts : Array (Nat × Operand)) (ho : o.op = .buildSlice t len parts)
    (cells : Array Value) (z : Value) (hu : P.underlying t = some (.slice e)) (hz : (P.info? e).bind (·.zero) = some z) (n : Nat) (hn : (P.info? e).map (·.size) = some n) (hsmall : ¬ len * n > 2 ^ 24)
    (hf : Instr.fill (fun i => some (i * n, n)) ((Array.range (len * n)).map (z.cells[· % z.cells.size]!)) (parts.map fun (i, x) => (i, a.eval x)).toList = some cells)
    (h : ∀ g w', w.heap.size ≤ g → g < w'.heap.size → w'.heap[g]? = some (.cells cells e (0, 0)) → Below w.heap.size w w' → wpList P ops Q rest (a.put o.dst (.slice (some ⟨g, 0, none⟩) len len)) w') : wpList P ops Q (o :: rest) a w :=
  wpList_plain hgd fun _ hK => wp_lit_n t e len parts ho cells z hu hz n hn hsmall hf fun g w' h1 h2 h3 h4 => hK _ _ (h g w' h1 h2 h3 h4)
/-- A new block of bytes, and one of ints, as a slice. -/
theorem sl_lit {w : World} {g n : Nat} {T : TypeId} {fr : Nat × Nat} (l : List UInt8) (h : w.heap[g]? = some (.cells (l.map u8v).toArray T fr)) (hn : l.length = n) (hm : n ≤ maxLen) : Sl w (some ⟨g, 0, none⟩) n n l :=
  ⟨hn, Nat.le_refl _, hm, fun _ => ⟨_, _, rfl, fun j b hj => by simp [World.cell?, h, hj]⟩⟩
theorem own_lit {w : World} {g B : Nat} {T : TypeId} (l : List UInt8) (h : w.heap[g]? = some (.cells (l.map u8v).toArray T (0, 0))) (hB : B ≤ g) (n : Nat) (hn : l.length = n) (hm : n ≤ maxLen) : w.ownsRow B T 1 (.slice (some ⟨g, 0, none⟩) n n) n (l.map u8v) := by
  subst hn
  exact ⟨by simp, .inr ⟨g, _, _, rfl, hB, h, Nat.le_refl _, hm, by simp, by rw [Nat.mul_one]; simpa using List.take_of_length_le (Nat.le_of_eq (List.length_map u8v))⟩⟩
/-- '[]byte("..")' of a constant: behind the literal its row is marked. -/
theorem freeze_heap (w : World) (g k : Nat) (C : Array Value) (e : TypeId) (hg : w.heap[g]? = some (.cells C e (0, 0))) :
    (w.freeze ⟨g, k, none⟩ 1).heap[g]? = some (.cells C e (k, k + 1)) ∧ w.grownBy (w.freeze ⟨g, k, none⟩ 1) (some g) := by
  unfold World.freeze
  rw [if_neg (by decide)]
  refine ⟨?_, rfl, rfl, rfl, by simp, fun i _ hne => ?_⟩
  · simp [Array.getElem?_modify, hg]
  · simp only [Array.getElem?_modify]
    rw [if_neg (fun e => hne (by rw [e]))]
theorem run_mark_n {P : Program} (w : World) (t e : TypeId) (g : Nat) (C : Array Value) (n c : Nat) (ht : P.underlying t = some (.slice e)) (he : P.underlying e = some (.int .u8)) (hg : w.heap[g]? = some (.cells C e (0, 0))) :
    (convert t t (.slice (some ⟨g, 0, none⟩) n c)).run P w = .ok (.slice (some ⟨g, 0, none⟩) n c) (w.freeze ⟨g, C.size, none⟩ 1) := by
  have hsh : w.shape? g = some (e, C.size) := by
    unfold World.shape?
    rw [hg]
  simp [convert, run_underlying ht, run_underlying he, markStringish, hsh]
theorem wp_mark_n {P : Program} {o : Oper} {a : Act} {w : World} {K : Act → World → Prop} {Q : Exit → Act → World → Prop} (t e : TypeId) (x : Operand) (ho : o.op = .convert t t x) (ht : P.underlying t = some (.slice e)) (he : P.underlying e = some (.int .u8))
    (g : Nat) (C : Array Value) (n c : Nat) (hx : a.eval x = .slice (some ⟨g, 0, none⟩) n c) (hg : w.heap[g]? = some (.cells C e (0, 0)))
    (h : ∀ w', w'.heap[g]? = some (.cells C e (C.size, C.size + 1)) → w.grownBy w' (some g) → K (a.put o.dst (.slice (some ⟨g, 0, none⟩) n c)) w') : Oper.wp P o a w K Q := by
  have hr := run_mark_n (P := P) w t e g C n c ht he hg
  have hf := freeze_heap w g C.size C e hg
  unfold Oper.wp execOp
  simp only [ho, hx, Sem.run_bind, hr, Result.andThen_ok]
  exact h _ hf.1 hf.2
theorem wpList_mark_n {P : Program} {ops : Array Oper} {rest : List Oper} {o : Oper} {a : Act} {w : World} {Q : Exit → Act → World → Prop} (hgd : o.guard = none) (t e : TypeId) (x : Operand) (ho : o.op = .convert t t x) (ht : P.underlying t = some (.slice e)) (he : P.underlying e = some (.int .u8))
    (g : Nat) (C : Array Value) (n c : Nat) (hx : a.eval x = .slice (some ⟨g, 0, none⟩) n c) (hg : w.heap[g]? = some (.cells C e (0, 0)))
    (h : ∀ w', w'.heap[g]? = some (.cells C e (C.size, C.size + 1)) → w.grownBy w' (some g) → wpList P ops Q rest (a.put o.dst (.slice (some ⟨g, 0, none⟩) n c)) w') : wpList P ops Q (o :: rest) a w :=
  wpList_plain hgd fun _ hK => wp_mark_n t e x ho ht he g C n c hx hg fun w' h1 h2 => hK _ _ (h w' h1 h2)
end Go.Proofs.YtholgadifhjmgaaDoor
