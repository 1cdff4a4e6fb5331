/- Tables behind a pointer: a struct at a block that holds a row of structs of the call's own: what stays where by what a block is of, what a row keeps where one element is written. Laws of no program. -/
import Derived.Test.YtholgadifhjmgaaDoorSle
import Derived.Test.YtholgadifhjmgaaDoorOrz
import Derived.Deep.AppendLies
import Derived.Laws.CopyRow
import Derived.Deep.AppendSrc
import Derived.Lib.AppendZerosOnto
namespace Go.Proofs.YtholgadifhjmgaaDoor
open Go.RowKit

/-- What is in blocks of other types than S's stays as it was. -/
def Kt (S : List TypeId) (w w' : World) : Prop := ∀ (k : Nat) (c : Array Value) (T : TypeId) (fz : Nat × Nat), w.heap[k]? = some (.cells c T fz) → T ∉ S → w'.heap[k]? = some (.cells c T fz)
theorem Kt.refl (S : List TypeId) (w : World) : Kt S w w := fun _ _ _ _ h _ => h
theorem Kt.trans {S : List TypeId} {a b c : World} (h : Kt S a b) (h' : Kt S b c) : Kt S a c := fun k x T fz hx hT => h' k x T fz (h k x T fz hx hT) hT
theorem Kt.mono {S S' : List TypeId} {a b : World} (h : Kt S a b) (hS : ∀ T ∈ S, T ∈ S') : Kt S' a b := fun k x T fz hx hT => h k x T fz hx (fun hn => hT (hS T hn))
theorem kt_below {S : List TypeId} {w w' : World} (b : Below w.heap.size w w') : Kt S w w' := fun _ _ _ _ h _ => blk_u h b
theorem kt_grown {S : List TypeId} {w w' : World} {q : Nat} {c : Array Value} {T : TypeId} {fz : Nat × Nat} (g : w.grownBy w' (some q)) (h : w.heap[q]? = some (.cells c T fz)) (hT : T ∈ S) : Kt S w w' := fun k x T' fz' hx hT' => by
  by_cases e : k = q
  · subst e; rw [h] at hx; cases hx; exact absurd hT hT'
  · exact (g.block k (hlt hx) (fun e' => e (by injection e'))).trans hx
/-- Of two worlds behind each other, the second behind a store into a block that the first one does not hold. -/
theorem Kt.newer {S : List TypeId} {w0 w w' : World} {q : Nat} (h : Kt S w0 w) (g : w.grownBy w' (some q)) (hq : w0.heap.size ≤ q) (hs : w0.heap.size ≤ w.heap.size) : Kt S w0 w' := fun k x T fz hx hT =>
  (g.block k (Nat.lt_of_lt_of_le (hlt hx) hs) (fun e => by have := hlt hx; injection e; omega)).trans (h k x T fz hx hT)
theorem kt_row {S : List TypeId} {w w' : World} {B k n : Nat} {T : TypeId} {v : Value} {xs : List Value} (g : w.grownBy w' v.ownBlock) (h : w.ownsRow B T k v n xs) (hT : T ∈ S) : Kt S w w' := fun i x T' fz' hx hT' => by
  refine (g.block i (hlt hx) (fun e => ?_)).trans hx
  rcases h.2 with ⟨h, _⟩ | ⟨g', cap, cur, e2, hb, hh, h⟩
  · rw [h] at e; simp [Value.ownBlock] at e
  · rw [e2] at e
    simp only [Value.ownBlock, Option.some.injEq] at e
    subst e
    rw [hh] at hx; cases hx; exact hT' hT
theorem Kt.blk {S : List TypeId} {w w' : World} {k : Nat} {c : Array Value} {T : TypeId} {fz : Nat × Nat} (h : Kt S w w') (hk : w.heap[k]? = some (.cells c T fz)) (hT : T ∉ S) : w'.heap[k]? = some (.cells c T fz) := h k c T fz hk hT
theorem Kt.own {S : List TypeId} {w w' : World} {B k n : Nat} {T : TypeId} {v : Value} {xs : List Value} (h : Kt S w w') (ho : w.ownsRow B T k v n xs) (hT : T ∉ S) : w'.ownsRow B T k v n xs := by
  refine ⟨ho.1, ?_⟩
  rcases ho.2 with h2 | ⟨g, cap, cur, e, hb, hh, h2⟩
  · exact .inl h2
  · exact .inr ⟨g, cap, cur, e, hb, h g _ _ _ hh hT, h2⟩

/-- All is as it was but in block g and in the block of v. -/
structure Gr2 (w w' : World) (g : Nat) (v : Value) : Prop where
  os : w'.os = w.os
  tape : w'.tape = w.tape
  output : w'.output = w.output
  size : w.heap.size ≤ w'.heap.size
  block : ∀ k, k < w.heap.size → k ≠ g → v.ownBlock ≠ some k → w'.heap[k]? = w.heap[k]?
theorem Gr2.refl (w : World) (g : Nat) (v : Value) : Gr2 w w g v := ⟨rfl, rfl, rfl, Nat.le_refl _, fun _ _ _ _ => rfl⟩
theorem Gr2.of_below {w w' : World} {g : Nat} {v : Value} (b : Below w.heap.size w w') : Gr2 w w' g v := ⟨b.os, b.tape, b.output, b.size, fun k hk _ _ => b.block k hk⟩
theorem Gr2.of_grown {w w' : World} {g : Nat} {v : Value} (b : w.grownBy w' (some g)) : Gr2 w w' g v := ⟨b.os, b.tape, b.output, b.size, fun k hk h1 _ => b.block k hk (fun e => h1 (by injection e))⟩
theorem Gr2.of_row {w w' : World} {g : Nat} {v : Value} (b : w.grownBy w' v.ownBlock) : Gr2 w w' g v := ⟨b.os, b.tape, b.output, b.size, fun k hk _ h2 => b.block k hk (fun e => h2 e.symm)⟩
/-- Two steps, the row's place in between new or where it was. -/
theorem Gr2.trans {a b c : World} {g : Nat} {v v' : Value} (h : Gr2 a b g v) (h' : Gr2 b c g v') (hv : ∀ q, q < a.heap.size → Ofs v q → Ofs v' q) : Gr2 a c g v :=
  ⟨h'.os.trans h.os, h'.tape.trans h.tape, h'.output.trans h.output, Nat.le_trans h.size h'.size, fun k hk h1 h2 =>
    (h'.block k (Nat.lt_of_lt_of_le hk h.size) h1 (fun e => hv k hk (fun q hq hqk => h2 (by rw [hq, hqk])) k e rfl)).trans (h.block k hk h1 h2)⟩
/-- A store into a block of the call's own that was not there at first. -/
theorem Gr2.newer {a b c : World} {g q : Nat} {v : Value} (h : Gr2 a b g v) (h' : b.grownBy c (some q)) (hq : a.heap.size ≤ q) : Gr2 a c g v :=
  ⟨h'.os.trans h.os, h'.tape.trans h.tape, h'.output.trans h.output, Nat.le_trans h.size h'.size, fun k hk h1 h2 =>
    (h'.block k (Nat.lt_of_lt_of_le hk h.size) (fun e => by injection e; omega)).trans (h.block k hk h1 h2)⟩
theorem Gr2.blk {w w' : World} {g q : Nat} {v : Value} {x : Obj} (h : Gr2 w w' g v) (hq : w.heap[q]? = some x) (d : Hid (q ≠ g)) (o : Ofs v q) : w'.heap[q]? = some x :=
  (h.block q (hlt hq) d.out (fun e => o q e rfl)).trans hq
theorem Gr2.kt {S : List TypeId} {w w' : World} {g B k n : Nat} {T T2 : TypeId} {fz : Nat × Nat} {c : Array Value} {v : Value} {xs : List Value} (h : Gr2 w w' g v) (hg : w.heap[g]? = some (.cells c T2 fz)) (hT2 : T2 ∈ S) (ho : w.ownsRow B T k v n xs) (hT : T ∈ S) : Kt S w w' := fun i x T' fz' hx hT' => by
  refine (h.block i (hlt hx) (fun e => ?_) (fun e => ?_)).trans hx
  · subst e; rw [hg] at hx; cases hx; exact hT' hT2
  · rcases ho.2 with ⟨h2, _⟩ | ⟨g', cap, cur, e2, hb, hh, h2⟩
    · rw [h2] at e; simp [Value.ownBlock] at e
    · rw [e2] at e
      simp only [Value.ownBlock, Option.some.injEq] at e
      subst e
      rw [hh] at hx; cases hx; exact hT' hT
theorem Gr2.bel {B : Nat} {w w' : World} {g : Nat} {v : Value} {k n : Nat} {T : TypeId} {xs : List Value} (h : Gr2 w w' g v) (hg : B ≤ g) (ho : w.ownsRow B T k v n xs) (hs : B ≤ w.heap.size) : Below B w w' :=
  ⟨h.os, h.tape, h.output, h.size, fun i hi => h.block i (Nat.lt_of_lt_of_le hi hs) (by omega) (fun e => by have := (ho.lt i e).1; omega)⟩
theorem row_bel {B : Nat} {w w' : World} {v : Value} {k n : Nat} {T : TypeId} {xs : List Value} (h : w.grownBy w' v.ownBlock) (ho : w.ownsRow B T k v n xs) (hs : B ≤ w.heap.size) : Below B w w' :=
  (Below.refl B w).grown h hs (fun i hi => (ho.lt i hi).1)
/-- A row and a block of another type lie apart. -/
theorem ofs_type {w : World} {B k n q : Nat} {T T2 : TypeId} {fz : Nat × Nat} {c : Array Value} {v : Value} {xs : List Value} (ho : w.ownsRow B T k v n xs) (hq : w.heap[q]? = some (.cells c T2 fz)) (hne : T2 ≠ T) : Ofs v q := fun g hg e => by
  subst e
  rcases ho.2 with ⟨h2, _⟩ | ⟨g', cap, cur, e2, hb, hh, h2⟩
  · rw [h2] at hg; simp [Value.ownBlock] at hg
  · rw [e2] at hg
    simp only [Value.ownBlock, Option.some.injEq] at hg
    subst hg
    rw [hh] at hq; cases hq; exact hne rfl

section
variable {α : Type} {f : α → List Value} {k : Nat} {w w' : World} {B n c g : Nat} {T : TypeId} {l : List α}
/-- Where a row that is not empty lies. -/
theorem row_at {A : Option Addr} {xs : List Value} (h : w.ownsRow B T k (.slice A n c) n xs) (hn : 0 < n) : ∃ g, A = some ⟨g, 0, none⟩ ∧ B ≤ g ∧ g < w.heap.size ∧ n ≤ c ∧ c ≤ maxLen := by
  rcases h.2 with ⟨_, rfl⟩ | ⟨g, cap, cur, e, hb, hh, hn, hm, _⟩
  · omega
  · injection e with e1 e2 e3
    subst e1
    subst e3
    exact ⟨g, rfl, hb, hlt hh, hn, hm⟩
theorem row_cap {A : Option Addr} {xs : List Value} (h : w.ownsRow B T k (.slice A n c) n xs) : n ≤ c ∧ c ≤ maxLen := by
  rcases h.2 with ⟨e, rfl⟩ | ⟨g, cap, cur, e, hb, hh, hn, hm, _⟩
  · injection e with e1 e2 e3
    subst e3
    exact ⟨Nat.le_refl _, Nat.zero_le _⟩
  · injection e with e1 e2 e3
    subst e3
    exact ⟨hn, hm⟩
theorem row_len {v : Value} (hk : 0 < k) (hf : ∀ x, (f x).length = k) (h : w.ownsRow B T k v n (l.flatMap f)) : l.length = n := by
  have h1 := h.1
  rw [flat_len hf] at h1
  exact Nat.eq_of_mul_eq_mul_right hk h1
/-- A cell of an element, a piece of one. -/
theorem el_cell {i : Nat} {x : α} (hk : 0 < k) (hf : ∀ x, (f x).length = k) (h : w.ownsRow B T k (.slice (some ⟨g, 0, none⟩) n c) n (l.flatMap f)) (hx : l[i]? = some x) (a : Nat) (v : Value) (hv : (f x)[a]? = some v) : w.cell? ⟨g, i * k + a, none⟩ = some v := by
  have := ((owk_sle hk hf h).1).cell hx hv
  rwa [Nat.zero_add] at this
theorem el_cell0 {i : Nat} {x : α} (hk : 0 < k) (hf : ∀ x, (f x).length = k) (h : w.ownsRow B T k (.slice (some ⟨g, 0, none⟩) n c) n (l.flatMap f)) (hx : l[i]? = some x) (v : Value) (hv : (f x)[0]? = some v) : w.cell? ⟨g, i * k, none⟩ = some v := el_cell hk hf h hx 0 v hv
theorem el_range {i : Nat} {x : α} (hk : 0 < k) (hf : ∀ x, (f x).length = k) (h : w.ownsRow B T k (.slice (some ⟨g, 0, none⟩) n c) n (l.flatMap f)) (hx : l[i]? = some x) (a m : Nat) (cs : List Value) (hcs : ((f x).drop a).take m = cs) : w.rangeAt g (i * k + a) cs := by
  have := ((owk_sle hk hf h).1).range hx a m cs hcs
  rwa [Nat.zero_add] at this
theorem el_range0 {i : Nat} {x : α} (hk : 0 < k) (hf : ∀ x, (f x).length = k) (h : w.ownsRow B T k (.slice (some ⟨g, 0, none⟩) n c) n (l.flatMap f)) (hx : l[i]? = some x) (m : Nat) (cs : List Value) (hcs : (f x).take m = cs) : w.rangeAt g (i * k) cs := el_range hk hf h hx 0 m cs hcs
theorem flat_set (hf : ∀ x, (f x).length = k) : ∀ (l : List α) (i : Nat) (x y : α) (a : Nat) (cs : List Value), l[i]? = some x → a + cs.length ≤ k → (f x).take a ++ cs ++ (f x).drop (a + cs.length) = f y →
    (l.flatMap f).take (i * k + a) ++ cs ++ (l.flatMap f).drop (i * k + a + cs.length) = (l.set i y).flatMap f
  | [], i, x, y, a, cs, h, _, _ => by simp at h
  | z :: l, 0, x, y, a, cs, h, hm, he => by
    obtain rfl : z = x := by simpa using h
    have hl := hf z
    rw [List.flatMap_cons, Nat.zero_mul, Nat.zero_add, List.take_append_of_le_length (by omega), List.drop_append_of_le_length (by omega), List.set_cons_zero, List.flatMap_cons, ← List.append_assoc, he]
  | z :: l, i + 1, x, y, a, cs, h, hm, he => by
    have hl := hf z
    have e1 : (i + 1) * k + a = (f z).length + (i * k + a) := by rw [hl, Nat.succ_mul]; omega
    rw [List.flatMap_cons, List.set_cons_succ, List.flatMap_cons, e1, List.take_length_add_append, Nat.add_assoc, List.drop_length_add_append, List.append_assoc, List.append_assoc, ← List.append_assoc (List.take _ _), flat_set hf l i x y a cs (by simpa using h) hm he]
/-- An element, or a piece of one, written. -/
theorem el_stored {i a : Nat} {x y : α} {cs : List Value} (hk : 0 < k) (hf : ∀ x, (f x).length = k) (h : w.ownsRow B T k (.slice (some ⟨g, 0, none⟩) n c) n (l.flatMap f)) (hx : l[i]? = some x) (hm : a + cs.length ≤ k) (hy : (f x).take a ++ cs ++ (f x).drop (a + cs.length) = f y) :
    (w.setCells g (i * k + a) cs).ownsRow B T k (.slice (some ⟨g, 0, none⟩) n c) n ((l.set i y).flatMap f) ∧ w.grownBy (w.setCells g (i * k + a) cs) (some g) := by
  refine ⟨?_, setCells_grown cs _ w⟩
  have hl := row_len hk hf h
  have hi := (List.getElem?_eq_some_iff.1 hx).1
  refine ⟨by rw [flat_len hf, List.length_set, hl], ?_⟩
  rcases h.2 with ⟨e, _⟩ | ⟨g', cap, cur, e, hb, hh, hn, hc, hs, ht⟩
  · cases e
  · injection e with e1 e2 e3
    injection e1 with e1
    injection e1 with e1
    subst e1
    subst e3
    have hcl : cur.toList.length = c * k := by simpa using hs
    have hik : i * k + k ≤ n * k := by rw [← Nat.succ_mul]; exact Nat.mul_le_mul_right k (by omega)
    have hnk : n * k ≤ c * k := Nat.mul_le_mul_right k hn
    have h2 := setCells_heap (T := T) (fr := (0, 0)) cs (i * k + a) w cur.toList (by simpa using hh) (by omega)
    have hcur : cur.toList = l.flatMap f ++ cur.toList.drop (n * k) := by rw [← ht, List.take_append_drop]
    have hfl : (l.flatMap f).length = n * k := by rw [flat_len hf, hl]
    have e4 : cur.toList.take (i * k + a) ++ cs ++ cur.toList.drop (i * k + a + cs.length) = (l.set i y).flatMap f ++ cur.toList.drop (n * k) := by
      conv => lhs; rw [hcur]
      rw [List.take_append_of_le_length (by omega), List.drop_append_of_le_length (by omega), ← List.append_assoc, flat_set hf l i x y a cs hx hm hy]
    rw [e4] at h2
    refine .inr ⟨g, c, _, rfl, hb, h2, hn, hc, ?_, ?_⟩
    · simp [flat_len hf, hl]; omega
    · show ((l.set i y).flatMap f ++ cur.toList.drop (n * k)).take (n * k) = _
      rw [List.take_append_of_le_length (by rw [flat_len hf, List.length_set, hl]; omega), List.take_of_length_le (by rw [flat_len hf, List.length_set, hl]; omega)]
end
/-- The same of a slice at a block's head. -/
theorem Sle.zrange {α : Type} {f : α → List Value} {k : Nat} {w : World} {g n c i : Nat} {l : List α} {x : α} (h : Sle f k w (some ⟨g, 0, none⟩) n c l) (hx : l[i]? = some x) (a m : Nat) (cs : List Value) (hcs : ((f x).drop a).take m = cs) : w.rangeAt g (i * k + a) cs := by
  have := h.range hx a m cs hcs
  rwa [Nat.zero_add] at this
theorem Sle.zrange0 {α : Type} {f : α → List Value} {k : Nat} {w : World} {g n c i : Nat} {l : List α} {x : α} (h : Sle f k w (some ⟨g, 0, none⟩) n c l) (hx : l[i]? = some x) (m : Nat) (cs : List Value) (hcs : (f x).take m = cs) : w.rangeAt g (i * k) cs := h.zrange hx 0 m cs hcs
theorem Sle.zcell {α : Type} {f : α → List Value} {k : Nat} {w : World} {g n c i : Nat} {l : List α} {x : α} (h : Sle f k w (some ⟨g, 0, none⟩) n c l) (hx : l[i]? = some x) (a : Nat) (v : Value) (hv : (f x)[a]? = some v) : w.cell? ⟨g, i * k + a, none⟩ = some v := by
  have := h.cellk hx a v hv
  rwa [Nat.zero_add] at this
theorem Sle.zcell0 {α : Type} {f : α → List Value} {k : Nat} {w : World} {g n c i : Nat} {l : List α} {x : α} (h : Sle f k w (some ⟨g, 0, none⟩) n c l) (hx : l[i]? = some x) (v : Value) (hv : (f x)[0]? = some v) : w.cell? ⟨g, i * k, none⟩ = some v := h.zcell hx 0 v hv
theorem run_store_el {P : Program} {α : Type} {f : α → List Value} {k : Nat} (w : World) {B n c g i a : Nat} {T : TypeId} {l : List α} {x : α} (ty : TypeId) (v : Value) (cs : List Value) (hv : v.cells = cs.toArray) (hk : 0 < k) (hf : ∀ x, (f x).length = k)
    (h : w.ownsRow B T k (.slice (some ⟨g, 0, none⟩) n c) n (l.flatMap f)) (hx : l[i]? = some x) (hm : a + cs.length ≤ k) (hi : (P.info? ty).map (·.size) = some cs.length) (h1 : cs.all (·.oneCell') = true) :
    (Instr.storeAt ty (.pointer (some ⟨g, i * k + a, none⟩)) v).run P w = .ok () (w.setCells g (i * k + a) cs) := by
  have hl := row_len hk hf h
  have hil := (List.getElem?_eq_some_iff.1 hx).1
  have hik : i * k + k ≤ n * k := by rw [← Nat.succ_mul]; exact Nat.mul_le_mul_right k (by omega)
  have hc : ∀ j, j < cs.length → (w.cell? ⟨g, i * k + a + 0 + j, none⟩).isSome = true := by
    intro j hj
    rw [h.cellAt (i * k + a + 0 + j) (by omega)]
    have : i * k + a + 0 + j < (l.flatMap f).length := by rw [flat_len hf, hl]; omega
    rw [List.getElem?_eq_getElem this]; rfl
  have hfz : ∀ j, j < cs.length → w.frozen? ⟨g, i * k + a + 0 + j, none⟩ = false := fun j _ => h.frozenAt _
  have := run_storeCells_cells (P := P) g (i * k + a) cs 0 w hc hfz (fun v hv => List.all_eq_true.1 h1 v hv)
  simp only [Nat.add_zero] at this
  cases hq : P.info? ty with
  | none => simp [hq] at hi
  | some z =>
    have hs : z.size = cs.length := by simpa [hq] using hi
    simp [Instr.storeAt, Instr.sureAddr, Sem.run_bind, Sem.run_pure, storeVar, sizeOf, typeInfo, hq, hv, hs, this]
theorem wp_store_el {P : Program} {α : Type} {f : α → List Value} {k : Nat} {o : Oper} {ac : Act} {w : World} {K : Act → World → Prop} {Q : Exit → Act → World → Prop} (ty : TypeId) (px py : Operand) (ho : o.op = .store ty px py)
    {B n c : Nat} {T : TypeId} {l : List α} (g i a : Nat) (x y : α) (hp : ac.eval px = .pointer (some ⟨g, i * k + a, none⟩)) (cs : List Value) (hv : (ac.eval py).cells = cs.toArray) (hk : 0 < k) (hf : ∀ x, (f x).length = k)
    (h : w.ownsRow B T k (.slice (some ⟨g, 0, none⟩) n c) n (l.flatMap f)) (hx : l[i]? = some x) (hm : a + cs.length ≤ k) (hy : (f x).take a ++ cs ++ (f x).drop (a + cs.length) = f y) (hi : (P.info? ty).map (·.size) = some cs.length) (h1 : cs.all (·.oneCell') = true)
    (hK : ∀ w', w'.ownsRow B T k (.slice (some ⟨g, 0, none⟩) n c) n ((l.set i y).flatMap f) → w.grownBy w' (some g) → K (ac.put o.dst undef) w') : Oper.wp P o ac w K Q := by
  have hr := run_store_el (P := P) w ty _ cs hv hk hf h hx hm hi h1
  have hs := el_stored hk hf h hx hm hy
  unfold Oper.wp execOp
  simp only [ho, hp, Sem.run_bind, Sem.run_pure, Result.andThen_ok, hr]
  exact hK _ hs.1 hs.2
theorem wpList_store_el {P : Program} {α : Type} {f : α → List Value} {k : Nat} {ops : Array Oper} {rest : List Oper} {o : Oper} {ac : Act} {w : World} {Q : Exit → Act → World → Prop} (hgd : o.guard = none) (ty : TypeId) (px py : Operand) (ho : o.op = .store ty px py)
    {B n c : Nat} {T : TypeId} {l : List α} (g i a : Nat) (x y : α) (hp : ac.eval px = .pointer (some ⟨g, i * k + a, none⟩)) (cs : List Value) (hv : (ac.eval py).cells = cs.toArray) (hk : 0 < k) (hf : ∀ x, (f x).length = k)
    (h : w.ownsRow B T k (.slice (some ⟨g, 0, none⟩) n c) n (l.flatMap f)) (hx : l[i]? = some x) (hm : a + cs.length ≤ k) (hy : (f x).take a ++ cs ++ (f x).drop (a + cs.length) = f y) (hi : (P.info? ty).map (·.size) = some cs.length) (h1 : cs.all (·.oneCell') = true)
    (hK : ∀ w', w'.ownsRow B T k (.slice (some ⟨g, 0, none⟩) n c) n ((l.set i y).flatMap f) → w.grownBy w' (some g) → wpList P ops Q rest (ac.put o.dst undef) w') : wpList P ops Q (o :: rest) ac w :=
  wpList_plain hgd fun _ hK' => wp_store_el ty px py ho g i a x y hp cs hv hk hf h hx hm hy hi h1 (fun w' h1 h2 => hK' _ _ (hK w' h1 h2))
end Go.Proofs.YtholgadifhjmgaaDoor
