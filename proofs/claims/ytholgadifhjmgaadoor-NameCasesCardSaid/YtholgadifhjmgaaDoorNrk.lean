/- Rows of structs: what the writers of tables share. Laws of no program. -/
import Derived.Test.YtholgadifhjmgaaDoorNrs
namespace Go.Proofs.YtholgadifhjmgaaDoor
open Go.RowKit

theorem Below.row {lo g : Nat} {w w' : World} (h : w.grownBy w' (some g)) (hg : lo ≤ g) (hs : lo ≤ w.heap.size) : Below lo w w' := (Below.refl lo w).grown h hs (fun k e => by cases e; exact hg)
theorem gk_drew {w0 w : World} {b : Option Nat} (h : w0.grownBy w b) : w0.grownBy w.drew b := ⟨h.os, h.tape, h.output, h.size, h.block⟩
theorem owk_lo {w : World} {B B' k n : Nat} {e : TypeId} {v : Value} {xs : List Value} (h : w.ownsRow B e k v n xs) (hb : B' ≤ B) : w.ownsRow B' e k v n xs := by
  refine ⟨h.1, ?_⟩
  rcases h.2 with h | ⟨g, cap, cur, e, hg, h⟩
  · exact .inl h
  · exact .inr ⟨g, cap, cur, e, Nat.le_trans hb hg, h⟩
theorem heap_drew {w : World} {b : Nat} {x : Obj} (h : w.heap[b]? = some x) : w.drew.heap[b]? = some x := h
theorem flat_take {α : Type} {f : α → List Value} {k : Nat} (hf : ∀ x, (f x).length = k) : ∀ (l : List α) (i : Nat), (l.take i).flatMap f = (l.flatMap f).take (i * k)
  | [], i => by simp
  | x :: l, 0 => by simp
  | x :: l, i + 1 => by
    rw [List.take_succ_cons, List.flatMap_cons, List.flatMap_cons, flat_take hf l i, Nat.succ_mul, Nat.add_comm (i * k) k, ← hf x, List.take_length_add_append]
theorem flat_drop {α : Type} {f : α → List Value} {k : Nat} (hf : ∀ x, (f x).length = k) : ∀ (l : List α) (i : Nat), (l.drop i).flatMap f = (l.flatMap f).drop (i * k)
  | [], i => by simp
  | x :: l, 0 => by simp
  | x :: l, i + 1 => by
    rw [List.drop_succ_cons, List.flatMap_cons, flat_drop hf l i, Nat.succ_mul, Nat.add_comm (i * k) k, ← hf x, List.drop_length_add_append]
theorem ins_cells {F ys X : List Value} {a k m : Nat} (ha : a + m = F.length) (hy : ys.length = k) (hX : X.length = k) :
    (((F ++ ys).take (a + k) ++ F.drop a ++ (F ++ ys).drop (a + k + (F.drop a).length)).take a ++ X ++ ((F ++ ys).take (a + k) ++ F.drop a ++ (F ++ ys).drop (a + k + (F.drop a).length)).drop (a + X.length)) = F.take a ++ X ++ F.drop a := by
  have h1 : (F.drop a).length = m := by rw [List.length_drop]; omega
  have h2 : (F ++ ys).drop (a + k + (F.drop a).length) = [] := List.drop_eq_nil_of_le (by rw [List.length_append, h1]; omega)
  have h3 : ((F ++ ys).take (a + k)).length = a + k := by rw [List.length_take, List.length_append]; omega
  rw [h2, List.append_nil]
  congr 1
  · congr 1
    rw [List.take_append_of_le_length (by omega), List.take_take, Nat.min_eq_left (by omega), List.take_append_of_le_length (by omega)]
  · rw [hX]; exact List.drop_left' h3
theorem ins_cells2 {F Z X : List Value} {a k m : Nat} (ha : a + m = F.length) (hz : Z.length = m + k) (hX : X.length = k) :
    (((F.take a ++ Z).take a ++ X ++ (F.take a ++ Z).drop (a + X.length)).take (a + k) ++ F.drop a ++ ((F.take a ++ Z).take a ++ X ++ (F.take a ++ Z).drop (a + X.length)).drop (a + k + (F.drop a).length)) = F.take a ++ X ++ F.drop a := by
  have h1 : (F.drop a).length = m := by rw [List.length_drop]; omega
  have h0 : (F.take a).length = a := by rw [List.length_take]; omega
  have h4 : (F.take a ++ Z).take a = F.take a := by
    conv => lhs; rw [← h0]
    rw [h0, List.take_append_of_le_length (by omega), List.take_take, Nat.min_self]
  have h5 : ((F.take a ++ Z).take a ++ X ++ (F.take a ++ Z).drop (a + X.length)).length = a + k + m := by
    rw [h4]; simp; omega
  have h6 : ((F.take a ++ Z).take a ++ X ++ (F.take a ++ Z).drop (a + X.length)).drop (a + k + (F.drop a).length) = [] := List.drop_eq_nil_of_le (by rw [h5, h1]; omega)
  rw [h6, List.append_nil]
  congr 1
  rw [h4, List.take_append_of_le_length (by simp; omega), List.take_of_length_le (by simp; omega)]
theorem off_ne {gE n c q : Nat} (h : Ofs (.slice (some ⟨gE, 0, none⟩) n c) q) : q ≠ gE := fun e => h gE rfl e.symm
theorem ne_off {gE n c q : Nat} (h : gE ≠ q) : Ofs (.slice (some ⟨gE, 0, none⟩) n c) q := fun g hg => by
  simp only [Value.ownBlock, Option.some.injEq] at hg
  subst hg; exact h
theorem Gr2.drew {w w' : World} {g : Nat} {v : Value} (h : Gr2 w w' g v) : Gr2 w w'.drew g v := ⟨h.os, h.tape, h.output, h.size, h.block⟩
theorem kt_drew {S : List TypeId} {w w' : World} (h : Kt S w w') : Kt S w w'.drew := h
theorem own_ub {w w' : World} {B lo k n : Nat} {e : TypeId} {v : Value} {xs : List Value} (h : w.ownsRow lo e k v n xs) (b : Below B w w') (hB : ∀ g, v.ownBlock = some g → g < B) : w'.ownsRow lo e k v n xs := by
  refine ⟨h.1, ?_⟩
  rcases h.2 with h | ⟨g, cap, cur, e2, hg, hh, h⟩
  · exact .inl h
  · exact .inr ⟨g, cap, cur, e2, hg, (b.block g (hB g (by rw [e2]; rfl))).trans hh, h⟩
theorem gk_under {w0 w w' : World} {b : Option Nat} {B : Nat} (h : w0.grownBy w b) (h2 : Below B w w') (hB : w0.heap.size ≤ B) : w0.grownBy w' b :=
  ⟨h2.os.trans h.os, h2.tape.trans h.tape, h2.output.trans h.output, Nat.le_trans h.size h2.size, fun k hk hne => (h2.block k (Nat.lt_of_lt_of_le hk hB)).trans (h.block k hk hne)⟩
end Go.Proofs.YtholgadifhjmgaaDoor
