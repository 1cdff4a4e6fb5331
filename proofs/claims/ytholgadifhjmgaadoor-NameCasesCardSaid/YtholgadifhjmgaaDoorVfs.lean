/- Frames, shorter: where a block lies is told by what it holds. Laws of no program. -/
import Derived.Test.YtholgadifhjmgaaDoorVfr
namespace Go.Proofs.YtholgadifhjmgaaDoor
open Go.RowKit

theorem hlt {w : World} {g : Nat} {x : Obj} (h : w.heap[g]? = some x) : g < w.heap.size := (Array.getElem?_eq_some_iff.1 h).1
theorem blk_u {w w' : World} {g : Nat} {x : Obj} (h : w.heap[g]? = some x) (hb : Below w.heap.size w w') : w'.heap[g]? = some x := (hb.block g (hlt h)).trans h
theorem blk_a {w w' : World} {g q : Nat} {x : Obj} (h : w.heap[g]? = some x) (hg : w.grownBy w' (some q)) (d : Hid (g ≠ q)) : w'.heap[g]? = some x := (hg.block g (hlt h) (fun e => d.out (by injection e))).trans h
theorem wp_new_a {P : Program} {o : Oper} {a : Act} {w : World} {K : Act → World → Prop} {Q : Exit → Act → World → Prop} (e : TypeId) (ho : o.op = .alloc e) (cs : Array Value) (hi : (P.info? e).bind (·.zero) = some (.agg cs))
    (h : ∀ g w', w.heap.size ≤ g → w'.heap[g]? = some (.cells cs e (0, 0)) → Below w.heap.size w w' → K (a.put o.dst (.pointer (some ⟨g, 0, none⟩))) w') : Oper.wp P o a w K Q :=
  wp_new_n e ho (.agg cs) hi cs rfl fun g w' h1 _ h3 h4 => h g w' h1 h3 h4
theorem wpList_new_a {P : Program} {ops : Array Oper} {rest : List Oper} {o : Oper} {a : Act} {w : World} {Q : Exit → Act → World → Prop} (hgd : o.guard = none) (e : TypeId) (ho : o.op = .alloc e) (cs : Array Value) (hi : (P.info? e).bind (·.zero) = some (.agg cs))
    (h : ∀ g w', w.heap.size ≤ g → w'.heap[g]? = some (.cells cs e (0, 0)) → Below w.heap.size w w' → wpList P ops Q rest (a.put o.dst (.pointer (some ⟨g, 0, none⟩))) w') : wpList P ops Q (o :: rest) a w :=
  wpList_new_n hgd e ho (.agg cs) hi cs rfl fun g w' h1 _ h3 h4 => h g w' h1 h3 h4
end Go.Proofs.YtholgadifhjmgaaDoor
