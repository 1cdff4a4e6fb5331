/- Whole blocks, read and written in one step each (structs of many cells); '==' of a value with itself. Laws of no program. -/
import Derived.Test.YtholgadifhjmgaaDoorApp
import Derived.Deep.MidRow
import Derived.Laws.ResultCell
import Derived.DeepKeys
import Derived.Stop.BytesEq
import Derived.Laws.StructEq
namespace Go.Proofs.YtholgadifhjmgaaDoor
open Go.RowKit

theorem grown_setRow {w : World} (b : Nat) (cs : Array Value) : w.grownBy (w.setRow b cs) (some b) :=
  ⟨rfl, rfl, rfl, by simp [World.setRow], fun k _ hk => setRow_other w b k cs (fun e => hk (by rw [e]))⟩
/-- A whole struct or array goes into a block of its own. -/
theorem wp_store_blk {P : Program} {o : Oper} {a : Act} {w : World} {K : Act → World → Prop} {Q : Exit → Act → World → Prop} (ty : TypeId) (x y : Operand) (ho : o.op = .store ty x y)
    (b : Nat) (hx : a.eval x = .pointer (some ⟨b, 0, none⟩)) (cells : Array Value) (hy : a.eval y = .agg cells) (C : Array Value) (T : TypeId) (hb : w.heap[b]? = some (.cells C T (0, 0)))
    (hs : C.size = cells.size) (hi : (P.info? ty).map (·.size) = some cells.size) (h1 : cells.all (·.oneCell') = true)
    (h : ∀ w', w'.heap[b]? = some (.cells cells T (0, 0)) → w.grownBy w' (some b) → K (a.put o.dst undef) w') : Oper.wp P o a w K Q := by
  have hr := run_storeVar_row (P := P) w b T ty C cells hb hi hs h1
  unfold Oper.wp execOp
  simp only [ho, hx, hy, Instr.storeAt, Instr.sureAddr, Sem.run_bind, Sem.run_pure, Result.andThen_ok, hr]
  exact h _ (setRow_heap w b _ _ T _ hb) (grown_setRow b cells)
theorem wpList_store_blk {P : Program} {ops : Array Oper} {rest : List Oper} {o : Oper} {a : Act} {w : World} {Q : Exit → Act → World → Prop} (hgd : o.guard = none) (ty : TypeId) (x y : Operand) (ho : o.op = .store ty x y)
    (b : Nat) (hx : a.eval x = .pointer (some ⟨b, 0, none⟩)) (cells : Array Value) (hy : a.eval y = .agg cells) (C : Array Value) (T : TypeId) (hb : w.heap[b]? = some (.cells C T (0, 0)))
    (hs : C.size = cells.size) (hi : (P.info? ty).map (·.size) = some cells.size) (h1 : cells.all (·.oneCell') = true)
    (h : ∀ w', w'.heap[b]? = some (.cells cells T (0, 0)) → w.grownBy w' (some b) → wpList P ops Q rest (a.put o.dst undef) w') : wpList P ops Q (o :: rest) a w :=
  wpList_plain hgd fun _ hK => wp_store_blk ty x y ho b hx cells hy C T hb hs hi h1 (fun w' h1 h2 => hK _ _ (h w' h1 h2))
/-- A piece of a block, read by value. -/
theorem range_lit {w : World} {b : Nat} {L : List Value} {T : TypeId} {fr : Nat × Nat} (hb : w.heap[b]? = some (.cells L.toArray T fr)) (o n : Nat) (cs : List Value) (hcs : (L.drop o).take n = cs) : w.rangeAt b o cs := by
  intro j v hv
  rw [cell_of_row w b (o + j) _ T fr hb]
  rw [← hcs, List.getElem?_take] at hv
  split at hv
  · rw [List.getElem?_drop] at hv
    simpa using hv
  · cases hv
theorem wpList_load_part {P : Program} {ops : Array Oper} {rest : List Oper} {o : Oper} {a : Act} {w : World} {Q : Exit → Act → World → Prop} (hgd : o.guard = none) (ty : TypeId) (x : Operand) (ho : o.op = .load ty x)
    (b i n : Nat) (hx : a.eval x = .pointer (some ⟨b, i, none⟩)) (L : List Value) (T : TypeId) (fr : Nat × Nat) (hb : w.heap[b]? = some (.cells L.toArray T fr)) (cs : List Value) (hcs : (L.drop i).take n = cs)
    (d : TypeDesc) (hu : P.underlying ty = some d) (hd : d.isRow = true) (hi : (P.info? ty).map (·.size) = some cs.length)
    (h : wpList P ops Q rest (a.put o.dst (.agg cs.toArray)) w) : wpList P ops Q (o :: rest) a w :=
  wpList_load_mid hgd ty x ho b i hx cs d (range_lit hb i n cs hcs) hu hd hi h
theorem yieldsIf_load_part {P : Program} {ops : Array Oper} {S : World → Prop} {o : Oper} {a : Act} (hw : Region.wanted o (yielded ops a.tmps) = true) (ty : TypeId) (x : Operand) (ho : o.op = .load ty x)
    (b i n : Nat) (hx : a.eval x = .pointer (some ⟨b, i, none⟩)) (L : List Value) (T : TypeId) (fr : Nat × Nat) (hS : ∀ w, S w → w.heap[b]? = some (.cells L.toArray T fr)) (cs : List Value) (hcs : (L.drop i).take n = cs)
    (d : TypeDesc) (hu : P.underlying ty = some d) (hd : d.isRow = true) (hi : (P.info? ty).map (·.size) = some cs.length) : YieldsIf P ops S o (.agg cs.toArray) a :=
  yieldsIf_load_mid hw ty x ho b i hx cs d (fun w h => range_lit (hS w h) i n cs hcs) hu hd hi
/-- The same under a guard that holds (or none). -/
theorem wpList_load_part_if {P : Program} {ops : Array Oper} {rest : List Oper} {o : Oper} {a : Act} {w : World} {Q : Exit → Act → World → Prop} (hgd : Region.wanted o (yielded ops a.tmps) = true) (ty : TypeId) (x : Operand) (ho : o.op = .load ty x)
    (b i n : Nat) (hx : a.eval x = .pointer (some ⟨b, i, none⟩)) (L : List Value) (T : TypeId) (fr : Nat × Nat) (hb : w.heap[b]? = some (.cells L.toArray T fr)) (cs : List Value) (hcs : (L.drop i).take n = cs)
    (d : TypeDesc) (hu : P.underlying ty = some d) (hd : d.isRow = true) (hi : (P.info? ty).map (·.size) = some cs.length)
    (h : wpList P ops Q rest (a.put o.dst (.agg cs.toArray)) w) : wpList P ops Q (o :: rest) a w :=
  wpList_wanted hgd fun _ hK => wp_load_mid ty x ho b i hx cs d (range_lit hb i n cs hcs) hu hd hi (hK _ _ h)
theorem wpList_load_rng {P : Program} {ops : Array Oper} {rest : List Oper} {o : Oper} {a : Act} {w : World} {Q : Exit → Act → World → Prop} (ty : TypeId) (x : Operand) (ho : o.op = .load ty x) (hgd : Region.wanted o (yielded ops a.tmps) = true)
    (b i : Nat) (hx : a.eval x = .pointer (some ⟨b, i, none⟩)) (cs : List Value) (hc : w.rangeAt b i cs) (d : TypeDesc) (hu : P.underlying ty = some d) (hd : d.isRow = true) (hi : (P.info? ty).map (·.size) = some cs.length)
    (h : wpList P ops Q rest (a.put o.dst (.agg cs.toArray)) w) : wpList P ops Q (o :: rest) a w :=
  wpList_wanted hgd fun _ hK => wp_load_mid ty x ho b i hx cs d hc hu hd hi (hK _ _ h)
/-- One cell, read where its type is none of many cells. -/
theorem cell_lit {w : World} {b : Nat} {C : Array Value} {T : TypeId} {fr : Nat × Nat} (hb : w.heap[b]? = some (.cells C T fr)) (i : Nat) (v : Value) (hv : C[i]? = some v) : w.cell? ⟨b, i, none⟩ = some v := by
  rw [cell_of_row w b i C T fr hb, hv]
/-- What a function with a struct and a number in its results answers. -/
theorem results_cell_tmp_row {P : Program} {fn : Func} {p u : Tmp} {ty : TypeId} (h : fn.results = #[.cell p ty, .tmp u]) (tmps : Array Value) (w : World) (g : Nat) (T : TypeId) (cs : Array Value) (fr : Nat × Nat) (d : TypeDesc)
    (hp : tmps.getD p undef = .pointer (some ⟨g, 0, none⟩)) (hg : w.heap[g]? = some (.cells cs T fr)) (hu : P.underlying ty = some d) (hd : d.isRow = true) (hi : (P.info? ty).map (·.size) = some cs.size) (v : Value) (hv : tmps.getD u undef = v) :
    (results fn tmps).run P w = .ok (.tuple #[.agg cs, v]) w := by
  rw [results_cell_tmp h, hp, hv]
  have hr := run_loadVar_row (P := P) w g T ty cs fr d hg hu (by cases d <;> simp_all) hi
  simp [asAddr, Result.andThen, hr]
theorem results_cell_row' {P : Program} {fn : Func} {p : Tmp} {ty : TypeId} (h : fn.results = #[.cell p ty]) (tmps : Array Value) (w : World) (g : Nat) (T : TypeId) (cs : Array Value) (fr : Nat × Nat) (d : TypeDesc)
    (hp : tmps.getD p undef = .pointer (some ⟨g, 0, none⟩)) (hg : w.heap[g]? = some (.cells cs T fr)) (hu : P.underlying ty = some d) (hd : d.isRow = true) (hi : (P.info? ty).map (·.size) = some cs.size) :
    (results fn tmps).run P w = .ok (.agg cs) w :=
  results_cell_row h tmps w g T cs fr d hp hg hu (by cases d <;> simp_all) hi
/-- A struct is equal to itself. -/
theorem run_eql_self {P : Program} (w : World) (t : TypeId) (xs : Array Value) (m : Nat) (hm : m ≤ 10000) (hk : P.keyTypeAt m t = true) (hf : (Value.agg xs).formed P t = true) (D : Nat) (la : List Lit) (hl : P.keyLits D t xs.toList = some la) :
    (binOp .eql t (.agg xs) (.agg xs)).run P w = .ok (.bool true) w := by
  obtain ⟨r, hr, hi⟩ := run_equalIn_deep (P := P) (10000 - m) m t hk w D D _ _ la la hf hf hl hl
  rw [show 10000 - m + m = 10000 by omega] at hr
  rw [run_eql_struct, hr, hi.2 rfl]
  rfl
theorem run_neq_self {P : Program} (w : World) (t : TypeId) (xs : Array Value) (m : Nat) (hm : m ≤ 10000) (hk : P.keyTypeAt m t = true) (hf : (Value.agg xs).formed P t = true) (D : Nat) (la : List Lit) (hl : P.keyLits D t xs.toList = some la) :
    (binOp .neq t (.agg xs) (.agg xs)).run P w = .ok (.bool false) w := by
  obtain ⟨r, hr, hi⟩ := run_equalIn_deep (P := P) (10000 - m) m t hk w D D _ _ la la hf hf hl hl
  rw [show 10000 - m + m = 10000 by omega] at hr
  rw [run_neq_struct, hr, hi.2 rfl]
  rfl
/-- A call that writes into a block from the bound on, or into none. -/
theorem below_grown {B : Nat} {w0 w w' : World} {b : Nat} (h : Below B w0 w) (hg : w.grownBy w' (some b)) (hb : B ≤ b) (hB : B ≤ w.heap.size) : Below B w0 w' := h.grown hg hB (fun k e => by cases e; exact hb)
end Go.Proofs.YtholgadifhjmgaaDoor
