/- A block that is an array of single cells: an address within, a store at a place that is not a literal. Of no program. -/
import Derived.Test.YtmljgpefbbifmaaVap
import Derived.Test.YtmljgpefbbifmaaStp
import Derived.Test.YtmljgpefbbifmaaNr0
namespace Go.Proofs.Ytmljgpefbbifmaa
open Go.RowKit

set_option linter.unusedSimpArgs false in
theorem run_index_arr {P : Program} (w : World) (t e : TypeId) (len i g : Nat) (x : Int) (hu : P.underlying t = some (.array len e)) (hs : (P.info? e).map (·.size) = some 1) (hi : i < len) (hl : 1 < len) (hx : x = (i : Int)) :
    (Instr.indexAt t (.pointer (some ⟨g, 0, none⟩)) (.int .i64 x)).run P w = .ok (.pointer (some ⟨g, i, none⟩)) w := by
  subst hx
  cases hq : P.info? e with
  | none => simp [hq] at hs
  | some z =>
    have hz : z.size = 1 := by simpa [hq] using hs
    have h1 : ¬ len ≤ 1 := by omega
    simp [Instr.indexAt, run_underlying hu, asIntOf, sizeOf, typeInfo, hq, hz, hi, h1, Addr.add, go_sem]
    exact fun h => h.symm
theorem wpList_store_one {P : Program} {ops : Array Oper} {rest : List Oper} {o : Oper} {a : Act} {w : World} {Q : Exit → Act → World → Prop} (hgd : o.guard = none) (ty : TypeId) (x y : Operand) (ho : o.op = .store ty x y)
    (b i : Nat) (hx : a.eval x = .pointer (some ⟨b, i, none⟩)) (v : Value) (hy : (a.eval y).cells = #[v]) (L : List Value) (T : TypeId) (hb : w.heap[b]? = some (.cells L.toArray T (0, 0))) (hn : i < L.length)
    (hi : (P.info? ty).map (·.size) = some 1) (h1 : v.oneCell' = true)
    (h : ∀ w', w'.heap[b]? = some (.cells (L.set i v).toArray T (0, 0)) → w.grownBy w' (some b) → wpList P ops Q rest (a.put o.dst undef) w') : wpList P ops Q (o :: rest) a w :=
  wpList_store_part hgd ty x y ho b i hx [v] hy L T hb (by simp; omega) (L.set i v) (by rw [List.set_eq_take_append_cons_drop, if_pos hn]; simp) hi (by simpa using h1) h
theorem arr_at {L : List Value} {i : Nat} {v : Value} (h : L[i]? = some v) : L.toArray[i]? = some v := by simpa using h
theorem kt_drew {S : List TypeId} {w w' : World} (h : Kt S w w') : Kt S w w'.drew := h
end Go.Proofs.Ytmljgpefbbifmaa
