/- Rows of structs: cells written into a row, a row made shorter or longer, clear, copy, append within a row, append of new elements. Laws of no program. -/
import Derived.Test.YtholgadifhjmgaaDoorNr0
import Derived.Lib.Overlaps
import Derived.Laws.Externs
namespace Go.Proofs.YtholgadifhjmgaaDoor
open Go.RowKit

section
variable {k : Nat} {w : World} {B n c g : Nat} {T : TypeId} {xs : List Value}
theorem row_of (h : w.ownsRow B T k (.slice (some ⟨g, 0, none⟩) n c) n xs) : xs.length = n * k ∧ ∃ cur : List Value, B ≤ g ∧ w.heap[g]? = some (.cells cur.toArray T (0, 0)) ∧ n ≤ c ∧ c ≤ maxLen ∧ cur.length = c * k ∧ cur.take (n * k) = xs := by
  refine ⟨h.1, ?_⟩
  rcases h.2 with ⟨e, _⟩ | ⟨g', cap, cur, e, hb, hh, hn, hc, hs, ht⟩
  · cases e
  · injection e with e1 e2 e3
    injection e1 with e1
    injection e1 with e1
    subst e1
    subst e3
    exact ⟨cur.toList, hb, by simpa using hh, hn, hc, by simpa using hs, ht⟩
theorem row_mk {cur : List Value} (hb : B ≤ g) (hh : w.heap[g]? = some (.cells cur.toArray T (0, 0))) (hn : n ≤ c) (hc : c ≤ maxLen) (hs : cur.length = c * k) (ht : cur.take (n * k) = xs) : w.ownsRow B T k (.slice (some ⟨g, 0, none⟩) n c) n xs := by
  refine ⟨?_, .inr ⟨g, c, cur.toArray, rfl, hb, hh, hn, hc, by simpa using hs, by simpa using ht⟩⟩
  rw [← ht, List.length_take, hs]
  exact Nat.min_eq_left (Nat.mul_le_mul_right k hn)
/-- Cells written into a row. -/
theorem row_cells (h : w.ownsRow B T k (.slice (some ⟨g, 0, none⟩) n c) n xs) (p : Nat) (cs : List Value) (hp : p + cs.length ≤ n * k) :
    (w.setCells g p cs).ownsRow B T k (.slice (some ⟨g, 0, none⟩) n c) n (xs.take p ++ cs ++ xs.drop (p + cs.length)) ∧ w.grownBy (w.setCells g p cs) (some g) := by
  refine ⟨?_, setCells_grown cs p w⟩
  obtain ⟨hl, cur, hb, hh, hn, hc, hs, ht⟩ := row_of h
  have hnk : n * k ≤ c * k := Nat.mul_le_mul_right k hn
  have hcur : cur = xs ++ cur.drop (n * k) := by rw [← ht, List.take_append_drop]
  have h2 := setCells_heap (T := T) (fr := (0, 0)) cs p w cur hh (by omega)
  have e4 : cur.take p ++ cs ++ cur.drop (p + cs.length) = (xs.take p ++ cs ++ xs.drop (p + cs.length)) ++ cur.drop (n * k) := by
    conv => lhs; rw [hcur]
    rw [List.take_append_of_le_length (by omega), List.drop_append_of_le_length (by omega)]
    simp [List.append_assoc]
  rw [e4] at h2
  refine row_mk hb h2 hn hc ?_ ?_
  · simp; omega
  · rw [List.take_append_of_le_length (by simp; omega), List.take_of_length_le (by simp; omega)]
theorem row_store {P : Program} (h : w.ownsRow B T k (.slice (some ⟨g, 0, none⟩) n c) n xs) (p : Nat) (cs : List Value) (hp : p + cs.length ≤ n * k) (h1 : ∀ v ∈ cs, v.oneCell' = true) :
    (storeCells ⟨g, p, none⟩ cs 0).run P w = .ok () (w.setCells g p cs) := by
  have hl := h.1
  have hc : ∀ j, j < cs.length → (w.cell? ⟨g, p + 0 + j, none⟩).isSome = true := by
    intro j hj
    rw [h.cellAt (p + 0 + j) (by omega), List.getElem?_eq_getElem (by omega)]; rfl
  have hfz : ∀ j, j < cs.length → w.frozen? ⟨g, p + 0 + j, none⟩ = false := fun j _ => h.frozenAt _
  have := run_storeCells_cells (P := P) g p cs 0 w hc hfz h1
  simpa only [Nat.add_zero] using this
/-- A row of fewer elements, of more. -/
theorem row_less (h : w.ownsRow B T k (.slice (some ⟨g, 0, none⟩) n c) n xs) {i : Nat} (hi : i ≤ n) : w.ownsRow B T k (.slice (some ⟨g, 0, none⟩) i c) i (xs.take (i * k)) := by
  obtain ⟨hl, cur, hb, hh, hn, hc, hs, ht⟩ := row_of h
  refine row_mk hb hh (by omega) hc hs ?_
  rw [← ht, List.take_take, Nat.min_eq_left (Nat.mul_le_mul_right k hi)]
theorem row_more (h : w.ownsRow B T k (.slice (some ⟨g, 0, none⟩) n c) n xs) {m : Nat} (hm : n + m ≤ c) : ∃ ys, ys.length = m * k ∧ w.ownsRow B T k (.slice (some ⟨g, 0, none⟩) (n + m) c) (n + m) (xs ++ ys) := by
  obtain ⟨hl, cur, hb, hh, hn, hc, hs, ht⟩ := row_of h
  have h1 : (n + m) * k ≤ c * k := Nat.mul_le_mul_right k hm
  rw [Nat.add_mul] at h1
  refine ⟨(cur.drop (n * k)).take (m * k), by simp; omega, row_mk hb hh hm hc hs ?_⟩
  rw [Nat.add_mul, List.take_add, ht]
/-- The cells of a piece of a row. -/
theorem row_piece (h : w.ownsRow B T k (.slice (some ⟨g, 0, none⟩) n c) n xs) (p : Nat) (cs : List Value) (hcs : (xs.drop p).take cs.length = cs) : ∀ j v, cs[j]? = some v → w.cell? ((⟨g, p, none⟩ : Addr).add j) = some v := by
  intro j v hv
  rw [← hcs, List.getElem?_take] at hv
  split at hv
  · rw [List.getElem?_drop] at hv
    have hj := (List.getElem?_eq_some_iff.1 hv).1
    rw [Addr.add_lit, h.cellAt (p + j) (by rw [← h.1]; exact hj)]
    exact hv
  · cases hv
end
/-- Zeros. -/
def zerosL (z : Value) (n : Nat) : List Value := (Builtin.zeroCells z.cells n).toList
theorem zerosL_len (z : Value) (n : Nat) {k : Nat} (hz : z.cells.size = k) : (zerosL z n).length = n * k := by
  unfold zerosL
  rw [Array.length_toList, size_zeroCells, hz]
theorem zerosL_one (z : Value) (n : Nat) (hz : z.cells.all (·.oneCell') = true) : ∀ v ∈ zerosL z n, v.oneCell' = true := by
  intro v hv
  unfold zerosL Builtin.zeroCells at hv
  simp only [Array.toList_map, List.mem_map] at hv
  obtain ⟨i, hi, rfl⟩ := hv
  have hr : i < n * z.cells.size := by simpa using hi
  have h0 : 0 < z.cells.size := by
    rcases Nat.eq_zero_or_pos z.cells.size with h | h
    · rw [h] at hr; omega
    · exact h
  have hm : i % z.cells.size < z.cells.size := Nat.mod_lt _ h0
  rw [getElem!_pos z.cells _ hm]
  exact Array.all_eq_true.1 hz _ hm
section
variable {P : Program}
/-- clear(s[i:]): behind it the first i elements are a row. -/
theorem run_clear_row {k : Nat} {w : World} {B c g i m : Nat} {T : TypeId} {xs : List Value} (t e ty : TypeId) (z : Value) (ht : P.underlying t = some (.slice e)) (hz : (P.info? e).bind (·.zero) = some z) (hzs : z.cells.size = k) (hz1 : z.cells.all (·.oneCell') = true)
    (h : w.ownsRow B T k (.slice (some ⟨g, 0, none⟩) (i + m) c) (i + m) xs) (hm : 0 < m) (c2 : Nat) :
    ∃ w', (Builtin.clear_ #[t] ty #[.slice (some ⟨g, i * k, none⟩) m c2]).run P w = .ok (.tuple #[]) w' ∧ w'.ownsRow B T k (.slice (some ⟨g, 0, none⟩) i c) i (xs.take (i * k)) ∧ w.grownBy w' (some g) := by
  have hl := zerosL_len z m hzs
  have hle : i * k + (zerosL z m).length ≤ (i + m) * k := by rw [hl, Nat.add_mul]; omega
  have hr := row_cells h (i * k) (zerosL z m) hle
  have hst := row_store (P := P) h (i * k) (zerosL z m) hle (zerosL_one z m hz1)
  refine ⟨_, ?_, ?_, hr.2⟩
  · have hzv : (zeroValue e).run P w = .ok z w := by
      cases hq : P.info? e with
      | none => simp [hq] at hz
      | some q =>
        have hz' : q.zero = some z := by simpa [hq] using hz
        simp [zeroValue, typeInfo, hq, hz']
    obtain ⟨m', rfl⟩ : ∃ q, m = q + 1 := ⟨m - 1, by omega⟩
    unfold zerosL at hst
    simp [Builtin.clear_, run_underlying ht, hzv, hst]
    rfl
  · have h2 := row_less hr.1 (i := i) (by omega)
    have h1 := h.1
    rw [Nat.add_mul] at h1
    rw [List.append_assoc, List.take_append_of_le_length (by rw [List.length_take]; omega), List.take_take, Nat.min_self] at h2
    exact h2
theorem wp_clear_row {o : Oper} {a : Act} {K : Act → World → Prop} {Q : Exit → Act → World → Prop} {k : Nat} {w : World} {B c g i m : Nat} {T : TypeId} {xs : List Value} (x : Operand) (t e : TypeId) (ho : o.op = .call { callee := .builtin .clear, args := #[x], argTypes := #[t] })
    (z : Value) (ht : P.underlying t = some (.slice e)) (hz : (P.info? e).bind (·.zero) = some z) (hzs : z.cells.size = k) (hz1 : z.cells.all (·.oneCell') = true)
    (n : Nat) (hn : i + m = n) (h : w.ownsRow B T k (.slice (some ⟨g, 0, none⟩) n c) n xs) (hm : 0 < m) (c2 : Nat) (hx : a.eval x = .slice (some ⟨g, i * k, none⟩) m c2)
    (hK : ∀ w', w'.ownsRow B T k (.slice (some ⟨g, 0, none⟩) i c) i (xs.take (i * k)) → w.grownBy w' (some g) → K (a.put o.dst (.tuple #[])) w') : Oper.wp P o a w K Q := by
  subst hn
  obtain ⟨w', hr, h2, h3⟩ := run_clear_row (P := P) t e o.type z ht hz hzs hz1 h hm c2
  unfold Oper.wp execOp
  simp only [ho, resolve, invoke, builtin, Sem.run_bind, Sem.run_pure, Result.andThen_ok, List.map_toArray, List.map_cons, List.map_nil, hx, hr]
  exact hK _ h2 h3
theorem wpList_clear_row {ops : Array Oper} {rest : List Oper} {o : Oper} {a : Act} {Q : Exit → Act → World → Prop} {k : Nat} {w : World} {B c g i m : Nat} {T : TypeId} {xs : List Value} (hgd : o.guard = none) (x : Operand) (t e : TypeId) (ho : o.op = .call { callee := .builtin .clear, args := #[x], argTypes := #[t] })
    (z : Value) (ht : P.underlying t = some (.slice e)) (hz : (P.info? e).bind (·.zero) = some z) (hzs : z.cells.size = k) (hz1 : z.cells.all (·.oneCell') = true)
    (n : Nat) (hn : i + m = n) (h : w.ownsRow B T k (.slice (some ⟨g, 0, none⟩) n c) n xs) (hm : 0 < m) (c2 : Nat) (hx : a.eval x = .slice (some ⟨g, i * k, none⟩) m c2)
    (hK : ∀ w', w'.ownsRow B T k (.slice (some ⟨g, 0, none⟩) i c) i (xs.take (i * k)) → w.grownBy w' (some g) → wpList P ops Q rest (a.put o.dst (.tuple #[])) w') : wpList P ops Q (o :: rest) a w :=
  wpList_plain hgd fun _ hK' => wp_clear_row x t e ho z ht hz hzs hz1 n hn h hm c2 hx (fun w' h1 h2 => hK' _ _ (hK w' h1 h2))
/-- copy into a row, from wherever the cells are read. -/
theorem run_copy_rowk {k : Nat} {w : World} {B n c g : Nat} {T : TypeId} {xs : List Value} (dT sT ty e : TypeId) (hu : P.underlying dT = some (.slice e)) (hs : (P.info? e).map (·.size) = some k)
    (h : w.ownsRow B T k (.slice (some ⟨g, 0, none⟩) n c) n xs) (p dl dc : Nat) (ad : Addr) (sl sc : Nat) (cs : List Value) (hn : cs.length = Nat.min sl dl * k) (hsrc : ∀ j v, cs[j]? = some v → w.cell? (ad.add j) = some v) (hp : p + cs.length ≤ n * k) (h1 : ∀ v ∈ cs, v.oneCell' = true) :
    (Builtin.copy_ #[dT, sT] ty #[.slice (some ⟨g, p, none⟩) dl dc, .slice (some ad) sl sc]).run P w = .ok (goInt (Nat.min sl dl)) (w.setCells g p cs) := by
  have hl := run_loadCells_list (P := P) w ad cs hsrc
  have hst := row_store (P := P) h p cs hp h1
  cases hq : P.info? e with
  | none => simp [hq] at hs
  | some i =>
    have hi : i.size = k := by simpa [hq] using hs
    simp [Builtin.copy_, run_underlying hu, Builtin.lenOf, Builtin.firstCells, sizeOf, typeInfo, hq, hi, ← hn, hl, hst]
theorem wp_copy_rowk {o : Oper} {a : Act} {K : Act → World → Prop} {Q : Exit → Act → World → Prop} {k : Nat} {w : World} {B n c g : Nat} {T : TypeId} {xs : List Value} (d s : Operand) (dT sT e : TypeId) (ho : o.op = .call { callee := .builtin .copy, args := #[d, s], argTypes := #[dT, sT] })
    (hu : P.underlying dT = some (.slice e)) (hs : (P.info? e).map (·.size) = some k) (h : w.ownsRow B T k (.slice (some ⟨g, 0, none⟩) n c) n xs) (p dl dc : Nat) (ad : Addr) (sl sc : Nat) (cs : List Value)
    (hd : a.eval d = .slice (some ⟨g, p, none⟩) dl dc) (hx : a.eval s = .slice (some ad) sl sc) (hn : cs.length = Nat.min sl dl * k) (hsrc : ∀ j v, cs[j]? = some v → w.cell? (ad.add j) = some v) (hp : p + cs.length ≤ n * k) (h1 : ∀ v ∈ cs, v.oneCell' = true)
    (xs' : List Value) (he : xs.take p ++ cs ++ xs.drop (p + cs.length) = xs')
    (hK : ∀ w', w'.ownsRow B T k (.slice (some ⟨g, 0, none⟩) n c) n xs' → w.grownBy w' (some g) → K (a.put o.dst (goInt (Nat.min sl dl))) w') : Oper.wp P o a w K Q := by
  have hr := run_copy_rowk (P := P) dT sT o.type e hu hs h p dl dc ad sl sc cs hn hsrc hp h1
  have hc := row_cells h p cs hp
  rw [he] at hc
  unfold Oper.wp execOp
  simp only [ho, resolve, invoke, builtin, Sem.run_bind, Sem.run_pure, Result.andThen_ok, List.map_toArray, List.map_cons, List.map_nil, hd, hx, hr]
  exact hK _ hc.1 hc.2
theorem wpList_copy_rowk {ops : Array Oper} {rest : List Oper} {o : Oper} {a : Act} {Q : Exit → Act → World → Prop} {k : Nat} {w : World} {B n c g : Nat} {T : TypeId} {xs : List Value} (hgd : o.guard = none) (d s : Operand) (dT sT e : TypeId) (ho : o.op = .call { callee := .builtin .copy, args := #[d, s], argTypes := #[dT, sT] })
    (hu : P.underlying dT = some (.slice e)) (hs : (P.info? e).map (·.size) = some k) (h : w.ownsRow B T k (.slice (some ⟨g, 0, none⟩) n c) n xs) (p dl dc : Nat) (ad : Addr) (sl sc : Nat) (cs : List Value)
    (hd : a.eval d = .slice (some ⟨g, p, none⟩) dl dc) (hx : a.eval s = .slice (some ad) sl sc) (hn : cs.length = Nat.min sl dl * k) (hsrc : ∀ j v, cs[j]? = some v → w.cell? (ad.add j) = some v) (hp : p + cs.length ≤ n * k) (h1 : ∀ v ∈ cs, v.oneCell' = true)
    (xs' : List Value) (he : xs.take p ++ cs ++ xs.drop (p + cs.length) = xs')
    (hK : ∀ w', w'.ownsRow B T k (.slice (some ⟨g, 0, none⟩) n c) n xs' → w.grownBy w' (some g) → wpList P ops Q rest (a.put o.dst (goInt (Nat.min sl dl))) w') : wpList P ops Q (o :: rest) a w :=
  wpList_plain hgd fun _ hK' => wp_copy_rowk d s dT sT e ho hu hs h p dl dc ad sl sc cs hd hx hn hsrc hp h1 xs' he (fun w' h1 h2 => hK' _ _ (hK w' h1 h2))
/-- append(s[:i], s[j:]...): within a row of n: the row is as long as it was. -/
theorem run_append_within {k : Nat} {w : World} {B n c g : Nat} {T : TypeId} {xs : List Value} (t ty e : TypeId) (z : TypeInfo) (ht : P.underlying t = some (.slice e)) (hi : P.info? e = some z) (hs : z.size = k)
    (h : w.ownsRow B T k (.slice (some ⟨g, 0, none⟩) n c) n xs) (i m : Nat) (ad : Addr) (c2 : Nat) (cs : List Value) (hl : cs.length = m * k) (him : i + m ≤ n) (hsrc : ∀ j v, cs[j]? = some v → w.cell? (ad.add j) = some v) (h1 : ∀ v ∈ cs, v.oneCell' = true) :
    (Builtin.append_ #[t, t] ty #[.slice (some ⟨g, 0, none⟩) i c, .slice (some ad) m c2]).run P w = .ok (.slice (some ⟨g, 0, none⟩) (i + m) c) (w.setCells g (i * k) cs) := by
  subst hs
  obtain ⟨_, cur, hb, hh, hn, hc, hsz, _⟩ := row_of h
  have hle : i * z.size + cs.length ≤ n * z.size := by rw [hl, ← Nat.add_mul]; exact Nat.mul_le_mul_right _ him
  have hx := h.1
  have hr := run_append_room_src (P := P) w t t ty e z ht hi g 0 i c (.slice (some ad) m c2) m cs (Src.ofSlice w ht ad m c2 cs hl hsrc h1) (by omega)
    (fun j hj => by rw [Nat.zero_add, h.cellAt (i * z.size + j) (by omega), List.getElem?_eq_getElem (by omega)]; rfl) (fun j _ => h.frozenAt _)
  rw [Nat.zero_add] at hr
  exact hr
theorem wp_append_within {o : Oper} {a : Act} {K : Act → World → Prop} {Q : Exit → Act → World → Prop} {k : Nat} {w : World} {B n c g : Nat} {T : TypeId} {xs : List Value} (d s : Operand) (t e : TypeId) (ho : o.op = .call { callee := .builtin .append, args := #[d, s], argTypes := #[t, t] })
    (z : TypeInfo) (ht : P.underlying t = some (.slice e)) (hi : P.info? e = some z) (hs : z.size = k)
    (h : w.ownsRow B T k (.slice (some ⟨g, 0, none⟩) n c) n xs) (i m : Nat) (ad : Addr) (c2 : Nat) (cs : List Value) (hd : a.eval d = .slice (some ⟨g, 0, none⟩) i c) (hx : a.eval s = .slice (some ad) m c2)
    (hl : cs.length = m * k) (r : Nat) (hr : i + m = r) (him : r ≤ n) (hsrc : ∀ j v, cs[j]? = some v → w.cell? (ad.add j) = some v) (h1 : ∀ v ∈ cs, v.oneCell' = true)
    (hK : ∀ w', w'.ownsRow B T k (.slice (some ⟨g, 0, none⟩) n c) n (xs.take (i * k) ++ cs ++ xs.drop (i * k + cs.length)) → w.grownBy w' (some g) → K (a.put o.dst (.slice (some ⟨g, 0, none⟩) r c)) w') : Oper.wp P o a w K Q := by
  subst hr
  have hr := run_append_within (P := P) t o.type e z ht hi hs h i m ad c2 cs hl him hsrc h1
  have hc := row_cells h (i * k) cs (by rw [hl, ← Nat.add_mul]; exact Nat.mul_le_mul_right _ him)
  unfold Oper.wp execOp
  simp only [ho, resolve, invoke, builtin, Sem.run_bind, Sem.run_pure, Result.andThen_ok, List.map_toArray, List.map_cons, List.map_nil, hd, hx, hr]
  exact hK _ hc.1 hc.2
/-- append(s[:i], make(S, m)...) where there is no room: a new row. -/
theorem run_append_fresh {k : Nat} {w : World} {B i c g : Nat} {T : TypeId} {xs : List Value} (t tn ty e : TypeId) (z : TypeInfo) (zv : Value) (kn : IntKind) (bytes : Nat) (ht : P.underlying t = some (.slice e)) (htn : P.underlying tn = some (.int kn)) (hi : P.info? e = some z) (hz : z.zero = some zv) (hs : z.size = k) (hby : z.bytes = bytes) (hzs : zv.cells.size = k) (hk : 0 < k)
    (h : w.ownsRow B T k (.slice (some ⟨g, 0, none⟩) i c) i xs) (kq : IntKind) (m : Nat) (hm : 0 < m) (hg : c < i + m) (h63 : i + m ≤ maxLen) (h47 : (i + m) * bytes ≤ 140737488355328) :
    ∃ g' c' w', (Builtin.append_ #[t, tn] ty #[.slice (some ⟨g, 0, none⟩) i c, .int kq m]).run P w = .ok (.slice (some ⟨g', 0, none⟩) (i + m) c') w' ∧ w.heap.size ≤ g' ∧ w'.ownsRow w.heap.size e k (.slice (some ⟨g', 0, none⟩) (i + m) c') (i + m) (xs ++ zerosL zv m) ∧ Below w.heap.size w w' := by
  subst hs
  subst hby
  have hold := run_firstCells_some (P := P) w.drew z.size i ⟨g, 0, none⟩ i c xs h.1 (by simpa using h.cells (g := g) rfl)
  have hfit : m * z.bytes ≤ 281474976710656 := by
    have : m * z.bytes ≤ (i + m) * z.bytes := Nat.mul_le_mul_right _ (by omega)
    omega
  have hr := Lib.run_append_grow_zeros (P := P) w t tn ty e z zv kq kn ht htn hi hz (some ⟨g, 0, none⟩) i c xs hold m hm hk hg (by unfold maxLen at h63; omega) hfit (growslice_fits hg h47)
  have hge := grownCap_ge w (i + m) c e
  have hcm := grownCap_le_maxLen w (i + m) c e h63
  refine ⟨_, _, _, hr, Nat.le_refl _, ?_, (Below.refl _ _).drew.alloc (Nat.le_refl _) _⟩
  have hh := heap_alloc_new w.drew (.cells (xs.toArray ++ Builtin.zeroCells zv.cells m ++ Builtin.zeroCells zv.cells (grownCap w (i + m) c e - (i + m))) e)
  refine row_mk (cur := xs ++ zerosL zv m ++ zerosL zv (grownCap w (i + m) c e - (i + m))) (Nat.le_refl _) ?_ hge hcm ?_ ?_
  · rw [show w.drew.heap.size = w.heap.size from rfl] at hh
    rw [hh]
    simp [zerosL]
  · simp only [List.length_append, zerosL_len _ _ hzs, h.1, ← Nat.add_mul]
    congr 1; omega
  · rw [List.take_append_of_le_length (by simp only [List.length_append, zerosL_len _ _ hzs, h.1, ← Nat.add_mul]; omega), List.take_of_length_le (by simp only [List.length_append, zerosL_len _ _ hzs, h.1, ← Nat.add_mul]; omega)]
theorem wpList_append_fresh {ops : Array Oper} {rest : List Oper} {o : Oper} {a : Act} {Q : Exit → Act → World → Prop} {k : Nat} {w : World} {B i c g : Nat} {T : TypeId} {xs : List Value} (hgd : o.guard = none) (d s : Operand) (t tn e : TypeId) (ho : o.op = .call { callee := .builtin .append, args := #[d, s], argTypes := #[t, tn] })
    (z : TypeInfo) (zv : Value) (kn : IntKind) (bytes : Nat) (ht : P.underlying t = some (.slice e)) (htn : P.underlying tn = some (.int kn)) (hi : P.info? e = some z) (hz : z.zero = some zv) (hs : z.size = k) (hby : z.bytes = bytes) (hzs : zv.cells.size = k) (hk : 0 < k)
    (h : w.ownsRow B T k (.slice (some ⟨g, 0, none⟩) i c) i xs) (kq : IntKind) (m : Nat) (hd : a.eval d = .slice (some ⟨g, 0, none⟩) i c) (hx : a.eval s = .int kq m) (hm : 0 < m) (r : Nat) (hr : i + m = r) (hg : c < r) (h63 : r ≤ maxLen) (h47 : r * bytes ≤ 140737488355328)
    (hK : ∀ g' c' w', w.heap.size ≤ g' → w'.ownsRow w.heap.size e k (.slice (some ⟨g', 0, none⟩) r c') r (xs ++ zerosL zv m) → Below w.heap.size w w' → wpList P ops Q rest (a.put o.dst (.slice (some ⟨g', 0, none⟩) r c')) w') : wpList P ops Q (o :: rest) a w := by
  subst hr
  obtain ⟨g', c', w', hr, h1, h2, h3⟩ := run_append_fresh (P := P) t tn o.type e z zv kn bytes ht htn hi hz hs hby hzs hk h kq m hm hg h63 h47
  exact Lib.wpList_append_run w hgd d s t tn ho _ _ hd hx _ _ hr (hK g' c' w' h1 h2 h3)
end
end Go.Proofs.YtholgadifhjmgaaDoor
