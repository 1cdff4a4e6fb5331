/- Texts put together: Nrs, Pt4, Nrk, Pt5, Pt6. -/
import Derived.Test.YtbdaejodbcjmfaaGreatQ1
import Derived.Test.YtbdaejodbcjmfaaGreatQ2
import Derived.Test.YtbdaejodbcjmfaaGreatQ4
import Derived.Lib.Overlaps
import Derived.Laws.Externs
import Derived.Maps.Keyed
import Derived.Maps.Own
import Derived.Carry
import Derived.Maps.Range
namespace Go.Proofs.YtbdaejodbcjmfaaGreat
open Go.RowKit

section
variable {k : Nat} {w : World} {B n c g : Nat} {T : TypeId} {xs : List Value}
theorem row_of (h : w.ownsRow B T k (.slice (some ⟨g, 0, none⟩) n c) n xs) : xs.length = n * k ∧ ∃ cur : List Value, B ≤ g ∧ w.heap[g]? = some (.cells cur.toArray T (0, 0)) ∧ n ≤ c ∧ c ≤ maxLen ∧ cur.length = c * k ∧ cur.take (n * k) = xs := by
  refine ⟨h.1, ?_⟩
  rcases h.2 with ⟨e, _⟩ | ⟨g', cap, cur, e, hb, hh, hn, hc, hs, ht⟩
  · cases e
  · injection e with e1 e2 e3
    injection e1 with e1
    injection e1 with e1
    subst e1
    subst e3
    exact ⟨cur.toList, hb, by simpa using hh, hn, hc, by simpa using hs, ht⟩
theorem row_mk {cur : List Value} (hb : B ≤ g) (hh : w.heap[g]? = some (.cells cur.toArray T (0, 0))) (hn : n ≤ c) (hc : c ≤ maxLen) (hs : cur.length = c * k) (ht : cur.take (n * k) = xs) : w.ownsRow B T k (.slice (some ⟨g, 0, none⟩) n c) n xs := by
  refine ⟨?_, .inr ⟨g, c, cur.toArray, rfl, hb, hh, hn, hc, by simpa using hs, by simpa using ht⟩⟩
  rw [← ht, List.length_take, hs]
  exact Nat.min_eq_left (Nat.mul_le_mul_right k hn)
/-- Cells written into a row. -/
theorem row_cells (h : w.ownsRow B T k (.slice (some ⟨g, 0, none⟩) n c) n xs) (p : Nat) (cs : List Value) (hp : p + cs.length ≤ n * k) :
    (w.setCells g p cs).ownsRow B T k (.slice (some ⟨g, 0, none⟩) n c) n (xs.take p ++ cs ++ xs.drop (p + cs.length)) ∧ w.grownBy (w.setCells g p cs) (some g) := by
  refine ⟨?_, setCells_grown cs p w⟩
  obtain ⟨hl, cur, hb, hh, hn, hc, hs, ht⟩ := row_of h
  have hnk : n * k ≤ c * k := Nat.mul_le_mul_right k hn
  have hcur : cur = xs ++ cur.drop (n * k) := by rw [← ht, List.take_append_drop]
  have h2 := setCells_heap (T := T) (fr := (0, 0)) cs p w cur hh (by omega)
  have e4 : cur.take p ++ cs ++ cur.drop (p + cs.length) = (xs.take p ++ cs ++ xs.drop (p + cs.length)) ++ cur.drop (n * k) := by
    conv => lhs; rw [hcur]
    rw [List.take_append_of_le_length (by omega), List.drop_append_of_le_length (by omega)]
    simp [List.append_assoc]
  rw [e4] at h2
  refine row_mk hb h2 hn hc ?_ ?_
  · simp; omega
  · rw [List.take_append_of_le_length (by simp; omega), List.take_of_length_le (by simp; omega)]
theorem row_store {P : Program} (h : w.ownsRow B T k (.slice (some ⟨g, 0, none⟩) n c) n xs) (p : Nat) (cs : List Value) (hp : p + cs.length ≤ n * k) (h1 : ∀ v ∈ cs, v.oneCell' = true) :
    (storeCells ⟨g, p, none⟩ cs 0).run P w = .ok () (w.setCells g p cs) := by
  have hl := h.1
  have hc : ∀ j, j < cs.length → (w.cell? ⟨g, p + 0 + j, none⟩).isSome = true := by
    intro j hj
    rw [h.cellAt (p + 0 + j) (by omega), List.getElem?_eq_getElem (by omega)]; rfl
  have hfz : ∀ j, j < cs.length → w.frozen? ⟨g, p + 0 + j, none⟩ = false := fun j _ => h.frozenAt _
  have := run_storeCells_cells (P := P) g p cs 0 w hc hfz h1
  simpa only [Nat.add_zero] using this
/-- A row of fewer elements, of more. -/
theorem row_less (h : w.ownsRow B T k (.slice (some ⟨g, 0, none⟩) n c) n xs) {i : Nat} (hi : i ≤ n) : w.ownsRow B T k (.slice (some ⟨g, 0, none⟩) i c) i (xs.take (i * k)) := by
  obtain ⟨hl, cur, hb, hh, hn, hc, hs, ht⟩ := row_of h
  refine row_mk hb hh (by omega) hc hs ?_
  rw [← ht, List.take_take, Nat.min_eq_left (Nat.mul_le_mul_right k hi)]
theorem row_more (h : w.ownsRow B T k (.slice (some ⟨g, 0, none⟩) n c) n xs) {m : Nat} (hm : n + m ≤ c) : ∃ ys, ys.length = m * k ∧ w.ownsRow B T k (.slice (some ⟨g, 0, none⟩) (n + m) c) (n + m) (xs ++ ys) := by
  obtain ⟨hl, cur, hb, hh, hn, hc, hs, ht⟩ := row_of h
  have h1 : (n + m) * k ≤ c * k := Nat.mul_le_mul_right k hm
  rw [Nat.add_mul] at h1
  refine ⟨(cur.drop (n * k)).take (m * k), by simp; omega, row_mk hb hh hm hc hs ?_⟩
  rw [Nat.add_mul, List.take_add, ht]
/-- The cells of a piece of a row. -/
theorem row_piece (h : w.ownsRow B T k (.slice (some ⟨g, 0, none⟩) n c) n xs) (p : Nat) (cs : List Value) (hcs : (xs.drop p).take cs.length = cs) : ∀ j v, cs[j]? = some v → w.cell? ((⟨g, p, none⟩ : Addr).add j) = some v := by
  intro j v hv
  rw [← hcs, List.getElem?_take] at hv
  split at hv
  · rw [List.getElem?_drop] at hv
    have hj := (List.getElem?_eq_some_iff.1 hv).1
    rw [Addr.add_lit, h.cellAt (p + j) (by rw [← h.1]; exact hj)]
    exact hv
  · cases hv
end
/-- Zeros. -/
def zerosL (z : Value) (n : Nat) : List Value := (Builtin.zeroCells z.cells n).toList
theorem zerosL_len (z : Value) (n : Nat) {k : Nat} (hz : z.cells.size = k) : (zerosL z n).length = n * k := by
  unfold zerosL
  rw [Array.length_toList, size_zeroCells, hz]
theorem zerosL_one (z : Value) (n : Nat) (hz : z.cells.all (·.oneCell') = true) : ∀ v ∈ zerosL z n, v.oneCell' = true := by
  intro v hv
  unfold zerosL Builtin.zeroCells at hv
  simp only [Array.toList_map, List.mem_map] at hv
  obtain ⟨i, hi, rfl⟩ := hv
  have hr : i < n * z.cells.size := by simpa using hi
  have h0 : 0 < z.cells.size := by
    rcases Nat.eq_zero_or_pos z.cells.size with h | h
    · rw [h] at hr; omega
    · exact h
  have hm : i % z.cells.size < z.cells.size := Nat.mod_lt _ h0
  rw [getElem!_pos z.cells _ hm]
  exact Array.all_eq_true.1 hz _ hm
section
variable {P : Program}
/-- clear(s[i:]): behind it the first i elements are a row. -/
theorem run_clear_row {k : Nat} {w : World} {B c g i m : Nat} {T : TypeId} {xs : List Value} (t e ty : TypeId) (z : Value) (ht : P.underlying t = some (.slice e)) (hz : (P.info? e).bind (·.zero) = some z) (hzs : z.cells.size = k) (hz1 : z.cells.all (·.oneCell') = true)
    (h : w.ownsRow B T k (.slice (some ⟨g, 0, none⟩) (i + m) c) (i + m) xs) (hm : 0 < m) (c2 : Nat) :
    ∃ w', (Builtin.clear_ #[t] ty #[.slice (some ⟨g, i * k, none⟩) m c2]).run P w = .ok (.tuple #[]) w' ∧ w'.ownsRow B T k (.slice (some ⟨g, 0, none⟩) i c) i (xs.take (i * k)) ∧ w.grownBy w' (some g) := by
  have hl := zerosL_len z m hzs
  have hle : i * k + (zerosL z m).length ≤ (i + m) * k := by rw [hl, Nat.add_mul]; omega
  have hr := row_cells h (i * k) (zerosL z m) hle
  have hst := row_store (P := P) h (i * k) (zerosL z m) hle (zerosL_one z m hz1)
  refine ⟨_, ?_, ?_, hr.2⟩
  · have hzv : (zeroValue e).run P w = .ok z w := by
      cases hq : P.info? e with
      | none => simp [hq] at hz
      | some q =>
        have hz' : q.zero = some z := by simpa [hq] using hz
        simp [zeroValue, typeInfo, hq, hz']
    obtain ⟨m', rfl⟩ : ∃ q, m = q + 1 := ⟨m - 1, by omega⟩
    unfold zerosL at hst
    simp [Builtin.clear_, run_underlying ht, hzv, hst]
    rfl
  · have h2 := row_less hr.1 (i := i) (by omega)
    have h1 := h.1
    rw [Nat.add_mul] at h1
    rw [List.append_assoc, List.take_append_of_le_length (by rw [List.length_take]; omega), List.take_take, Nat.min_self] at h2
    exact h2
theorem wp_clear_row {o : Oper} {a : Act} {K : Act → World → Prop} {Q : Exit → Act → World → Prop} {k : Nat} {w : World} {B c g i m : Nat} {T : TypeId} {xs : List Value} (x : Operand) (t e : TypeId) (ho : o.op = .call { callee := .builtin .clear, args := #[x], argTypes := #[t] })
    (z : Value) (ht : P.underlying t = some (.slice e)) (hz : (P.info? e).bind (·.zero) = some z) (hzs : z.cells.size = k) (hz1 : z.cells.all (·.oneCell') = true)
    (n : Nat) (hn : i + m = n) (h : w.ownsRow B T k (.slice (some ⟨g, 0, none⟩) n c) n xs) (hm : 0 < m) (c2 : Nat) (hx : a.eval x = .slice (some ⟨g, i * k, none⟩) m c2)
    (hK : ∀ w', w'.ownsRow B T k (.slice (some ⟨g, 0, none⟩) i c) i (xs.take (i * k)) → w.grownBy w' (some g) → K (a.put o.dst (.tuple #[])) w') : Oper.wp P o a w K Q := by
  subst hn
  obtain ⟨w', hr, h2, h3⟩ := run_clear_row (P := P) t e o.type z ht hz hzs hz1 h hm c2
  unfold Oper.wp execOp
  simp only [ho, resolve, invoke, builtin, Sem.run_bind, Sem.run_pure, Result.andThen_ok, List.map_toArray, List.map_cons, List.map_nil, hx, hr]
  exact hK _ h2 h3
theorem wpList_clear_row {ops : Array Oper} {rest : List Oper} {o : Oper} {a : Act} {Q : Exit → Act → World → Prop} {k : Nat} {w : World} {B c g i m : Nat} {T : TypeId} {xs : List Value} (hgd : o.guard = none) (x : Operand) (t e : TypeId) (ho : o.op = .call { callee := .builtin .clear, args := #[x], argTypes := #[t] })
    (z : Value) (ht : P.underlying t = some (.slice e)) (hz : (P.info? e).bind (·.zero) = some z) (hzs : z.cells.size = k) (hz1 : z.cells.all (·.oneCell') = true)
    (n : Nat) (hn : i + m = n) (h : w.ownsRow B T k (.slice (some ⟨g, 0, none⟩) n c) n xs) (hm : 0 < m) (c2 : Nat) (hx : a.eval x = .slice (some ⟨g, i * k, none⟩) m c2)
    (hK : ∀ w', w'.ownsRow B T k (.slice (some ⟨g, 0, none⟩) i c) i (xs.take (i * k)) → w.grownBy w' (some g) → wpList P ops Q rest (a.put o.dst (.tuple #[])) w') : wpList P ops Q (o :: rest) a w :=
  wpList_plain hgd fun _ hK' => wp_clear_row x t e ho z ht hz hzs hz1 n hn h hm c2 hx (fun w' h1 h2 => hK' _ _ (hK w' h1 h2))
/-- copy into a row, from wherever the cells are read. -/
theorem run_copy_rowk {k : Nat} {w : World} {B n c g : Nat} {T : TypeId} {xs : List Value} (dT sT ty e : TypeId) (hu : P.underlying dT = some (.slice e)) (hs : (P.info? e).map (·.size) = some k)
    (h : w.ownsRow B T k (.slice (some ⟨g, 0, none⟩) n c) n xs) (p dl dc : Nat) (ad : Addr) (sl sc : Nat) (cs : List Value) (hn : cs.length = Nat.min sl dl * k) (hsrc : ∀ j v, cs[j]? = some v → w.cell? (ad.add j) = some v) (hp : p + cs.length ≤ n * k) (h1 : ∀ v ∈ cs, v.oneCell' = true) :
    (Builtin.copy_ #[dT, sT] ty #[.slice (some ⟨g, p, none⟩) dl dc, .slice (some ad) sl sc]).run P w = .ok (goInt (Nat.min sl dl)) (w.setCells g p cs) := by
  have hl := run_loadCells_list (P := P) w ad cs hsrc
  have hst := row_store (P := P) h p cs hp h1
  cases hq : P.info? e with
  | none => simp [hq] at hs
  | some i =>
    have hi : i.size = k := by simpa [hq] using hs
    simp [Builtin.copy_, run_underlying hu, Builtin.lenOf, Builtin.firstCells, sizeOf, typeInfo, hq, hi, ← hn, hl, hst]
theorem wp_copy_rowk {o : Oper} {a : Act} {K : Act → World → Prop} {Q : Exit → Act → World → Prop} {k : Nat} {w : World} {B n c g : Nat} {T : TypeId} {xs : List Value} (d s : Operand) (dT sT e : TypeId) (ho : o.op = .call { callee := .builtin .copy, args := #[d, s], argTypes := #[dT, sT] })
    (hu : P.underlying dT = some (.slice e)) (hs : (P.info? e).map (·.size) = some k) (h : w.ownsRow B T k (.slice (some ⟨g, 0, none⟩) n c) n xs) (p dl dc : Nat) (ad : Addr) (sl sc : Nat) (cs : List Value)
    (hd : a.eval d = .slice (some ⟨g, p, none⟩) dl dc) (hx : a.eval s = .slice (some ad) sl sc) (hn : cs.length = Nat.min sl dl * k) (hsrc : ∀ j v, cs[j]? = some v → w.cell? (ad.add j) = some v) (hp : p + cs.length ≤ n * k) (h1 : ∀ v ∈ cs, v.oneCell' = true)
    (xs' : List Value) (he : xs.take p ++ cs ++ xs.drop (p + cs.length) = xs')
    (hK : ∀ w', w'.ownsRow B T k (.slice (some ⟨g, 0, none⟩) n c) n xs' → w.grownBy w' (some g) → K (a.put o.dst (goInt (Nat.min sl dl))) w') : Oper.wp P o a w K Q := by
  have hr := run_copy_rowk (P := P) dT sT o.type e hu hs h p dl dc ad sl sc cs hn hsrc hp h1
  have hc := row_cells h p cs hp
  rw [he] at hc
  unfold Oper.wp execOp
  simp only [ho, resolve, invoke, builtin, Sem.run_bind, Sem.run_pure, Result.andThen_ok, List.map_toArray, List.map_cons, List.map_nil, hd, hx, hr]
  exact hK _ hc.1 hc.2
theorem wpList_copy_rowk {ops : Array Oper} {rest : List Oper} {o : Oper} {a : Act} {Q : Exit → Act → World → Prop} {k : Nat} {w : World} {B n c g : Nat} {T : TypeId} {xs : List Value} (hgd : o.guard = none) (d s : Operand) (dT sT e : TypeId) (ho : o.op = .call { callee := .builtin .copy, args := #[d, s], argTypes := #[dT, sT] })
    (hu : P.underlying dT = some (.slice e)) (hs : (P.info? e).map (·.size) = some k) (h : w.ownsRow B T k (.slice (some ⟨g, 0, none⟩) n c) n xs) (p dl dc : Nat) (ad : Addr) (sl sc : Nat) (cs : List Value)
    (hd : a.eval d = .slice (some ⟨g, p, none⟩) dl dc) (hx : a.eval s = .slice (some ad) sl sc) (hn : cs.length = Nat.min sl dl * k) (hsrc : ∀ j v, cs[j]? = some v → w.cell? (ad.add j) = some v) (hp : p + cs.length ≤ n * k) (h1 : ∀ v ∈ cs, v.oneCell' = true)
    (xs' : List Value) (he : xs.take p ++ cs ++ xs.drop (p + cs.length) = xs')
    (hK : ∀ w', w'.ownsRow B T k (.slice (some ⟨g, 0, none⟩) n c) n xs' → w.grownBy w' (some g) → wpList P ops Q rest (a.put o.dst (goInt (Nat.min sl dl))) w') : wpList P ops Q (o :: rest) a w :=
  wpList_plain hgd fun _ hK' => wp_copy_rowk d s dT sT e ho hu hs h p dl dc ad sl sc cs hd hx hn hsrc hp h1 xs' he (fun w' h1 h2 => hK' _ _ (hK w' h1 h2))
/-- append(s[:i], make(S, m)...) where there is no room: a new row. -/
theorem run_append_fresh {k : Nat} {w : World} {B i c g : Nat} {T : TypeId} {xs : List Value} (t tn ty e : TypeId) (z : TypeInfo) (zv : Value) (kn : IntKind) (bytes : Nat) (ht : P.underlying t = some (.slice e)) (htn : P.underlying tn = some (.int kn)) (hi : P.info? e = some z) (hz : z.zero = some zv) (hs : z.size = k) (hby : z.bytes = bytes) (hzs : zv.cells.size = k) (hk : 0 < k)
    (h : w.ownsRow B T k (.slice (some ⟨g, 0, none⟩) i c) i xs) (kq : IntKind) (m : Nat) (hm : 0 < m) (hg : c < i + m) (h63 : i + m ≤ maxLen) (h47 : (i + m) * bytes ≤ 140737488355328) :
    ∃ g' c' w', (Builtin.append_ #[t, tn] ty #[.slice (some ⟨g, 0, none⟩) i c, .int kq m]).run P w = .ok (.slice (some ⟨g', 0, none⟩) (i + m) c') w' ∧ w.heap.size ≤ g' ∧ w'.ownsRow w.heap.size e k (.slice (some ⟨g', 0, none⟩) (i + m) c') (i + m) (xs ++ zerosL zv m) ∧ Below w.heap.size w w' := by
  subst hs
  subst hby
  have hold := run_firstCells_some (P := P) w.drew z.size i ⟨g, 0, none⟩ i c xs h.1 (by simpa using h.cells (g := g) rfl)
  have hfit : m * z.bytes ≤ 281474976710656 := by
    have : m * z.bytes ≤ (i + m) * z.bytes := Nat.mul_le_mul_right _ (by omega)
    omega
  have hr := Lib.run_append_grow_zeros (P := P) w t tn ty e z zv kq kn ht htn hi hz (some ⟨g, 0, none⟩) i c xs hold m hm hk hg (by unfold maxLen at h63; omega) hfit (growslice_fits hg h47)
  have hge := grownCap_ge w (i + m) c e
  have hcm := grownCap_le_maxLen w (i + m) c e h63
  refine ⟨_, _, _, hr, Nat.le_refl _, ?_, (Below.refl _ _).drew.alloc (Nat.le_refl _) _⟩
  have hh := heap_alloc_new w.drew (.cells (xs.toArray ++ Builtin.zeroCells zv.cells m ++ Builtin.zeroCells zv.cells (grownCap w (i + m) c e - (i + m))) e)
  refine row_mk (cur := xs ++ zerosL zv m ++ zerosL zv (grownCap w (i + m) c e - (i + m))) (Nat.le_refl _) ?_ hge hcm ?_ ?_
  · rw [show w.drew.heap.size = w.heap.size from rfl] at hh
    rw [hh]
    simp [zerosL]
  · simp only [List.length_append, zerosL_len _ _ hzs, h.1, ← Nat.add_mul]
    congr 1; omega
  · rw [List.take_append_of_le_length (by simp only [List.length_append, zerosL_len _ _ hzs, h.1, ← Nat.add_mul]; omega), List.take_of_length_le (by simp only [List.length_append, zerosL_len _ _ hzs, h.1, ← Nat.add_mul]; omega)]
theorem wpList_append_fresh {ops : Array Oper} {rest : List Oper} {o : Oper} {a : Act} {Q : Exit → Act → World → Prop} {k : Nat} {w : World} {B i c g : Nat} {T : TypeId} {xs : List Value} (hgd : o.guard = none) (d s : Operand) (t tn e : TypeId) (ho : o.op = .call { callee := .builtin .append, args := #[d, s], argTypes := #[t, tn] })
    (z : TypeInfo) (zv : Value) (kn : IntKind) (bytes : Nat) (ht : P.underlying t = some (.slice e)) (htn : P.underlying tn = some (.int kn)) (hi : P.info? e = some z) (hz : z.zero = some zv) (hs : z.size = k) (hby : z.bytes = bytes) (hzs : zv.cells.size = k) (hk : 0 < k)
    (h : w.ownsRow B T k (.slice (some ⟨g, 0, none⟩) i c) i xs) (kq : IntKind) (m : Nat) (hd : a.eval d = .slice (some ⟨g, 0, none⟩) i c) (hx : a.eval s = .int kq m) (hm : 0 < m) (r : Nat) (hr : i + m = r) (hg : c < r) (h63 : r ≤ maxLen) (h47 : r * bytes ≤ 140737488355328)
    (hK : ∀ g' c' w', w.heap.size ≤ g' → w'.ownsRow w.heap.size e k (.slice (some ⟨g', 0, none⟩) r c') r (xs ++ zerosL zv m) → Below w.heap.size w w' → wpList P ops Q rest (a.put o.dst (.slice (some ⟨g', 0, none⟩) r c')) w') : wpList P ops Q (o :: rest) a w := by
  subst hr
  obtain ⟨g', c', w', hr, h1, h2, h3⟩ := run_append_fresh (P := P) t tn o.type e z zv kn bytes ht htn hi hz hs hby hzs hk h kq m hm hg h63 h47
  exact Lib.wpList_append_run w hgd d s t tn ho _ _ hd hx _ _ hr (hK g' c' w' h1 h2 h3)
end
open Go.RowKit

def ptV (p o : Int) : Value := .agg #[.int .i64 p, .int .i64 o]
def mpV (e : Mp) : Value := .agg #[.int .i64 e.pr, .int .i64 e.o, .int .u8 (e.ad.a.toNat : Int), .int .u8 (e.ad.b.toNat : Int), .int .u8 (e.ad.c.toNat : Int), .int .u8 (e.ad.d.toNat : Int), .int .i64 e.i, .int .i64 e.k, .int .i64 e.u]
theorem ptV_inj {p o q r : Int} (h : ptV p o = ptV q r) : p = q ∧ o = r := by
  simp only [ptV, Value.agg.injEq, Array.mk.injEq, List.cons.injEq, Value.int.injEq, true_and, and_true] at h
  exact h
theorem lawP : WideMaps.KeyLaw Tryz.prog 100 := deep_law_laid (by kernel_rfl) (m := 2) (by omega) (of_decide_eq_true (by kernel_rfl)) (by kernel_rfl) (by kernel_rfl)
theorem key_port {p o : Int} (h : okP p o) : ∃ l, keyOf Tryz.prog 100 (ptV p o) = some l := by
  obtain ⟨h1, h2, h3, h4⟩ := h
  obtain ⟨fs, hu, hall, hfs⟩ : ∃ fs, Tryz.prog.underlying 100 = some (.struct fs) ∧ fs.all (·.name != "_") = true ∧ fs.toList.map (fun f => (f.type, f.offset)) = [(3, 0), (3, 1)] := ⟨_, Tryz.underlying100, by simp, by rfl⟩
  have h8 : Tryz.prog.underlying 3 = some (.int .i64) := by kernel_rfl
  have hk : Tryz.prog.keyType 100 = true := by kernel_rfl
  have c2 : Tryz.prog.cellsOf 100 = 2 := by kernel_rfl
  have c1 : Tryz.prog.cellsOf 3 = 1 := by kernel_rfl
  obtain ⟨d, hd⟩ : ∃ d, Tryz.prog.types.size = d + 1 := ⟨Tryz.prog.types.size - 1, by have : 0 < Tryz.prog.types.size := of_decide_eq_true (by kernel_rfl); omega⟩
  have one : ∀ (a : Int), 0 ≤ a → a ≤ 65535 → Tryz.prog.keyLits (d + 1) 3 [.int .i64 a] = some [.int .i64 a] := fun a ha hb => by
    have hw : (Lit.int .i64 a).wf = true := by
      simp [Lit.wf, IntKind.min, IntKind.max, IntKind.signed, IntKind.bits]; omega
    unfold Program.keyLits
    simp only [h8]
    rw [if_pos ⟨trivial, hw⟩]
  rw [← Option.isSome_iff_exists]
  unfold keyOf
  simp only [hu, hk, Bool.true_and]
  have hf : (ptV p o).formed Tryz.prog 100 = true := by simp [Value.formed, ptV, hu, c2]
  rw [if_pos hf, hd]
  unfold Program.keyLits
  simp only [hu, c2]
  rw [if_pos ⟨show (ptV p o).cells.toList.length = 2 from rfl, hall⟩]
  obtain ⟨f1, f2, hl⟩ : ∃ f1 f2, fs.toList = [f1, f2] := by
    have hl2 : fs.toList.length = 2 := by have := congrArg List.length hfs; simpa using this
    rcases h9 : fs.toList with _ | ⟨f1, _ | ⟨f2, _ | ⟨f3, q⟩⟩⟩
    · rw [h9] at hl2; cases hl2
    · rw [h9] at hl2; cases hl2
    · exact ⟨f1, f2, rfl⟩
    · rw [h9] at hl2; simp at hl2
  rw [hl] at hfs ⊢
  simp only [List.map_cons, List.map_nil, List.cons.injEq, Prod.mk.injEq, and_true] at hfs
  obtain ⟨⟨t1, o1⟩, t2, o2⟩ := hfs
  simp only [ptV, Value.cells, List.mapM_cons, List.mapM_nil, t1, t2, o1, o2, c1, List.drop_zero, List.drop_succ_cons, List.take_succ_cons, List.take_zero, one p (by omega) (by omega), one o h3 h4, Option.pure_def, Option.bind_eq_bind, Option.bind_some, Option.map_some, Option.isSome_some]

/-- The map at block mb: those that are over. -/
def Om (lo mb : Nat) (w : World) (os : List Mp) : Prop := ∃ (es : Array MapEntry) (ck : Nat), w.heap[mb]? = some (.map es ck) ∧ lo ≤ mb ∧ es.toList.map (fun e => (e.key, e.val)) = os.map (fun m => (ptV m.pr m.o, mpV m)) ∧ OsOk os ∧ (∀ e ∈ es.toList, e.born < ck) ∧ (es.toList.map (·.born)).Nodup
theorem Om.of {lo mb : Nat} {w w' : World} {os : List Mp} (h : Om lo mb w os) (e : ∀ o, w.heap[mb]? = some o → w'.heap[mb]? = some o) : Om lo mb w' os := by
  obtain ⟨es, ck, h1, h2⟩ := h
  exact ⟨es, ck, e _ h1, h2⟩
theorem Om.lt {lo mb : Nat} {w : World} {os : List Mp} (h : Om lo mb w os) : mb < w.heap.size := by
  obtain ⟨es, ck, h1, _⟩ := h
  exact hlt h1
theorem Om.below {lo mb : Nat} {w w' : World} {os : List Mp} (h : Om lo mb w os) (b : Below w.heap.size w w') : Om lo mb w' os := h.of fun _ ho => blk_u ho b
theorem Om.ne {lo mb q : Nat} {w : World} {os : List Mp} {c : Array Value} {T : TypeId} {fz : Nat × Nat} (h : Om lo mb w os) (hq : w.heap[q]? = some (.cells c T fz)) : mb ≠ q := fun e => by
  obtain ⟨es, ck, h1, _⟩ := h
  subst e
  rw [h1] at hq; cases hq
theorem Om.grown {lo mb q : Nat} {w w' : World} {os : List Mp} {c : Array Value} {T : TypeId} {fz : Nat × Nat} (h : Om lo mb w os) (g : w.grownBy w' (some q)) (hq : w.heap[q]? = some (.cells c T fz)) : Om lo mb w' os := by
  have hne := h.ne hq
  have hl := h.lt
  exact h.of fun _ ho => (g.block mb hl (fun e => hne (by injection e))).trans ho
theorem Om.lo_le {lo lo' mb : Nat} {w : World} {os : List Mp} (h : Om lo mb w os) (hl : lo' ≤ lo) : Om lo' mb w os := by
  obtain ⟨es, ck, h1, h2, h3⟩ := h
  exact ⟨es, ck, h1, Nat.le_trans hl h2, h3⟩
theorem Om.row {lo mb B k n : Nat} {w w' : World} {os : List Mp} {T : TypeId} {v : Value} {xs : List Value} (h : Om lo mb w os) (g : w.grownBy w' v.ownBlock) (ho : w.ownsRow B T k v n xs) : Om lo mb w' os := by
  have hl := h.lt
  refine h.of fun o ho' => (g.block mb hl (fun e => ?_)).trans ho'
  rcases ho.2 with ⟨h2, _⟩ | ⟨g', cap, cur, e2, hb, hh, h2⟩
  · rw [h2] at e; simp [Value.ownBlock] at e
  · rw [e2] at e
    simp only [Value.ownBlock, Option.some.injEq] at e
    exact h.ne hh e
theorem om_drew {lo mb : Nat} {w : World} {os : List Mp} (h : Om lo mb w os) : Om lo mb w.drew os := h
theorem Om.blk {lo mb q : Nat} {w w' : World} {os : List Mp} {c : Array Value} {T : TypeId} {fz : Nat × Nat} (h : Om lo mb w os) (g : w.grownBy w' (some mb)) (hq : w.heap[q]? = some (.cells c T fz)) : w'.heap[q]? = some (.cells c T fz) :=
  (g.block q (hlt hq) (fun e => h.ne hq (by injection e with e; exact e.symm))).trans hq
theorem Om.own {lo mb B k n : Nat} {w w' : World} {os : List Mp} {T : TypeId} {v : Value} {xs : List Value} (h : Om lo mb w os) (g : w.grownBy w' (some mb)) (ho : w.ownsRow B T k v n xs) : w'.ownsRow B T k v n xs := by
  refine ⟨ho.1, ?_⟩
  rcases ho.2 with h2 | ⟨g', cap, cur, e2, hb, hh, h3⟩
  · exact .inl h2
  · exact .inr ⟨g', cap, cur, e2, hb, h.blk g hh, h3⟩
theorem Om.lo {lo mb : Nat} {w : World} {os : List Mp} (h : Om lo mb w os) : lo ≤ mb := by
  obtain ⟨_, _, _, h, _⟩ := h
  exact h
theorem Om.ok {lo mb : Nat} {w : World} {os : List Mp} (h : Om lo mb w os) : OsOk os := by
  obtain ⟨_, _, _, _, _, h, _⟩ := h
  exact h
theorem Om.bel {lo mb : Nat} {w0 w w' : World} {os : List Mp} (h : Om lo mb w os) (b : Below lo w0 w) (g : w.grownBy w' (some mb)) (hl : lo ≤ w.heap.size) : Below lo w0 w' := b.grown g hl (fun k e => by cases e; exact h.lo)
/-- Where a key stands. -/
theorem om_hit {w : World} {es : Array MapEntry} {os : List Mp} (he : es.toList.map (fun e => (e.key, e.val)) = os.map (fun m => (ptV m.pr m.o, mpV m))) (ok : OsOk os) {p o : Int} (hp : okP p o) :
    ((Instr.findKey 100 (ptV p o) es.toList).run Tryz.prog w = .ok none w ∧ ∀ m ∈ os, m.num ≠ kn p o) ∨
    ∃ (j : Nat) (e : MapEntry) (m : Mp), (Instr.findKey 100 (ptV p o) es.toList).run Tryz.prog w = .ok (some (j, e.val)) w ∧ es.toList[j]? = some e ∧ os[j]? = some m ∧ e.key = ptV p o ∧ e.val = mpV m ∧ m.num = kn p o := by
  obtain ⟨kl, hkl⟩ := key_port hp
  have at_ : ∀ (j : Nat) (e : MapEntry), es.toList[j]? = some e → ∃ m, os[j]? = some m ∧ e.key = ptV m.pr m.o ∧ e.val = mpV m := fun j e hx => by
    have h1 : (es.toList.map (fun e => (e.key, e.val)))[j]? = some (e.key, e.val) := by rw [List.getElem?_map, hx]; rfl
    rw [he, List.getElem?_map] at h1
    cases hm : os[j]? with
    | none => rw [hm] at h1; cases h1
    | some m =>
      rw [hm] at h1
      simp only [Option.map_some, Option.some.injEq, Prod.mk.injEq] at h1
      exact ⟨m, rfl, h1.1.symm, h1.2.symm⟩
  have hk : ∀ e ∈ es.toList, ∃ l, keyOf Tryz.prog 100 e.key = some l := fun e hx => by
    obtain ⟨j, hj⟩ := List.getElem?_of_mem hx
    obtain ⟨m, hm, h1, _⟩ := at_ j e hj
    rw [h1]
    exact key_port (ok.okp m (List.mem_of_getElem? hm))
  rcases lawP.find w hkl es.toList hk with ⟨h1, h2⟩ | ⟨j, e0, h1, h2, h3⟩
  · refine .inl ⟨h1, fun m hm hn => ?_⟩
    obtain ⟨j, hj⟩ := List.getElem?_of_mem hm
    have hlen : os.length = es.toList.length := by have := congrArg List.length he; simpa using this.symm
    have hjl : j < es.toList.length := by have := (List.getElem?_eq_some_iff.1 hj).1; omega
    obtain ⟨m', hm', q1, _⟩ := at_ j _ (List.getElem?_eq_getElem hjl)
    rw [hj] at hm'; cases hm'
    obtain ⟨r1, r2⟩ := kn_inj (ok.okp m hm) hp hn
    exact h2 _ (List.getElem_mem hjl) (by rw [q1, r1, r2])
  · obtain ⟨m, hm, q1, q2⟩ := at_ j e0 h2
    obtain ⟨r1, r2⟩ := ptV_inj (q1.symm.trans h3)
    exact .inr ⟨j, e0, m, h1, h2, hm, h3, q2, by show kn m.pr m.o = kn p o; rw [r1, r2]⟩
theorem os_set {os : List Mp} {j : Nat} {x m : Mp} (hx : os[j]? = some x) (nd : os.Pairwise (fun x y => x.num ≠ y.num)) : os.map (fun e => if e.num = x.num then m else e) = os.set j m := by
  apply List.ext_getElem?
  intro i
  have hj := (List.getElem?_eq_some_iff.1 hx).1
  rw [List.getElem?_map, List.getElem?_set]
  by_cases h : j = i
  · subst h; rw [if_pos rfl, if_pos hj, hx]; simp
  · rw [if_neg h]
    cases hi : os[i]? with
    | none => rfl
    | some y =>
      rw [Option.map_some]
      have h1 := (List.getElem?_eq_some_iff.1 hi)
      have h2 := (List.getElem?_eq_some_iff.1 hx)
      have hne : y.num ≠ x.num := by
        rcases Nat.lt_or_gt_of_ne h with hlt_ | hgt
        · have := List.pairwise_iff_getElem.1 nd j i h2.1 h1.1 hlt_; rw [h2.2, h1.2] at this; exact fun e => this e.symm
        · have := List.pairwise_iff_getElem.1 nd i j h1.1 h2.1 hgt; rw [h2.2, h1.2] at this; exact this
      rw [if_neg hne]
theorem os_era {os : List Mp} {j : Nat} {x : Mp} (hx : os[j]? = some x) (nd : os.Pairwise (fun x y => x.num ≠ y.num)) : odel os x.num = os.eraseIdx j := by
  unfold odel
  induction os generalizing j with
  | nil => cases hx
  | cons y q ih =>
    obtain ⟨n1, n2⟩ := List.pairwise_cons.1 nd
    cases j with
    | zero =>
      simp only [List.getElem?_cons_zero, Option.some.injEq] at hx
      subst hx
      rw [List.filter_cons_of_neg (by simp), List.eraseIdx_cons_zero, List.filter_eq_self]
      intro e he
      have := n1 e he
      simpa using fun h => this h.symm
    | succ j =>
      simp only [List.getElem?_cons_succ] at hx
      have := n1 x (List.mem_of_getElem? hx)
      rw [List.filter_cons_of_pos (by simpa using this), List.eraseIdx_cons_succ, ih hx n2]
theorem era_map {α β : Type} (f : α → β) : ∀ (l : List α) (j : Nat), (l.eraseIdx j).map f = (l.map f).eraseIdx j
  | [], _ => by simp
  | x :: l, 0 => by simp
  | x :: l, j + 1 => by simp [era_map f l j]
/-- One is laid in. -/
theorem Om.put {lo mb : Nat} {w : World} {os : List Mp} (h : Om lo mb w os) {m : Mp} (hm : m.okp) : ∃ w', (Instr.mapUpdate 73 (.map (some mb)) (ptV m.pr m.o) (mpV m)).run Tryz.prog w = .ok () w' ∧ Om lo mb w' (oput os m) ∧ w.grownBy w' (some mb) := by
  obtain ⟨es, ck, hb, hlo, he, ok, hbn, hnd⟩ := h
  obtain ⟨kl, hkl⟩ := key_port hm
  have ht : Tryz.prog.underlying 73 = some (.map 100 65) := by kernel_rfl
  have gr : ∀ o, w.grownBy (ChangeMaps.setBlock w mb o) (some mb) := fun o => ⟨rfl, rfl, rfl, by simp [ChangeMaps.setBlock], fun i _ hi => ChangeMaps.heap_setBlock_other hb _ (fun e => hi (by rw [e]))⟩
  have okq := ok.put hm
  rcases om_hit (w := w) he ok hm with ⟨h1, h2⟩ | ⟨j, e0, x, h1, h2, h3, h4, h5, h6⟩
  · have hp : oput os m = os ++ [m] := by
      unfold oput
      rw [if_neg]
      intro ha
      obtain ⟨x, hx, hxe⟩ := List.any_eq_true.1 ha
      exact h2 x hx (beq_iff_eq.1 hxe)
    refine ⟨ChangeMaps.setBlock w mb (.map (es.push ⟨ptV m.pr m.o, mpV m, ck⟩) (ck + 1)), ?_, ⟨_, _, ChangeMaps.heap_setBlock_same hb _, hlo, ?_, okq, ?_, ?_⟩, gr _⟩
    · simp [Instr.mapUpdate, run_underlying ht, MapKept.run_getObj_map hb, lawP.check w false hkl, h1, MapKept.run_setObj_map _ hb, Result.andThen, ChangeMaps.setBlock]
    · rw [Array.toList_push, List.map_append, he, hp, List.map_append]; simp
    · intro e hx
      rw [Array.toList_push] at hx
      rcases List.mem_append.1 hx with hx | hx
      · have := hbn e hx; omega
      · rw [List.mem_singleton.1 hx]; exact Nat.lt_succ_self _
    · rw [Array.toList_push, List.map_append, List.nodup_append]
      refine ⟨hnd, by simp, fun a ha b hb' => ?_⟩
      obtain ⟨e, hx, rfl⟩ := List.mem_map.1 ha
      simp at hb'
      have := hbn e hx
      omega
  · have hp : oput os m = os.set j m := by
      unfold oput
      rw [if_pos (List.any_eq_true.2 ⟨x, List.mem_of_getElem? h3, by rw [h6]; exact beq_self_eq_true _⟩), ← os_set h3 ok.nd, h6]; rfl
    have hja : es[j]? = some e0 := by rw [← Array.getElem?_toList]; exact h2
    have hst : (Instr.keyThatStays (ptV m.pr m.o) (ptV m.pr m.o)).run Tryz.prog w = .ok (ptV m.pr m.o) w := lawP.stays w hkl
    refine ⟨ChangeMaps.setBlock w mb (.map (es.modify j fun e => { e with key := ptV m.pr m.o, val := mpV m }) ck), ?_, ⟨_, _, ChangeMaps.heap_setBlock_same hb _, hlo, ?_, okq, ?_, ?_⟩, gr _⟩
    · simp [Instr.mapUpdate, run_underlying ht, MapKept.run_getObj_map hb, lawP.check w false hkl, h1, hja, h4, hst, MapKept.run_setObj_map _ hb, Result.andThen, ChangeMaps.setBlock]
    · rw [hp]
      apply List.ext_getElem?
      intro i
      have hi := congrArg (fun q => q[i]?) he
      simp only [List.getElem?_map] at hi
      have hj := (List.getElem?_eq_some_iff.1 h3).1
      rw [List.getElem?_map, List.getElem?_map, Array.getElem?_toList, Array.getElem?_modify, List.getElem?_set, ← Array.getElem?_toList]
      by_cases hij : j = i
      · subst hij
        rw [if_pos rfl, if_pos rfl, if_pos hj, h2]
        rfl
      · rw [if_neg hij, if_neg hij]; exact hi
    · intro e hx
      obtain ⟨i, hi⟩ := List.getElem?_of_mem hx
      rw [Array.getElem?_toList, Array.getElem?_modify, ← Array.getElem?_toList] at hi
      by_cases hij : j = i
      · subst hij
        rw [if_pos rfl, h2] at hi
        simp only [Option.map_some, Option.some.injEq] at hi
        rw [← hi]; exact hbn e0 (List.mem_of_getElem? h2)
      · rw [if_neg hij] at hi
        exact hbn e (List.mem_of_getElem? hi)
    · have : (es.modify j fun e => { e with key := ptV m.pr m.o, val := mpV m }).toList.map (·.born) = es.toList.map (·.born) := by
        apply List.ext_getElem?
        intro i
        rw [List.getElem?_map, List.getElem?_map, Array.getElem?_toList, Array.getElem?_modify, ← Array.getElem?_toList]
        by_cases hij : j = i
        · subst hij; rw [if_pos rfl]; cases es.toList[j]? <;> rfl
        · rw [if_neg hij]
      rw [this]; exact hnd
/-- One is taken out. -/
theorem Om.del {lo mb : Nat} {w : World} {os : List Mp} (h : Om lo mb w os) {p o : Int} (hp : okP p o) (ty : TypeId) : ∃ w', (Builtin.delete_ #[73, 100] ty #[.map (some mb), ptV p o]).run Tryz.prog w = .ok (.tuple #[]) w' ∧ Om lo mb w' (odel os (kn p o)) ∧ w.grownBy w' (some mb) := by
  obtain ⟨es, ck, hb, hlo, he, ok, hbn, hnd⟩ := h
  obtain ⟨kl, hkl⟩ := key_port hp
  have ht : Tryz.prog.underlying 73 = some (.map 100 65) := by kernel_rfl
  have gr : ∀ o, w.grownBy (ChangeMaps.setBlock w mb o) (some mb) := fun o => ⟨rfl, rfl, rfl, by simp [ChangeMaps.setBlock], fun i _ hi => ChangeMaps.heap_setBlock_other hb _ (fun e => hi (by rw [e]))⟩
  rcases om_hit (w := w) he ok hp with ⟨h1, h2⟩ | ⟨j, e0, x, h1, h2, h3, h4, h5, h6⟩
  · have hd : odel os (kn p o) = os := by
      unfold odel
      rw [List.filter_eq_self]
      intro m hm
      simpa using h2 m hm
    refine ⟨ChangeMaps.setBlock w mb (.map es ck), ?_, ⟨_, _, ChangeMaps.heap_setBlock_same hb _, hlo, by rw [hd]; exact he, ok.del _, hbn, hnd⟩, gr _⟩
    simp [Builtin.delete_, run_underlying ht, MapKept.run_getObj_map hb, lawP.check w _ hkl, h1, MapKept.run_setObj_map _ hb, Result.andThen, ChangeMaps.setBlock]
  · have hd : odel os (kn p o) = os.eraseIdx j := by rw [← h6]; exact os_era h3 ok.nd
    have hes : j < es.size := by have := (List.getElem?_eq_some_iff.1 h2).1; simpa using this
    have hel : (es.eraseIdxIfInBounds j).toList = es.toList.eraseIdx j := by
      rw [Array.eraseIdxIfInBounds_eq, dif_pos hes, Array.toList_eraseIdx]
    refine ⟨ChangeMaps.setBlock w mb (.map (es.eraseIdxIfInBounds j) ck), ?_, ⟨_, _, ChangeMaps.heap_setBlock_same hb _, hlo, ?_, ok.del _, ?_, ?_⟩, gr _⟩
    · simp [Builtin.delete_, run_underlying ht, MapKept.run_getObj_map hb, lawP.check w _ hkl, h1, MapKept.run_setObj_map _ hb, Result.andThen, ChangeMaps.setBlock]
    · rw [hel, hd]
      have := congrArg (fun q => q.eraseIdx j) he
      rw [era_map, era_map]; exact this
    · rw [hel]; exact fun e hx => hbn e ((List.eraseIdx_sublist _ _).subset hx)
    · rw [hel]
      exact List.Pairwise.sublist (List.Sublist.map _ (List.eraseIdx_sublist _ _)) hnd
theorem Om.made (w : World) : Om w.heap.size w.heap.size (w.alloc (.map #[] 0)) [] := ⟨#[], 0, (MapKept.heap_alloc w _).1, Nat.le_refl _, rfl, OsOk.nil, fun e h => by simp at h, by simp⟩
theorem Om.len {lo mb : Nat} {w : World} {os : List Mp} (h : Om lo mb w os) (ty : TypeId) : (Builtin.len_ #[73] ty #[.map (some mb)]).run Tryz.prog w = .ok (.int .i64 (os.length : Int)) w := by
  obtain ⟨es, ck, hb, _, he, _⟩ := h
  have ht : Tryz.prog.underlying 73 = some (.map 100 65) := by kernel_rfl
  have hl : es.size = os.length := by have := congrArg List.length he; simpa using this
  simp [Builtin.len_, run_underlying ht, MapKept.run_getObj_map hb, Result.andThen, goInt, hl]
open Go.RowKit

theorem Below.row {lo g : Nat} {w w' : World} (h : w.grownBy w' (some g)) (hg : lo ≤ g) (hs : lo ≤ w.heap.size) : Below lo w w' := (Below.refl lo w).grown h hs (fun k e => by cases e; exact hg)
theorem gk_drew {w0 w : World} {b : Option Nat} (h : w0.grownBy w b) : w0.grownBy w.drew b := ⟨h.os, h.tape, h.output, h.size, h.block⟩
theorem owk_lo {w : World} {B B' k n : Nat} {e : TypeId} {v : Value} {xs : List Value} (h : w.ownsRow B e k v n xs) (hb : B' ≤ B) : w.ownsRow B' e k v n xs := by
  refine ⟨h.1, ?_⟩
  rcases h.2 with h | ⟨g, cap, cur, e, hg, h⟩
  · exact .inl h
  · exact .inr ⟨g, cap, cur, e, Nat.le_trans hb hg, h⟩
theorem heap_drew {w : World} {b : Nat} {x : Obj} (h : w.heap[b]? = some x) : w.drew.heap[b]? = some x := h
theorem flat_take {α : Type} {f : α → List Value} {k : Nat} (hf : ∀ x, (f x).length = k) : ∀ (l : List α) (i : Nat), (l.take i).flatMap f = (l.flatMap f).take (i * k)
  | [], i => by simp
  | x :: l, 0 => by simp
  | x :: l, i + 1 => by
    rw [List.take_succ_cons, List.flatMap_cons, List.flatMap_cons, flat_take hf l i, Nat.succ_mul, Nat.add_comm (i * k) k, ← hf x, List.take_length_add_append]
theorem flat_drop {α : Type} {f : α → List Value} {k : Nat} (hf : ∀ x, (f x).length = k) : ∀ (l : List α) (i : Nat), (l.drop i).flatMap f = (l.flatMap f).drop (i * k)
  | [], i => by simp
  | x :: l, 0 => by simp
  | x :: l, i + 1 => by
    rw [List.drop_succ_cons, List.flatMap_cons, flat_drop hf l i, Nat.succ_mul, Nat.add_comm (i * k) k, ← hf x, List.drop_length_add_append]
theorem ins_cells {F ys X : List Value} {a k m : Nat} (ha : a + m = F.length) (hy : ys.length = k) (hX : X.length = k) :
    (((F ++ ys).take (a + k) ++ F.drop a ++ (F ++ ys).drop (a + k + (F.drop a).length)).take a ++ X ++ ((F ++ ys).take (a + k) ++ F.drop a ++ (F ++ ys).drop (a + k + (F.drop a).length)).drop (a + X.length)) = F.take a ++ X ++ F.drop a := by
  have h1 : (F.drop a).length = m := by rw [List.length_drop]; omega
  have h2 : (F ++ ys).drop (a + k + (F.drop a).length) = [] := List.drop_eq_nil_of_le (by rw [List.length_append, h1]; omega)
  have h3 : ((F ++ ys).take (a + k)).length = a + k := by rw [List.length_take, List.length_append]; omega
  rw [h2, List.append_nil]
  congr 1
  · congr 1
    rw [List.take_append_of_le_length (by omega), List.take_take, Nat.min_eq_left (by omega), List.take_append_of_le_length (by omega)]
  · rw [hX]; exact List.drop_left' h3
theorem ins_cells2 {F Z X : List Value} {a k m : Nat} (ha : a + m = F.length) (hz : Z.length = m + k) (hX : X.length = k) :
    (((F.take a ++ Z).take a ++ X ++ (F.take a ++ Z).drop (a + X.length)).take (a + k) ++ F.drop a ++ ((F.take a ++ Z).take a ++ X ++ (F.take a ++ Z).drop (a + X.length)).drop (a + k + (F.drop a).length)) = F.take a ++ X ++ F.drop a := by
  have h1 : (F.drop a).length = m := by rw [List.length_drop]; omega
  have h0 : (F.take a).length = a := by rw [List.length_take]; omega
  have h4 : (F.take a ++ Z).take a = F.take a := by
    conv => lhs; rw [← h0]
    rw [h0, List.take_append_of_le_length (by omega), List.take_take, Nat.min_self]
  have h5 : ((F.take a ++ Z).take a ++ X ++ (F.take a ++ Z).drop (a + X.length)).length = a + k + m := by
    rw [h4]; simp; omega
  have h6 : ((F.take a ++ Z).take a ++ X ++ (F.take a ++ Z).drop (a + X.length)).drop (a + k + (F.drop a).length) = [] := List.drop_eq_nil_of_le (by rw [h5, h1]; omega)
  rw [h6, List.append_nil]
  congr 1
  rw [h4, List.take_append_of_le_length (by simp; omega), List.take_of_length_le (by simp; omega)]
theorem off_ne {gE n c q : Nat} (h : Ofs (.slice (some ⟨gE, 0, none⟩) n c) q) : q ≠ gE := fun e => h gE rfl e.symm
theorem ne_off {gE n c q : Nat} (h : gE ≠ q) : Ofs (.slice (some ⟨gE, 0, none⟩) n c) q := fun g hg => by
  simp only [Value.ownBlock, Option.some.injEq] at hg
  subst hg; exact h
theorem Gr2.drew {w w' : World} {g : Nat} {v : Value} (h : Gr2 w w' g v) : Gr2 w w'.drew g v := ⟨h.os, h.tape, h.output, h.size, h.block⟩
open Go.RowKit

theorem Tryz.info_map : (Tryz.prog.info? 65).map (fun i => (i.zero, i.size, i.bytes)) = some (some (.agg #[.int .i64 0, .int .i64 0, .int .u8 0, .int .u8 0, .int .u8 0, .int .u8 0, .int .i64 0, .int .i64 0, .int .i64 0]), 9, 48) := by kernel_rfl
theorem mp_elem : Tryz.prog.underlying 74 = some (.slice (Tryz.prog.elem 74)) := by kernel_rfl
theorem mp_el : Tryz.prog.elem 74 = 65 := by kernel_rfl
theorem mp_sz (w : World) : (Go.sizeOf 65).run Tryz.prog w = .ok 9 w := by kernel_rfl
theorem mp_zero : (Tryz.prog.info? 65).bind (·.zero) = some (.agg #[.int .i64 0, .int .i64 0, .int .u8 0, .int .u8 0, .int .u8 0, .int .u8 0, .int .i64 0, .int .i64 0, .int .i64 0]) := by kernel_rfl
theorem mp_zs : (Value.cells (.agg #[.int .i64 0, .int .i64 0, .int .u8 0, .int .u8 0, .int .u8 0, .int .u8 0, .int .i64 0, .int .i64 0, .int .i64 0])).size = 9 := by kernel_rfl
theorem mp_z1 : (Value.cells (.agg #[.int .i64 0, .int .i64 0, .int .u8 0, .int .u8 0, .int .u8 0, .int .u8 0, .int .i64 0, .int .i64 0, .int .i64 0])).all (·.oneCell') = true := by kernel_rfl
theorem mp_size : (Tryz.prog.info? 65).map (·.size) = some 9 := by kernel_rfl
/-- Pieces of a row. -/
theorem mp_front (g n c : Nat) (i : Nat) (hi : i ≤ c) (W : World) : (Instr.slice 74 (.slice (some ⟨g, 0, none⟩) n c) none (some (.int .i64 (i : Int))) none).run Tryz.prog W = .ok (.slice (some ⟨g, 0, none⟩) i c) W := by
  rw [run_slice_h W 74 _ n c mp_elem .i64 _ (by omega) (by omega), mp_el, mp_sz]
  simp [Result.andThen, sliced, Addr.add]
theorem mp_back (g n c : Nat) (i : Nat) (hi : i ≤ n) (hc : i < c) (W : World) : (Instr.slice 74 (.slice (some ⟨g, 0, none⟩) n c) (some (.int .i64 (i : Int))) none none).run Tryz.prog W = .ok (.slice (some ⟨g, i * 9, none⟩) (n - i) (c - i)) W := by
  rw [run_slice_l W 74 _ n c mp_elem .i64 _ (by omega) (by omega), mp_el, mp_sz]
  simp [Result.andThen, sliced, Addr.add_lit, show ¬ c = i by omega]
theorem mp_backany (A : Option Addr) (n c : Nat) (i : Nat) (hi : i ≤ n) : ∃ v, ∀ W, (Instr.slice 74 (.slice A n c) (some (.int .i64 (i : Int))) none none).run Tryz.prog W = .ok v W := by
  refine ⟨sliced A i n c 9, fun W => ?_⟩
  rw [run_slice_l W 74 _ n c mp_elem .i64 _ (by omega) (by omega), mp_el, mp_sz]
  simp [Result.andThen]
theorem mp_ov {w : World} {vb gE o lb cb : Nat} {n c lo : Nat} {xs cs : List Value} (hvb : w.heap[vb]? = some (.cells cs.toArray 65 (0, 0))) (hcs : cs.length = 9) (own : w.ownsRow lo 65 9 (.slice (some ⟨gE, 0, none⟩) n c) n xs) (hn : 0 < n) (hne : vb ≠ gE) : (callFunc 121 #[.slice (some ⟨vb, 0, none⟩) 1 1, .slice (some ⟨gE, o, none⟩) lb cb]).run Tryz.prog w = .ok (.value (.bool false)) w := by
  obtain ⟨_, cur, hb, hh, h1, h2, hs, _⟩ := row_of own
  have hc0 : 0 < c := by omega
  rw [run_callFunc_extern (f := 121) (fn := Tryz.f121) (by kernel_rfl) (by kernel_rfl) (by kernel_rfl) (by kernel_rfl) (e := Extern.SlicesOverlaps.overlaps #[74, 74] #[4]) (by kernel_rfl),
    Lib.run_overlaps_apart w 74 4 65 Tryz.underlying74 9 mp_sz ⟨vb, 0, none⟩ ⟨gE, o, none⟩ 1 1 lb cb hne 65 65 9 (c * 9) (by simp [World.shape?, hvb, hcs]) (by simp [World.shape?, hh, hs]) (by omega) (by simp [World.frozen?, hvb]) (by simp [World.frozen?, hvb])]
  rfl
theorem mp_vsrc {w : World} {vb : Nat} {x : Mp} {T : TypeId} {fr : Nat × Nat} (hvb : w.heap[vb]? = some (.cells (mpE x).toArray T fr)) : ∀ j v, (mpE x)[j]? = some v → w.cell? ((⟨vb, 0, none⟩ : Addr).add j) = some v := fun j v hv => by
  rw [Addr.add_lit, Nat.zero_add, cell_of_row w vb j _ T fr hvb]
  simpa using hv
theorem mp_insd {l : List Mp} {x : Mp} {i : Nat} : (l.take i ++ x :: l.drop i).flatMap mpE = (l.flatMap mpE).take (i * 9) ++ mpE x ++ (l.flatMap mpE).drop (i * 9) := by
  rw [List.flatMap_append, List.flatMap_cons, flat_take mpE_len, flat_drop mpE_len, List.append_assoc]
set_option linter.unusedVariables false in
set_option linter.unusedSimpArgs false in
set_option maxRecDepth 100000 in
set_option maxHeartbeats 16000000 in
theorem mp_ins_end {lo n c vb : Nat} {A : Option Addr} {l : List Mp} {x : Mp} (w : World) (hlo : lo ≤ w.heap.size) (hown : w.ownsRow lo 65 9 (.slice A n c) n (l.flatMap mpE)) (hn : n ≤ 1000) (hvb : w.heap[vb]? = some (.cells (mpE x).toArray 65 (0, 0))) : Calls Tryz.prog 96 #[.slice A n c, .int .i64 (n : Int), .slice (some ⟨vb, 0, none⟩) 1 1] w fun e w' => ∃ A' c', e = .returned (.slice A' (n + 1) c') ∧ w'.ownsRow lo 65 9 (.slice A' (n + 1) c') (n + 1) ((l.take n ++ x :: l.drop n).flatMap mpE) ∧ w.grownBy w' (Value.ownBlock (.slice A n c)) ∧ (∀ q, q < w.heap.size → Ofs (.slice A n c) q → Ofs (.slice A' (n + 1) c') q) := by
  have own := hown
  clear hown
  have hl := row_len (by decide) mpE_len own
  have hcap := row_cap own
  have HCAP := Lib.hid hcap
  have HLL := Lib.hid hl
  have HLO := Lib.hid hlo
  obtain ⟨ie, hie, hie0, hie1, hie2⟩ := info_parts Tryz.info_map
  have n0 : (0 : Int) ≤ n := by omega
  have n1 : (n : Int) ≤ 1000 := by omega
  obtain ⟨v12, r12⟩ := mp_backany A n c n (Nat.le_refl _)
  have vv : Sle mpE 9 w (some ⟨vb, 0, none⟩) 1 1 [x] := sle_lit [x] (by decide) mpE_len (by simpa using hvb) rfl (by simp [maxLen])
  have HB1 : Hid (n + 1 ≤ maxLen) := Lib.hid (by unfold maxLen; omega)
  have HB2 : Hid ((n + 1) * 48 ≤ 140737488355328) := Lib.hid (by omega)
  clear hl hcap hlo
  have bel := Below.refl w.heap.size w
  go_enter Tryz.func96, Tryz.ntmps96
  have R12 := r12
  go_wp2_with (first | ((with_reducible show wpList _ _ _ (⟨some 25, _, _, _, _, _⟩ :: _) _ _); refine wpList_append_sle rfl (.tmp 23) (.tmp 24) 74 rfl lo 65 ie (.agg #[.int .i64 0, .int .i64 0, .int .u8 0, .int .u8 0, .int .u8 0, .int .u8 0, .int .i64 0, .int .i64 0, .int .i64 0]) 48 Tryz.underlying74 hie hie0 hie1 hie2 mp_zs mpE_one _ n l rfl own (some ⟨vb, 0, none⟩) 1 1 [x] rfl vv HB1.out HB2.out HLO.out ?_; intro v25 w9 own_ bb gw ofw; obtain ⟨A25, c25, rfl⟩ := owk_val own_))
  try clear R12
  go_ret
  exact ⟨A25, c25, rfl, by rw [List.take_of_length_le (by rw [HLL.out]; exact Nat.le_refl _), List.drop_eq_nil_of_le (by rw [HLL.out]; exact Nat.le_refl _)]; exact own_, gw, ofw⟩
set_option linter.unusedVariables false in
set_option linter.unusedSimpArgs false in
set_option maxRecDepth 100000 in
set_option maxHeartbeats 16000000 in
theorem mp_ins_grow {lo n c vb : Nat} {gE i : Nat} {l : List Mp} {x : Mp} (w : World) (hlo : lo ≤ w.heap.size) (hown : w.ownsRow lo 65 9 (.slice (some ⟨gE, 0, none⟩) n c) n (l.flatMap mpE)) (hn : n ≤ 1000) (hvb : w.heap[vb]? = some (.cells (mpE x).toArray 65 (0, 0))) (hve : Ofs (.slice (some ⟨gE, 0, none⟩) n c) vb) (hi : i < n) (hg : c < n + 1) : Calls Tryz.prog 96 #[.slice (some ⟨gE, 0, none⟩) n c, .int .i64 (i : Int), .slice (some ⟨vb, 0, none⟩) 1 1] w fun e w' => ∃ A' c', e = .returned (.slice A' (n + 1) c') ∧ w'.ownsRow lo 65 9 (.slice A' (n + 1) c') (n + 1) ((l.take i ++ x :: l.drop i).flatMap mpE) ∧ w.grownBy w' (Value.ownBlock (.slice (some ⟨gE, 0, none⟩) n c)) ∧ (∀ q, q < w.heap.size → Ofs (.slice (some ⟨gE, 0, none⟩) n c) q → Ofs (.slice A' (n + 1) c') q) := by
  have own := hown
  clear hown
  have hl := row_len (by decide) mpE_len own
  have hcap := row_cap own
  have HCAP := Lib.hid hcap
  have HLL := Lib.hid hl
  have HLO := Lib.hid hlo
  obtain ⟨ie, hie, hie0, hie1, hie2⟩ := info_parts Tryz.info_map
  have n0 : (0 : Int) ≤ n := by omega
  have n1 : (n : Int) ≤ 1000 := by omega
  obtain ⟨q, hq⟩ : ∃ q, i + q = n := ⟨n - i, by omega⟩
  have i0 : (0 : Int) ≤ i := by omega
  have i1 : (i : Int) < n := by omega
  have hne : ((i : Int) == n) = false := beq_eq_false_iff_ne.2 (by omega)
  have hw1 : IntKind.i64.wrap ((i : Int) + 1) = (i : Int) + 1 := IntWalk.i64_in _ (by omega)
  have r53 := fun W => mp_back gE n c i (by omega) (by omega) W
  rw [show n - i = q by omega] at r53
  have HFL : Hid (9 * i + q * 9 = (l.flatMap mpE).length) := Lib.hid (by rw [flat_len mpE_len, hl, ← hq, Nat.add_mul]; omega)
  have HON : Hid (∀ v ∈ (l.flatMap mpE).drop (i * 9), v.oneCell' = true) := Lib.hid (fun v hv => by obtain ⟨y, _, hy⟩ := List.mem_flatMap.1 (List.mem_of_mem_drop hv); exact mpE_one y v hy)
  have HQ := Lib.hid hq
  have HD : Hid (((l.flatMap mpE).drop (i * 9)).length = q * 9) := Lib.hid (by rw [List.length_drop]; have := HFL.out; omega)
  have HVE := Lib.hid hve
  obtain ⟨p, hp⟩ : ∃ p, i + p = n + 1 := ⟨n + 1 - i, by omega⟩
  have hpi : (n : Int) + 1 - i = (p : Int) := by omega
  have r34 := fun W => mp_front gE n c i (by omega) W
  have ownI := row_less own (i := i) (by omega)
  have HP0 : Hid (0 < p) := Lib.hid (by omega)
  have HPQ : Hid (p = q + 1) := Lib.hid (by omega)
  have HIP := Lib.hid hp
  have hcg : (c : Int) < (n : Int) + 1 := by omega
  have HCG : Hid (c < n + 1) := Lib.hid hg
  have HB1 : Hid (n + 1 ≤ maxLen) := Lib.hid (by unfold maxLen; omega)
  have HB2 : Hid ((n + 1) * 48 ≤ 140737488355328) := Lib.hid (by omega)
  have HMX : Hid ((mpE x).length = Nat.min 1 (q + 1) * 9) := Lib.hid (by rw [mpE_len, show Nat.min 1 (q + 1) = 1 by simp [Nat.min_def]])
  have HPX : Hid (i * 9 + (mpE x).length ≤ (n + 1) * 9) := Lib.hid (by rw [mpE_len]; omega)
  have HPD : Hid ((i + 1) * 9 + ((l.flatMap mpE).drop (i * 9)).length ≤ (n + 1) * 9) := Lib.hid (by rw [HD.out]; omega)
  have HGE : Hid (gE < w.heap.size) := Lib.hid (own.lt gE rfl).2
  clear hl hcap hlo hp hq hi hg hn hve
  have bel := Below.refl w.heap.size w
  go_enter Tryz.func96, Tryz.ntmps96
  have R12 := r53
  have R34 := r34
  go_wp2_with (first | ((with_reducible show wpList _ _ _ (⟨some 40, _, _, _, _, _⟩ :: _) _ _); refine wpList_append_fresh rfl (.tmp 34) (.tmp 39) 74 3 65 rfl ie (.agg #[.int .i64 0, .int .i64 0, .int .u8 0, .int .u8 0, .int .u8 0, .int .u8 0, .int .i64 0, .int .i64 0, .int .i64 0]) .i64 48 Tryz.underlying74 Tryz.underlying3 hie hie0 hie1 hie2 mp_zs (by decide) ownI .i64 p rfl rfl HP0.out (n + 1) HIP.out HCG.out HB1.out HB2.out ?_; intro gN cN w9 geN ownN bN; have hcN := row_cap ownN; have own9 := owk_under own bN; clear own; have own := own9; clear own9; replace hvb := blk_u hvb bN; replace bel := bel.trans bN; clear bN; have r43 := fun W => mp_back gN (n + 1) cN i (by omega) (by omega) W; have r50 := fun W => mp_back gN (n + 1) cN (i + 1) (by omega) (by omega) W; simp only [Int.natCast_add, Int.natCast_one] at r50; rw [show n + 1 - i = q + 1 by have := HQ.out; omega] at r43; rw [show n + 1 - (i + 1) = q by have := HQ.out; omega] at r50; have HGN := Lib.hid geN; clear hcN geN; have R43 := r43) | ((with_reducible show wpList _ _ _ (⟨some 45, _, _, _, _, _⟩ :: _) _ _); refine wpList_copy_rowk rfl (.tmp 43) (.tmp 44) 74 74 65 rfl Tryz.underlying74 mp_size ownN (i * 9) (q + 1) (cN - i) ⟨vb, 0, none⟩ 1 1 (mpE x) rfl rfl HMX.out (mp_vsrc hvb) HPX.out (mpE_one x) _ rfl ?_; intro w10 own_ gw; have own9 := owk_off own (ne_off (Nat.ne_of_lt (Nat.lt_of_lt_of_le HGE.out HGN.out))) gw; clear own ownN; have own := own9; have ownN := own_; clear own9 own_; replace bel := bel.trans (Below.row gw HGN.out bel.size); clear gw hvb))
  try clear R12
  try clear R34
  try clear R43
  replace bel := bel.drew
  replace own := World.ownsRow.drew own
  replace ownN := World.ownsRow.drew ownN
  refine wp_region_held_drew (S := fun _ => True) (by kernel_rfl) trivial (fun hH => ?_)
  generalize w10.drew = w1 at bel own ownN hH ⊢
  refine wpAnyH_take (i := 0) (v := ?_) rfl (by kernel_rfl) (by kernel_rfl) (by kernel_rfl) (fun _ _ _ h => h) (Or.inl ⟨by rfl, ?_⟩) hH ?_
  rotate_left
  · ((intro W hW; clear hW; go_simp) <;> with_reducible rfl)
  simp only [Act.put, List.getElem_toArray, List.getElem_cons_zero, List.setIfInBounds_toArray, List.set_cons_zero, List.set_cons_succ]
  refine wpAnyH_take (i := 1) (v := ?_) rfl (by kernel_rfl) (by kernel_rfl) (by kernel_rfl) (fun _ _ _ h => h) (Or.inl ⟨by rfl, ?_⟩) hH ?_
  rotate_left
  · ((intro W hW; clear hW; go_simp) <;> with_reducible rfl)
  simp only [sq3, sq4]
  refine wpAnyH_take (i := 2) (v := ?_) rfl (by kernel_rfl) (by kernel_rfl) (by kernel_rfl) (fun _ _ _ h => h) (Or.inl ⟨by rfl, ?_⟩) hH ?_
  rotate_left
  · ((intro W hW; clear hW; go_simp) <;> with_reducible rfl)
  simp only [sq3, sq4]
  refine wpAnyH_take (i := 3) (v := ?_) rfl (by kernel_rfl) (by kernel_rfl) (by kernel_rfl) (fun _ _ _ h => h) (Or.inl ⟨by rfl, ?_⟩) hH ?_
  rotate_left
  · ((intro W hW; clear hW; go_simp) <;> with_reducible rfl)
  simp only [sq3, sq4]
  refine wpAnyH_take (i := 4) (v := ?_) rfl (by kernel_rfl) (by kernel_rfl) (by kernel_rfl) (fun _ _ _ h => h) (Or.inl ⟨by rfl, ?_⟩) hH ?_
  rotate_left
  · ((intro W hW; clear hW; go_simp) <;> with_reducible rfl)
  simp only [sq3, sq4]
  refine wpAnyH_take (i := 5) (v := ?_) rfl (by kernel_rfl) (by kernel_rfl) (by kernel_rfl) (fun _ _ _ h => h) (Or.inl ⟨by rfl, ?_⟩) hH ?_
  rotate_left
  · ((intro W hW; clear hW; go_simp) <;> with_reducible rfl)
  simp only [sq3, sq4]
  refine wpAnyH_take (i := 6) (v := ?_) rfl (by kernel_rfl) (by kernel_rfl) (by kernel_rfl) (fun _ _ _ h => h) (Or.inl ⟨by rfl, ?_⟩) hH ?_
  rotate_left
  · ((intro W hW; clear hW; go_simp) <;> with_reducible rfl)
  simp only [sq3, sq4]
  refine wpAnyH_take (i := 7) (v := ?_) rfl (by kernel_rfl) (by kernel_rfl) (by kernel_rfl) (fun _ _ _ h => h) (Or.inl ⟨by rfl, ?_⟩) hH ?_
  rotate_left
  · ((intro W hW; clear hW; go_simp) <;> with_reducible rfl)
  simp only [sq3, sq4]
  refine wpAnyH_ready (rs := [8]) (by kernel_rfl) (by simp) ?_
  refine AllReadyH.cons (o := _) rfl (fun K hK => ?_) AllReadyH.nil
  simp only [sq3]
  rw [if_pos (by rfl)]
  refine wp_copy_rowk (.tmp 50) (.tmp 53) 74 74 65 rfl Tryz.underlying74 mp_size ownN ((i + 1) * 9) q (cN - (i + 1)) ⟨gE, i * 9, none⟩ q (c - i) ((l.flatMap mpE).drop (i * 9)) rfl rfl (by rw [HD.out, show Nat.min q q = q from Nat.min_self q]) (row_piece own _ _ (by rw [List.take_of_length_le (Nat.le_refl _)])) HPD.out HON.out _ rfl ?_
  intro w11 own_ gw
  clear own ownN
  have ownN := own_
  clear own_
  replace bel := bel.trans (Below.row gw HGN.out bel.size)
  clear gw
  refine hK.out _ _ trivial (fun hH2 => ?_)
  clear hK K
  simp only [sq4]
  refine wpAnyH_done (by kernel_rfl) ?_ _
  go_wp2_with fail
  go_ret
  refine ⟨some ⟨gN, 0, none⟩, cN, rfl, ?_, grown_of_below bel, fun q hq _ => ne_off (Nat.ne_of_gt (Nat.lt_of_lt_of_le hq HGN.out))⟩
  rw [mp_insd, ← ins_cells2 (Z := zerosL (.agg #[.int .i64 0, .int .i64 0, .int .u8 0, .int .u8 0, .int .u8 0, .int .u8 0, .int .i64 0, .int .i64 0, .int .i64 0]) p) (a := i * 9) (k := 9) (m := q * 9) (by have := HFL.out; omega) (by rw [zerosL_len _ _ mp_zs, HPQ.out, Nat.succ_mul]) (mpE_len x), show i * 9 + 9 = (i + 1) * 9 by omega]
  exact owk_lo ownN HLO.out
set_option linter.unusedVariables false in
set_option linter.unusedSimpArgs false in
set_option maxRecDepth 100000 in
set_option maxHeartbeats 16000000 in
theorem mp_ins_room {lo n c vb : Nat} {gE i : Nat} {l : List Mp} {x : Mp} (w : World) (hlo : lo ≤ w.heap.size) (hown : w.ownsRow lo 65 9 (.slice (some ⟨gE, 0, none⟩) n c) n (l.flatMap mpE)) (hn : n ≤ 1000) (hvb : w.heap[vb]? = some (.cells (mpE x).toArray 65 (0, 0))) (hve : Ofs (.slice (some ⟨gE, 0, none⟩) n c) vb) (hi : i < n) (hg : n + 1 ≤ c) : Calls Tryz.prog 96 #[.slice (some ⟨gE, 0, none⟩) n c, .int .i64 (i : Int), .slice (some ⟨vb, 0, none⟩) 1 1] w fun e w' => ∃ A' c', e = .returned (.slice A' (n + 1) c') ∧ w'.ownsRow lo 65 9 (.slice A' (n + 1) c') (n + 1) ((l.take i ++ x :: l.drop i).flatMap mpE) ∧ w.grownBy w' (Value.ownBlock (.slice (some ⟨gE, 0, none⟩) n c)) ∧ (∀ q, q < w.heap.size → Ofs (.slice (some ⟨gE, 0, none⟩) n c) q → Ofs (.slice A' (n + 1) c') q) := by
  have own := hown
  clear hown
  have hl := row_len (by decide) mpE_len own
  have hcap := row_cap own
  have HCAP := Lib.hid hcap
  have HLL := Lib.hid hl
  have HLO := Lib.hid hlo
  obtain ⟨ie, hie, hie0, hie1, hie2⟩ := info_parts Tryz.info_map
  have n0 : (0 : Int) ≤ n := by omega
  have n1 : (n : Int) ≤ 1000 := by omega
  obtain ⟨q, hq⟩ : ∃ q, i + q = n := ⟨n - i, by omega⟩
  have i0 : (0 : Int) ≤ i := by omega
  have i1 : (i : Int) < n := by omega
  have hne : ((i : Int) == n) = false := beq_eq_false_iff_ne.2 (by omega)
  have hw1 : IntKind.i64.wrap ((i : Int) + 1) = (i : Int) + 1 := IntWalk.i64_in _ (by omega)
  have r53 := fun W => mp_back gE n c i (by omega) (by omega) W
  rw [show n - i = q by omega] at r53
  have HFL : Hid (9 * i + q * 9 = (l.flatMap mpE).length) := Lib.hid (by rw [flat_len mpE_len, hl, ← hq, Nat.add_mul]; omega)
  have HON : Hid (∀ v ∈ (l.flatMap mpE).drop (i * 9), v.oneCell' = true) := Lib.hid (fun v hv => by obtain ⟨y, _, hy⟩ := List.mem_flatMap.1 (List.mem_of_mem_drop hv); exact mpE_one y v hy)
  have HQ := Lib.hid hq
  have HD : Hid (((l.flatMap mpE).drop (i * 9)).length = q * 9) := Lib.hid (by rw [List.length_drop]; have := HFL.out; omega)
  have HVE := Lib.hid hve
  obtain ⟨ys, hys, own1⟩ := row_more own (m := 1) (by omega)
  have hov := mp_ov (o := (i + 1) * 9) (lb := q) (cb := c - (i + 1)) hvb (mpE_len x) own1 (by omega) (off_ne hve)
  have r60 := fun W => mp_front gE n c (n + 1) (by omega) W
  have r66 := fun W => mp_back gE (n + 1) c (i + 1) (by omega) (by omega) W
  have r76 := fun W => mp_back gE (n + 1) c i (by omega) (by omega) W
  simp only [Int.natCast_add, Int.natCast_one] at r60 r66
  rw [show n + 1 - (i + 1) = q by omega] at r66
  rw [show n + 1 - i = q + 1 by omega] at r76
  have hcg : decide ((c : Int) < (n : Int) + 1) = false := decide_eq_false (by omega)
  have HYS : Hid (ys.length = 9) := Lib.hid (by omega)
  have HMX : Hid ((mpE x).length = Nat.min 1 (q + 1) * 9) := Lib.hid (by rw [mpE_len, show Nat.min 1 (q + 1) = 1 by simp [Nat.min_def]])
  have HPX : Hid (i * 9 + (mpE x).length ≤ (n + 1) * 9) := Lib.hid (by rw [mpE_len]; omega)
  have HPD : Hid ((i + 1) * 9 + ((l.flatMap mpE).drop (i * 9)).length ≤ (n + 1) * 9) := Lib.hid (by rw [HD.out]; omega)
  have HMD : Hid (((l.flatMap mpE).drop (i * 9)).length = Nat.min (q + 1) q * 9) := Lib.hid (by rw [HD.out, show Nat.min (q + 1) q = q by simp [Nat.min_def]])
  have HPC : Hid (((l.flatMap mpE ++ ys).drop (i * 9)).take ((l.flatMap mpE).drop (i * 9)).length = (l.flatMap mpE).drop (i * 9)) := Lib.hid (by rw [List.drop_append_of_le_length (by have := HFL.out; omega)]; exact List.take_left' rfl)
  have HVN : Hid (Hid (vb ≠ gE)) := Lib.hid (Lib.hid (off_ne hve))
  have gk := World.grownBy.refl w (some gE)
  clear own
  have own := own1
  clear own1 hys hl hcap hlo hq hi hg hn hve
  have bel := Below.refl w.heap.size w
  go_enter Tryz.func96, Tryz.ntmps96
  have R12 := r53
  have R60 := r60
  have R66 := r66
  have R67 := hov
  go_wp2_with fail
  clear R12 R60 R66 R67
  replace bel := bel.drew
  replace own := World.ownsRow.drew own
  replace gk := gk_drew gk
  replace hvb := heap_drew hvb
  refine wp_region_held_drew (S := fun _ => True) (by kernel_rfl) trivial (fun hH => ?_)
  generalize w.drew = w1 at bel own gk hvb hH ⊢
  refine wpAnyH_take (i := 0) (v := ?_) rfl (by kernel_rfl) (by kernel_rfl) (by kernel_rfl) (fun _ _ _ h => h) (Or.inl ⟨by rfl, ?_⟩) hH ?_
  rotate_left
  · ((intro W hW; clear hW; go_simp) <;> with_reducible rfl)
  simp only [Act.put, List.getElem_toArray, List.getElem_cons_zero, List.setIfInBounds_toArray, List.set_cons_zero, List.set_cons_succ]
  refine wpAnyH_take (i := 1) (v := ?_) rfl (by kernel_rfl) (by kernel_rfl) (by kernel_rfl) (fun _ _ _ h => h) (Or.inl ⟨by rfl, ?_⟩) hH ?_
  rotate_left
  · ((intro W hW; clear hW; go_simp) <;> with_reducible rfl)
  simp only [sq3, sq4]
  refine wpAnyH_take (i := 2) (v := ?_) rfl (by kernel_rfl) (by kernel_rfl) (by kernel_rfl) (fun _ _ _ h => h) (Or.inl ⟨by rfl, ?_⟩) hH ?_
  rotate_left
  · ((intro W hW; clear hW; go_simp) <;> with_reducible rfl)
  simp only [sq3, sq4]
  refine wpAnyH_take (i := 3) (v := ?_) rfl (by kernel_rfl) (by kernel_rfl) (by kernel_rfl) (fun _ _ _ h => h) (Or.inl ⟨by rfl, ?_⟩) hH ?_
  rotate_left
  · ((intro W hW; clear hW; go_simp) <;> with_reducible rfl)
  simp only [sq3, sq4]
  refine wpAnyH_take (i := 4) (v := ?_) rfl (by kernel_rfl) (by kernel_rfl) (by kernel_rfl) (fun _ _ _ h => h) (Or.inl ⟨by rfl, ?_⟩) hH ?_
  rotate_left
  · ((intro W hW; clear hW; go_simp) <;> with_reducible rfl)
  simp only [sq3, sq4]
  refine wpAnyH_take (i := 5) (v := ?_) rfl (by kernel_rfl) (by kernel_rfl) (by kernel_rfl) (fun _ _ _ h => h) (Or.inl ⟨by rfl, ?_⟩) hH ?_
  rotate_left
  · ((intro W hW; clear hW; go_simp) <;> with_reducible rfl)
  simp only [sq3, sq4]
  refine wpAnyH_take (i := 6) (v := ?_) rfl (by kernel_rfl) (by kernel_rfl) (by kernel_rfl) (fun _ _ _ h => h) (Or.inl ⟨by rfl, ?_⟩) hH ?_
  rotate_left
  · ((intro W hW; clear hW; go_simp) <;> with_reducible rfl)
  simp only [sq3, sq4]
  refine wpAnyH_take (i := 7) (v := ?_) rfl (by kernel_rfl) (by kernel_rfl) (by kernel_rfl) (fun _ _ _ h => h) (Or.inl ⟨by rfl, ?_⟩) hH ?_
  rotate_left
  · ((intro W hW; clear hW; go_simp) <;> with_reducible rfl)
  simp only [sq3, sq4]
  refine wpAnyH_ready (rs := [8]) (by kernel_rfl) (by simp) ?_
  refine AllReadyH.cons (o := _) rfl (fun K hK => ?_) AllReadyH.nil
  simp only [sq3]
  rw [if_pos (by rfl)]
  refine wp_copy_rowk (.tmp 73) (.tmp 76) 74 74 65 rfl Tryz.underlying74 mp_size own ((i + 1) * 9) q (c - (i + 1)) ⟨gE, i * 9, none⟩ (q + 1) (c - i) ((l.flatMap mpE).drop (i * 9)) rfl rfl HMD.out (row_piece own _ _ HPC.out) HPD.out HON.out _ rfl ?_
  intro w9 own_ gw
  clear own
  have own := own_
  clear own_
  replace gk := gk.trans gw
  replace hvb := blk_a hvb gw HVN.out
  clear gw bel
  refine hK.out _ _ trivial (fun hH2 => ?_)
  clear hK K
  simp only [sq4]
  refine wpAnyH_done (by kernel_rfl) ?_ _
  have R80 := r76
  go_wp2_with (first | ((with_reducible show wpList _ _ _ (⟨some 82, _, _, _, _, _⟩ :: _) _ _); refine wpList_copy_rowk rfl (.tmp 80) (.tmp 81) 74 74 65 rfl Tryz.underlying74 mp_size own (i * 9) (q + 1) (c - i) ⟨vb, 0, none⟩ 1 1 (mpE x) rfl rfl HMX.out (mp_vsrc hvb) HPX.out (mpE_one x) _ rfl ?_; intro w10 own_ gw; clear own; have own := own_; clear own_; replace gk := gk.trans gw; clear gw hvb))
  try clear R80
  go_ret
  refine ⟨some ⟨gE, 0, none⟩, c, rfl, ?_, gk, fun _ _ h => h⟩
  rw [show (i + 1) * 9 = i * 9 + 9 by omega, ins_cells (m := q * 9) (by have := HFL.out; omega) HYS.out (mpE_len x)] at own
  rw [mp_insd]
  exact own
theorem mp_insert {lo n c vb : Nat} {i : Nat} {A : Option Addr} {l : List Mp} {x : Mp} (w : World) (hlo : lo ≤ w.heap.size) (hown : w.ownsRow lo 65 9 (.slice A n c) n (l.flatMap mpE)) (hn : n ≤ 1000) (hvb : w.heap[vb]? = some (.cells (mpE x).toArray 65 (0, 0))) (hve : Ofs (.slice A n c) vb) (hi : i ≤ n) : Calls Tryz.prog 96 #[.slice A n c, .int .i64 (i : Int), .slice (some ⟨vb, 0, none⟩) 1 1] w fun e w' => ∃ A' c', e = .returned (.slice A' (n + 1) c') ∧ w'.ownsRow lo 65 9 (.slice A' (n + 1) c') (n + 1) ((l.take i ++ x :: l.drop i).flatMap mpE) ∧ w.grownBy w' (Value.ownBlock (.slice A n c)) ∧ (∀ q, q < w.heap.size → Ofs (.slice A n c) q → Ofs (.slice A' (n + 1) c') q) := by
  rcases Nat.lt_or_ge i n with h | h
  · obtain ⟨gE, rfl, _⟩ := row_at hown (by omega)
    rcases Nat.lt_or_ge c (n + 1) with h2 | h2
    · exact mp_ins_grow w hlo hown hn hvb hve h h2
    · exact mp_ins_room w hlo hown hn hvb hve h h2
  · obtain rfl : i = n := by omega
    exact mp_ins_end w hlo hown hn hvb
open Go.RowKit

theorem gk_new {a b c : World} {row : Option Nat} {j : Nat} (h : a.grownBy b row) (hj : a.heap.size ≤ j) (k : b.grownBy c (some j)) : a.grownBy c row := World.grownBy.andThen h k (fun _ e => Or.inl (by cases e; exact hj))
theorem mdrop_head {l l' : List Mp} {j : Nat} (h : l.drop j = l'.drop j) : l[j]? = l'[j]? := by
  have := congrArg (fun x => x[0]?) h
  simpa only [List.getElem?_drop, Nat.add_zero] using this
theorem mdrop_more {l l' : List Mp} {j : Nat} (h : l.drop j = l'.drop j) : l.drop (j + 1) = l'.drop (j + 1) := by
  have := congrArg (fun x => x.drop 1) h
  simpa only [List.drop_drop] using this
theorem mfilt_skip {l : List Mp} {j : Nat} {e : Mp} {p : Mp → Bool} (he : l[j]? = some e) (h : p e = false) : (l.take (j + 1)).filter p = (l.take j).filter p := by
  rw [List.take_add_one, he, List.filter_append]
  simp [h]
theorem mfilt_keep {l : List Mp} {j : Nat} {e : Mp} {p : Mp → Bool} (he : l[j]? = some e) (h : p e = true) : (l.take (j + 1)).filter p = (l.take j).filter p ++ [e] := by
  rw [List.take_add_one, he, List.filter_append]
  simp [h]
theorem mtake_set_next {l : List Mp} {i : Nat} {e : Mp} (hi : i < l.length) : (l.set i e).take (i + 1) = l.take i ++ [e] := by
  rw [List.take_add_one, List.take_set_of_le (Nat.le_refl _), List.getElem?_set_self hi]
  rfl
theorem mdrop_set_next {l : List Mp} {i j : Nat} {e : Mp} (hi : i < j) : (l.set i e).drop j = l.drop j := List.drop_set_of_lt hi
theorem mfilt_first {l : List Mp} {i : Nat} {p : Mp → Bool} (h : ∀ j e, j < i → l[j]? = some e → p e = true) : l.take i = (l.take i).filter p := by
  symm
  rw [List.filter_eq_self]
  intro e he
  obtain ⟨j, hj⟩ := List.getElem?_of_mem he
  rw [List.getElem?_take] at hj
  split at hj
  · exact h j e ‹_› hj
  · cases hj
theorem mfirst_of (p : Mp → Bool) : ∀ (l : List Mp), (∀ e ∈ l, p e = false) ∨ ∃ (k : Nat) (x : Mp), l[k]? = some x ∧ p x = true ∧ ∀ (j : Nat) (e : Mp), j < k → l[j]? = some e → p e = false
  | [] => .inl fun e h => by cases h
  | y :: l => by
    cases hy : p y with
    | true => exact .inr ⟨0, y, rfl, hy, fun j e h => absurd h (by omega)⟩
    | false =>
      rcases mfirst_of p l with h | ⟨k, x, h1, h2, h3⟩
      · exact .inl fun e he => (List.mem_cons.1 he).elim (fun h' => h' ▸ hy) (h e)
      · refine .inr ⟨k + 1, x, by simpa using h1, h2, fun j e hj he => ?_⟩
        cases j with
        | zero => simp only [List.getElem?_cons_zero, Option.some.injEq] at he; exact he ▸ hy
        | succ j => exact h3 j e (by omega) (by simpa using he)
set_option linter.unusedVariables false in
set_option linter.unusedSimpArgs false in
set_option maxRecDepth 100000 in
set_option maxHeartbeats 16000000 in
theorem clf_a {gn : Nat} {t : Int} (x : Mp) (w : World) (hnb : w.heap[gn]? = some (.cells #[.int .i64 t] 2 (0, 0))) : Calls Tryz.prog 92 #[.agg #[.int .i64 x.pr, .int .i64 x.o, .int .u8 (x.ad.a.toNat : Int), .int .u8 (x.ad.b.toNat : Int), .int .u8 (x.ad.c.toNat : Int), .int .u8 (x.ad.d.toNat : Int), .int .i64 x.i, .int .i64 x.k, .int .i64 x.u], .pointer (some ⟨gn, 0, none⟩)] w fun e w' => e = .returned (.bool (deadB t x)) ∧ Below w.heap.size w w' := by
  obtain ⟨b, hb⟩ : ∃ b, liveB t x = b := ⟨_, rfl⟩
  have HL_ := Lib.hid hb
  clear hb
  have bel := Below.refl w.heap.size w
  go_enter Tryz.func92, Tryz.ntmps92
  go_wp2_with (first | ((with_reducible show wpList _ _ _ (⟨some 2, _, _, _, _, _⟩ :: _) _ _); refine wpList_box_n rfl 65 (.tmp 0) rfl #[.int .i64 x.pr, .int .i64 x.o, .int .u8 (x.ad.a.toNat : Int), .int .u8 (x.ad.b.toNat : Int), .int .u8 (x.ad.c.toNat : Int), .int .u8 (x.ad.d.toNat : Int), .int .i64 x.i, .int .i64 x.k, .int .i64 x.u] rfl ?_; intro g2 w1 ge lt hh bb; have d_nb_eb := ne_new (hlt hnb) ge; have oeb := Nat.le_trans bel.size ge; replace hnb := blk_u hnb bb; replace bel := bel.trans (bb.mono bel.size); have heb := hh; clear hh lt ge bb; have R4 := Lib.hid (range_lit heb 0 9 [.int .i64 x.pr, .int .i64 x.o, .int .u8 (x.ad.a.toNat : Int), .int .u8 (x.ad.b.toNat : Int), .int .u8 (x.ad.c.toNat : Int), .int .u8 (x.ad.d.toNat : Int), .int .i64 x.i, .int .i64 x.k, .int .i64 x.u] rfl)) | ((with_reducible show wpList _ _ _ (⟨some 4, _, _, _, _, _⟩ :: _) _ _); refine wpList_load_rng 65 (.tmp 2) rfl (by kernel_rfl) _ _ rfl _ R4.out _ Tryz.underlying65 rfl (by kernel_rfl) ?_; have R5 := cell_lit hnb 0 _ rfl))
  try clear R4
  try clear R5
  with_reducible refine (live_any _ HL_.out).mono ?_
  rintro e w2 ⟨rfl, b2⟩
  replace hnb := blk_u hnb b2
  replace heb := blk_u heb b2
  replace bel := bel.trans (b2.mono bel.size)
  clear b2
  go_wp2_with fail
  go_ret
  exact ⟨by show Ending.returned (.bool (!b)) = .returned (.bool (deadB t x)); unfold deadB; rw [HL_.out], bel⟩
set_option linter.unusedVariables false in
set_option linter.unusedSimpArgs false in
set_option maxRecDepth 100000 in
set_option maxHeartbeats 16000000 in
theorem idxa_none_pos {gn : Nat} {n c gE oE : Nat} {t : Int} {l : List Mp} (w : World) (hnb : w.heap[gn]? = some (.cells #[.int .i64 t] 2 (0, 0))) (en : Sle mpE 9 w (some ⟨gE, oE, none⟩) n c l) (hn : n ≤ 1000) (hN : ∀ e ∈ l, deadB t e = false) : Calls Tryz.prog 117 #[.slice (some ⟨gE, oE, none⟩) n c, .func (.func 92) #[] #[.pointer (some ⟨gn, 0, none⟩)]] w fun e w' => e = .returned (.int .i64 (-1)) ∧ Below w.heap.size w w' := by
  have HL := Lib.hid en.1
  have hn0 : (n : Int) ≤ 1000 := by omega
  have HN := Lib.hid hN
  clear hN
  have bel := Below.refl w.heap.size w
  go_enter Tryz.func117, Tryz.ntmps117
  go_wp2_with fail
  go_loopg [8] (n) (fun gk s8 wr => ∃ k : Nat, gk = n - k ∧ k ≤ n ∧ s8 = .int .i64 (k : Int) ∧ wr.heap[gn]? = some (.cells #[.int .i64 t] 2 (0, 0)) ∧ Sle mpE 9 wr (some ⟨gE, oE, none⟩) (n) (c) (l) ∧ Below w.heap.size w wr)
  case atStart => exact ⟨0, Nat.sub_zero _, Nat.zero_le _, rfl, hnb, en, bel⟩
  case round =>
    clear hnb en bel
    obtain ⟨k, HGK, hkn, rfl, hnb, en, bel⟩ := hrel
    have HGK_ := Lib.hid HGK
    clear HGK
    by_cases h : k < n
    rotate_left
    · obtain rfl : k = n := by omega
      replace h : decide (k < k) = false := decide_eq_false (by omega)
      go_wp2_with fail
      go_ret
      exact ⟨rfl, bel⟩
    obtain ⟨e, hx⟩ : ∃ e, l[k]? = some e := ⟨_, List.getElem?_eq_getElem (by have := HL.out; omega)⟩
    have k0 : (0 : Int) ≤ k := by omega
    have k1 : (k : Int) < n := by omega
    have HX := Lib.hid hx
    clear hx
    have HG : Hid (deadB t e = false) := Lib.hid (HN.out e (List.mem_of_getElem? HX.out))
    have R15 := Lib.hid (Sle.range0 en HX.out 9 [.int .i64 e.pr, .int .i64 e.o, .int .u8 (e.ad.a.toNat : Int), .int .u8 (e.ad.b.toNat : Int), .int .u8 (e.ad.c.toNat : Int), .int .u8 (e.ad.d.toNat : Int), .int .i64 e.i, .int .i64 e.k, .int .i64 e.u] rfl)
    go_wp2_with (first | ((with_reducible show wpList _ _ _ (⟨some 15, _, _, _, _, _⟩ :: _) _ _); refine wpList_load_rng 65 (.tmp 14) rfl (by kernel_rfl) _ _ rfl _ R15.out _ Tryz.underlying65 rfl (by kernel_rfl) ?_))
    try clear R15
    with_reducible refine (clf_a e _ hnb).mono ?_
    rintro e w1 ⟨rfl, b1⟩
    replace hnb := blk_u hnb b1
    replace en := en.below b1
    replace bel := bel.trans (b1.mono bel.size)
    clear b1
    rw [HG.out]
    go_wp2_with fail
    go_roundg (n - (k + 1))
    case measure => have := HGK_.out; omega
    case rel => exact ⟨k + 1, rfl, by omega, by go_num, hnb, en, bel⟩
set_option linter.unusedVariables false in
set_option linter.unusedSimpArgs false in
set_option maxRecDepth 100000 in
set_option maxHeartbeats 16000000 in
theorem idxa_some {gn : Nat} {n c gE oE : Nat} {t : Int} {l : List Mp} (w : World) (hnb : w.heap[gn]? = some (.cells #[.int .i64 t] 2 (0, 0))) (en : Sle mpE 9 w (some ⟨gE, oE, none⟩) n c l) (hn : n ≤ 1000) {i : Nat} {x : Mp} (hx : l[i]? = some x) (hg : deadB t x = true) (hN : ∀ j e, j < i → l[j]? = some e → deadB t e = false) : Calls Tryz.prog 117 #[.slice (some ⟨gE, oE, none⟩) n c, .func (.func 92) #[] #[.pointer (some ⟨gn, 0, none⟩)]] w fun e w' => e = .returned (.int .i64 (i : Int)) ∧ Below w.heap.size w w' := by
  have HL := Lib.hid en.1
  have hn0 : (n : Int) ≤ 1000 := by omega
  have HIN : Hid (i < n) := Lib.hid (by have := (List.getElem?_eq_some_iff.1 hx).1; have h_ := en.1; omega)
  have HN := Lib.hid hN
  have HXI := Lib.hid hx
  have HGI := Lib.hid hg
  clear hN hx hg
  have bel := Below.refl w.heap.size w
  go_enter Tryz.func117, Tryz.ntmps117
  go_wp2_with fail
  go_loopg [8] (n) (fun gk s8 wr => ∃ k : Nat, gk = n - k ∧ k ≤ i ∧ s8 = .int .i64 (k : Int) ∧ wr.heap[gn]? = some (.cells #[.int .i64 t] 2 (0, 0)) ∧ Sle mpE 9 wr (some ⟨gE, oE, none⟩) (n) (c) (l) ∧ Below w.heap.size w wr)
  case atStart => exact ⟨0, Nat.sub_zero _, Nat.zero_le _, rfl, hnb, en, bel⟩
  case round =>
    clear hnb en bel
    obtain ⟨k, HGK, hkn, rfl, hnb, en, bel⟩ := hrel
    have HGK_ := Lib.hid HGK
    clear HGK
    by_cases h : k < n
    rotate_left
    · exfalso
      have := HIN.out
      omega
    obtain ⟨e, hx⟩ : ∃ e, l[k]? = some e := ⟨_, List.getElem?_eq_getElem (by have := HL.out; omega)⟩
    have k0 : (0 : Int) ≤ k := by omega
    have k1 : (k : Int) < n := by omega
    have HX := Lib.hid hx
    clear hx
    by_cases h2 : k < i
    rotate_left
    · obtain rfl : k = i := by omega
      obtain rfl : e = x := Option.some.inj (HX.out.symm.trans HXI.out)
      have HG := HGI
      have R15 := Lib.hid (Sle.range0 en HX.out 9 [.int .i64 e.pr, .int .i64 e.o, .int .u8 (e.ad.a.toNat : Int), .int .u8 (e.ad.b.toNat : Int), .int .u8 (e.ad.c.toNat : Int), .int .u8 (e.ad.d.toNat : Int), .int .i64 e.i, .int .i64 e.k, .int .i64 e.u] rfl)
      go_wp2_with (first | ((with_reducible show wpList _ _ _ (⟨some 15, _, _, _, _, _⟩ :: _) _ _); refine wpList_load_rng 65 (.tmp 14) rfl (by kernel_rfl) _ _ rfl _ R15.out _ Tryz.underlying65 rfl (by kernel_rfl) ?_))
      try clear R15
      with_reducible refine (clf_a e _ hnb).mono ?_
      rintro e w1 ⟨rfl, b1⟩
      replace hnb := blk_u hnb b1
      replace en := en.below b1
      replace bel := bel.trans (b1.mono bel.size)
      clear b1
      rw [HG.out]
      go_wp2_with fail
      go_ret
      exact ⟨rfl, bel⟩
    have HG : Hid (deadB t e = false) := Lib.hid (HN.out k e h2 HX.out)
    have R15 := Lib.hid (Sle.range0 en HX.out 9 [.int .i64 e.pr, .int .i64 e.o, .int .u8 (e.ad.a.toNat : Int), .int .u8 (e.ad.b.toNat : Int), .int .u8 (e.ad.c.toNat : Int), .int .u8 (e.ad.d.toNat : Int), .int .i64 e.i, .int .i64 e.k, .int .i64 e.u] rfl)
    go_wp2_with (first | ((with_reducible show wpList _ _ _ (⟨some 15, _, _, _, _, _⟩ :: _) _ _); refine wpList_load_rng 65 (.tmp 14) rfl (by kernel_rfl) _ _ rfl _ R15.out _ Tryz.underlying65 rfl (by kernel_rfl) ?_))
    try clear R15
    with_reducible refine (clf_a e _ hnb).mono ?_
    rintro e w1 ⟨rfl, b1⟩
    replace hnb := blk_u hnb b1
    replace en := en.below b1
    replace bel := bel.trans (b1.mono bel.size)
    clear b1
    rw [HG.out]
    go_wp2_with fail
    go_roundg (n - (k + 1))
    case measure => have := HGK_.out; omega
    case rel => exact ⟨k + 1, rfl, by omega, by go_num, hnb, en, bel⟩
set_option linter.unusedVariables false in
set_option linter.unusedSimpArgs false in
set_option maxRecDepth 100000 in
set_option maxHeartbeats 16000000 in
theorem idxa_nil {gn : Nat} {n c : Nat} {A2 : Option Addr} (w : World) (hn : n = 0) : Calls Tryz.prog 117 #[.slice A2 n c, .func (.func 92) #[] #[.pointer (some ⟨gn, 0, none⟩)]] w fun e w' => e = .returned (.int .i64 (-1)) ∧ w = w' := by
  subst hn
  skip
  go_enter Tryz.func117, Tryz.ntmps117
  go_wp2_with fail
  refine wp_loop_rounds 1 ?_
  rw [rounds_succ]
  go_wp2_with fail
  go_ret
  exact ⟨rfl, rfl⟩
theorem idxa_none {gn : Nat} {n c : Nat} {A2 : Option Addr} {t : Int} {l : List Mp} (w : World) (hnb : w.heap[gn]? = some (.cells #[.int .i64 t] 2 (0, 0))) (en : Sle mpE 9 w A2 n c l) (hn : n ≤ 1000) (hN : ∀ e ∈ l, deadB t e = false) : Calls Tryz.prog 117 #[.slice A2 n c, .func (.func 92) #[] #[.pointer (some ⟨gn, 0, none⟩)]] w fun e w' => e = .returned (.int .i64 (-1)) ∧ Below w.heap.size w w' := by
  rcases Nat.eq_zero_or_pos n with h | h
  · refine (idxa_nil w h).mono ?_
    rintro e w' ⟨rfl, rfl⟩
    exact ⟨rfl, Below.refl _ _⟩
  · obtain ⟨g, o, rfl⟩ := en.place h
    exact idxa_none_pos w hnb en hn hN
set_option linter.unusedVariables false in
set_option linter.unusedSimpArgs false in
set_option maxRecDepth 100000 in
set_option maxHeartbeats 16000000 in
theorem dela_some {gn : Nat} {lo gE n c k : Nat} {t : Int} {l : List Mp} {x : Mp} (w : World) (hlo : lo ≤ w.heap.size) (hnb : w.heap[gn]? = some (.cells #[.int .i64 t] 2 (0, 0))) (hown : w.ownsRow lo 65 9 (.slice (some ⟨gE, 0, none⟩) n c) n (l.flatMap mpE)) (hn : n ≤ 1000) (hx : l[k]? = some x) (hg : deadB t x = true) (hN : ∀ j e, j < k → l[j]? = some e → deadB t e = false) : Calls Tryz.prog 93 #[.slice (some ⟨gE, 0, none⟩) n c, .func (.func 92) #[] #[.pointer (some ⟨gn, 0, none⟩)]] w fun e w' => ∃ i, e = .returned (.slice (some ⟨gE, 0, none⟩) i c) ∧ w'.ownsRow lo 65 9 (.slice (some ⟨gE, 0, none⟩) i c) i ((l.filter (fun e => !deadB t e)).flatMap mpE) ∧ w.grownBy w' (some gE) := by
  have own := hown
  clear hown
  have off_nb := ofs_type own hnb (by decide)
  have en := (owk_sle (by decide) mpE_len own).1
  have HLL := Lib.hid (row_len (by decide) mpE_len own)
  have HCAP := Lib.hid (row_cap own)
  have HKN : Hid (k + 1 ≤ n) := Lib.hid (by have := (List.getElem?_eq_some_iff.1 hx).1; have h_ := HLL.out; omega)
  have HF0 : Hid (l.take k = (l.take (k + 1)).filter (fun e => !deadB t e)) := Lib.hid (by rw [mfilt_skip hx (by show (!_) = _; rw [hg]; rfl)]; exact mfilt_first (fun j e h1 h2 => by show (!_) = _; rw [hN j e h1 h2]; rfl))
  have hn0 : (n : Int) ≤ 1000 := by omega
  have hne : ((k : Int) == -1) = false := beq_eq_false_iff_ne.2 (by omega)
  have k0 : (0 : Int) ≤ k := by omega
  have k1 : (k : Int) < n := by have := HKN.out; omega
  have HN := Lib.hid hn
  have HXI := Lib.hid hx
  have HGI := Lib.hid hg
  have HNI := Lib.hid hN
  have grw := World.grownBy.refl w (some gE)
  clear hn hx hg hN
  have bel := Below.refl lo w
  go_enter Tryz.func93, Tryz.ntmps93
  go_wp2_with fail
  have H1000 := HN.out
  with_reducible refine (idxa_some _ hnb en H1000 HXI.out HGI.out HNI.out).mono ?_
  rintro e w1 ⟨rfl, b1⟩
  replace hnb := blk_u hnb b1
  replace en := en.below b1
  replace own := owk_under own b1
  replace grw := grw.trans (grown_of_below b1)
  replace bel := bel.trans (b1.mono (Nat.le_trans hlo bel.size))
  clear b1
  clear H1000
  go_wp2_with fail
  go_loopg [6, 5] (n - (k + 1)) (fun gk s6 s5 wr => ∃ j : Nat, ∃ i : Nat, ∃ cur : List Mp, gk = n - j ∧ i < j ∧ j ≤ n ∧ Hid (cur.length = n) ∧ Hid (cur.take i = (l.take j).filter (fun e => !deadB t e)) ∧ Hid (cur.drop j = l.drop j) ∧ wr.ownsRow lo 65 9 (.slice (some ⟨gE, 0, none⟩) n c) n (cur.flatMap mpE) ∧ w.grownBy wr (some gE) ∧ s6 = .int .i64 (j : Int) ∧ s5 = .int .i64 (i : Int) ∧ wr.heap[gn]? = some (.cells #[.int .i64 t] 2 (0, 0)) ∧ Sle mpE 9 wr (some ⟨gE, 0, none⟩) (n) (c) (cur) ∧ Below lo w wr)
  case atStart => exact ⟨k + 1, k, l, rfl, Nat.lt_succ_self k, HKN.out, HLL, HF0, Lib.hid rfl, own, grw, by go_num, rfl, hnb, en, bel⟩
  case round =>
    clear own grw hnb en bel
    obtain ⟨j, i, cur, HGK, hij, hjn, HCL, HCT, HCD, own, grw, rfl, rfl, hnb, en, bel⟩ := hrel
    have HGK_ := Lib.hid HGK
    clear HGK
    by_cases h : j < n
    rotate_left
    · obtain rfl : j = n := by omega
      replace h : decide (j < j) = false := decide_eq_false (by omega)
      obtain ⟨q, hq⟩ : ∃ q, i + q = j := ⟨j - i, by omega⟩
      have HQ := Lib.hid hq
      have HQ0 : Hid (0 < q) := Lib.hid (by omega)
      have r38 := fun W => mp_back gE j c i (by omega) (by have := HCAP.out; omega) W
      rw [show j - i = q by omega] at r38
      have r41 := fun W => mp_front gE j c i (by have := HCAP.out; omega) W
      clear hq
      have R38 := r38
      go_wp2_with (first | ((with_reducible show wpList _ _ _ (⟨none, Op.call _, _, _, _, _⟩ :: _) _ _); refine wpList_clear_row rfl (.tmp 38) 74 65 rfl (.agg #[.int .i64 0, .int .i64 0, .int .u8 0, .int .u8 0, .int .u8 0, .int .u8 0, .int .i64 0, .int .i64 0, .int .i64 0]) Tryz.underlying74 mp_zero mp_zs mp_z1 _ HQ.out own HQ0.out _ rfl ?_; intro w90 own_ gw; replace grw := grw.trans gw; clear bel own gw hnb en; have own := own_; clear own_; have R41 := r41))
      try clear R38
      try clear R41
      go_ret
      exact ⟨i, rfl, by rw [← flat_take mpE_len, HCT.out, List.take_of_length_le (Nat.le_of_eq HLL.out)] at own; exact own, grw⟩
    have HX0 := mdrop_head HCD.out
    obtain ⟨e, hx⟩ : ∃ e, l[j]? = some e := ⟨_, List.getElem?_eq_getElem (by have := HLL.out; omega)⟩
    have HXL := Lib.hid hx
    have HX : Hid (cur[j]? = some e) := Lib.hid (HX0.trans hx)
    obtain ⟨xi, hxi⟩ : ∃ xi, cur[i]? = some xi := ⟨_, List.getElem?_eq_getElem (by have := HCL.out; omega)⟩
    have HXI2 := Lib.hid hxi
    have j0 : (0 : Int) ≤ j := by omega
    have j1 : (j : Int) < n := by omega
    have i0_ : (0 : Int) ≤ i := by omega
    have i1_ : (i : Int) < n := by omega
    clear hx HX0 hxi
    rcases hb : deadB t e with _ | _
    rotate_left
    · have HG := Lib.hid hb
      clear hb
      have HKE : Hid ((fun e => !deadB t e) e = false) := Lib.hid (by show (!_) = _; rw [HG.out]; rfl)
      have R25 := Lib.hid (Sle.zrange0 en HX.out 9 [.int .i64 e.pr, .int .i64 e.o, .int .u8 (e.ad.a.toNat : Int), .int .u8 (e.ad.b.toNat : Int), .int .u8 (e.ad.c.toNat : Int), .int .u8 (e.ad.d.toNat : Int), .int .i64 e.i, .int .i64 e.k, .int .i64 e.u] rfl)
      go_wp2_with (first | ((with_reducible show wpList _ _ _ (⟨some 25, _, _, _, _, _⟩ :: _) _ _); refine wpList_load_rng 65 (.tmp 24) rfl (by kernel_rfl) _ _ rfl _ R25.out _ Tryz.underlying65 rfl (by kernel_rfl) ?_) | ((with_reducible show wpList _ _ _ (⟨some 7, _, _, _, _, _⟩ :: _) _ _); refine wpList_new_a rfl 65 rfl #[.int .i64 0, .int .i64 0, .int .u8 0, .int .u8 0, .int .u8 0, .int .u8 0, .int .i64 0, .int .i64 0, .int .i64 0] (by kernel_rfl) ?_; intro g7 w2 ge hh bb; have d_nb_vb := ne_new (hlt hnb) ge; have av_en_vb := en.av_new ge; have ovb := Nat.le_trans (Nat.le_trans hlo bel.size) ge; have off_vb := owk_new own ge; have pv_vb := Nat.le_trans grw.size ge; replace hnb := blk_u hnb bb; replace en := en.below bb; replace own := owk_under own bb; replace grw := grw.trans (grown_of_below bb); replace bel := bel.trans (bb.mono (Nat.le_trans hlo bel.size)); have hvb := hh; clear hh ge bb) | ((with_reducible show wpList _ _ _ (⟨none, Op.store _ (.tmp 7) _, _, _, _, _⟩ :: _) _ _); refine wpList_store_blk rfl 65 (.tmp 7) (.tmp 25) rfl g7 rfl _ rfl _ 65 hvb (by rfl) (by kernel_rfl) (by kernel_rfl) ?_; intro w3 hq gr; replace en := en.away av_en_vb gr; replace hnb := blk_a hnb gr d_nb_vb; replace own := owk_off own off_vb gr; replace grw := gk_new grw pv_vb gr; replace bel := below_grown bel gr ovb (Nat.le_trans hlo bel.size); clear hvb; have hvb := hq; clear hq gr; have R27 := Lib.hid (range_lit hvb 0 9 [.int .i64 e.pr, .int .i64 e.o, .int .u8 (e.ad.a.toNat : Int), .int .u8 (e.ad.b.toNat : Int), .int .u8 (e.ad.c.toNat : Int), .int .u8 (e.ad.d.toNat : Int), .int .i64 e.i, .int .i64 e.k, .int .i64 e.u] rfl)) | ((with_reducible show wpList _ _ _ (⟨some 27, _, _, _, _, _⟩ :: _) _ _); refine wpList_load_rng 65 (.tmp 7) rfl (by kernel_rfl) _ _ rfl _ R27.out _ Tryz.underlying65 rfl (by kernel_rfl) ?_))
      try clear R25
      try clear R27
      with_reducible refine (clf_a e _ hnb).mono ?_
      rintro e w4 ⟨rfl, b4⟩
      replace hnb := blk_u hnb b4
      replace hvb := blk_u hvb b4
      replace en := en.below b4
      replace own := owk_under own b4
      replace grw := grw.trans (grown_of_below b4)
      replace bel := bel.trans (b4.mono (Nat.le_trans hlo bel.size))
      clear b4
      rw [HG.out]
      go_wp2_with fail
      go_roundg (n - (j + 1))
      case measure => have := HGK_.out; omega
      case rel => exact ⟨j + 1, i, cur, rfl, by omega, by omega, HCL, Lib.hid (by rw [mfilt_skip HXL.out HKE.out]; exact HCT.out), Lib.hid (mdrop_more HCD.out), own, grw, by go_num, by go_num, hnb, en, bel⟩
    have HG := Lib.hid hb
    clear hb
    have HKE : Hid ((fun e => !deadB t e) e = true) := Lib.hid (by show (!_) = _; rw [HG.out]; rfl)
    have R25 := Lib.hid (Sle.zrange0 en HX.out 9 [.int .i64 e.pr, .int .i64 e.o, .int .u8 (e.ad.a.toNat : Int), .int .u8 (e.ad.b.toNat : Int), .int .u8 (e.ad.c.toNat : Int), .int .u8 (e.ad.d.toNat : Int), .int .i64 e.i, .int .i64 e.k, .int .i64 e.u] rfl)
    go_wp2_with (first | ((with_reducible show wpList _ _ _ (⟨some 25, _, _, _, _, _⟩ :: _) _ _); refine wpList_load_rng 65 (.tmp 24) rfl (by kernel_rfl) _ _ rfl _ R25.out _ Tryz.underlying65 rfl (by kernel_rfl) ?_) | ((with_reducible show wpList _ _ _ (⟨some 7, _, _, _, _, _⟩ :: _) _ _); refine wpList_new_a rfl 65 rfl #[.int .i64 0, .int .i64 0, .int .u8 0, .int .u8 0, .int .u8 0, .int .u8 0, .int .i64 0, .int .i64 0, .int .i64 0] (by kernel_rfl) ?_; intro g7 w2 ge hh bb; have d_nb_vb := ne_new (hlt hnb) ge; have av_en_vb := en.av_new ge; have ovb := Nat.le_trans (Nat.le_trans hlo bel.size) ge; have off_vb := owk_new own ge; have pv_vb := Nat.le_trans grw.size ge; replace hnb := blk_u hnb bb; replace en := en.below bb; replace own := owk_under own bb; replace grw := grw.trans (grown_of_below bb); replace bel := bel.trans (bb.mono (Nat.le_trans hlo bel.size)); have hvb := hh; clear hh ge bb) | ((with_reducible show wpList _ _ _ (⟨none, Op.store _ (.tmp 7) _, _, _, _, _⟩ :: _) _ _); refine wpList_store_blk rfl 65 (.tmp 7) (.tmp 25) rfl g7 rfl _ rfl _ 65 hvb (by rfl) (by kernel_rfl) (by kernel_rfl) ?_; intro w3 hq gr; replace en := en.away av_en_vb gr; replace hnb := blk_a hnb gr d_nb_vb; replace own := owk_off own off_vb gr; replace grw := gk_new grw pv_vb gr; replace bel := below_grown bel gr ovb (Nat.le_trans hlo bel.size); clear hvb; have hvb := hq; clear hq gr; have R27 := Lib.hid (range_lit hvb 0 9 [.int .i64 e.pr, .int .i64 e.o, .int .u8 (e.ad.a.toNat : Int), .int .u8 (e.ad.b.toNat : Int), .int .u8 (e.ad.c.toNat : Int), .int .u8 (e.ad.d.toNat : Int), .int .i64 e.i, .int .i64 e.k, .int .i64 e.u] rfl)) | ((with_reducible show wpList _ _ _ (⟨some 27, _, _, _, _, _⟩ :: _) _ _); refine wpList_load_rng 65 (.tmp 7) rfl (by kernel_rfl) _ _ rfl _ R27.out _ Tryz.underlying65 rfl (by kernel_rfl) ?_))
    try clear R25
    try clear R27
    with_reducible refine (clf_a e _ hnb).mono ?_
    rintro e w4 ⟨rfl, b4⟩
    replace hnb := blk_u hnb b4
    replace hvb := blk_u hvb b4
    replace en := en.below b4
    replace own := owk_under own b4
    replace grw := grw.trans (grown_of_below b4)
    replace bel := bel.trans (b4.mono (Nat.le_trans hlo bel.size))
    clear b4
    rw [HG.out]
    have R32 := Lib.hid (range_lit hvb 0 9 [.int .i64 e.pr, .int .i64 e.o, .int .u8 (e.ad.a.toNat : Int), .int .u8 (e.ad.b.toNat : Int), .int .u8 (e.ad.c.toNat : Int), .int .u8 (e.ad.d.toNat : Int), .int .i64 e.i, .int .i64 e.k, .int .i64 e.u] rfl)
    go_wp2_with (first | ((with_reducible show wpList _ _ _ (⟨some 32, _, _, _, _, _⟩ :: _) _ _); refine wpList_load_rng 65 (.tmp 7) rfl (by kernel_rfl) _ _ rfl _ R32.out _ Tryz.underlying65 rfl (by kernel_rfl) ?_) | ((with_reducible show wpList _ _ _ (⟨none, Op.store _ (.tmp 33) _, _, _, _, _⟩ :: _) _ _); refine wpList_store_el rfl 65 (.tmp 33) (.tmp 32) rfl gE i 0 xi e rfl [.int .i64 e.pr, .int .i64 e.o, .int .u8 (e.ad.a.toNat : Int), .int .u8 (e.ad.b.toNat : Int), .int .u8 (e.ad.c.toNat : Int), .int .u8 (e.ad.d.toNat : Int), .int .i64 e.i, .int .i64 e.k, .int .i64 e.u] rfl (by decide) mpE_len own HXI2.out (Nat.le_of_ble_eq_true rfl) rfl (by kernel_rfl) (by rfl) ?_; intro w5 own_ gw; replace bel := bel.trans (row_bel gw own (Nat.le_trans hlo bel.size)); replace hnb := blk_own (v := .slice (some ⟨gE, 0, none⟩) n c) hnb gw off_nb; replace hvb := blk_own (v := .slice (some ⟨gE, 0, none⟩) n c) hvb gw off_vb; replace grw := grw.trans gw; clear own; have own := own_; clear own_ gw; replace en := (owk_sle (by decide) mpE_len own).1))
    try clear R32
    go_roundg (n - (j + 1))
    case measure => have := HGK_.out; omega
    case rel => exact ⟨j + 1, i + 1, cur.set i e, rfl, by omega, by omega, Lib.hid (by rw [List.length_set]; exact HCL.out), Lib.hid (by rw [mtake_set_next (by have := HCL.out; omega), mfilt_keep HXL.out HKE.out, HCT.out]), Lib.hid (by rw [mdrop_set_next (by omega)]; exact mdrop_more HCD.out), own, grw, by go_num, by go_num, hnb, en, bel⟩
set_option linter.unusedVariables false in
set_option linter.unusedSimpArgs false in
set_option maxRecDepth 100000 in
set_option maxHeartbeats 16000000 in
theorem dela_none {gn : Nat} {n c : Nat} {A2 : Option Addr} {t : Int} {l : List Mp} (w : World) (hnb : w.heap[gn]? = some (.cells #[.int .i64 t] 2 (0, 0))) (en : Sle mpE 9 w A2 n c l) (hn : n ≤ 1000) (hN : ∀ e ∈ l, deadB t e = false) : Calls Tryz.prog 93 #[.slice A2 n c, .func (.func 92) #[] #[.pointer (some ⟨gn, 0, none⟩)]] w fun e w' => e = .returned (.slice A2 n c) ∧ Below w.heap.size w w' := by
  have bel := Below.refl w.heap.size w
  go_enter Tryz.func93, Tryz.ntmps93
  go_wp2_with fail
  with_reducible refine (idxa_none _ hnb en hn hN).mono ?_
  rintro e w1 ⟨rfl, b1⟩
  replace hnb := blk_u hnb b1
  replace en := en.below b1
  replace bel := bel.trans (b1.mono bel.size)
  clear b1
  go_wp2_with fail
  go_ret
  exact ⟨rfl, bel⟩
theorem dela_any {gn : Nat} {lo n c : Nat} {A2 : Option Addr} {t : Int} {l : List Mp} (w : World) (hlo : lo ≤ w.heap.size) (hnb : w.heap[gn]? = some (.cells #[.int .i64 t] 2 (0, 0))) (hown : w.ownsRow lo 65 9 (.slice A2 n c) n (l.flatMap mpE)) (hn : n ≤ 1000) : Calls Tryz.prog 93 #[.slice A2 n c, .func (.func 92) #[] #[.pointer (some ⟨gn, 0, none⟩)]] w fun e w' => ∃ n3, e = .returned (.slice A2 n3 c) ∧ w'.ownsRow lo 65 9 (.slice A2 n3 c) n3 ((l.filter (fun e => !deadB t e)).flatMap mpE) ∧ w.grownBy w' (Value.ownBlock (.slice A2 n c)) ∧ (∀ q, q < w.heap.size → Ofs (.slice A2 n c) q → Ofs (.slice A2 n3 c) q) := by
  rcases mfirst_of (deadB t) l with h | ⟨k, x, h1, h2, h3⟩
  · refine (dela_none w hnb (owk_sle (by decide) mpE_len hown).1 hn h).mono ?_
    rintro e w' ⟨rfl, bel⟩
    refine ⟨n, rfl, ?_, grown_of_below bel, fun _ _ h => h⟩
    rw [show l.filter (fun e => !deadB t e) = l from List.filter_eq_self.2 (fun e he => by show (!_) = _; rw [h e he]; rfl)]
    exact owk_under hown bel
  · obtain ⟨gE, rfl, _⟩ := row_at hown (by have := (List.getElem?_eq_some_iff.1 h1).1; have h_ := row_len (by decide) mpE_len hown; omega)
    refine (dela_some w hlo hnb hown hn h1 h2 h3).mono ?_
    rintro e w' ⟨i, rfl, h4, h5⟩
    exact ⟨i, rfl, h4, h5, fun _ _ h => h⟩
end Go.Proofs.YtbdaejodbcjmfaaGreat
