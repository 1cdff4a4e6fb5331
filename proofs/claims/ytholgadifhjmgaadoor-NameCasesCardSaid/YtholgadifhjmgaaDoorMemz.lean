/- append(v, make([]byte, k)...) onto a row of the call's own: a fact of no program. -/
import Derived.Test.YtholgadifhjmgaaDoorMem
import Derived.Lib.AppendZerosOnto
import Derived.Lib.Hide
namespace Go.Proofs.YtholgadifhjmgaaDoor
open Go.RowKit

theorem zeroCells_u8 (k : Nat) : Builtin.zeroCells (Value.int .u8 0).cells k = ((List.replicate k (0 : UInt8)).map u8v).toArray := by
  apply Array.ext
  · simp [Builtin.zeroCells, Value.cells]
  · intro j h1 h2
    simp [Builtin.zeroCells, Value.cells, u8v, Nat.mod_one]

theorem run_append_zeros {P : Program} (w : World) (base : Nat) (t tn ty e : TypeId) (i : TypeInfo) (kn : IntKind) (ht : P.underlying t = some (.slice e)) (htn : P.underlying tn = some (.int kn)) (hi : P.info? e = some i) (hz : i.zero = some (.int .u8 0))
    (hsize : i.size = 1) (hby : i.bytes = 1)
    (v : Value) (n : Nat) (l : List UInt8) (hown : w.ownsRow base e 1 v n (l.map u8v)) (k : Nat)
    (h63 : n + k ≤ 140737488355328) (hbase : base ≤ w.heap.size) :
    ∃ v' w', (Builtin.append_ #[t, tn] ty #[v, .int .i64 k]).run P w = .ok v' w' ∧ w'.ownsRow base e 1 v' (n + k) ((l ++ List.replicate k 0).map u8v) ∧ w.grownBy w' v.ownBlock ∧
      (v'.ownBlock = v.ownBlock ∨ v'.ownBlock = some w.heap.size) := by
  have hlen : ((l ++ List.replicate k (0 : UInt8)).map u8v).length = (n + k) * 1 := by
    have := hown.1
    simp at this ⊢
    omega
  have hw : IntKind.i64.wrap (k : Int) = k := by rw [IntKind.wrap_i64]; omega
  have hneg : ¬ ((k : Int) < 0) := by omega
  have h48i : ¬ (281474976710656 < (k : Int)) := by omega
  have grown : ∀ (old : Nat) (row : Option Nat), old < n + k →
      (w.drew.alloc (.cells ((l.map u8v).toArray ++ Builtin.zeroCells (Value.int .u8 0).cells k ++ Builtin.zeroCells (Value.int .u8 0).cells (grownCap w (n + k) old e - (n + k))) e)).ownsRow base e 1
        (.slice (some ⟨w.heap.size, 0, none⟩) (n + k) (grownCap w (n + k) old e)) (n + k) ((l ++ List.replicate k 0).map u8v) ∧
      w.grownBy (w.drew.alloc (.cells ((l.map u8v).toArray ++ Builtin.zeroCells (Value.int .u8 0).cells k ++ Builtin.zeroCells (Value.int .u8 0).cells (grownCap w (n + k) old e - (n + k))) e)) row := by
    intro old row ho
    have hge := grownCap_ge w (n + k) old e
    have hcm : grownCap w (n + k) old e ≤ maxLen := grownCap_le_maxLen w (n + k) old e (by unfold maxLen; omega)
    refine ⟨⟨hlen, .inr ⟨w.heap.size, _, _, rfl, hbase, heap_alloc_new w.drew _, hge, hcm, ?_, ?_⟩⟩, ⟨rfl, rfl, rfl, by simp, fun j hj _ => Go.heap_alloc_old w.drew _ hj⟩⟩
    · have := hown.1
      simp [size_zeroCells, Value.cells] at this ⊢
      omega
    · rw [zeroCells_u8 k]
      simp only [Array.toList_append]
      rw [show (l.map u8v).toArray.toList ++ ((List.replicate k (0 : UInt8)).map u8v).toArray.toList = (l ++ List.replicate k 0).map u8v by simp]
      rw [← hlen]
      exact List.take_left
  rcases hown.2 with ⟨rfl, rfl⟩ | ⟨g, cap, cur, rfl, hbg, hg, hnc, hcm, hcs, htake⟩
  · have hx : l = [] := by simpa using hown.1
    subst hx
    by_cases hk : k = 0
    · subst hk
      refine ⟨.slice none 0 0, w, ?_, World.ownsRow_nil w base e 1, ⟨rfl, rfl, rfl, Nat.le_refl _, fun _ _ _ => rfl⟩, .inl rfl⟩
      simp [Builtin.append_, run_underlying ht, run_underlying htn, sizeOf, typeInfo, hi, asInt, asIntOf, IntKind.wrap_i64]
    · have hr := Lib.run_append_nil_zeros (P := P) w t tn ty e i (.int .u8 0) .i64 kn ht htn hi hz k (by omega) (by omega) (by omega) (by rw [hby]; omega)
      have hgr := grown 0 (Value.ownBlock (.slice none 0 0)) (by omega)
      simp only [Nat.zero_add, List.nil_append, List.map_nil, Array.empty_append] at hgr ⊢
      exact ⟨_, _, hr, hgr.1, hgr.2, .inr rfl⟩
  · by_cases hroom : n + k ≤ cap
    · have hfit : n + k ≤ cur.size := by rw [hcs]; omega
      have hst := run_storeCells_at P g n e ((List.replicate k (0 : UInt8)).map u8v) 0 cur w hg (by simpa using hfit) (oneCell_u8 _)
      simp only [Nat.add_zero] at hst
      have hr : (Builtin.append_ #[t, tn] ty #[.slice (some ⟨g, 0, none⟩) n cap, .int .i64 k]).run P w = .ok (.slice (some ⟨g, 0, none⟩) (n + k) cap)
          (w.setRow g (cur.toList.take n ++ (List.replicate k (0 : UInt8)).map u8v ++ cur.toList.drop (n + ((List.replicate k (0 : UInt8)).map u8v).length)).toArray) := by
        have hz0 : Builtin.zeroCells (Value.int .u8 0).cells k = ((List.replicate k (0 : UInt8)).map u8v).toArray := zeroCells_u8 k
        have hZl : ((List.replicate k (0 : UInt8)).map u8v).length = k := by simp
        generalize (List.replicate k (0 : UInt8)).map u8v = Z at *
        by_cases hk : k = 0
        · subst hk
          obtain rfl := List.eq_nil_of_length_eq_zero hZl
          have hw0 : IntKind.i64.wrap 0 = 0 := by rw [IntKind.wrap_i64]; omega
          have hnc' : ¬ cap < n := by omega
          simp only [List.append_nil, List.length_nil, Nat.add_zero, List.take_append_drop, Array.toArray_toList] at hst ⊢
          simp [Builtin.append_, run_underlying ht, run_underlying htn, sizeOf, typeInfo, hi, asInt, asIntOf, hw0, hsize, hnc, Addr.add_lit, hst]
        · simp [Builtin.append_, run_underlying ht, run_underlying htn, sizeOf, typeInfo, zeroValue, hi, hz, asInt, asIntOf, hw, hneg, h48i, hsize, hby, hroom, hk, hz0, Addr.add_lit, hst]
      refine ⟨_, _, hr, ⟨hlen, .inr ⟨g, cap, _, rfl, hbg, setRow_heap w g cur _ e _ hg, hroom, hcm, ?_, ?_⟩⟩, ⟨rfl, rfl, rfl, by simp, fun k _ hk => setRow_other w g k _ (fun e => hk (by simp [Value.ownBlock, e]))⟩, .inl rfl⟩
      · have := hown.1
        simp at this ⊢
        omega
      · have ht1 : cur.toList.take n = l.map u8v := by simpa using htake
        rw [ht1, ← List.map_append, ← hlen]
        exact List.take_left
    · have holds : ∀ j u, (l.map u8v)[j]? = some u → w.cell? ((⟨g, 0, none⟩ : Addr).add j) = some u := hown.cells (g := g) rfl
      have hf := run_firstCells_some (P := P) w.drew i.size n ⟨g, 0, none⟩ n cap (l.map u8v) (by rw [hsize]; exact hown.1) holds
      have hr := Lib.run_append_grow_zeros (P := P) w t tn ty e i (.int .u8 0) .i64 kn ht htn hi hz (some ⟨g, 0, none⟩) n cap _ hf k (by omega) (by omega) (by omega) (by omega) (by rw [hby]; omega) (growslice_fits (by omega) (by rw [hby]; omega))
      have hgr := grown cap (Value.ownBlock (.slice (some ⟨g, 0, none⟩) n cap)) (by omega)
      exact ⟨_, _, hr, hgr.1, hgr.2, .inr rfl⟩

/-- An operation under a guard that holds. -/
theorem wpList_wanted {P : Program} {ops : Array Oper} {Q : Exit → Act → World → Prop} {a : Act} {w : World} {rest : List Oper} {o : Oper} (hw : Region.wanted o (yielded ops a.tmps) = true)
    (h : ∀ K : Act → World → Prop, (∀ a w, wpList P ops Q rest a w → K a w) → o.wp P a w K Q) : wpList P ops Q (o :: rest) a w :=
  wpList_step fun K hK => by rw [if_pos hw]; exact h K hK

/-- append of bytes onto a row of the call's own, under a guard that holds. -/
theorem wpList_append_bytes_if {P : Program} (w : World) {ops : Array Oper} {rest : List Oper} {o : Oper} {a : Act} {Q : Exit → Act → World → Prop} (hgd : Region.wanted o (yielded ops a.tmps) = true) (s x : Operand) (t : TypeId)
    (ho : o.op = .call { callee := .builtin .append, args := #[s, x], argTypes := #[t, t] })
    (base : Nat) (e : TypeId) (i : TypeInfo) (z : Value) (ht : P.underlying t = some (.slice e)) (hi : P.info? e = some i) (hz : i.zero = some z)
    (hsize : i.size = 1) (hby : i.bytes = 1) (hzs : z.cells.size = 1)
    (v : Value) (n : Nat) (l : List UInt8) (hs : a.eval s = v) (hown : w.ownsRow base e 1 v n (l.map u8v))
    (A : Option Addr) (m c : Nat) (l2 : List UInt8) (hx : a.eval x = .slice A m c) (hr : Sl w A m c l2)
    (h63 : n + m ≤ 140737488355328) (hbase : base ≤ w.heap.size)
    (h : ∀ v' w', w'.ownsRow base e 1 v' (n + m) ((l ++ l2).map u8v) → w.grownBy w' v.ownBlock → (v'.ownBlock = v.ownBlock ∨ v'.ownBlock = some w.heap.size) → wpList P ops Q rest (a.put o.dst v') w') :
    wpList P ops Q (o :: rest) a w := by
  refine wpList_wanted hgd fun K hK => ?_
  obtain ⟨v', w', hr, h2, h3, h5⟩ := run_append_bytes (P := P) w base t o.type e i z ht hi hz hsize hby hzs v n l hown A m c l2 hr h63 hbase
  unfold Oper.wp execOp
  simp only [ho, resolve, invoke, builtin, Sem.run_bind, Sem.run_pure, Result.andThen_ok, List.map_toArray, List.map_cons, List.map_nil, hs, hx, hr]
  exact hK _ _ (h v' w' h2 h3 h5)

/-- append of noughts, under a guard that holds (or none). -/
theorem wpList_append_zeros_if {P : Program} (w : World) {ops : Array Oper} {rest : List Oper} {o : Oper} {a : Act} {Q : Exit → Act → World → Prop} (hgd : Region.wanted o (yielded ops a.tmps) = true) (s x : Operand) (t tn : TypeId)
    (ho : o.op = .call { callee := .builtin .append, args := #[s, x], argTypes := #[t, tn] })
    (base : Nat) (e : TypeId) (i : TypeInfo) (kn : IntKind) (ht : P.underlying t = some (.slice e)) (htn : P.underlying tn = some (.int kn)) (hi : P.info? e = some i) (hz : i.zero = some (.int .u8 0))
    (hsize : i.size = 1) (hby : i.bytes = 1)
    (v : Value) (n : Nat) (l : List UInt8) (hs : a.eval s = v) (hown : w.ownsRow base e 1 v n (l.map u8v))
    (k : Nat) (hx : a.eval x = .int .i64 k)
    (h63 : n + k ≤ 140737488355328) (hbase : base ≤ w.heap.size)
    (h : ∀ v' w', w'.ownsRow base e 1 v' (n + k) ((l ++ List.replicate k 0).map u8v) → w.grownBy w' v.ownBlock → (v'.ownBlock = v.ownBlock ∨ v'.ownBlock = some w.heap.size) → wpList P ops Q rest (a.put o.dst v') w') :
    wpList P ops Q (o :: rest) a w := by
  refine wpList_wanted hgd fun K hK => ?_
  obtain ⟨v', w', hr, h2, h3, h5⟩ := run_append_zeros (P := P) w base t tn o.type e i kn ht htn hi hz hsize hby v n l hown k h63 hbase
  unfold Oper.wp execOp
  simp only [ho, resolve, invoke, builtin, Sem.run_bind, Sem.run_pure, Result.andThen_ok, List.map_toArray, List.map_cons, List.map_nil, hs, hx, hr]
  exact hK _ _ (h v' w' h2 h3 h5)


/-- A block of the call's own whose first bytes read as l. -/
def Ow (T : TypeId) (w : World) (g c : Nat) (l : List UInt8) : Prop :=
  l.length ≤ c ∧ c ≤ maxLen ∧ ∃ cur : Array Value, w.heap[g]? = some (.cells cur T (0, 0)) ∧ ∀ (j : Nat) (b : UInt8), l[j]? = some b → cur[j]? = some (u8v b)
theorem Ow.of_own {T : TypeId} {w : World} {base : Nat} {v : Value} {l : List UInt8} {n : Nat} (h : w.ownsRow base T 1 v n (l.map u8v)) (hn : 0 < n) :
    ∃ g c, v = .slice (some ⟨g, 0, none⟩) n c ∧ Ow T w g c l ∧ base ≤ g ∧ n = l.length := by
  have hl : l.length = n := by simpa using h.1
  rcases h.2 with ⟨rfl, rfl⟩ | ⟨g, cap, cur, rfl, hb, hh, hnc, hm, hs, ht⟩
  · omega
  · refine ⟨g, cap, rfl, ⟨by rw [hl]; exact hnc, hm, cur, hh, fun j b hj => ?_⟩, hb, hl.symm⟩
    have hjl : j < l.length := (List.getElem?_eq_some_iff.1 hj).1
    have e1 : (cur.toList.take (n * 1))[j]? = some (u8v b) := by rw [ht]; simp [hj]
    rw [List.getElem?_take] at e1
    split at e1
    · simpa using e1
    · cases e1
theorem Ow.lt {T : TypeId} {w : World} {g c : Nat} {l : List UInt8} (h : Ow T w g c l) : g < w.heap.size := by
  obtain ⟨_, _, cur, hh, _⟩ := h
  exact (Array.getElem?_eq_some_iff.1 hh).1
theorem Ow.sl {T : TypeId} {w : World} {g c : Nat} {l : List UInt8} (h : Ow T w g c l) : Sl w (some ⟨g, 0, none⟩) l.length c l := by
  obtain ⟨h1, h2, cur, hh, hc⟩ := h
  refine ⟨rfl, h1, h2, fun _ => ⟨g, 0, rfl, fun j b hj => ?_⟩⟩
  have := hc j b hj
  simp [World.cell?, hh, this]
theorem Ow.cell {T : TypeId} {w : World} {g c : Nat} {l : List UInt8} (h : Ow T w g c l) (j : Nat) (hj : j < l.length) : w.cell? ⟨g, j, none⟩ = some (.int .u8 (l[j].toNat : Int)) ∧ w.frozen? ⟨g, j, none⟩ = false := by
  obtain ⟨h1, h2, cur, hh, hc⟩ := h
  have := hc j _ (List.getElem?_eq_getElem hj)
  exact ⟨by simp [World.cell?, hh, this, u8v], by simp [World.frozen?, hh]⟩
theorem Ow.at_ {T : TypeId} {w : World} {g c : Nat} {l : List UInt8} (h : Ow T w g c l) (j : Nat) (hj : j < l.length) : ∃ x : UInt8, Hid (l[j]? = some x) ∧ w.cell? ⟨g, j, none⟩ = some (.int .u8 (x.toNat : Int)) ∧ w.frozen? ⟨g, j, none⟩ = false :=
  ⟨l[j], Lib.hid (List.getElem?_eq_getElem hj), h.cell j hj⟩
theorem Ow.set {T : TypeId} {w : World} {g c : Nat} {l : List UInt8} (h : Ow T w g c l) (j : Nat) (b : UInt8) : Ow T (w.setCell ⟨g, j, none⟩ (u8v b)) g c (l.set j b) := by
  obtain ⟨h1, h2, cur, hh, hc⟩ := h
  refine ⟨by simpa using h1, h2, cur.setIfInBounds j (u8v b), by simp [World.setCell, Array.getElem?_modify, hh], fun i x hi => ?_⟩
  rw [List.getElem?_set] at hi
  rw [Array.getElem?_setIfInBounds]
  by_cases hij : j = i
  · subst hij
    rw [if_pos rfl] at hi ⊢
    split at hi
    · rename_i hjl
      have hj := hc j _ (List.getElem?_eq_getElem hjl)
      have hjs : j < cur.size := (Array.getElem?_eq_some_iff.1 hj).1
      simp at hi
      rw [if_pos hjs, hi]
    · cases hi
  · rw [if_neg hij] at hi ⊢
    exact hc i x hi
theorem Ow.below {T : TypeId} {w w' : World} {g c : Nat} {l : List UInt8} (h : Ow T w g c l) (hb : Below w.heap.size w w') : Ow T w' g c l := by
  have hlt := h.lt
  obtain ⟨h1, h2, cur, hh, hc⟩ := h
  exact ⟨h1, h2, cur, (hb.block g hlt).trans hh, hc⟩


/-- append of bytes as one step of a region that draws its order ('rw [if_pos (by rfl)]' ahead of it). -/
theorem wp_append_bytes {P : Program} {o : Oper} {a : Act} {w : World} {K : Act → World → Prop} {Q : Exit → Act → World → Prop} (s x : Operand) (t : TypeId)
    (ho : o.op = .call { callee := .builtin .append, args := #[s, x], argTypes := #[t, t] })
    (base : Nat) (e : TypeId) (i : TypeInfo) (z : Value) (ht : P.underlying t = some (.slice e)) (hi : P.info? e = some i) (hz : i.zero = some z)
    (hsize : i.size = 1) (hby : i.bytes = 1) (hzs : z.cells.size = 1)
    (v : Value) (n : Nat) (l : List UInt8) (hs : a.eval s = v) (hown : w.ownsRow base e 1 v n (l.map u8v))
    (A : Option Addr) (m c : Nat) (l2 : List UInt8) (hx : a.eval x = .slice A m c) (hr : Sl w A m c l2)
    (h63 : n + m ≤ 140737488355328) (hbase : base ≤ w.heap.size)
    (h : ∀ v' w', w'.ownsRow base e 1 v' (n + m) ((l ++ l2).map u8v) → w.grownBy w' v.ownBlock → (v'.ownBlock = v.ownBlock ∨ v'.ownBlock = some w.heap.size) → K (a.put o.dst v') w') :
    Oper.wp P o a w K Q := by
  obtain ⟨v', w', hr, h2, h3, h5⟩ := run_append_bytes (P := P) w base t o.type e i z ht hi hz hsize hby hzs v n l hown A m c l2 hr h63 hbase
  unfold Oper.wp execOp
  simp only [ho, resolve, invoke, builtin, Sem.run_bind, Sem.run_pure, Result.andThen_ok, List.map_toArray, List.map_cons, List.map_nil, hs, hx, hr]
  exact h v' w' h2 h3 h5

/-- What follows an append of the call's own: still below, and whose block it is. -/
theorem own_grown {B : Nat} {w0 w w' : World} {v v' : Value} (bel : Below B w0 w) (hB : B ≤ w.heap.size) (hv : ∀ k, v.ownBlock = some k → B ≤ k) (hg : w.grownBy w' v.ownBlock) (hat : v'.ownBlock = v.ownBlock ∨ v'.ownBlock = some w.heap.size) :
    Below B w0 w' ∧ B ≤ w'.heap.size ∧ ∀ k, v'.ownBlock = some k → B ≤ k := by
  refine ⟨bel.grown hg hB hv, Nat.le_trans hB hg.size, fun k hk => ?_⟩
  rcases hat with h | h
  · rw [h] at hk; exact hv k hk
  · rw [h] at hk; simp at hk; omega


/-- A block of four cells, cell by cell. -/
theorem cells4 {w : World} {k : Nat} {a b c d : Value} {T : TypeId} (h : w.heap[k]? = some (.cells #[a, b, c, d] T (0, 0))) :
    (w.cell? ⟨k, 0, none⟩ = some a ∧ w.cell? ⟨k, 1, none⟩ = some b ∧ w.cell? ⟨k, 2, none⟩ = some c ∧ w.cell? ⟨k, 3, none⟩ = some d) ∧
    (w.frozen? ⟨k, 0, none⟩ = false ∧ w.frozen? ⟨k, 1, none⟩ = false ∧ w.frozen? ⟨k, 2, none⟩ = false ∧ w.frozen? ⟨k, 3, none⟩ = false) := by
  simp [World.cell?, World.frozen?, h]

theorem put4 {w : World} {k : Nat} {a b c d x y z u : Value} {T : TypeId} (h : w.heap[k]? = some (.cells #[a, b, c, d] T (0, 0))) :
    ((((w.setCell ⟨k, 0, none⟩ x).setCell ⟨k, 1, none⟩ y).setCell ⟨k, 2, none⟩ z).setCell ⟨k, 3, none⟩ u).heap[k]? = some (.cells #[x, y, z, u] T (0, 0)) := by
  simp [World.setCell, Array.getElem?_modify, h]

end Go.Proofs.YtholgadifhjmgaaDoor
