/- Slices of any elements: what a slice reads as, element by element ('f x': the cells of element x, k of them). Laws of no program. -/
import Derived.Test.YtholgadifhjmgaaDoorVap
namespace Go.Proofs.YtholgadifhjmgaaDoor
open Go.RowKit

def Sle {α : Type} (f : α → List Value) (k : Nat) (w : World) (A : Option Addr) (n c : Nat) (l : List α) : Prop :=
  l.length = n ∧ n ≤ c ∧ c ≤ maxLen ∧ (0 < n → ∃ g o, A = some ⟨g, o, none⟩ ∧ ∀ j v, (l.flatMap f)[j]? = some v → w.cell? ⟨g, o + j, none⟩ = some v) ∧ 0 < k ∧ ∀ x, (f x).length = k
section
variable {α : Type} {f : α → List Value} {k : Nat} {w w' : World} {A : Option Addr} {n c : Nat} {l : List α}
theorem flat_len (hf : ∀ x, (f x).length = k) (l : List α) : (l.flatMap f).length = l.length * k := by
  induction l with
  | nil => simp
  | cons x l ih => rw [List.flatMap_cons, List.length_append, ih, hf, List.length_cons, Nat.succ_mul]; omega
theorem flat_at (hf : ∀ x, (f x).length = k) : ∀ (l : List α) (i j : Nat) (x : α), l[i]? = some x → j < k → (l.flatMap f)[i * k + j]? = (f x)[j]?
  | [], i, j, x, h, _ => by simp at h
  | y :: l, 0, j, x, h, hj => by
    obtain rfl : y = x := by simpa using h
    rw [List.flatMap_cons, List.getElem?_append_left (by rw [hf]; omega), Nat.zero_mul, Nat.zero_add]
  | y :: l, i + 1, j, x, h, hj => by
    rw [List.flatMap_cons, List.getElem?_append_right (by rw [hf, Nat.succ_mul]; omega), hf, show (i + 1) * k + j - k = i * k + j by rw [Nat.succ_mul]; omega]
    exact flat_at hf l i j x (by simpa using h) hj
theorem Sle.nil (hk : 0 < k) (hf : ∀ x, (f x).length = k) (w : World) : Sle f k w none 0 0 [] := ⟨rfl, Nat.le_refl _, Nat.zero_le _, fun h => absurd h (by omega), hk, hf⟩
theorem Sle.keep (h : Sle f k w A n c l) (hk : ∀ g o v, w.cell? ⟨g, o, none⟩ = some v → A = some ⟨g, o, none⟩ ∨ True → (∃ o', A = some ⟨g, o', none⟩) → w'.cell? ⟨g, o, none⟩ = some v) : Sle f k w' A n c l :=
  ⟨h.1, h.2.1, h.2.2.1, fun hn => by
    obtain ⟨g, o, e, hc⟩ := h.2.2.2.1 hn
    exact ⟨g, o, e, fun j b hj => hk _ _ _ (hc j b hj) (.inr trivial) ⟨o, e⟩⟩, h.2.2.2.2⟩
theorem Sle.below (h : Sle f k w A n c l) (hb : Below w.heap.size w w') : Sle f k w' A n c l :=
  h.keep fun _ _ _ hc _ _ => (hb.cell (cell_lt hc)).trans hc
theorem Sle.drew (h : Sle f k w A n c l) : Sle f k w.drew A n c l := h.keep fun _ _ _ hc _ _ => hc
theorem Sle.away {g : Nat} (h : Sle f k w A n c l) (v : Av A n g) (hg : w.grownBy w' (some g)) : Sle f k w' A n c l := by
  refine ⟨h.1, h.2.1, h.2.2.1, fun hn => ?_, h.2.2.2.2⟩
  obtain ⟨a, o, e, hc⟩ := h.2.2.2.1 hn
  have hne := v hn a o none e
  exact ⟨a, o, e, fun j b hj => (World.cell?_of_block (w := w) (hg.block a (cell_lt (hc j b hj)) (fun e2 => hne (by injection e2)))).trans (hc j b hj)⟩
theorem Sle.under {lo : Nat} (h : Sle f k w A n c l) (v : Bl A n lo) (hb : Below lo w w') : Sle f k w' A n c l := by
  refine ⟨h.1, h.2.1, h.2.2.1, fun hn => ?_, h.2.2.2.2⟩
  obtain ⟨a, o, e, hc⟩ := h.2.2.2.1 hn
  exact ⟨a, o, e, fun j b hj => (hb.cell (p := ⟨a, o + j, none⟩) (v hn a o none e)).trans (hc j b hj)⟩
theorem Sle.pos (h : Sle f k w A n c l) (hn : 0 < n) : ∃ v, (l.flatMap f)[0]? = some v := by
  have hl := flat_len h.2.2.2.2.2 l
  have : 0 < (l.flatMap f).length := by rw [hl, h.1]; exact Nat.mul_pos hn h.2.2.2.2.1
  exact ⟨_, List.getElem?_eq_getElem this⟩
theorem Sle.at0 (h : Sle f k w A n c l) (hn : 0 < n) {a o : Nat} {p : Option Nat} (e : A = some ⟨a, o, p⟩) : a < w.heap.size := by
  obtain ⟨a', o', e', hc⟩ := h.2.2.2.1 hn
  rw [e] at e'
  injection e' with e'
  injection e' with e1 e2
  subst e1
  obtain ⟨v, hv⟩ := h.pos hn
  exact cell_lt (hc 0 v hv)
theorem Sle.av_new {g : Nat} (h : Sle f k w A n c l) (hg : w.heap.size ≤ g) : Av A n g := fun hn _ _ _ e => Nat.ne_of_lt (Nat.lt_of_lt_of_le (h.at0 hn e) hg)
theorem Sle.bl_new (h : Sle f k w A n c l) : Bl A n w.heap.size := fun hn _ _ _ e => h.at0 hn e
theorem Sle.place (h : Sle f k w A n c l) (hn : 0 < n) : ∃ g o, A = some ⟨g, o, none⟩ := by
  obtain ⟨g, o, e, _⟩ := h.2.2.2.1 hn
  exact ⟨g, o, e⟩
/-- A cell of an element. -/
theorem Sle.cell {g o i j : Nat} {x : α} {v : Value} (h : Sle f k w (some ⟨g, o, none⟩) n c l) (hx : l[i]? = some x) (hv : (f x)[j]? = some v) : w.cell? ⟨g, o + (i * k + j), none⟩ = some v := by
  obtain ⟨_, _, _, h4, h5, h6⟩ := h
  have hi : i < l.length := (List.getElem?_eq_some_iff.1 hx).1
  have hj : j < k := by rw [← h6 x]; exact (List.getElem?_eq_some_iff.1 hv).1
  obtain ⟨g', o', e, hc⟩ := h4 (by omega)
  injection e with e
  injection e with e1 e2
  subst e1
  subst e2
  exact hc _ _ ((flat_at h6 l i j x hx hj).trans hv)
/-- Pieces. -/
theorem Sle.take {m : Nat} (h : Sle f k w A n c l) (hm : m ≤ n) : Sle f k w A m c (l.take m) := by
  obtain ⟨h1, h2, h3, h4, h5, h6⟩ := h
  refine ⟨by rw [List.length_take]; omega, by omega, h3, fun hn => ?_, h5, h6⟩
  obtain ⟨g, o, e, hc⟩ := h4 (by omega)
  refine ⟨g, o, e, fun j b hj => hc j b ?_⟩
  have e2 : l.flatMap f = (l.take m).flatMap f ++ (l.drop m).flatMap f := by rw [← List.flatMap_append, List.take_append_drop]
  rw [e2, List.getElem?_append_left (List.getElem?_eq_some_iff.1 hj).1]
  exact hj
/-- A new block of elements. -/
theorem sle_lit {g : Nat} {T : TypeId} {fr : Nat × Nat} (l : List α) (hk : 0 < k) (hf : ∀ x, (f x).length = k) (h : w.heap[g]? = some (.cells (l.flatMap f).toArray T fr)) (hn : l.length = n) (hm : n ≤ maxLen) : Sle f k w (some ⟨g, 0, none⟩) n n l :=
  ⟨hn, Nat.le_refl _, hm, fun _ => ⟨_, _, rfl, fun j b hj => by simp only [World.cell?, h]; simpa using hj⟩, hk, hf⟩
theorem owk_lit {B g : Nat} {T : TypeId} (l : List α) (hf : ∀ x, (f x).length = k) (h : w.heap[g]? = some (.cells (l.flatMap f).toArray T (0, 0))) (hB : B ≤ g) (n : Nat) (hn : l.length = n) (hm : n ≤ maxLen) : w.ownsRow B T k (.slice (some ⟨g, 0, none⟩) n n) n (l.flatMap f) := by
  subst hn
  exact ⟨flat_len hf l, .inr ⟨g, _, _, rfl, hB, h, Nat.le_refl _, hm, by simp [flat_len hf], by simpa using List.take_of_length_le (Nat.le_of_eq (flat_len hf l))⟩⟩
/-- What is owned. -/
theorem owk_sle {B : Nat} {T : TypeId} {m : Nat} (hk : 0 < k) (hf : ∀ x, (f x).length = k) (h : w.ownsRow B T k (.slice A m c) n (l.flatMap f)) : Sle f k w A n c l ∧ Fr B A n := by
  have hl : l.length = n := by
    have h1 := h.1
    rw [flat_len hf] at h1
    exact Nat.eq_of_mul_eq_mul_right hk h1
  rcases h.2 with ⟨e, rfl⟩ | ⟨g, cap, cur, e, hb, hh, hn, hm, hs, ht⟩
  · injection e with e1 e2 e3
    subst e1
    subst e3
    exact ⟨⟨hl, Nat.le_refl _, Nat.zero_le _, fun h => absurd h (by omega), hk, hf⟩, fun h => absurd h (by omega)⟩
  · injection e with e1 e2 e3
    subst e1
    subst e3
    refine ⟨⟨hl, hn, hm, fun _ => ⟨g, 0, rfl, fun j b hj => ?_⟩, hk, hf⟩, fun _ => ⟨g, 0, rfl, hb⟩⟩
    have e1 : cur.toList[j]? = some b := by
      have : (cur.toList.take (n * k))[j]? = some b := by rw [ht]; exact hj
      rw [List.getElem?_take] at this
      split at this
      · exact this
      · cases this
    simp only [World.cell?, hh]
    simpa using e1
theorem owk_val {B : Nat} {T : TypeId} {v : Value} {xs : List Value} (h : w.ownsRow B T k v n xs) : ∃ A c, v = .slice A n c := by
  rcases h.2 with ⟨e, rfl⟩ | ⟨g, cap, cur, e, _⟩
  · exact ⟨none, 0, e⟩
  · exact ⟨_, _, e⟩
theorem owk_under {B : Nat} {e : TypeId} {v : Value} {xs : List Value} (h : w.ownsRow B e k v n xs) (hb : Below w.heap.size w w') : w'.ownsRow B e k v n xs := by
  refine ⟨h.1, ?_⟩
  rcases h.2 with h | ⟨g, cap, cur, e, hg, hh, h⟩
  · exact .inl h
  · exact .inr ⟨g, cap, cur, e, hg, (hb.block g (Array.getElem?_eq_some_iff.1 hh).1).trans hh, h⟩
theorem owk_away {B q : Nat} {e : TypeId} {v : Value} {xs : List Value} (h : w.ownsRow B e k v n xs) (hq : q < B) (hg : w.grownBy w' (some q)) : w'.ownsRow B e k v n xs := by
  refine ⟨h.1, ?_⟩
  rcases h.2 with h | ⟨g, cap, cur, e, hb, hh, h⟩
  · exact .inl h
  · exact .inr ⟨g, cap, cur, e, hb, (hg.block g (Array.getElem?_eq_some_iff.1 hh).1 (fun e2 => by injection e2; omega)).trans hh, h⟩
theorem owk_off {B q : Nat} {e : TypeId} {v : Value} {xs : List Value} (h : w.ownsRow B e k v n xs) (hv : Ofs v q) (hg : w.grownBy w' (some q)) : w'.ownsRow B e k v n xs := by
  refine ⟨h.1, ?_⟩
  rcases h.2 with h | ⟨g, cap, cur, e, hb, hh, h⟩
  · exact .inl h
  · have hne := hv g (by rw [e]; rfl)
    exact .inr ⟨g, cap, cur, e, hb, (hg.block g (Array.getElem?_eq_some_iff.1 hh).1 (fun e2 => hne (by injection e2))).trans hh, h⟩
theorem owk_new {B q : Nat} {e : TypeId} {v : Value} {xs : List Value} (h : w.ownsRow B e k v n xs) (hq : w.heap.size ≤ q) : Ofs v q := fun g hg => by
  rcases h.2 with ⟨h, _⟩ | ⟨g', cap, cur, e, hb, hh, h⟩
  · rw [h] at hg; simp [Value.ownBlock] at hg
  · have hl := (Array.getElem?_eq_some_iff.1 hh).1
    rw [e] at hg
    simp only [Value.ownBlock, Option.some.injEq] at hg
    omega
theorem owk_nil (B : Nat) (T : TypeId) (w : World) : w.ownsRow B T k (.slice none 0 0) 0 (([] : List α).flatMap f) := World.ownsRow_nil _ _ _ _
theorem Sle.cells (h : Sle f k w A n c l) : ∀ ad, A = some ad → ∀ j u, (l.flatMap f)[j]? = some u → w.cell? (ad.add j) = some u := by
  intro ad hA j u hu
  have hj := (List.getElem?_eq_some_iff.1 hu).1
  rw [flat_len h.2.2.2.2.2, h.1] at hj
  have hn : 0 < n := by
    rcases Nat.eq_zero_or_pos n with h0 | h0
    · subst h0; omega
    · exact h0
  obtain ⟨g, o, e, hc⟩ := h.2.2.2.1 hn
  rw [hA] at e
  obtain rfl := Option.some.inj e
  rw [Addr.add_lit]
  exact hc j u hu
end
/-- Texts as elements. -/
def stf (l : List UInt8) : List Value := [.string ⟨l.toArray⟩]
theorem stf_len (x : List UInt8) : (stf x).length = 1 := rfl
theorem stf_one (x : List UInt8) : ∀ u ∈ stf x, u.oneCell' = true := by
  intro u hu
  obtain rfl : u = .string ⟨x.toArray⟩ := by simpa [stf] using hu
  rfl
theorem stf_flat (ls : List (List UInt8)) : ls.flatMap stf = ls.map fun l => .string ⟨l.toArray⟩ := by
  induction ls with
  | nil => rfl
  | cons x l ih => rw [List.flatMap_cons, ih]; rfl
/-- append onto a row of the call's own, whatever the source. -/
theorem run_append_sle {P : Program} {α : Type} {f : α → List Value} {k : Nat} (w : World) (base : Nat) (t ty e : TypeId) (i : TypeInfo) (z : Value) (bytes : Nat) (ht : P.underlying t = some (.slice e)) (hi : P.info? e = some i) (hz : i.zero = some z)
    (hsize : i.size = k) (hby : i.bytes = bytes) (hzs : z.cells.size = k) (h1 : ∀ x, ∀ u ∈ f x, u.oneCell' = true)
    (v : Value) (n : Nat) (l : List α) (hown : w.ownsRow base e k v n (l.flatMap f))
    (A : Option Addr) (m c : Nat) (l2 : List α) (hr : Sle f k w A m c l2)
    (h63 : n + m ≤ maxLen) (hb47 : (n + m) * bytes ≤ 140737488355328) (hbase : base ≤ w.heap.size) :
    ∃ v' w', (Builtin.append_ #[t, t] ty #[v, .slice A m c]).run P w = .ok v' w' ∧ w'.ownsRow base e k v' (n + m) ((l ++ l2).flatMap f) ∧ w.grownBy w' v.ownBlock ∧
      (v'.ownBlock = v.ownBlock ∨ v'.ownBlock = some w.heap.size) := by
  have hlen : (l2.flatMap f).length = m * k := by rw [flat_len hr.2.2.2.2.2, hr.1]
  rw [List.flatMap_append]
  rcases A with _ | ad
  · have hm : m = 0 := by
      rcases Nat.eq_zero_or_pos m with h0 | h0
      · exact h0
      · obtain ⟨g, o, h, _⟩ := hr.2.2.2.1 h0
        cases h
    subst hm
    have hn : l2 = [] := List.eq_nil_of_length_eq_zero hr.1
    subst hn
    refine ⟨v, w, ?_, by simpa using hown, World.grownBy.refl w _, .inl rfl⟩
    rcases hown.2 with ⟨rfl, rfl⟩ | ⟨g, cap, cur, rfl, _, _, hnc, _⟩
    · simp [Builtin.append_, run_underlying ht, sizeOf, typeInfo, hi, Builtin.lenOf, Builtin.firstCells]
    · simp [Builtin.append_, run_underlying ht, sizeOf, typeInfo, hi, Builtin.lenOf, Builtin.firstCells, hnc, storeCells]
  · obtain ⟨v', w', h1, h2, h3, _, h5⟩ := run_append_own_at (P := P) w base t ty e i z k bytes ht hi hz hsize hby hzs hr.2.2.2.2.1 v n (l.flatMap f) hown ad m c (l2.flatMap f) hlen (hr.cells ad rfl) (fun u hu => by obtain ⟨x, _, hx⟩ := List.mem_flatMap.1 hu; exact h1 x u hx)
      h63 hb47 hbase
    exact ⟨v', w', h1, h2, h3, h5⟩
theorem wp_append_sle {P : Program} {α : Type} {f : α → List Value} {k : Nat} {o : Oper} {a : Act} {w : World} {K : Act → World → Prop} {Q : Exit → Act → World → Prop} (s x : Operand) (t : TypeId)
    (ho : o.op = .call { callee := .builtin .append, args := #[s, x], argTypes := #[t, t] })
    (base : Nat) (e : TypeId) (i : TypeInfo) (z : Value) (bytes : Nat) (ht : P.underlying t = some (.slice e)) (hi : P.info? e = some i) (hz : i.zero = some z)
    (hsize : i.size = k) (hby : i.bytes = bytes) (hzs : z.cells.size = k) (h1 : ∀ x, ∀ u ∈ f x, u.oneCell' = true)
    (v : Value) (n : Nat) (l : List α) (hs : a.eval s = v) (hown : w.ownsRow base e k v n (l.flatMap f))
    (A : Option Addr) (m c : Nat) (l2 : List α) (hx : a.eval x = .slice A m c) (hr : Sle f k w A m c l2)
    (h63 : n + m ≤ maxLen) (hb47 : (n + m) * bytes ≤ 140737488355328) (hbase : base ≤ w.heap.size)
    (h : ∀ v' w', w'.ownsRow base e k v' (n + m) ((l ++ l2).flatMap f) → Below base w w' → w.grownBy w' v.ownBlock → (∀ g, g < w.heap.size → Ofs v g → Ofs v' g) → K (a.put o.dst v') w') : Oper.wp P o a w K Q := by
  obtain ⟨v', w', hr, h2, h3, h5⟩ := run_append_sle (P := P) w base t o.type e i z bytes ht hi hz hsize hby hzs h1 v n l hown A m c l2 hr h63 hb47 hbase
  unfold Oper.wp execOp
  simp only [ho, resolve, invoke, builtin, Sem.run_bind, Sem.run_pure, Result.andThen_ok, List.map_toArray, List.map_cons, List.map_nil, hs, hx, hr]
  exact h v' w' h2 ((Below.refl base w).grown h3 hbase (fun k hk => (hown.lt k hk).1)) h3 (ofs_of h5)
theorem wpList_append_sle {P : Program} {α : Type} {f : α → List Value} {k : Nat} {ops : Array Oper} {rest : List Oper} {o : Oper} {a : Act} {w : World} {Q : Exit → Act → World → Prop} (hgd : o.guard = none) (s x : Operand) (t : TypeId)
    (ho : o.op = .call { callee := .builtin .append, args := #[s, x], argTypes := #[t, t] })
    (base : Nat) (e : TypeId) (i : TypeInfo) (z : Value) (bytes : Nat) (ht : P.underlying t = some (.slice e)) (hi : P.info? e = some i) (hz : i.zero = some z)
    (hsize : i.size = k) (hby : i.bytes = bytes) (hzs : z.cells.size = k) (h1 : ∀ x, ∀ u ∈ f x, u.oneCell' = true)
    (v : Value) (n : Nat) (l : List α) (hs : a.eval s = v) (hown : w.ownsRow base e k v n (l.flatMap f))
    (A : Option Addr) (m c : Nat) (l2 : List α) (hx : a.eval x = .slice A m c) (hr : Sle f k w A m c l2)
    (h63 : n + m ≤ maxLen) (hb47 : (n + m) * bytes ≤ 140737488355328) (hbase : base ≤ w.heap.size)
    (h : ∀ v' w', w'.ownsRow base e k v' (n + m) ((l ++ l2).flatMap f) → Below base w w' → w.grownBy w' v.ownBlock → (∀ g, g < w.heap.size → Ofs v g → Ofs v' g) → wpList P ops Q rest (a.put o.dst v') w') : wpList P ops Q (o :: rest) a w :=
  wpList_plain hgd fun _ hK => wp_append_sle s x t ho base e i z bytes ht hi hz hsize hby hzs h1 v n l hs hown A m c l2 hx hr h63 hb47 hbase fun v' w' h1 h2 h3 h4 => hK _ _ (h v' w' h1 h2 h3 h4)
theorem owk_av {w : World} {B k : Nat} {e : TypeId} {A : Option Addr} {m c n g : Nat} {xs : List Value} (h : w.ownsRow B e k (.slice A m c) n xs) (o : Ofs (.slice A m c) g) : Av A n g := fun hn a p q e1 => by
  rcases h.2 with ⟨_, rfl⟩ | ⟨g', cap, cur, e2, _⟩
  · omega
  · injection e2 with e3 e4 e5
    rw [e3] at e1
    injection e1 with e1
    injection e1 with e6 e7 e8
    subst e6
    exact o g' (by rw [e3]; rfl)
/-- A piece of an element. -/
theorem Sle.range {α : Type} {f : α → List Value} {k : Nat} {w : World} {g o n c i : Nat} {l : List α} {x : α} (h : Sle f k w (some ⟨g, o, none⟩) n c l) (hx : l[i]? = some x) (a m : Nat) (cs : List Value) (hcs : ((f x).drop a).take m = cs) : w.rangeAt g (o + i * k + a) cs := by
  intro j v hv
  rw [← hcs, List.getElem?_take] at hv
  split at hv
  · rw [List.getElem?_drop] at hv
    have := h.cell hx hv
    rw [show o + i * k + a + j = o + (i * k + (a + j)) by omega]
    exact this
  · cases hv
theorem Sle.cellk {α : Type} {f : α → List Value} {k : Nat} {w : World} {g o n c i : Nat} {l : List α} {x : α} (h : Sle f k w (some ⟨g, o, none⟩) n c l) (hx : l[i]? = some x) (a : Nat) (v : Value) (hv : (f x)[a]? = some v) : w.cell? ⟨g, o + i * k + a, none⟩ = some v := by
  have := h.cell hx hv
  rw [← Nat.add_assoc] at this
  exact this
theorem Sle.cellk0 {α : Type} {f : α → List Value} {k : Nat} {w : World} {g o n c i : Nat} {l : List α} {x : α} (h : Sle f k w (some ⟨g, o, none⟩) n c l) (hx : l[i]? = some x) (v : Value) (hv : (f x)[0]? = some v) : w.cell? ⟨g, o + i * k, none⟩ = some v := h.cellk hx 0 v hv
theorem Sle.range0 {α : Type} {f : α → List Value} {k : Nat} {w : World} {g o n c i : Nat} {l : List α} {x : α} (h : Sle f k w (some ⟨g, o, none⟩) n c l) (hx : l[i]? = some x) (m : Nat) (cs : List Value) (hcs : (f x).take m = cs) : w.rangeAt g (o + i * k) cs := h.range hx 0 m cs hcs
/-- A text out of a row of texts. -/
theorem Sle.st {w : World} {g o n c i : Nat} {l : List (List UInt8)} {x : List UInt8} (h : Sle stf 1 w (some ⟨g, o, none⟩) n c l) (hx : l[i]? = some x) : w.cell? ⟨g, o + i, none⟩ = some (.string ⟨x.toArray⟩) := by
  have := Sle.cell (j := 0) h hx rfl
  rw [Nat.mul_one, Nat.add_zero] at this
  exact this
theorem Sle.off {α : Type} {f : α → List Value} {k : Nat} {w w' : World} {g o n c : Nat} {l : List α} {v : Value} (h : Sle f k w (some ⟨g, o, none⟩) n c l) (hv : Ofs v g) (gw : w.grownBy w' v.ownBlock) : Sle f k w' (some ⟨g, o, none⟩) n c l :=
  h.keep fun a p u hc _ he => by
    obtain ⟨o', e⟩ := he
    injection e with e
    injection e with e1 e2
    subst e1
    exact (World.cell?_of_block (w := w) (gw.block g (cell_lt hc) (fun e3 => hv g e3.symm rfl))).trans hc
end Go.Proofs.YtholgadifhjmgaaDoor
