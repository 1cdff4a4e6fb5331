/- Texts put together: Sle, Str, Cf1, Ref3, Cf2, Itr, Adr1. -/
import Derived.Test.YtdfobilagidmfaaDoorQ1
import Derived.Laws.Concat
import Derived.Laws.Strings3
import Derived.Deep.LoopGhost
import Derived.Test.YtdfobilagidmfaaDoorRows
import Derived.WalkSpells
import Derived.WalkLawsBesides
import Derived.Lib.Hide
import Derived.BigRegion
import Derived.Laws.OwnMore
import Derived.Lib.OthersKept
namespace Go.Proofs.YtdfobilagidmfaaDoor
open Go.RowKit

def Sle {α : Type} (f : α → List Value) (k : Nat) (w : World) (A : Option Addr) (n c : Nat) (l : List α) : Prop :=
  l.length = n ∧ n ≤ c ∧ c ≤ maxLen ∧ (0 < n → ∃ g o, A = some ⟨g, o, none⟩ ∧ ∀ j v, (l.flatMap f)[j]? = some v → w.cell? ⟨g, o + j, none⟩ = some v) ∧ 0 < k ∧ ∀ x, (f x).length = k
section
variable {α : Type} {f : α → List Value} {k : Nat} {w w' : World} {A : Option Addr} {n c : Nat} {l : List α}
theorem flat_len (hf : ∀ x, (f x).length = k) (l : List α) : (l.flatMap f).length = l.length * k := by
  induction l with
  | nil => simp
  | cons x l ih => rw [List.flatMap_cons, List.length_append, ih, hf, List.length_cons, Nat.succ_mul]; omega
theorem flat_at (hf : ∀ x, (f x).length = k) : ∀ (l : List α) (i j : Nat) (x : α), l[i]? = some x → j < k → (l.flatMap f)[i * k + j]? = (f x)[j]?
  | [], i, j, x, h, _ => by simp at h
  | y :: l, 0, j, x, h, hj => by
    obtain rfl : y = x := by simpa using h
    rw [List.flatMap_cons, List.getElem?_append_left (by rw [hf]; omega), Nat.zero_mul, Nat.zero_add]
  | y :: l, i + 1, j, x, h, hj => by
    rw [List.flatMap_cons, List.getElem?_append_right (by rw [hf, Nat.succ_mul]; omega), hf, show (i + 1) * k + j - k = i * k + j by rw [Nat.succ_mul]; omega]
    exact flat_at hf l i j x (by simpa using h) hj
theorem Sle.nil (hk : 0 < k) (hf : ∀ x, (f x).length = k) (w : World) : Sle f k w none 0 0 [] := ⟨rfl, Nat.le_refl _, Nat.zero_le _, fun h => absurd h (by omega), hk, hf⟩
theorem Sle.keep (h : Sle f k w A n c l) (hk : ∀ g o v, w.cell? ⟨g, o, none⟩ = some v → A = some ⟨g, o, none⟩ ∨ True → (∃ o', A = some ⟨g, o', none⟩) → w'.cell? ⟨g, o, none⟩ = some v) : Sle f k w' A n c l :=
  ⟨h.1, h.2.1, h.2.2.1, fun hn => by
    obtain ⟨g, o, e, hc⟩ := h.2.2.2.1 hn
    exact ⟨g, o, e, fun j b hj => hk _ _ _ (hc j b hj) (.inr trivial) ⟨o, e⟩⟩, h.2.2.2.2⟩
theorem Sle.below (h : Sle f k w A n c l) (hb : Below w.heap.size w w') : Sle f k w' A n c l :=
  h.keep fun _ _ _ hc _ _ => (hb.cell (cell_lt hc)).trans hc
theorem Sle.drew (h : Sle f k w A n c l) : Sle f k w.drew A n c l := h.keep fun _ _ _ hc _ _ => hc
theorem Sle.away {g : Nat} (h : Sle f k w A n c l) (v : Av A n g) (hg : w.grownBy w' (some g)) : Sle f k w' A n c l := by
  refine ⟨h.1, h.2.1, h.2.2.1, fun hn => ?_, h.2.2.2.2⟩
  obtain ⟨a, o, e, hc⟩ := h.2.2.2.1 hn
  have hne := v hn a o none e
  exact ⟨a, o, e, fun j b hj => (World.cell?_of_block (w := w) (hg.block a (cell_lt (hc j b hj)) (fun e2 => hne (by injection e2)))).trans (hc j b hj)⟩
theorem Sle.under {lo : Nat} (h : Sle f k w A n c l) (v : Bl A n lo) (hb : Below lo w w') : Sle f k w' A n c l := by
  refine ⟨h.1, h.2.1, h.2.2.1, fun hn => ?_, h.2.2.2.2⟩
  obtain ⟨a, o, e, hc⟩ := h.2.2.2.1 hn
  exact ⟨a, o, e, fun j b hj => (hb.cell (p := ⟨a, o + j, none⟩) (v hn a o none e)).trans (hc j b hj)⟩
theorem Sle.pos (h : Sle f k w A n c l) (hn : 0 < n) : ∃ v, (l.flatMap f)[0]? = some v := by
  have hl := flat_len h.2.2.2.2.2 l
  have : 0 < (l.flatMap f).length := by rw [hl, h.1]; exact Nat.mul_pos hn h.2.2.2.2.1
  exact ⟨_, List.getElem?_eq_getElem this⟩
theorem Sle.at0 (h : Sle f k w A n c l) (hn : 0 < n) {a o : Nat} {p : Option Nat} (e : A = some ⟨a, o, p⟩) : a < w.heap.size := by
  obtain ⟨a', o', e', hc⟩ := h.2.2.2.1 hn
  rw [e] at e'
  injection e' with e'
  injection e' with e1 e2
  subst e1
  obtain ⟨v, hv⟩ := h.pos hn
  exact cell_lt (hc 0 v hv)
theorem Sle.av_new {g : Nat} (h : Sle f k w A n c l) (hg : w.heap.size ≤ g) : Av A n g := fun hn _ _ _ e => Nat.ne_of_lt (Nat.lt_of_lt_of_le (h.at0 hn e) hg)
theorem Sle.bl_new (h : Sle f k w A n c l) : Bl A n w.heap.size := fun hn _ _ _ e => h.at0 hn e
theorem Sle.place (h : Sle f k w A n c l) (hn : 0 < n) : ∃ g o, A = some ⟨g, o, none⟩ := by
  obtain ⟨g, o, e, _⟩ := h.2.2.2.1 hn
  exact ⟨g, o, e⟩
/-- A cell of an element. -/
theorem Sle.cell {g o i j : Nat} {x : α} {v : Value} (h : Sle f k w (some ⟨g, o, none⟩) n c l) (hx : l[i]? = some x) (hv : (f x)[j]? = some v) : w.cell? ⟨g, o + (i * k + j), none⟩ = some v := by
  obtain ⟨_, _, _, h4, h5, h6⟩ := h
  have hi : i < l.length := (List.getElem?_eq_some_iff.1 hx).1
  have hj : j < k := by rw [← h6 x]; exact (List.getElem?_eq_some_iff.1 hv).1
  obtain ⟨g', o', e, hc⟩ := h4 (by omega)
  injection e with e
  injection e with e1 e2
  subst e1
  subst e2
  exact hc _ _ ((flat_at h6 l i j x hx hj).trans hv)
/-- Pieces. -/
theorem Sle.take {m : Nat} (h : Sle f k w A n c l) (hm : m ≤ n) : Sle f k w A m c (l.take m) := by
  obtain ⟨h1, h2, h3, h4, h5, h6⟩ := h
  refine ⟨by rw [List.length_take]; omega, by omega, h3, fun hn => ?_, h5, h6⟩
  obtain ⟨g, o, e, hc⟩ := h4 (by omega)
  refine ⟨g, o, e, fun j b hj => hc j b ?_⟩
  have e2 : l.flatMap f = (l.take m).flatMap f ++ (l.drop m).flatMap f := by rw [← List.flatMap_append, List.take_append_drop]
  rw [e2, List.getElem?_append_left (List.getElem?_eq_some_iff.1 hj).1]
  exact hj
/-- A new block of elements. -/
theorem sle_lit {g : Nat} {T : TypeId} {fr : Nat × Nat} (l : List α) (hk : 0 < k) (hf : ∀ x, (f x).length = k) (h : w.heap[g]? = some (.cells (l.flatMap f).toArray T fr)) (hn : l.length = n) (hm : n ≤ maxLen) : Sle f k w (some ⟨g, 0, none⟩) n n l :=
  ⟨hn, Nat.le_refl _, hm, fun _ => ⟨_, _, rfl, fun j b hj => by simp only [World.cell?, h]; simpa using hj⟩, hk, hf⟩
/-- What is owned. -/
theorem owk_sle {B : Nat} {T : TypeId} {m : Nat} (hk : 0 < k) (hf : ∀ x, (f x).length = k) (h : w.ownsRow B T k (.slice A m c) n (l.flatMap f)) : Sle f k w A n c l ∧ Fr B A n := by
  have hl : l.length = n := by
    have h1 := h.1
    rw [flat_len hf] at h1
    exact Nat.eq_of_mul_eq_mul_right hk h1
  rcases h.2 with ⟨e, rfl⟩ | ⟨g, cap, cur, e, hb, hh, hn, hm, hs, ht⟩
  · injection e with e1 e2 e3
    subst e1
    subst e3
    exact ⟨⟨hl, Nat.le_refl _, Nat.zero_le _, fun h => absurd h (by omega), hk, hf⟩, fun h => absurd h (by omega)⟩
  · injection e with e1 e2 e3
    subst e1
    subst e3
    refine ⟨⟨hl, hn, hm, fun _ => ⟨g, 0, rfl, fun j b hj => ?_⟩, hk, hf⟩, fun _ => ⟨g, 0, rfl, hb⟩⟩
    have e1 : cur.toList[j]? = some b := by
      have : (cur.toList.take (n * k))[j]? = some b := by rw [ht]; exact hj
      rw [List.getElem?_take] at this
      split at this
      · exact this
      · cases this
    simp only [World.cell?, hh]
    simpa using e1
theorem owk_val {B : Nat} {T : TypeId} {v : Value} {xs : List Value} (h : w.ownsRow B T k v n xs) : ∃ A c, v = .slice A n c := by
  rcases h.2 with ⟨e, rfl⟩ | ⟨g, cap, cur, e, _⟩
  · exact ⟨none, 0, e⟩
  · exact ⟨_, _, e⟩
theorem owk_under {B : Nat} {e : TypeId} {v : Value} {xs : List Value} (h : w.ownsRow B e k v n xs) (hb : Below w.heap.size w w') : w'.ownsRow B e k v n xs := by
  refine ⟨h.1, ?_⟩
  rcases h.2 with h | ⟨g, cap, cur, e, hg, hh, h⟩
  · exact .inl h
  · exact .inr ⟨g, cap, cur, e, hg, (hb.block g (Array.getElem?_eq_some_iff.1 hh).1).trans hh, h⟩
theorem owk_off {B q : Nat} {e : TypeId} {v : Value} {xs : List Value} (h : w.ownsRow B e k v n xs) (hv : Ofs v q) (hg : w.grownBy w' (some q)) : w'.ownsRow B e k v n xs := by
  refine ⟨h.1, ?_⟩
  rcases h.2 with h | ⟨g, cap, cur, e, hb, hh, h⟩
  · exact .inl h
  · have hne := hv g (by rw [e]; rfl)
    exact .inr ⟨g, cap, cur, e, hb, (hg.block g (Array.getElem?_eq_some_iff.1 hh).1 (fun e2 => hne (by injection e2))).trans hh, h⟩
theorem owk_new {B q : Nat} {e : TypeId} {v : Value} {xs : List Value} (h : w.ownsRow B e k v n xs) (hq : w.heap.size ≤ q) : Ofs v q := fun g hg => by
  rcases h.2 with ⟨h, _⟩ | ⟨g', cap, cur, e, hb, hh, h⟩
  · rw [h] at hg; simp [Value.ownBlock] at hg
  · have hl := (Array.getElem?_eq_some_iff.1 hh).1
    rw [e] at hg
    simp only [Value.ownBlock, Option.some.injEq] at hg
    omega
theorem owk_nil (B : Nat) (T : TypeId) (w : World) : w.ownsRow B T k (.slice none 0 0) 0 (([] : List α).flatMap f) := World.ownsRow_nil _ _ _ _
theorem Sle.cells (h : Sle f k w A n c l) : ∀ ad, A = some ad → ∀ j u, (l.flatMap f)[j]? = some u → w.cell? (ad.add j) = some u := by
  intro ad hA j u hu
  have hj := (List.getElem?_eq_some_iff.1 hu).1
  rw [flat_len h.2.2.2.2.2, h.1] at hj
  have hn : 0 < n := by
    rcases Nat.eq_zero_or_pos n with h0 | h0
    · subst h0; omega
    · exact h0
  obtain ⟨g, o, e, hc⟩ := h.2.2.2.1 hn
  rw [hA] at e
  obtain rfl := Option.some.inj e
  rw [Addr.add_lit]
  exact hc j u hu
end
/-- Texts as elements. -/
def stf (l : List UInt8) : List Value := [.string ⟨l.toArray⟩]
theorem stf_len (x : List UInt8) : (stf x).length = 1 := rfl
theorem stf_one (x : List UInt8) : ∀ u ∈ stf x, u.oneCell' = true := by
  intro u hu
  obtain rfl : u = .string ⟨x.toArray⟩ := by simpa [stf] using hu
  rfl
/-- append onto a row of the call's own, whatever the source. -/
theorem run_append_sle {P : Program} {α : Type} {f : α → List Value} {k : Nat} (w : World) (base : Nat) (t ty e : TypeId) (i : TypeInfo) (z : Value) (bytes : Nat) (ht : P.underlying t = some (.slice e)) (hi : P.info? e = some i) (hz : i.zero = some z)
    (hsize : i.size = k) (hby : i.bytes = bytes) (hzs : z.cells.size = k) (h1 : ∀ x, ∀ u ∈ f x, u.oneCell' = true)
    (v : Value) (n : Nat) (l : List α) (hown : w.ownsRow base e k v n (l.flatMap f))
    (A : Option Addr) (m c : Nat) (l2 : List α) (hr : Sle f k w A m c l2)
    (h63 : n + m ≤ maxLen) (hb47 : (n + m) * bytes ≤ 140737488355328) (hbase : base ≤ w.heap.size) :
    ∃ v' w', (Builtin.append_ #[t, t] ty #[v, .slice A m c]).run P w = .ok v' w' ∧ w'.ownsRow base e k v' (n + m) ((l ++ l2).flatMap f) ∧ w.grownBy w' v.ownBlock ∧
      (v'.ownBlock = v.ownBlock ∨ v'.ownBlock = some w.heap.size) := by
  have hlen : (l2.flatMap f).length = m * k := by rw [flat_len hr.2.2.2.2.2, hr.1]
  rw [List.flatMap_append]
  rcases A with _ | ad
  · have hm : m = 0 := by
      rcases Nat.eq_zero_or_pos m with h0 | h0
      · exact h0
      · obtain ⟨g, o, h, _⟩ := hr.2.2.2.1 h0
        cases h
    subst hm
    have hn : l2 = [] := List.eq_nil_of_length_eq_zero hr.1
    subst hn
    refine ⟨v, w, ?_, by simpa using hown, World.grownBy.refl w _, .inl rfl⟩
    rcases hown.2 with ⟨rfl, rfl⟩ | ⟨g, cap, cur, rfl, _, _, hnc, _⟩
    · simp [Builtin.append_, run_underlying ht, sizeOf, typeInfo, hi, Builtin.lenOf, Builtin.firstCells]
    · simp [Builtin.append_, run_underlying ht, sizeOf, typeInfo, hi, Builtin.lenOf, Builtin.firstCells, hnc, storeCells]
  · obtain ⟨v', w', h1, h2, h3, _, h5⟩ := run_append_own_at (P := P) w base t ty e i z k bytes ht hi hz hsize hby hzs hr.2.2.2.2.1 v n (l.flatMap f) hown ad m c (l2.flatMap f) hlen (hr.cells ad rfl) (fun u hu => by obtain ⟨x, _, hx⟩ := List.mem_flatMap.1 hu; exact h1 x u hx)
      h63 hb47 hbase
    exact ⟨v', w', h1, h2, h3, h5⟩
theorem wp_append_sle {P : Program} {α : Type} {f : α → List Value} {k : Nat} {o : Oper} {a : Act} {w : World} {K : Act → World → Prop} {Q : Exit → Act → World → Prop} (s x : Operand) (t : TypeId)
    (ho : o.op = .call { callee := .builtin .append, args := #[s, x], argTypes := #[t, t] })
    (base : Nat) (e : TypeId) (i : TypeInfo) (z : Value) (bytes : Nat) (ht : P.underlying t = some (.slice e)) (hi : P.info? e = some i) (hz : i.zero = some z)
    (hsize : i.size = k) (hby : i.bytes = bytes) (hzs : z.cells.size = k) (h1 : ∀ x, ∀ u ∈ f x, u.oneCell' = true)
    (v : Value) (n : Nat) (l : List α) (hs : a.eval s = v) (hown : w.ownsRow base e k v n (l.flatMap f))
    (A : Option Addr) (m c : Nat) (l2 : List α) (hx : a.eval x = .slice A m c) (hr : Sle f k w A m c l2)
    (h63 : n + m ≤ maxLen) (hb47 : (n + m) * bytes ≤ 140737488355328) (hbase : base ≤ w.heap.size)
    (h : ∀ v' w', w'.ownsRow base e k v' (n + m) ((l ++ l2).flatMap f) → Below base w w' → w.grownBy w' v.ownBlock → (∀ g, g < w.heap.size → Ofs v g → Ofs v' g) → K (a.put o.dst v') w') : Oper.wp P o a w K Q := by
  obtain ⟨v', w', hr, h2, h3, h5⟩ := run_append_sle (P := P) w base t o.type e i z bytes ht hi hz hsize hby hzs h1 v n l hown A m c l2 hr h63 hb47 hbase
  unfold Oper.wp execOp
  simp only [ho, resolve, invoke, builtin, Sem.run_bind, Sem.run_pure, Result.andThen_ok, List.map_toArray, List.map_cons, List.map_nil, hs, hx, hr]
  exact h v' w' h2 ((Below.refl base w).grown h3 hbase (fun k hk => (hown.lt k hk).1)) h3 (ofs_of h5)
theorem wpList_append_sle {P : Program} {α : Type} {f : α → List Value} {k : Nat} {ops : Array Oper} {rest : List Oper} {o : Oper} {a : Act} {w : World} {Q : Exit → Act → World → Prop} (hgd : o.guard = none) (s x : Operand) (t : TypeId)
    (ho : o.op = .call { callee := .builtin .append, args := #[s, x], argTypes := #[t, t] })
    (base : Nat) (e : TypeId) (i : TypeInfo) (z : Value) (bytes : Nat) (ht : P.underlying t = some (.slice e)) (hi : P.info? e = some i) (hz : i.zero = some z)
    (hsize : i.size = k) (hby : i.bytes = bytes) (hzs : z.cells.size = k) (h1 : ∀ x, ∀ u ∈ f x, u.oneCell' = true)
    (v : Value) (n : Nat) (l : List α) (hs : a.eval s = v) (hown : w.ownsRow base e k v n (l.flatMap f))
    (A : Option Addr) (m c : Nat) (l2 : List α) (hx : a.eval x = .slice A m c) (hr : Sle f k w A m c l2)
    (h63 : n + m ≤ maxLen) (hb47 : (n + m) * bytes ≤ 140737488355328) (hbase : base ≤ w.heap.size)
    (h : ∀ v' w', w'.ownsRow base e k v' (n + m) ((l ++ l2).flatMap f) → Below base w w' → w.grownBy w' v.ownBlock → (∀ g, g < w.heap.size → Ofs v g → Ofs v' g) → wpList P ops Q rest (a.put o.dst v') w') : wpList P ops Q (o :: rest) a w :=
  wpList_plain hgd fun _ hK => wp_append_sle s x t ho base e i z bytes ht hi hz hsize hby hzs h1 v n l hs hown A m c l2 hx hr h63 hb47 hbase fun v' w' h1 h2 h3 h4 => hK _ _ (h v' w' h1 h2 h3 h4)
theorem owk_av {w : World} {B k : Nat} {e : TypeId} {A : Option Addr} {m c n g : Nat} {xs : List Value} (h : w.ownsRow B e k (.slice A m c) n xs) (o : Ofs (.slice A m c) g) : Av A n g := fun hn a p q e1 => by
  rcases h.2 with ⟨_, rfl⟩ | ⟨g', cap, cur, e2, _⟩
  · omega
  · injection e2 with e3 e4 e5
    rw [e3] at e1
    injection e1 with e1
    injection e1 with e6 e7 e8
    subst e6
    exact o g' (by rw [e3]; rfl)
/-- A piece of an element. -/
theorem Sle.range {α : Type} {f : α → List Value} {k : Nat} {w : World} {g o n c i : Nat} {l : List α} {x : α} (h : Sle f k w (some ⟨g, o, none⟩) n c l) (hx : l[i]? = some x) (a m : Nat) (cs : List Value) (hcs : ((f x).drop a).take m = cs) : w.rangeAt g (o + i * k + a) cs := by
  intro j v hv
  rw [← hcs, List.getElem?_take] at hv
  split at hv
  · rw [List.getElem?_drop] at hv
    have := h.cell hx hv
    rw [show o + i * k + a + j = o + (i * k + (a + j)) by omega]
    exact this
  · cases hv
theorem Sle.range0 {α : Type} {f : α → List Value} {k : Nat} {w : World} {g o n c i : Nat} {l : List α} {x : α} (h : Sle f k w (some ⟨g, o, none⟩) n c l) (hx : l[i]? = some x) (m : Nat) (cs : List Value) (hcs : (f x).take m = cs) : w.rangeAt g (o + i * k) cs := h.range hx 0 m cs hcs
/-- A text out of a row of texts. -/
theorem Sle.st {w : World} {g o n c i : Nat} {l : List (List UInt8)} {x : List UInt8} (h : Sle stf 1 w (some ⟨g, o, none⟩) n c l) (hx : l[i]? = some x) : w.cell? ⟨g, o + i, none⟩ = some (.string ⟨x.toArray⟩) := by
  have := Sle.cell (j := 0) h hx rfl
  rw [Nat.mul_one, Nat.add_zero] at this
  exact this
open Go.RowKit

theorem st_size (l : List UInt8) : (⟨l.toArray⟩ : ByteArray).size = l.length := by simp [ByteArray.size]
theorem st_extract (l : List UInt8) (i j : Nat) : (⟨l.toArray⟩ : ByteArray).extract i j = ⟨((l.take j).drop i).toArray⟩ := by
  apply ByteArray.ext
  rw [ByteArray.data_extract]
  apply Array.ext'
  simp [List.extract_eq_take_drop, List.drop_take]
theorem st_from {l : List UInt8} {i : Nat} (h : i ≤ l.length) (W : World) : (Instr.slice 9 (.string ⟨l.toArray⟩) (some (.int .i64 (i : Int))) none none).run Tryd.prog W = .ok (.string ⟨(l.drop i).toArray⟩) W := by
  rw [run_slice_string_from_if W 9 _ .i64 _ (by kernel_rfl), if_pos ⟨by omega, by rw [st_size]; omega⟩, st_extract, st_size, List.take_length]
  rfl
theorem st_to {l : List UInt8} {j : Nat} (h : j ≤ l.length) (W : World) : (Instr.slice 9 (.string ⟨l.toArray⟩) none (some (.int .i64 (j : Int))) none).run Tryd.prog W = .ok (.string ⟨(l.take j).toArray⟩) W := by
  rw [run_slice_string_to_if W 9 _ .i64 _ (by kernel_rfl), if_pos ⟨by omega, by rw [st_size]; omega⟩, st_extract]
  rfl
theorem st_mid {l : List UInt8} {i j : Nat} (h : i ≤ j) (hj : j ≤ l.length) (W : World) : (Instr.slice 9 (.string ⟨l.toArray⟩) (some (.int .i64 (i : Int))) (some (.int .i64 (j : Int))) none).run Tryd.prog W = .ok (.string ⟨((l.take j).drop i).toArray⟩) W := by
  rw [run_slice_string W 9 _ .i64 .i64 _ _ (by kernel_rfl) (by omega) (by omega) (by rw [st_size]; omega), st_extract]
  rfl
theorem st_add {x y : List UInt8} (h : x.length + y.length ≤ 8388608) (W : World) : (Op.stringOp .add ⟨x.toArray⟩ ⟨y.toArray⟩).run Tryd.prog W = .ok (.string ⟨(x ++ y).toArray⟩) W :=
  run_string_add_lists W x y (by omega) (by omega)
theorem st_len (l : List UInt8) (ty : TypeId) (W : World) : (Builtin.len_ #[9] ty #[.string ⟨l.toArray⟩]).run Tryd.prog W = .ok (.int .i64 (l.length : Int)) W := by
  rw [run_len_string W 9 ty _ (by kernel_rfl), st_size]
  rfl
open Go.RowKit

/-- Blanks; a text without those about it. -/
def isBl (c : UInt8) : Bool := c == 32 || c == 9
def trimF (l : List UInt8) : List UInt8 := l.dropWhile isBl
def trimB (l : List UInt8) : List UInt8 := (l.reverse.dropWhile isBl).reverse
def trimL (l : List UInt8) : List UInt8 := trimB (trimF l)
def inI (v lo hi : Int) : Bool := decide (lo ≤ v) && decide (v ≤ hi)
theorem has_step {ls : List (List UInt8)} {s x : List UInt8} {j : Nat} (hx : ls[j]? = some x) (h : (ls.take j).contains s = false) (he : (x == s) = false) : (ls.take (j + 1)).contains s = false := by
  rw [List.take_add_one, hx]
  simp only [List.contains_eq_mem, List.mem_append, Option.toList_some, List.mem_singleton, decide_eq_false_iff_not] at *
  rintro (h2 | h2)
  · exact h h2
  · subst h2; simp at he
def names5 : List (List UInt8) := [[116, 105, 109, 101], [117, 100, 112, 116, 105, 109, 101], [116, 99, 112, 116, 105, 109, 101], [105, 99, 109, 112, 116, 105, 109, 101], [108, 111, 119]]
def names8 : List (List UInt8) := [[108, 97, 110], [108, 97, 110, 109, 97, 99], [119, 97, 110, 109, 97, 99], [102, 105, 114, 115, 116], [108, 97, 115, 116], [100, 110, 115], [102, 105, 120, 101, 100], [111, 112, 101, 110]]
/-- A text's place among others; -1: it is not there. -/
def posN : List (List UInt8) → List UInt8 → Option Nat
  | [], _ => none
  | x :: l, s => if (x == s) = true then some 0 else (posN l s).map (· + 1)
def posI (ls : List (List UInt8)) (s : List UInt8) : Int := match posN ls s with
  | some i => i
  | none => -1
theorem posN_hit : ∀ {ls : List (List UInt8)} {s x : List UInt8} {j : Nat}, (ls.take j).contains s = false → ls[j]? = some x → (x == s) = true → posN ls s = some j
  | [], s, x, j, _, h, _ => by simp at h
  | y :: l, s, x, 0, _, h, he => by
    obtain rfl : y = x := by simpa using h
    rw [posN, if_pos he]
  | y :: l, s, x, j + 1, hc, h, he => by
    rw [List.take_succ_cons, List.contains_cons, Bool.or_eq_false_iff] at hc
    have hy : ¬ (y == s) = true := by
      intro h2
      have := eq_of_beq h2
      subst this
      simp at hc
    rw [posN, if_neg hy, posN_hit hc.2 (by simpa using h) he]
    rfl
theorem posN_none : ∀ {ls : List (List UInt8)} {s : List UInt8}, ls.contains s = false → posN ls s = none
  | [], _, _ => rfl
  | y :: l, s, hc => by
    rw [List.contains_cons, Bool.or_eq_false_iff] at hc
    have hy : ¬ (y == s) = true := by
      intro h2
      have := eq_of_beq h2
      subst this
      simp at hc
    rw [posN, if_neg hy, posN_none hc.2]
    rfl
theorem contains_none {ls : List (List UInt8)} {s : List UInt8} {n : Nat} (hn : ls.length ≤ n) (h : (ls.take n).contains s = false) : ls.contains s = false := by
  rwa [List.take_of_length_le hn] at h
def knownB (s : List UInt8) : Bool := names8.contains s || decide (0 ≤ posI names5 s)
open Go.RowKit

/-- Bytes as a string's value. -/
def strv (l : List UInt8) : Value := .string ⟨l.toArray⟩
theorem Tryd.info_str : (Tryd.prog.info? 9).map (fun i => (i.zero, i.size, i.bytes)) = some (some (.string ⟨#[]⟩), 1, 16) := by kernel_rfl

/-- A hexadecimal digit's value; -1: none. -/
def hexI (c : UInt8) : Int := if 48 ≤ c.toNat ∧ c.toNat ≤ 57 then (c.toNat : Int) - 48 else if 97 ≤ c.toNat ∧ c.toNat ≤ 102 then (c.toNat : Int) - 97 + 10 else if 65 ≤ c.toNat ∧ c.toNat ≤ 70 then (c.toNat : Int) - 65 + 10 else -1
theorem hexI_range (c : UInt8) : hexI c = -1 ∨ (0 ≤ hexI c ∧ hexI c ≤ 15) := by
  unfold hexI
  split
  · right; omega
  · split
    · right; omega
    · split
      · right; omega
      · left; rfl
open Go.RowKit

/-- The words of a text: 'wordsGo rest word'. -/
def wordsGo : List UInt8 → List UInt8 → List (List UInt8)
  | [], u => if u = [] then [] else [u]
  | c :: t, u => if isBl c = true then (if u = [] then wordsGo t [] else u :: wordsGo t []) else wordsGo t (u ++ [c])
def wordsL (l : List UInt8) : List (List UInt8) := wordsGo l []
theorem words_cut {l ws : List (List UInt8)} {t u : List UInt8} {k : Nat} (h : ws ++ wordsGo (t.drop k) u = l) (hb : k = t.length ∨ ∃ c, t[k]? = some c ∧ isBl c = true) : (if u = [] then ws else ws ++ [u]) ++ wordsGo (t.drop (k + 1)) [] = l := by
  rcases hb with rfl | ⟨c, hc, hb⟩
  · rw [List.drop_eq_nil_of_le (Nat.le_refl _), wordsGo] at h
    rw [List.drop_eq_nil_of_le (by omega), wordsGo, if_pos rfl, List.append_nil, ← h]
    split
    · simp
    · rfl
  · obtain ⟨hk, hx⟩ := List.getElem?_eq_some_iff.1 hc
    rw [List.drop_eq_getElem_cons hk, hx, wordsGo, if_pos hb] at h
    rw [← h]
    split
    · rfl
    · rw [List.append_assoc]; rfl
/-- The lines of a text. -/
def linesL (l : List UInt8) : List (List UInt8) := if (cutF 10 l).getLast? = some [] then (cutF 10 l).dropLast else cutF 10 l
open Go.RowKit

theorem wp_range_n {P : Program} {o : Oper} {a : Act} {w : World} {K : Act → World → Prop} {Q : Exit → Act → World → Prop} (t : TypeId) (x : Operand) (ho : o.op = .range t x) (ht : P.underlying t = some .string) (l : List UInt8) (hx : a.eval x = .string ⟨l.toArray⟩)
    (h : ∀ g w', w.heap.size ≤ g → g < w'.heap.size → w'.heap[g]? = some (.stringIter ⟨l.toArray⟩ 0) → Below w.heap.size w w' → K (a.put o.dst (.pointer (some ⟨g, 0, none⟩))) w') : Oper.wp P o a w K Q := by
  have hr : (Instr.range t (a.eval x)).run P w = .ok (.pointer (some ⟨w.heap.size, 0, none⟩)) (w.iter ⟨l.toArray⟩ 0) := by
    rw [hx]; exact run_range_string w t _ ht
  unfold Oper.wp execOp
  simp only [ho, Sem.run_bind, hr, Result.andThen_ok]
  exact h _ _ (Nat.le_refl _) (size_new w _) (heap_alloc_new w _) (below_new w _)
theorem wpList_range_n {P : Program} {ops : Array Oper} {rest : List Oper} {o : Oper} {a : Act} {w : World} {Q : Exit → Act → World → Prop} (hgd : o.guard = none) (t : TypeId) (x : Operand) (ho : o.op = .range t x) (ht : P.underlying t = some .string) (l : List UInt8) (hx : a.eval x = .string ⟨l.toArray⟩)
    (h : ∀ g w', w.heap.size ≤ g → g < w'.heap.size → w'.heap[g]? = some (.stringIter ⟨l.toArray⟩ 0) → Below w.heap.size w w' → wpList P ops Q rest (a.put o.dst (.pointer (some ⟨g, 0, none⟩))) w') : wpList P ops Q (o :: rest) a w :=
  wpList_plain hgd fun _ hK => wp_range_n t x ho ht l hx fun g w' h1 h2 h3 h4 => hK _ _ (h g w' h1 h2 h3 h4)
theorem iterAt_grown {w : World} {k : Nat} {s : ByteArray} (pos : Nat) : w.grownBy (w.iterAt k s pos) (some k) :=
  ⟨rfl, rfl, rfl, by rw [Lib.iterAt_size]; exact Nat.le_refl _, fun j _ hne => Lib.iterAt_other w k j s pos (fun e => hne (by rw [e]))⟩
theorem wp_next_n {P : Program} {o : Oper} {a : Act} {w : World} {K : Act → World → Prop} {Q : Exit → Act → World → Prop} (x : Operand) (ho : o.op = .next x true) (g : Nat) (hx : a.eval x = .pointer (some ⟨g, 0, none⟩)) (l : List UInt8) (pos : Nat) (hk : w.heap[g]? = some (.stringIter ⟨l.toArray⟩ pos))
    (r k : Nat) (hd : Utf8.decode ⟨l.toArray⟩ pos = (r, k)) (hlt : pos < l.length) (p : Int) (hp : p = (pos : Int))
    (h : ∀ w', w'.heap[g]? = some (.stringIter ⟨l.toArray⟩ (pos + k)) → w.grownBy w' (some g) → K (a.put o.dst (.tuple #[.bool true, .int .i64 p, .int .i32 (r : Int)])) w') : Oper.wp P o a w K Q := by
  subst hp
  have hr : (Instr.next (a.eval x) true o.type).run P w = .ok (.tuple #[.bool true, .int .i64 (pos : Int), .int .i32 (r : Int)]) (w.iterAt g ⟨l.toArray⟩ (pos + k)) := by
    rw [hx, Lib.run_next_any_at w g _ pos _ hk (by rw [st_size]; exact hlt), hd]
  unfold Oper.wp execOp
  simp only [ho, Sem.run_bind, hr, Result.andThen_ok]
  exact h _ (Lib.iterAt_heap w g _ pos _ hk) (iterAt_grown _)
theorem wpList_next_n {P : Program} {ops : Array Oper} {rest : List Oper} {o : Oper} {a : Act} {w : World} {Q : Exit → Act → World → Prop} (hgd : o.guard = none) (x : Operand) (ho : o.op = .next x true) (g : Nat) (hx : a.eval x = .pointer (some ⟨g, 0, none⟩)) (l : List UInt8) (pos : Nat) (hk : w.heap[g]? = some (.stringIter ⟨l.toArray⟩ pos))
    (r k : Nat) (hd : Utf8.decode ⟨l.toArray⟩ pos = (r, k)) (hlt : pos < l.length) (p : Int) (hp : p = (pos : Int))
    (h : ∀ w', w'.heap[g]? = some (.stringIter ⟨l.toArray⟩ (pos + k)) → w.grownBy w' (some g) → wpList P ops Q rest (a.put o.dst (.tuple #[.bool true, .int .i64 p, .int .i32 (r : Int)])) w') : wpList P ops Q (o :: rest) a w :=
  wpList_plain hgd fun _ hK => wp_next_n x ho g hx l pos hk r k hd hlt p hp fun w' h1 h2 => hK _ _ (h w' h1 h2)
theorem next_end {P : Program} {w : World} {g pos : Nat} {l : List UInt8} (ty : TypeId) (hk : w.heap[g]? = some (.stringIter ⟨l.toArray⟩ pos)) (h : ¬ pos < l.length) :
    (Instr.next (.pointer (some ⟨g, 0, none⟩)) true ty).run P w = .ok (.tuple #[.bool false]) w := Lib.run_next_end_at w g _ pos ty hk (by rw [st_size]; exact h)

/-! ### Runes -/
theorem rune_st (l : List UInt8) (pos : Nat) (h : pos < l.length) : ∃ (r k : Nat) (c : UInt8), Utf8.decode ⟨l.toArray⟩ pos = (r, k) ∧ l[pos]? = some c ∧ r ≤ 1114111 ∧ 1 ≤ k ∧ pos + k ≤ l.length ∧
    ((k = 1 ∧ c.toNat < 128 ∧ r = c.toNat) ∨ (128 ≤ r ∧ 128 ≤ c.toNat ∧ ∀ x ∈ (l.drop pos).take k, 128 ≤ x.toNat)) := by
  have hs : pos < (⟨l.toArray⟩ : ByteArray).size := by rw [st_size]; exact h
  have hc : l[pos]? = some ((⟨l.toArray⟩ : ByteArray)[pos]'hs) := get?_at ⟨l.toArray⟩ pos hs
  by_cases ha : ((⟨l.toArray⟩ : ByteArray)[pos]'hs).toNat < 128
  · exact ⟨_, 1, _, decode_ascii _ pos hs ha, hc, by omega, Nat.le_refl _, by omega, .inl ⟨rfl, ha, rfl⟩⟩
  · obtain ⟨h1, h2, h3, h4, h5⟩ := rune_hi _ pos hs (by omega)
    rw [st_size] at h4
    obtain ⟨r, k, hd⟩ : ∃ r k, Utf8.decode ⟨l.toArray⟩ pos = (r, k) := ⟨_, _, rfl⟩
    rw [hd] at h1 h2 h3 h4 h5
    simp only at h1 h2 h3 h4 h5
    refine ⟨r, k, _, hd, hc, h2, h3, h4, .inr ⟨h1, by omega, fun x hx => ?_⟩⟩
    obtain ⟨j, hj, rfl⟩ := List.mem_iff_getElem.1 hx
    have hj' : j < k := by rw [List.length_take] at hj; omega
    have := h5 j hj'
    rw [List.getD_eq_getElem?_getD] at this
    rw [List.getElem_take, List.getElem_drop]
    rw [List.getElem?_eq_getElem (show pos + j < l.length from Nat.lt_of_lt_of_le (Nat.add_lt_add_left hj' pos) h4)] at this
    exact this
/-- A test of runes that only ASCII can pass, as a test of bytes. -/
theorem rune_is (p : UInt8 → Bool) (q : Nat → Bool) (hpq : ∀ c : UInt8, c.toNat < 128 → q c.toNat = p c) (hp : ∀ c : UInt8, 128 ≤ c.toNat → p c = false) (hq : ∀ r, 128 ≤ r → q r = false) (l : List UInt8) (pos : Nat) (h : pos < l.length) :
    ∃ r k : Nat, Utf8.decode ⟨l.toArray⟩ pos = (r, k) ∧ r ≤ 1114111 ∧ 1 ≤ k ∧ pos + k ≤ l.length ∧
      ((q r = true ∧ k = 1 ∧ ∃ c, l[pos]? = some c ∧ p c = true) ∨ (q r = false ∧ ∀ x ∈ (l.drop pos).take k, p x = false)) := by
  obtain ⟨r, k, c, hd, hc, hr, hk, hkl, hcase⟩ := rune_st l pos h
  refine ⟨r, k, hd, hr, hk, hkl, ?_⟩
  rcases hcase with ⟨rfl, h1, rfl⟩ | ⟨h1, h2, h3⟩
  · cases hpc : p c with
    | true => exact .inl ⟨by rw [hpq c h1, hpc], rfl, c, hc, hpc⟩
    | false =>
      refine .inr ⟨by rw [hpq c h1, hpc], fun x hx => ?_⟩
      rw [drop_at hc, List.take_succ_cons, List.take_zero] at hx
      rw [List.mem_singleton.1 hx]
      exact hpc
  · exact .inr ⟨hq r h1, fun x hx => hp x (h3 x hx)⟩
theorem u8_lt_ne {c : UInt8} {b : UInt8} (hb : b.toNat < 128) (hc : 128 ≤ c.toNat) : (c == b) = false := by
  rw [beq_eq_false_iff_ne]
  rintro rfl
  omega
theorem u8_beq (c b : UInt8) : (c.toNat == b.toNat) = (c == b) := by
  rw [Bool.eq_iff_iff, beq_iff_eq, beq_iff_eq]
  exact ⟨fun h => UInt8.toNat_inj.1 h, fun h => by rw [h]⟩
/-- Which byte is meant: a separator. -/
theorem rune_sep (b : UInt8) (hb : b.toNat < 128) (l : List UInt8) (pos : Nat) (h : pos < l.length) :
    ∃ r k : Nat, Utf8.decode ⟨l.toArray⟩ pos = (r, k) ∧ r ≤ 1114111 ∧ 1 ≤ k ∧ pos + k ≤ l.length ∧
      ((((r : Int) == (b.toNat : Int)) = true ∧ k = 1 ∧ l[pos]? = some b) ∨ (((r : Int) == (b.toNat : Int)) = false ∧ ∀ x ∈ (l.drop pos).take k, x ≠ b)) := by
  obtain ⟨r, k, hd, hr, hk, hkl, hcase⟩ := rune_is (fun c => c == b) (fun r => r == b.toNat) (fun c _ => u8_beq c b) (fun c hc => u8_lt_ne hb hc) (fun r h => beq_eq_false_iff_ne.2 (by omega)) l pos h
  refine ⟨r, k, hd, hr, hk, hkl, ?_⟩
  rcases hcase with ⟨h1, h2, c, hc, h3⟩ | ⟨h1, h2⟩
  · exact .inl ⟨beq_iff_eq.2 (by rw [beq_iff_eq.1 h1]), h2, by rw [hc, beq_iff_eq.1 h3]⟩
  · exact .inr ⟨beq_eq_false_iff_ne.2 (fun e => by rw [beq_eq_false_iff_ne] at h1; omega), fun x hx e => by have := h2 x hx; simp [e] at this⟩
/-- A blank, as a rune. -/
def blN (r : Nat) : Bool := r == 32 || r == 9
theorem u8_nat (c : UInt8) (n : Nat) (hn : n < 256) : ((c.toNat : Nat) == n) = (c == UInt8.ofNat n) := by
  rw [Bool.eq_iff_iff, beq_iff_eq, beq_iff_eq]
  constructor
  · intro h; apply UInt8.toNat_inj.1; rw [UInt8.toNat_ofNat']; omega
  · intro h; rw [h, UInt8.toNat_ofNat']; omega
theorem blN_u8 (c : UInt8) : blN c.toNat = isBl c := by
  unfold blN isBl
  rw [u8_nat c 32 (by decide), u8_nat c 9 (by decide)]
  rfl
theorem isBl_hi {c : UInt8} (h : 128 ≤ c.toNat) : isBl c = false := by
  rw [← blN_u8]; unfold blN; simp only [Bool.or_eq_false_iff, beq_eq_false_iff_ne]; omega
theorem int_beq (r : Nat) (n : Nat) : ((r : Int) == (n : Int)) = (r == n) := by
  rw [Bool.eq_iff_iff, beq_iff_eq, beq_iff_eq]; omega
theorem rune_bl (l : List UInt8) (pos : Nat) (h : pos < l.length) : ∃ (r k : Nat) (c : UInt8), Utf8.decode ⟨l.toArray⟩ pos = (r, k) ∧ l[pos]? = some c ∧ r ≤ 1114111 ∧ 1 ≤ k ∧ pos + k ≤ l.length ∧
    ((blN r = true ∧ k = 1 ∧ isBl c = true) ∨ (blN r = false ∧ isBl c = false ∧ ((r : Int) == 35) = (c == 35) ∧ ∀ x ∈ (l.drop pos).take k, isBl x = false)) := by
  obtain ⟨r, k, c, hd, hc, hr, hk, hkl, hcase⟩ := rune_st l pos h
  refine ⟨r, k, c, hd, hc, hr, hk, hkl, ?_⟩
  rcases hcase with ⟨rfl, h1, rfl⟩ | ⟨h1, h2, h3⟩
  · rw [blN_u8]
    cases hb : isBl c with
    | true => exact .inl ⟨rfl, rfl, rfl⟩
    | false =>
      refine .inr ⟨rfl, rfl, ?_, fun x hx => ?_⟩
      · rw [show ((c.toNat : Int) == 35) = ((c.toNat : Int) == ((35 : Nat) : Int)) from rfl, int_beq, u8_nat c 35 (by decide)]
        rfl
      · rw [drop_at hc, List.take_succ_cons, List.take_zero] at hx
        rw [List.mem_singleton.1 hx]
        exact hb
  · refine .inr ⟨?_, isBl_hi h2, ?_, fun x hx => isBl_hi (h3 x hx)⟩
    · unfold blN; simp only [Bool.or_eq_false_iff, beq_eq_false_iff_ne]; omega
    · rw [show ((r : Int) == 35) = false from beq_eq_false_iff_ne.2 (by omega), u8_lt_ne (by decide) h2]
theorem take_more {l : List UInt8} {pos k fr : Nat} (h : fr ≤ pos) (hk : pos + k ≤ l.length) : (l.take (pos + k)).drop fr = (l.take pos).drop fr ++ (l.drop pos).take k := by
  rw [List.take_add, List.drop_append_of_le_length (by rw [List.length_take]; omega)]
theorem free_get {l : List UInt8} {b : UInt8} {pos k : Nat} (hk : pos + k ≤ l.length) (h : ∀ x ∈ (l.drop pos).take k, x ≠ b) : ∀ j, j < k → l.getD (pos + j) 0 ≠ b := fun j hj => by
  rw [List.getD_eq_getElem?_getD, List.getElem?_eq_getElem (by omega)]
  refine h _ ?_
  rw [List.mem_iff_getElem]
  exact ⟨j, by rw [List.length_take, List.length_drop]; omega, by rw [List.getElem_take, List.getElem_drop]; rfl⟩
open Go.RowKit

theorem dec_rune (s : ByteArray) (pos : Nat) (h : pos < s.size) : ∃ (r k : Nat) (c : UInt8), Utf8.decode s pos = (r, k) ∧ s.data.toList[pos]? = some c ∧ r ≤ 1114111 ∧ 1 ≤ k ∧
    ((c.toNat < 48 ∧ r < 48) ∨ (57 < c.toNat ∧ 57 < r) ∨ (48 ≤ c.toNat ∧ c.toNat ≤ 57 ∧ r = c.toNat ∧ k = 1)) := by
  by_cases ha : (s[pos]'h).toNat < 128
  · refine ⟨_, 1, s[pos]'h, decode_ascii s pos h ha, get?_at s pos h, by omega, Nat.le_refl _, by omega⟩
  · obtain ⟨h1, h2, h3, _, _⟩ := rune_hi s pos h (by omega)
    refine ⟨(Utf8.decode s pos).1, (Utf8.decode s pos).2, s[pos]'h, rfl, get?_at s pos h, h2, h3, .inr (.inl ⟨?_, ?_⟩)⟩ <;> omega

/-- What decimal answers. -/
def DecPost (l : List UInt8) (most : Int) (w : World) (e : Ending) (w' : World) : Prop :=
  e = .returned (.tuple #[.int .i64 (if 0 ≤ numI l most then numI l most else 0), .bool (decide (0 ≤ numI l most))]) ∧ Below w.heap.size w w'
theorem decPost_no {l : List UInt8} {most : Int} {w w' : World} (h : numI l most = -1) (hb : Below w.heap.size w w') : DecPost l most w (.returned (.tuple #[.int .i64 0, .bool false])) w' := by
  unfold DecPost; rw [h]; exact ⟨rfl, hb⟩
theorem decPost_yes {l : List UInt8} {most : Int} {w w' : World} {v : Nat} (h : numI l most = v) (hb : Below w.heap.size w w') : DecPost l most w (.returned (.tuple #[.int .i64 (v : Int), .bool true])) w' := by
  unfold DecPost; rw [h, if_pos (by omega), decide_eq_true (by omega)]; exact ⟨rfl, hb⟩

set_option maxRecDepth 100000 in
set_option maxHeartbeats 2000000 in
theorem decimal_any (s : ByteArray) (most : Int) (w : World) (hs : s.size ≤ 140737488355328) (hm0 : 0 ≤ most) (hm1 : most < 1000) :
    Calls Tryd.prog 92 #[.string s, .int .i64 most] w (DecPost s.data.toList most w) := by
  have hlen : s.data.toList.length = s.size := by simp
  have bel : ∀ p, Below w.heap.size w (w.iter s p) := fun p => (Below.refl _ _).alloc (Nat.le_refl _) _
  go_enter Tryd.func92, Tryd.ntmps92
  go_wp2
  go_loopw [6] (fun v wr => ∃ (pos n : Nat), v = .int .i64 n ∧ pos ≤ s.size ∧ wr = w.iter s pos ∧ DecInv s.data.toList pos n ∧ (n : Int) ≤ most) (fun _ wr => s.size - wr.iterPos w.heap.size)
  case atStart => exact ⟨0, 0, rfl, by omega, rfl, dec_start _, hm0⟩
  case round =>
    obtain ⟨pos, n, rfl, hp, rfl, hi, hn⟩ := hrel
    have n0 : (0 : Int) ≤ n := by omega
    have n1 : (n : Int) < 1000 := by omega
    by_cases hlt : pos < s.size
    · obtain ⟨r, k, c, hd, hc, hr, hk, hcase⟩ := dec_rune s pos hlt
      have hnx : ∀ ty, (Instr.next (.pointer (some ⟨w.heap.size, 0, none⟩)) true ty).run Tryd.prog (w.iter s pos) = .ok (.tuple #[.bool true, .int .i64 pos, .int .i32 r]) (w.iter s (pos + k)) := fun ty => by
        have := run_next_any (P := Tryd.prog) w s pos ty hlt
        rw [hd] at this; exact this
      have k0 : (0 : Int) ≤ pos := by omega
      have k1 : (pos : Int) < s.size := by omega
      have p1 : (s.size : Int) ≤ 140737488355328 := by omega
      have r0 : (0 : Int) ≤ r := by omega
      have r1 : (r : Int) ≤ 1114111 := by omega
      clear hd
      by_cases hz : 0 < pos ∧ n = 0
      · obtain ⟨hz1, rfl⟩ := hz
        have hno := Lib.hid (dec_zero hi hz1 hc most)
        have z1 : (0 : Int) < pos := by omega
        clear hcase hc hi
        go_wp2
        go_ret2
        exact decPost_no hno.out (bel _)
      have hi' := Lib.hid hi
      rcases hcase with ⟨hc1, hr1⟩ | ⟨hc1, hr1⟩ | ⟨hc1, hc2, rfl, rfl⟩
      · have hno := Lib.hid (dec_bad hi hc (.inl hc1) most)
        have t1 : (r : Int) < 48 := by omega
        clear hc hi hi'
        by_cases hp0 : pos = 0
        · subst hp0
          have hnx0 : ∀ ty, (Instr.next (.pointer (some ⟨w.heap.size, 0, none⟩)) true ty).run Tryd.prog (w.iter s 0) = .ok (.tuple #[.bool true, .int .i64 0, .int .i32 r]) (w.iter s k) := fun ty => by
            have := hnx ty; rwa [Nat.zero_add] at this
          clear hnx k0 k1 hlt hp
          go_wp2
          go_ret2
          exact decPost_no hno.out (bel _)
        · have z1 : (0 : Int) < pos := by omega
          have z2 : ((n : Int) == 0) = false := beq_eq_false_iff_ne.2 (by omega)
          go_wp2
          go_ret2
          exact decPost_no hno.out (bel _)
      · have hno := Lib.hid (dec_bad hi hc (.inr hc1) most)
        have t1 : decide ((r : Int) < 48) = false := decide_eq_false (by omega)
        have t2 : (57 : Int) < r := by omega
        clear hc hi hi'
        by_cases hp0 : pos = 0
        · subst hp0
          have hnx0 : ∀ ty, (Instr.next (.pointer (some ⟨w.heap.size, 0, none⟩)) true ty).run Tryd.prog (w.iter s 0) = .ok (.tuple #[.bool true, .int .i64 0, .int .i32 r]) (w.iter s k) := fun ty => by
            have := hnx ty; rwa [Nat.zero_add] at this
          clear hnx k0 k1 hlt hp
          go_wp2
          go_ret2
          exact decPost_no hno.out (bel _)
        · have z1 : (0 : Int) < pos := by omega
          have z2 : ((n : Int) == 0) = false := beq_eq_false_iff_ne.2 (by omega)
          go_wp2
          go_ret2
          exact decPost_no hno.out (bel _)
      · have t1 : decide ((c.toNat : Int) < 48) = false := decide_eq_false (by omega)
        have t2 : decide ((57 : Int) < c.toNat) = false := decide_eq_false (by omega)
        have q0 : (48 : Int) ≤ c.toNat := by omega
        have q1 : (c.toNat : Int) ≤ 57 := by omega
        have e1 : ((10 * n + (c.toNat - 48) : Nat) : Int) = 10 * n + (c.toNat - 48) := by omega
        by_cases hbig : most < ((10 * n + (c.toNat - 48) : Nat) : Int)
        · have hno := Lib.hid (dec_big hi hc hc1 hc2 most hbig)
          have t3 : most < 10 * (n : Int) + (c.toNat - 48) := by omega
          clear hc hi hi' hbig e1
          by_cases hp0 : pos = 0
          · subst hp0
            have hnx0 : ∀ ty, (Instr.next (.pointer (some ⟨w.heap.size, 0, none⟩)) true ty).run Tryd.prog (w.iter s 0) = .ok (.tuple #[.bool true, .int .i64 0, .int .i32 (c.toNat : Int)]) (w.iter s 1) := fun ty => by
              have := hnx ty; rwa [Nat.zero_add] at this
            clear hnx k0 k1 hlt hp
            go_wp2
            go_ret2
            exact decPost_no hno.out (bel _)
          · have z1 : (0 : Int) < pos := by omega
            have z2 : ((n : Int) == 0) = false := beq_eq_false_iff_ne.2 (by omega)
            go_wp2
            go_ret2
            exact decPost_no hno.out (bel _)
        · have hst := Lib.hid (dec_step hi hc hc1 hc2 hz)
          have t3 : decide (most < 10 * (n : Int) + (c.toNat - 48)) = false := decide_eq_false (by omega)
          have t4 : Hid (((10 * n + (c.toNat - 48) : Nat) : Int) ≤ most) := Lib.hid (by omega)
          have E1 := Lib.hid e1
          clear hc hi hi' hbig e1
          by_cases hp0 : pos = 0
          · subst hp0
            have hnx0 : ∀ ty, (Instr.next (.pointer (some ⟨w.heap.size, 0, none⟩)) true ty).run Tryd.prog (w.iter s 0) = .ok (.tuple #[.bool true, .int .i64 0, .int .i32 (c.toNat : Int)]) (w.iter s 1) := fun ty => by
              have := hnx ty; rwa [Nat.zero_add] at this
            clear hnx k0 k1
            go_wp2
            go_roundw
            case rel => exact ⟨1, 10 * n + (c.toNat - 48), by rw [E1.out], by omega, rfl, hst.out, t4.out⟩
            case measure => simp; omega
          · have z1 : (0 : Int) < pos := by omega
            have z2 : ((n : Int) == 0) = false := beq_eq_false_iff_ne.2 (by omega)
            go_wp2
            go_roundw
            case rel => exact ⟨pos + 1, 10 * n + (c.toNat - 48), by rw [E1.out], by omega, rfl, hst.out, t4.out⟩
            case measure => simp; omega
    · obtain rfl : pos = s.size := by omega
      have hnx : ∀ ty, (Instr.next (.pointer (some ⟨w.heap.size, 0, none⟩)) true ty).run Tryd.prog (w.iter s s.size) = .ok (.tuple #[.bool false]) (w.iter s s.size) := fun ty => run_next_end w s s.size ty hlt
      by_cases h0 : s.size = 0
      · have hl : s.data.toList = [] := List.eq_nil_of_length_eq_zero (by omega)
        have hno : Hid (numI s.data.toList most = -1) := Lib.hid (by rw [hl]; exact dec_none most)
        obtain ⟨rfl⟩ : n = 0 := by
          rcases hi.2 with h | h | h <;> omega
        have hem : s.toList.isEmpty = true := by rw [ByteArray.toList_eq, hl]; rfl
        have HN := Lib.hid hn
        clear h0 hl hi hn
        go_wp2
        go_ret2
        exact decPost_no hno.out (bel _)
      · have hem : s.toList.isEmpty = false := by
          rw [ByteArray.toList_eq]
          cases hl : s.data.toList with
          | nil => rw [hl] at hlen; simp at hlen; omega
          | cons _ _ => rfl
        have hno : Hid (numI s.data.toList most = n) := by
          rw [← hlen] at hi
          exact Lib.hid (dec_end hi (by omega) most hn hm1)
        clear h0 hi hn
        go_wp2
        go_ret2
        exact decPost_yes hno.out (bel _)
end Go.Proofs.YtdfobilagidmfaaDoor
