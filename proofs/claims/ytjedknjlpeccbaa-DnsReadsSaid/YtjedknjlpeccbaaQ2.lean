/- Texts put together: Sle, Str, Orz, Dn1, Nr0, Nrs, Nrk, Dn2, Rdo, Rd2, Rde, Ds1. -/
import Derived.Test.YtjedknjlpeccbaaQ1
import Derived.Laws.Concat
import Derived.Laws.Strings3
import Derived.Deep.RegionHeld
import Derived.Deep.LoopGhost
import Derived.Deep.CutRange
import Derived.Deep.AppendLies
import Derived.Laws.CopyRow
import Derived.Deep.AppendSrc
import Derived.Lib.AppendZerosOnto
import Derived.Lib.Overlaps
import Derived.Laws.Externs
import Derived.Lib.AppendStr
import Derived.Lib.SliceRun
namespace Go.Proofs.Ytjedknjlpeccbaa
open Go.RowKit

def Sle {α : Type} (f : α → List Value) (k : Nat) (w : World) (A : Option Addr) (n c : Nat) (l : List α) : Prop :=
 l.length = n ∧ n ≤ c ∧ c ≤ maxLen ∧ (0 < n → ∃ g o, A = some ⟨g, o, none⟩ ∧ ∀ j v, (l.flatMap f)[j]? = some v → w.cell? ⟨g, o + j, none⟩ = some v) ∧ 0 < k ∧ ∀ x, (f x).length = k
section
variable {α : Type} {f : α → List Value} {k : Nat} {w w' : World} {A : Option Addr} {n c : Nat} {l : List α}
theorem flat_len (hf : ∀ x, (f x).length = k) (l : List α) : (l.flatMap f).length = l.length * k := by
 induction l with
 | nil => simp
 | cons x l ih => rw [List.flatMap_cons, List.length_append, ih, hf, List.length_cons, Nat.succ_mul]; omega
theorem flat_at (hf : ∀ x, (f x).length = k) : ∀ (l : List α) (i j : Nat) (x : α), l[i]? = some x → j < k → (l.flatMap f)[i * k + j]? = (f x)[j]?
 | [], i, j, x, h, _ => by simp at h
 | y :: l, 0, j, x, h, hj => by
  obtain rfl : y = x := by simpa using h
  rw [List.flatMap_cons, List.getElem?_append_left (by rw [hf]; omega), Nat.zero_mul, Nat.zero_add]
 | y :: l, i + 1, j, x, h, hj => by
  rw [List.flatMap_cons, List.getElem?_append_right (by rw [hf, Nat.succ_mul]; omega), hf, show (i + 1) * k + j - k = i * k + j by rw [Nat.succ_mul]; omega]
  exact flat_at hf l i j x (by simpa using h) hj
theorem Sle.nil (hk : 0 < k) (hf : ∀ x, (f x).length = k) (w : World) : Sle f k w none 0 0 [] := ⟨rfl, Nat.le_refl _, Nat.zero_le _, fun h => absurd h (by omega), hk, hf⟩
theorem Sle.keep (h : Sle f k w A n c l) (hk : ∀ g o v, w.cell? ⟨g, o, none⟩ = some v → A = some ⟨g, o, none⟩ ∨ True → (∃ o', A = some ⟨g, o', none⟩) → w'.cell? ⟨g, o, none⟩ = some v) : Sle f k w' A n c l :=
 ⟨h.1, h.2.1, h.2.2.1, fun hn => by
  obtain ⟨g, o, e, hc⟩ := h.2.2.2.1 hn
  exact ⟨g, o, e, fun j b hj => hk _ _ _ (hc j b hj) (.inr trivial) ⟨o, e⟩⟩, h.2.2.2.2⟩
theorem Sle.below (h : Sle f k w A n c l) (hb : Below w.heap.size w w') : Sle f k w' A n c l :=
 h.keep fun _ _ _ hc _ _ => (hb.cell (cell_lt hc)).trans hc
theorem Sle.drew (h : Sle f k w A n c l) : Sle f k w.drew A n c l := h.keep fun _ _ _ hc _ _ => hc
theorem Sle.away {g : Nat} (h : Sle f k w A n c l) (v : Av A n g) (hg : w.grownBy w' (some g)) : Sle f k w' A n c l := by
 refine ⟨h.1, h.2.1, h.2.2.1, fun hn => ?_, h.2.2.2.2⟩
 obtain ⟨a, o, e, hc⟩ := h.2.2.2.1 hn
 have hne := v hn a o none e
 exact ⟨a, o, e, fun j b hj => (World.cell?_of_block (w := w) (hg.block a (cell_lt (hc j b hj)) (fun e2 => hne (by injection e2)))).trans (hc j b hj)⟩
theorem Sle.under {lo : Nat} (h : Sle f k w A n c l) (v : Bl A n lo) (hb : Below lo w w') : Sle f k w' A n c l := by
 refine ⟨h.1, h.2.1, h.2.2.1, fun hn => ?_, h.2.2.2.2⟩
 obtain ⟨a, o, e, hc⟩ := h.2.2.2.1 hn
 exact ⟨a, o, e, fun j b hj => (hb.cell (p := ⟨a, o + j, none⟩) (v hn a o none e)).trans (hc j b hj)⟩
theorem Sle.pos (h : Sle f k w A n c l) (hn : 0 < n) : ∃ v, (l.flatMap f)[0]? = some v := by
 have hl := flat_len h.2.2.2.2.2 l
 have : 0 < (l.flatMap f).length := by rw [hl, h.1]; exact Nat.mul_pos hn h.2.2.2.2.1
 exact ⟨_, List.getElem?_eq_getElem this⟩
theorem Sle.at0 (h : Sle f k w A n c l) (hn : 0 < n) {a o : Nat} {p : Option Nat} (e : A = some ⟨a, o, p⟩) : a < w.heap.size := by
 obtain ⟨a', o', e', hc⟩ := h.2.2.2.1 hn
 rw [e] at e'
 injection e' with e'
 injection e' with e1 e2
 subst e1
 obtain ⟨v, hv⟩ := h.pos hn
 exact cell_lt (hc 0 v hv)
theorem Sle.av_new {g : Nat} (h : Sle f k w A n c l) (hg : w.heap.size ≤ g) : Av A n g := fun hn _ _ _ e => Nat.ne_of_lt (Nat.lt_of_lt_of_le (h.at0 hn e) hg)
theorem Sle.bl_new (h : Sle f k w A n c l) : Bl A n w.heap.size := fun hn _ _ _ e => h.at0 hn e
theorem Sle.place (h : Sle f k w A n c l) (hn : 0 < n) : ∃ g o, A = some ⟨g, o, none⟩ := by
 obtain ⟨g, o, e, _⟩ := h.2.2.2.1 hn
 exact ⟨g, o, e⟩
/-- A cell of an element. -/
theorem Sle.cell {g o i j : Nat} {x : α} {v : Value} (h : Sle f k w (some ⟨g, o, none⟩) n c l) (hx : l[i]? = some x) (hv : (f x)[j]? = some v) : w.cell? ⟨g, o + (i * k + j), none⟩ = some v := by
 obtain ⟨_, _, _, h4, h5, h6⟩ := h
 have hi : i < l.length := (List.getElem?_eq_some_iff.1 hx).1
 have hj : j < k := by rw [← h6 x]; exact (List.getElem?_eq_some_iff.1 hv).1
 obtain ⟨g', o', e, hc⟩ := h4 (by omega)
 injection e with e
 injection e with e1 e2
 subst e1
 subst e2
 exact hc _ _ ((flat_at h6 l i j x hx hj).trans hv)
/-- Pieces. -/
theorem Sle.take {m : Nat} (h : Sle f k w A n c l) (hm : m ≤ n) : Sle f k w A m c (l.take m) := by
 obtain ⟨h1, h2, h3, h4, h5, h6⟩ := h
 refine ⟨by rw [List.length_take]; omega, by omega, h3, fun hn => ?_, h5, h6⟩
 obtain ⟨g, o, e, hc⟩ := h4 (by omega)
 refine ⟨g, o, e, fun j b hj => hc j b ?_⟩
 have e2 : l.flatMap f = (l.take m).flatMap f ++ (l.drop m).flatMap f := by rw [← List.flatMap_append, List.take_append_drop]
 rw [e2, List.getElem?_append_left (List.getElem?_eq_some_iff.1 hj).1]
 exact hj
/-- A new block of elements. -/
theorem sle_lit {g : Nat} {T : TypeId} {fr : Nat × Nat} (l : List α) (hk : 0 < k) (hf : ∀ x, (f x).length = k) (h : w.heap[g]? = some (.cells (l.flatMap f).toArray T fr)) (hn : l.length = n) (hm : n ≤ maxLen) : Sle f k w (some ⟨g, 0, none⟩) n n l :=
 ⟨hn, Nat.le_refl _, hm, fun _ => ⟨_, _, rfl, fun j b hj => by simp only [World.cell?, h]; simpa using hj⟩, hk, hf⟩
theorem owk_lit {B g : Nat} {T : TypeId} (l : List α) (hf : ∀ x, (f x).length = k) (h : w.heap[g]? = some (.cells (l.flatMap f).toArray T (0, 0))) (hB : B ≤ g) (n : Nat) (hn : l.length = n) (hm : n ≤ maxLen) : w.ownsRow B T k (.slice (some ⟨g, 0, none⟩) n n) n (l.flatMap f) := by
 subst hn
 exact ⟨flat_len hf l, .inr ⟨g, _, _, rfl, hB, h, Nat.le_refl _, hm, by simp [flat_len hf], by simpa using List.take_of_length_le (Nat.le_of_eq (flat_len hf l))⟩⟩
/-- What is owned. -/
theorem owk_sle {B : Nat} {T : TypeId} {m : Nat} (hk : 0 < k) (hf : ∀ x, (f x).length = k) (h : w.ownsRow B T k (.slice A m c) n (l.flatMap f)) : Sle f k w A n c l ∧ Fr B A n := by
 have hl : l.length = n := by
  have h1 := h.1
  rw [flat_len hf] at h1
  exact Nat.eq_of_mul_eq_mul_right hk h1
 rcases h.2 with ⟨e, rfl⟩ | ⟨g, cap, cur, e, hb, hh, hn, hm, hs, ht⟩
 ·injection e with e1 e2 e3
  subst e1
  subst e3
  exact ⟨⟨hl, Nat.le_refl _, Nat.zero_le _, fun h => absurd h (by omega), hk, hf⟩, fun h => absurd h (by omega)⟩
 ·injection e with e1 e2 e3
  subst e1
  subst e3
  refine ⟨⟨hl, hn, hm, fun _ => ⟨g, 0, rfl, fun j b hj => ?_⟩, hk, hf⟩, fun _ => ⟨g, 0, rfl, hb⟩⟩
  have e1 : cur.toList[j]? = some b := by
   have : (cur.toList.take (n * k))[j]? = some b := by rw [ht]; exact hj
   rw [List.getElem?_take] at this
   split at this
   ·exact this
   ·cases this
  simp only [World.cell?, hh]
  simpa using e1
theorem owk_val {B : Nat} {T : TypeId} {v : Value} {xs : List Value} (h : w.ownsRow B T k v n xs) : ∃ A c, v = .slice A n c := by
 rcases h.2 with ⟨e, rfl⟩ | ⟨g, cap, cur, e, _⟩
 ·exact ⟨none, 0, e⟩
 ·exact ⟨_, _, e⟩
theorem owk_under {B : Nat} {e : TypeId} {v : Value} {xs : List Value} (h : w.ownsRow B e k v n xs) (hb : Below w.heap.size w w') : w'.ownsRow B e k v n xs := by
 refine ⟨h.1, ?_⟩
 rcases h.2 with h | ⟨g, cap, cur, e, hg, hh, h⟩
 ·exact .inl h
 ·exact .inr ⟨g, cap, cur, e, hg, (hb.block g (Array.getElem?_eq_some_iff.1 hh).1).trans hh, h⟩
theorem owk_away {B q : Nat} {e : TypeId} {v : Value} {xs : List Value} (h : w.ownsRow B e k v n xs) (hq : q < B) (hg : w.grownBy w' (some q)) : w'.ownsRow B e k v n xs := by
 refine ⟨h.1, ?_⟩
 rcases h.2 with h | ⟨g, cap, cur, e, hb, hh, h⟩
 ·exact .inl h
 ·exact .inr ⟨g, cap, cur, e, hb, (hg.block g (Array.getElem?_eq_some_iff.1 hh).1 (fun e2 => by injection e2; omega)).trans hh, h⟩
theorem owk_off {B q : Nat} {e : TypeId} {v : Value} {xs : List Value} (h : w.ownsRow B e k v n xs) (hv : Ofs v q) (hg : w.grownBy w' (some q)) : w'.ownsRow B e k v n xs := by
 refine ⟨h.1, ?_⟩
 rcases h.2 with h | ⟨g, cap, cur, e, hb, hh, h⟩
 ·exact .inl h
 ·have hne := hv g (by rw [e]; rfl)
  exact .inr ⟨g, cap, cur, e, hb, (hg.block g (Array.getElem?_eq_some_iff.1 hh).1 (fun e2 => hne (by injection e2))).trans hh, h⟩
theorem owk_new {B q : Nat} {e : TypeId} {v : Value} {xs : List Value} (h : w.ownsRow B e k v n xs) (hq : w.heap.size ≤ q) : Ofs v q := fun g hg => by
 rcases h.2 with ⟨h, _⟩ | ⟨g', cap, cur, e, hb, hh, h⟩
 ·rw [h] at hg; simp [Value.ownBlock] at hg
 ·have hl := (Array.getElem?_eq_some_iff.1 hh).1
  rw [e] at hg
  simp only [Value.ownBlock, Option.some.injEq] at hg
  omega
theorem owk_nil (B : Nat) (T : TypeId) (w : World) : w.ownsRow B T k (.slice none 0 0) 0 (([] : List α).flatMap f) := World.ownsRow_nil _ _ _ _
theorem Sle.cells (h : Sle f k w A n c l) : ∀ ad, A = some ad → ∀ j u, (l.flatMap f)[j]? = some u → w.cell? (ad.add j) = some u := by
 intro ad hA j u hu
 have hj := (List.getElem?_eq_some_iff.1 hu).1
 rw [flat_len h.2.2.2.2.2, h.1] at hj
 have hn : 0 < n := by
  rcases Nat.eq_zero_or_pos n with h0 | h0
  ·subst h0; omega
  ·exact h0
 obtain ⟨g, o, e, hc⟩ := h.2.2.2.1 hn
 rw [hA] at e
 obtain rfl := Option.some.inj e
 rw [Addr.add_lit]
 exact hc j u hu
end
/-- Texts as elements. -/
def stf (l : List UInt8) : List Value := [.string ⟨l.toArray⟩]
theorem stf_len (x : List UInt8) : (stf x).length = 1 := rfl
theorem stf_one (x : List UInt8) : ∀ u ∈ stf x, u.oneCell' = true := by
 intro u hu
 obtain rfl : u = .string ⟨x.toArray⟩ := by simpa [stf] using hu
 rfl
/-- append onto a row of the call's own, whatever the source. -/
theorem run_append_sle {P : Program} {α : Type} {f : α → List Value} {k : Nat} (w : World) (base : Nat) (t ty e : TypeId) (i : TypeInfo) (z : Value) (bytes : Nat) (ht : P.underlying t = some (.slice e)) (hi : P.info? e = some i) (hz : i.zero = some z)
  (hsize : i.size = k) (hby : i.bytes = bytes) (hzs : z.cells.size = k) (h1 : ∀ x, ∀ u ∈ f x, u.oneCell' = true)
  (v : Value) (n : Nat) (l : List α) (hown : w.ownsRow base e k v n (l.flatMap f))
  (A : Option Addr) (m c : Nat) (l2 : List α) (hr : Sle f k w A m c l2)
  (h63 : n + m ≤ maxLen) (hb47 : (n + m) * bytes ≤ 140737488355328) (hbase : base ≤ w.heap.size) :
  ∃ v' w', (Builtin.append_ #[t, t] ty #[v, .slice A m c]).run P w = .ok v' w' ∧ w'.ownsRow base e k v' (n + m) ((l ++ l2).flatMap f) ∧ w.grownBy w' v.ownBlock ∧
   (v'.ownBlock = v.ownBlock ∨ v'.ownBlock = some w.heap.size) := by
 have hlen : (l2.flatMap f).length = m * k := by rw [flat_len hr.2.2.2.2.2, hr.1]
 rw [List.flatMap_append]
 rcases A with _ | ad
 ·have hm : m = 0 := by
   rcases Nat.eq_zero_or_pos m with h0 | h0
   ·exact h0
   ·obtain ⟨g, o, h, _⟩ := hr.2.2.2.1 h0
    cases h
  subst hm
  have hn : l2 = [] := List.eq_nil_of_length_eq_zero hr.1
  subst hn
  refine ⟨v, w, ?_, by simpa using hown, World.grownBy.refl w _, .inl rfl⟩
  rcases hown.2 with ⟨rfl, rfl⟩ | ⟨g, cap, cur, rfl, _, _, hnc, _⟩
  ·simp [Builtin.append_, run_underlying ht, sizeOf, typeInfo, hi, Builtin.lenOf, Builtin.firstCells]
  ·simp [Builtin.append_, run_underlying ht, sizeOf, typeInfo, hi, Builtin.lenOf, Builtin.firstCells, hnc, storeCells]
 ·obtain ⟨v', w', h1, h2, h3, _, h5⟩ := run_append_own_at (P := P) w base t ty e i z k bytes ht hi hz hsize hby hzs hr.2.2.2.2.1 v n (l.flatMap f) hown ad m c (l2.flatMap f) hlen (hr.cells ad rfl) (fun u hu => by obtain ⟨x, _, hx⟩ := List.mem_flatMap.1 hu; exact h1 x u hx)
   h63 hb47 hbase
  exact ⟨v', w', h1, h2, h3, h5⟩
theorem wp_append_sle {P : Program} {α : Type} {f : α → List Value} {k : Nat} {o : Oper} {a : Act} {w : World} {K : Act → World → Prop} {Q : Exit → Act → World → Prop} (s x : Operand) (t : TypeId)
  (ho : o.op = .call { callee := .builtin .append, args := #[s, x], argTypes := #[t, t] })
  (base : Nat) (e : TypeId) (i : TypeInfo) (z : Value) (bytes : Nat) (ht : P.underlying t = some (.slice e)) (hi : P.info? e = some i) (hz : i.zero = some z)
  (hsize : i.size = k) (hby : i.bytes = bytes) (hzs : z.cells.size = k) (h1 : ∀ x, ∀ u ∈ f x, u.oneCell' = true)
  (v : Value) (n : Nat) (l : List α) (hs : a.eval s = v) (hown : w.ownsRow base e k v n (l.flatMap f))
  (A : Option Addr) (m c : Nat) (l2 : List α) (hx : a.eval x = .slice A m c) (hr : Sle f k w A m c l2)
  (h63 : n + m ≤ maxLen) (hb47 : (n + m) * bytes ≤ 140737488355328) (hbase : base ≤ w.heap.size)
  (h : ∀ v' w', w'.ownsRow base e k v' (n + m) ((l ++ l2).flatMap f) → Below base w w' → w.grownBy w' v.ownBlock → (∀ g, g < w.heap.size → Ofs v g → Ofs v' g) → K (a.put o.dst v') w') : Oper.wp P o a w K Q := by
 obtain ⟨v', w', hr, h2, h3, h5⟩ := run_append_sle (P := P) w base t o.type e i z bytes ht hi hz hsize hby hzs h1 v n l hown A m c l2 hr h63 hb47 hbase
 unfold Oper.wp execOp
 simp only [ho, resolve, invoke, builtin, Sem.run_bind, Sem.run_pure, Result.andThen_ok, List.map_toArray, List.map_cons, List.map_nil, hs, hx, hr]
 exact h v' w' h2 ((Below.refl base w).grown h3 hbase (fun k hk => (hown.lt k hk).1)) h3 (ofs_of h5)
theorem wpList_append_sle {P : Program} {α : Type} {f : α → List Value} {k : Nat} {ops : Array Oper} {rest : List Oper} {o : Oper} {a : Act} {w : World} {Q : Exit → Act → World → Prop} (hgd : o.guard = none) (s x : Operand) (t : TypeId)
  (ho : o.op = .call { callee := .builtin .append, args := #[s, x], argTypes := #[t, t] })
  (base : Nat) (e : TypeId) (i : TypeInfo) (z : Value) (bytes : Nat) (ht : P.underlying t = some (.slice e)) (hi : P.info? e = some i) (hz : i.zero = some z)
  (hsize : i.size = k) (hby : i.bytes = bytes) (hzs : z.cells.size = k) (h1 : ∀ x, ∀ u ∈ f x, u.oneCell' = true)
  (v : Value) (n : Nat) (l : List α) (hs : a.eval s = v) (hown : w.ownsRow base e k v n (l.flatMap f))
  (A : Option Addr) (m c : Nat) (l2 : List α) (hx : a.eval x = .slice A m c) (hr : Sle f k w A m c l2)
  (h63 : n + m ≤ maxLen) (hb47 : (n + m) * bytes ≤ 140737488355328) (hbase : base ≤ w.heap.size)
  (h : ∀ v' w', w'.ownsRow base e k v' (n + m) ((l ++ l2).flatMap f) → Below base w w' → w.grownBy w' v.ownBlock → (∀ g, g < w.heap.size → Ofs v g → Ofs v' g) → wpList P ops Q rest (a.put o.dst v') w') : wpList P ops Q (o :: rest) a w :=
 wpList_plain hgd fun _ hK => wp_append_sle s x t ho base e i z bytes ht hi hz hsize hby hzs h1 v n l hs hown A m c l2 hx hr h63 hb47 hbase fun v' w' h1 h2 h3 h4 => hK _ _ (h v' w' h1 h2 h3 h4)
theorem owk_av {w : World} {B k : Nat} {e : TypeId} {A : Option Addr} {m c n g : Nat} {xs : List Value} (h : w.ownsRow B e k (.slice A m c) n xs) (o : Ofs (.slice A m c) g) : Av A n g := fun hn a p q e1 => by
 rcases h.2 with ⟨_, rfl⟩ | ⟨g', cap, cur, e2, _⟩
 ·omega
 ·injection e2 with e3 e4 e5
  rw [e3] at e1
  injection e1 with e1
  injection e1 with e6 e7 e8
  subst e6
  exact o g' (by rw [e3]; rfl)
/-- A piece of an element. -/
theorem Sle.range {α : Type} {f : α → List Value} {k : Nat} {w : World} {g o n c i : Nat} {l : List α} {x : α} (h : Sle f k w (some ⟨g, o, none⟩) n c l) (hx : l[i]? = some x) (a m : Nat) (cs : List Value) (hcs : ((f x).drop a).take m = cs) : w.rangeAt g (o + i * k + a) cs := by
 intro j v hv
 rw [← hcs, List.getElem?_take] at hv
 split at hv
 ·rw [List.getElem?_drop] at hv
  have := h.cell hx hv
  rw [show o + i * k + a + j = o + (i * k + (a + j)) by omega]
  exact this
 ·cases hv
theorem Sle.cellk {α : Type} {f : α → List Value} {k : Nat} {w : World} {g o n c i : Nat} {l : List α} {x : α} (h : Sle f k w (some ⟨g, o, none⟩) n c l) (hx : l[i]? = some x) (a : Nat) (v : Value) (hv : (f x)[a]? = some v) : w.cell? ⟨g, o + i * k + a, none⟩ = some v := by
 have := h.cell hx hv
 rw [← Nat.add_assoc] at this
 exact this
theorem Sle.cellk0 {α : Type} {f : α → List Value} {k : Nat} {w : World} {g o n c i : Nat} {l : List α} {x : α} (h : Sle f k w (some ⟨g, o, none⟩) n c l) (hx : l[i]? = some x) (v : Value) (hv : (f x)[0]? = some v) : w.cell? ⟨g, o + i * k, none⟩ = some v := h.cellk hx 0 v hv
theorem Sle.range0 {α : Type} {f : α → List Value} {k : Nat} {w : World} {g o n c i : Nat} {l : List α} {x : α} (h : Sle f k w (some ⟨g, o, none⟩) n c l) (hx : l[i]? = some x) (m : Nat) (cs : List Value) (hcs : (f x).take m = cs) : w.rangeAt g (o + i * k) cs := h.range hx 0 m cs hcs
/-- A text out of a row of texts. -/
theorem Sle.st {w : World} {g o n c i : Nat} {l : List (List UInt8)} {x : List UInt8} (h : Sle stf 1 w (some ⟨g, o, none⟩) n c l) (hx : l[i]? = some x) : w.cell? ⟨g, o + i, none⟩ = some (.string ⟨x.toArray⟩) := by
 have := Sle.cell (j := 0) h hx rfl
 rw [Nat.mul_one, Nat.add_zero] at this
 exact this
theorem Sle.off {α : Type} {f : α → List Value} {k : Nat} {w w' : World} {g o n c : Nat} {l : List α} {v : Value} (h : Sle f k w (some ⟨g, o, none⟩) n c l) (hv : Ofs v g) (gw : w.grownBy w' v.ownBlock) : Sle f k w' (some ⟨g, o, none⟩) n c l :=
 h.keep fun a p u hc _ he => by
  obtain ⟨o', e⟩ := he
  injection e with e
  injection e with e1 e2
  subst e1
  exact (World.cell?_of_block (w := w) (gw.block g (cell_lt hc) (fun e3 => hv g e3.symm rfl))).trans hc
open Go.RowKit

theorem st_size (l : List UInt8) : (⟨l.toArray⟩ : ByteArray).size = l.length := by simp [ByteArray.size]
theorem st_index {l : List UInt8} {i : Nat} {x : UInt8} (h : l[i]? = some x) (W : World) : (Instr.index 9 (.string ⟨l.toArray⟩) (.int .i64 (i : Int))).run Try.prog W = .ok (.int .u8 (x.toNat : Int)) W := by
 obtain ⟨hi, hx⟩ := List.getElem?_eq_some_iff.1 h
 rw [run_index_string W 9 _ .i64 _ (by kernel_rfl), dif_pos ⟨by omega, by rw [st_size]; omega⟩]
 congr 3
 subst hx
 rfl
theorem st_extract (l : List UInt8) (i j : Nat) : (⟨l.toArray⟩ : ByteArray).extract i j = ⟨((l.take j).drop i).toArray⟩ := by
 apply ByteArray.ext
 rw [ByteArray.data_extract]
 apply Array.ext'
 simp [List.extract_eq_take_drop, List.drop_take]
theorem st_mid {l : List UInt8} {i j : Nat} (h : i ≤ j) (hj : j ≤ l.length) (W : World) : (Instr.slice 9 (.string ⟨l.toArray⟩) (some (.int .i64 (i : Int))) (some (.int .i64 (j : Int))) none).run Try.prog W = .ok (.string ⟨((l.take j).drop i).toArray⟩) W := by
 rw [run_slice_string W 9 _ .i64 .i64 _ _ (by kernel_rfl) (by omega) (by omega) (by rw [st_size]; omega), st_extract]
 rfl
theorem st_one {l : List UInt8} {k : Nat} {x : UInt8} (h : l[k]? = some x) (W : World) : (Instr.slice 9 (.string ⟨l.toArray⟩) (some (.int .i64 (k : Int))) (some (.int .i64 ((k : Int) + 1))) none).run Try.prog W = .ok (.string ⟨#[x]⟩) W := by
 obtain ⟨hk, hx⟩ := List.getElem?_eq_some_iff.1 h
 have := st_mid (l := l) (i := k) (j := k + 1) (by omega) (by omega) W
 rw [show ((k + 1 : Nat) : Int) = (k : Int) + 1 from rfl] at this
 rw [this, List.take_add_one, h, List.drop_append_of_le_length (by rw [List.length_take]; omega), List.drop_eq_nil_of_le (by rw [List.length_take]; omega)]
 rfl
theorem st_add {x y : List UInt8} (h : x.length + y.length ≤ 8388608) (W : World) : (Op.stringOp .add ⟨x.toArray⟩ ⟨y.toArray⟩).run Try.prog W = .ok (.string ⟨(x ++ y).toArray⟩) W :=
 run_string_add_lists W x y (by omega) (by omega)
theorem st_len (l : List UInt8) (ty : TypeId) (W : World) : (Builtin.len_ #[9] ty #[.string ⟨l.toArray⟩]).run Try.prog W = .ok (.int .i64 (l.length : Int)) W := by
 rw [run_len_string W 9 ty _ (by kernel_rfl), st_size]
 rfl
open Go.RowKit

section
variable {P : Program} {ops : Array Oper} {Q : Exit → Act → World → Prop} {md : Region.Mode} {S : World → Prop} {z : Nat}

/-- Whatever order is picked from here on, and S holds behind every operation that is carried out, but for number 'z'. -/
def wpAnyZ (P : Program) (md : Region.Mode) (ops : Array Oper) (Q : Exit → Act → World → Prop) (S : World → Prop) (z : Nat) : Nat → Array Bool → Act → World → Prop
 | 0, listed, a, w => Region.ready md ops listed = [] ∧ Q .normal a w
 | fuel + 1, listed, a, w =>
  (Region.ready md ops listed = [] → Q .normal a w) ∧
  ∀ i ∈ Region.ready md ops listed, wpOp P ops Q i (fun a' w' => (i ≠ z → S w') ∧ wpAnyZ P md ops Q S z fuel (listed.setIfInBounds i true) a' w') a w

def AllReadyZ (P : Program) (md : Region.Mode) (ops : Array Oper) (Q : Exit → Act → World → Prop) (S : World → Prop) (z : Nat) (fuel : Nat) (listed : Array Bool) (a : Act) (w : World) (rs : List Nat) : Prop :=
 ∀ i ∈ rs, wpOp P ops Q i (fun a' w' => (i ≠ z → S w') ∧ wpAnyZ P md ops Q S z fuel (listed.setIfInBounds i true) a' w') a w

theorem AllReadyZ.nil {fuel : Nat} {listed : Array Bool} {a : Act} {w : World} : AllReadyZ P md ops Q S z fuel listed a w [] := fun _ h => by cases h
theorem AllReadyZ.cons {fuel : Nat} {listed : Array Bool} {a : Act} {w : World} {i : Nat} {o : Oper} {rs : List Nat} (ho : ops[i]? = some o)
  (h : ∀ K' : Act → World → Prop, Shut (∀ a w, S w → (S w → wpAnyZ P md ops Q S z fuel (listed.setIfInBounds i true) a w) → K' a w) → if Region.wanted o (yielded ops a.tmps) = true then Oper.wp P o a w K' Q else K' (a.put o.dst undef) w)
  (hs : AllReadyZ P md ops Q S z fuel listed a w rs) : AllReadyZ P md ops Q S z fuel listed a w (i :: rs) := fun j hj => by
 rcases List.mem_cons.1 hj with rfl | hj
 ·exact wpOp_step ho (fun K' hK => h K' (fun a w hS hW => hK a w ⟨fun _ => hS, hW hS⟩))
 ·exact hs j hj
end
open Go.RowKit

theorem st_lenN {l : List UInt8} {n : Nat} (h : l.length = n) (ty : TypeId) (W : World) : (Builtin.len_ #[9] ty #[.string ⟨l.toArray⟩]).run Try.prog W = .ok (.int .i64 (n : Int)) W := by rw [st_len, h]
set_option linter.unusedVariables false in
set_option linter.unusedSimpArgs false in
set_option maxRecDepth 100000 in
set_option maxHeartbeats 16000000 in
theorem ngood_any (A : Option Addr) (n c : Nat) (l : List (List UInt8)) (w : World) (la : Sle stf 1 w A n c l) (hn : n ≤ 100000) : Calls Try.prog 65 #[.slice A n c] w fun e w' => e = .returned (.bool (goodN l)) ∧ w = w' := by
 have HN := Lib.hid la.1
 have hb : (n : Int) ≤ 100000 := by omega
 skip
 go_enter Try.func65, Try.ntmps65
 go_wp2_with fail
 go_loopg [8, 3] (n) (fun gk s8 s3 wr => ∃ i : Nat, ∃ z : Nat, gk = n - i ∧ i ≤ n ∧ Hid (1 + sizeN (l.take i) = z) ∧ Hid (∀ y ∈ l.take i, okL y = true) ∧ z ≤ 64 * i + 1 ∧ s8 = .int .i64 (i : Int) ∧ s3 = .int .i64 (z : Int) ∧ w = wr)
 case atStart => exact ⟨0, 1, Nat.sub_zero _, Nat.zero_le _, Lib.hid rfl, Lib.hid (fun y hy => by simp at hy), by omega, rfl, rfl, rfl⟩
 case round =>
  obtain ⟨i, z, HGK, hi, HZ, HO, hz, rfl, rfl, rfl⟩ := hrel
  have HGK_ := Lib.hid HGK
  clear HGK
  have i0 : (0 : Int) ≤ i := by omega
  have z0 : (0 : Int) ≤ z := by omega
  have z1 : (z : Int) ≤ 10000000 := by omega
  by_cases h : i < n
  rotate_left
  ·have hh := Lib.hid h
   replace h : decide (i < n) = false := decide_eq_false h
   by_cases h3 : z ≤ 255
   ·have HF : Hid (goodN l = true) := Lib.hid (by rw [good_end (ok_end HO.out (by rw [HN.out]; exact hh.out)), decide_eq_true]; have h_ := HZ.out; rw [take_full (by rw [HN.out]; exact hh.out)] at h_; omega)
    have h5 : (z : Int) ≤ 255 := by omega
    go_wp2_with fail
    go_ret
    exact ⟨by rw [HF.out]; rfl, rfl⟩
   have HF : Hid (goodN l = false) := Lib.hid (by rw [good_end (ok_end HO.out (by rw [HN.out]; exact hh.out)), decide_eq_false]; have h_ := HZ.out; rw [take_full (by rw [HN.out]; exact hh.out)] at h_; omega)
   have h4 : decide (z ≤ 255) = false := decide_eq_false h3
   have h5 : decide ((z : Int) ≤ 255) = false := decide_eq_false (by omega)
   clear h3
   go_wp2_with fail
   go_ret
   exact ⟨by rw [HF.out]; rfl, rfl⟩
  obtain ⟨gA, oA, rfl⟩ := la.place (by omega)
  obtain ⟨x, HX_⟩ : ∃ u_, l[i]? = some u_ := ⟨_, List.getElem?_eq_getElem (by rw [HN.out]; exact h)⟩
  have HX := Lib.hid HX_
  clear HX_
  obtain ⟨k, HK_⟩ : ∃ b, x.length = b := ⟨_, rfl⟩
  have HK := Lib.hid HK_
  clear HK_
  by_cases h1 : k = 0
  ·have HF : Hid (goodN l = false) := Lib.hid (good_not HX.out (decide_eq_false (by rw [HK.out]; omega)))
   obtain rfl := List.eq_nil_of_length_eq_zero (HK.out.trans h1)
   clear h1
   have R11 := Sle.st (i := i) la HX.out
   go_wp2_with fail
   clear R11
   go_ret
   exact ⟨by rw [HF.out]; rfl, rfl⟩
  have hxe : (x == ([] : List UInt8)) = false := by rw [beq_eq_false_iff_ne]; intro e; have h_ := HK.out; rw [e] at h_; exact h1 h_.symm
  by_cases h2 : k ≤ 63
  rotate_left
  ·have HF : Hid (goodN l = false) := Lib.hid (good_not HX.out (decide_eq_false (by rw [HK.out]; omega)))
   have k1 : (63 : Int) < k := by omega
   clear h1 h2
   have R11 := Sle.st (i := i) la HX.out
   have R16 := fun W => st_lenN HK.out 3 W
   go_wp2_with fail
   clear R11 R16
   go_ret
   exact ⟨by rw [HF.out]; rfl, rfl⟩
  have HOK : Hid (okL x = true) := Lib.hid (decide_eq_true (by rw [HK.out]; omega))
  have k0 : (0 : Int) ≤ k := by omega
  have k1 : (k : Int) ≤ 63 := by omega
  clear h1
  have R11 := Sle.st (i := i) la HX.out
  have R16 := fun W => st_lenN HK.out 3 W
  have R21 := fun W => st_lenN HK.out 3 W
  go_wp2_with fail
  clear R11 R16 R21
  go_roundg (n - (i + 1))
  case measure => have := HGK_.out; omega
  case rel => exact ⟨i + 1, z + (1 + k), rfl, h, Lib.hid (by rw [size_next HX.out, HK.out, ← Nat.add_assoc, HZ.out]), Lib.hid (ok_next HO.out HX.out HOK.out), by omega, by go_num, by go_num, rfl⟩
set_option linter.unusedVariables false in
set_option linter.unusedSimpArgs false in
set_option maxRecDepth 100000 in
set_option maxHeartbeats 16000000 in
theorem rgood_any (A : Option Addr) (n c : Nat) (l : List (List UInt8)) (w : World) (la : Sle stf 1 w A n c l) (hn : n ≤ 100000) : Calls Try.prog 39 #[.slice A n c] w fun e w' => e = .returned (.bool (goodN l)) ∧ w = w' := by
 have HN := Lib.hid la.1
 have hb : (n : Int) ≤ 100000 := by omega
 skip
 go_enter Try.func39, Try.ntmps39
 go_wp2_with fail
 go_loopg [4, 3] (n) (fun gk s4 s3 wr => ∃ i : Nat, ∃ z : Nat, gk = n - i ∧ i ≤ n ∧ Hid (1 + sizeN (l.take i) = z) ∧ Hid (∀ y ∈ l.take i, okL y = true) ∧ z ≤ 64 * i + 1 ∧ s4 = .int .i64 (i : Int) ∧ s3 = .int .i64 (z : Int) ∧ w = wr)
 case atStart => exact ⟨0, 1, Nat.sub_zero _, Nat.zero_le _, Lib.hid rfl, Lib.hid (fun y hy => by simp at hy), by omega, rfl, rfl, rfl⟩
 case round =>
  obtain ⟨i, z, HGK, hi, HZ, HO, hz, rfl, rfl, rfl⟩ := hrel
  have HGK_ := Lib.hid HGK
  clear HGK
  have i0 : (0 : Int) ≤ i := by omega
  have z0 : (0 : Int) ≤ z := by omega
  have z1 : (z : Int) ≤ 10000000 := by omega
  by_cases h : i < n
  rotate_left
  ·have hh := Lib.hid h
   replace h : decide (i < n) = false := decide_eq_false h
   by_cases h3 : z ≤ 255
   ·have HF : Hid (goodN l = true) := Lib.hid (by rw [good_end (ok_end HO.out (by rw [HN.out]; exact hh.out)), decide_eq_true]; have h_ := HZ.out; rw [take_full (by rw [HN.out]; exact hh.out)] at h_; omega)
    have h5 : (z : Int) ≤ 255 := by omega
    go_wp2_with fail
    go_ret
    exact ⟨by rw [HF.out]; rfl, rfl⟩
   have HF : Hid (goodN l = false) := Lib.hid (by rw [good_end (ok_end HO.out (by rw [HN.out]; exact hh.out)), decide_eq_false]; have h_ := HZ.out; rw [take_full (by rw [HN.out]; exact hh.out)] at h_; omega)
   have h4 : decide (z ≤ 255) = false := decide_eq_false h3
   have h5 : decide ((z : Int) ≤ 255) = false := decide_eq_false (by omega)
   clear h3
   go_wp2_with fail
   go_ret
   exact ⟨by rw [HF.out]; rfl, rfl⟩
  obtain ⟨gA, oA, rfl⟩ := la.place (by omega)
  obtain ⟨x, HX_⟩ : ∃ u_, l[i]? = some u_ := ⟨_, List.getElem?_eq_getElem (by rw [HN.out]; exact h)⟩
  have HX := Lib.hid HX_
  clear HX_
  obtain ⟨k, HK_⟩ : ∃ b, x.length = b := ⟨_, rfl⟩
  have HK := Lib.hid HK_
  clear HK_
  by_cases h1 : k < 1
  ·have HF : Hid (goodN l = false) := Lib.hid (good_not HX.out (decide_eq_false (by rw [HK.out]; omega)))
   have h9 : (k : Int) < 1 := by omega
   clear h1
   have R14 := Sle.st (i := i) la HX.out
   have R15 := fun W => st_lenN HK.out 3 W
   go_wp2_with fail
   clear R14 R15
   go_ret
   exact ⟨by rw [HF.out]; rfl, rfl⟩
  have h8 : decide ((k : Int) < 1) = false := decide_eq_false (by omega)
  by_cases h2 : k ≤ 63
  rotate_left
  ·have HF : Hid (goodN l = false) := Lib.hid (good_not HX.out (decide_eq_false (by rw [HK.out]; omega)))
   have k1 : (63 : Int) < k := by omega
   clear h1 h2
   have R14 := Sle.st (i := i) la HX.out
   have R15 := fun W => st_lenN HK.out 3 W
   have R21 := Sle.st (i := i) la HX.out
   have R22 := fun W => st_lenN HK.out 3 W
   go_wp2_with fail
   clear R14 R15 R21 R22
   go_ret
   exact ⟨by rw [HF.out]; rfl, rfl⟩
  have HOK : Hid (okL x = true) := Lib.hid (decide_eq_true (by rw [HK.out]; omega))
  have k0 : (0 : Int) ≤ k := by omega
  have k1 : (k : Int) ≤ 63 := by omega
  have h7 : decide ((63 : Int) < k) = false := decide_eq_false (by omega)
  clear h1
  by_cases h6 : i ≤ 127
  rotate_left
  ·have HF : Hid (goodN l = false) := Lib.hid (good_many HO.out (by rw [HN.out]; exact h) (by omega))
   have h5 : (127 : Int) < i := by omega
   clear h6
   have R14 := Sle.st (i := i) la HX.out
   have R15 := fun W => st_lenN HK.out 3 W
   have R21 := Sle.st (i := i) la HX.out
   have R22 := fun W => st_lenN HK.out 3 W
   go_wp2_with fail
   clear R14 R15 R21 R22
   go_ret
   exact ⟨by rw [HF.out]; rfl, rfl⟩
  have h5 : decide ((127 : Int) < i) = false := decide_eq_false (by omega)
  clear h6
  have R14 := Sle.st (i := i) la HX.out
  have R15 := fun W => st_lenN HK.out 3 W
  have R21 := Sle.st (i := i) la HX.out
  have R22 := fun W => st_lenN HK.out 3 W
  have R34 := Sle.st (i := i) la HX.out
  have R35 := fun W => st_lenN HK.out 3 W
  go_wp2_with fail
  clear R14 R15 R21 R22 R34 R35
  go_roundg (n - (i + 1))
  case measure => have := HGK_.out; omega
  case rel => exact ⟨i + 1, z + (1 + k), rfl, h, Lib.hid (by rw [size_next HX.out, HK.out, ← Nat.add_assoc, HZ.out]), Lib.hid (ok_next HO.out HX.out HOK.out), by omega, by go_num, by go_num, rfl⟩
/-- Is a name more than is asked of? -/
def longN (l : List (List UInt8)) : Bool := decide (200 < l.length) || l.any fun x => decide (300 < x.length)
theorem long_of {l : List (List UInt8)} (h1 : l.length ≤ 200) (h2 : ∀ x ∈ l, x.length ≤ 300) : longN l = false := by
 unfold longN
 rw [Bool.or_eq_false_iff]
 exact ⟨decide_eq_false (by omega), List.any_eq_false.2 fun x hx => by have := h2 x hx; simpa using this⟩
theorem long_at {l : List (List UInt8)} {i : Nat} {x : List UInt8} (h : l[i]? = some x) (hx : 300 < x.length) : longN l = true := by
 unfold longN
 rw [Bool.or_eq_true]
 exact .inr (List.any_eq_true.2 ⟨x, List.mem_of_getElem? h, decide_eq_true hx⟩)
theorem short_next {l : List (List UInt8)} {i : Nat} {x : List UInt8} (h : ∀ y ∈ l.take i, y.length ≤ 300) (hi : l[i]? = some x) (hx : x.length ≤ 300) : ∀ y ∈ l.take (i + 1), y.length ≤ 300 := by
 rw [take_next hi]
 intro y hy
 rcases List.mem_append.1 hy with h1 | h1
 ·exact h y h1
 ·rw [List.mem_singleton.1 h1]; exact hx
open Go.RowKit

/-- What is in blocks of other types than S's stays as it was. -/
def Kt (S : List TypeId) (w w' : World) : Prop := ∀ (k : Nat) (c : Array Value) (T : TypeId) (fz : Nat × Nat), w.heap[k]? = some (.cells c T fz) → T ∉ S → w'.heap[k]? = some (.cells c T fz)
theorem Kt.refl (S : List TypeId) (w : World) : Kt S w w := fun _ _ _ _ h _ => h
theorem Kt.trans {S : List TypeId} {a b c : World} (h : Kt S a b) (h' : Kt S b c) : Kt S a c := fun k x T fz hx hT => h' k x T fz (h k x T fz hx hT) hT
theorem Kt.mono {S S' : List TypeId} {a b : World} (h : Kt S a b) (hS : ∀ T ∈ S, T ∈ S') : Kt S' a b := fun k x T fz hx hT => h k x T fz hx (fun hn => hT (hS T hn))
theorem kt_below {S : List TypeId} {w w' : World} (b : Below w.heap.size w w') : Kt S w w' := fun _ _ _ _ h _ => blk_u h b
theorem kt_grown {S : List TypeId} {w w' : World} {q : Nat} {c : Array Value} {T : TypeId} {fz : Nat × Nat} (g : w.grownBy w' (some q)) (h : w.heap[q]? = some (.cells c T fz)) (hT : T ∈ S) : Kt S w w' := fun k x T' fz' hx hT' => by
 by_cases e : k = q
 ·subst e; rw [h] at hx; cases hx; exact absurd hT hT'
 ·exact (g.block k (hlt hx) (fun e' => e (by injection e'))).trans hx
theorem kt_row {S : List TypeId} {w w' : World} {B k n : Nat} {T : TypeId} {v : Value} {xs : List Value} (g : w.grownBy w' v.ownBlock) (h : w.ownsRow B T k v n xs) (hT : T ∈ S) : Kt S w w' := fun i x T' fz' hx hT' => by
 refine (g.block i (hlt hx) (fun e => ?_)).trans hx
 rcases h.2 with ⟨h, _⟩ | ⟨g', cap, cur, e2, hb, hh, h⟩
 ·rw [h] at e; simp [Value.ownBlock] at e
 ·rw [e2] at e
  simp only [Value.ownBlock, Option.some.injEq] at e
  subst e
  rw [hh] at hx; cases hx; exact hT' hT
theorem Kt.own {S : List TypeId} {w w' : World} {B k n : Nat} {T : TypeId} {v : Value} {xs : List Value} (h : Kt S w w') (ho : w.ownsRow B T k v n xs) (hT : T ∉ S) : w'.ownsRow B T k v n xs := by
 refine ⟨ho.1, ?_⟩
 rcases ho.2 with h2 | ⟨g, cap, cur, e, hb, hh, h2⟩
 ·exact .inl h2
 ·exact .inr ⟨g, cap, cur, e, hb, h g _ _ _ hh hT, h2⟩

/-- All is as it was but in block g and in the block of v. -/
structure Gr2 (w w' : World) (g : Nat) (v : Value) : Prop where
 os : w'.os = w.os
 tape : w'.tape = w.tape
 output : w'.output = w.output
 size : w.heap.size ≤ w'.heap.size
 block : ∀ k, k < w.heap.size → k ≠ g → v.ownBlock ≠ some k → w'.heap[k]? = w.heap[k]?
theorem Gr2.refl (w : World) (g : Nat) (v : Value) : Gr2 w w g v := ⟨rfl, rfl, rfl, Nat.le_refl _, fun _ _ _ _ => rfl⟩
/-- Two steps, the row's place in between new or where it was. -/
theorem Gr2.trans {a b c : World} {g : Nat} {v v' : Value} (h : Gr2 a b g v) (h' : Gr2 b c g v') (hv : ∀ q, q < a.heap.size → Ofs v q → Ofs v' q) : Gr2 a c g v :=
 ⟨h'.os.trans h.os, h'.tape.trans h.tape, h'.output.trans h.output, Nat.le_trans h.size h'.size, fun k hk h1 h2 =>
  (h'.block k (Nat.lt_of_lt_of_le hk h.size) h1 (fun e => hv k hk (fun q hq hqk => h2 (by rw [hq, hqk])) k e rfl)).trans (h.block k hk h1 h2)⟩
theorem Gr2.kt {S : List TypeId} {w w' : World} {g B k n : Nat} {T T2 : TypeId} {fz : Nat × Nat} {c : Array Value} {v : Value} {xs : List Value} (h : Gr2 w w' g v) (hg : w.heap[g]? = some (.cells c T2 fz)) (hT2 : T2 ∈ S) (ho : w.ownsRow B T k v n xs) (hT : T ∈ S) : Kt S w w' := fun i x T' fz' hx hT' => by
 refine (h.block i (hlt hx) (fun e => ?_) (fun e => ?_)).trans hx
 ·subst e; rw [hg] at hx; cases hx; exact hT' hT2
 ·rcases ho.2 with ⟨h2, _⟩ | ⟨g', cap, cur, e2, hb, hh, h2⟩
  ·rw [h2] at e; simp [Value.ownBlock] at e
  ·rw [e2] at e
   simp only [Value.ownBlock, Option.some.injEq] at e
   subst e
   rw [hh] at hx; cases hx; exact hT' hT
theorem Gr2.bel {B : Nat} {w w' : World} {g : Nat} {v : Value} {k n : Nat} {T : TypeId} {xs : List Value} (h : Gr2 w w' g v) (hg : B ≤ g) (ho : w.ownsRow B T k v n xs) (hs : B ≤ w.heap.size) : Below B w w' :=
 ⟨h.os, h.tape, h.output, h.size, fun i hi => h.block i (Nat.lt_of_lt_of_le hi hs) (by omega) (fun e => by have := (ho.lt i e).1; omega)⟩
/-- A row and a block of another type lie apart. -/
theorem ofs_type {w : World} {B k n q : Nat} {T T2 : TypeId} {fz : Nat × Nat} {c : Array Value} {v : Value} {xs : List Value} (ho : w.ownsRow B T k v n xs) (hq : w.heap[q]? = some (.cells c T2 fz)) (hne : T2 ≠ T) : Ofs v q := fun g hg e => by
 subst e
 rcases ho.2 with ⟨h2, _⟩ | ⟨g', cap, cur, e2, hb, hh, h2⟩
 ·rw [h2] at hg; simp [Value.ownBlock] at hg
 ·rw [e2] at hg
  simp only [Value.ownBlock, Option.some.injEq] at hg
  subst hg
  rw [hh] at hq; cases hq; exact hne rfl

section
variable {α : Type} {f : α → List Value} {k : Nat} {w w' : World} {B n c g : Nat} {T : TypeId} {l : List α}
end
open Go.RowKit

section
variable {k : Nat} {w : World} {B n c g : Nat} {T : TypeId} {xs : List Value}
theorem row_of (h : w.ownsRow B T k (.slice (some ⟨g, 0, none⟩) n c) n xs) : xs.length = n * k ∧ ∃ cur : List Value, B ≤ g ∧ w.heap[g]? = some (.cells cur.toArray T (0, 0)) ∧ n ≤ c ∧ c ≤ maxLen ∧ cur.length = c * k ∧ cur.take (n * k) = xs := by
 refine ⟨h.1, ?_⟩
 rcases h.2 with ⟨e, _⟩ | ⟨g', cap, cur, e, hb, hh, hn, hc, hs, ht⟩
 ·cases e
 ·injection e with e1 e2 e3
  injection e1 with e1
  injection e1 with e1
  subst e1
  subst e3
  exact ⟨cur.toList, hb, by simpa using hh, hn, hc, by simpa using hs, ht⟩
theorem row_mk {cur : List Value} (hb : B ≤ g) (hh : w.heap[g]? = some (.cells cur.toArray T (0, 0))) (hn : n ≤ c) (hc : c ≤ maxLen) (hs : cur.length = c * k) (ht : cur.take (n * k) = xs) : w.ownsRow B T k (.slice (some ⟨g, 0, none⟩) n c) n xs := by
 refine ⟨?_, .inr ⟨g, c, cur.toArray, rfl, hb, hh, hn, hc, by simpa using hs, by simpa using ht⟩⟩
 rw [← ht, List.length_take, hs]
 exact Nat.min_eq_left (Nat.mul_le_mul_right k hn)
/-- A row of fewer elements, of more. -/
theorem row_less (h : w.ownsRow B T k (.slice (some ⟨g, 0, none⟩) n c) n xs) {i : Nat} (hi : i ≤ n) : w.ownsRow B T k (.slice (some ⟨g, 0, none⟩) i c) i (xs.take (i * k)) := by
 obtain ⟨hl, cur, hb, hh, hn, hc, hs, ht⟩ := row_of h
 refine row_mk hb hh (by omega) hc hs ?_
 rw [← ht, List.take_take, Nat.min_eq_left (Nat.mul_le_mul_right k hi)]
end
/-- Zeros. -/
def zerosL (z : Value) (n : Nat) : List Value := (Builtin.zeroCells z.cells n).toList
theorem zerosL_len (z : Value) (n : Nat) {k : Nat} (hz : z.cells.size = k) : (zerosL z n).length = n * k := by
 unfold zerosL
 rw [Array.length_toList, size_zeroCells, hz]
section
variable {P : Program}
end
open Go.RowKit

theorem Below.row {lo g : Nat} {w w' : World} (h : w.grownBy w' (some g)) (hg : lo ≤ g) (hs : lo ≤ w.heap.size) : Below lo w w' := (Below.refl lo w).grown h hs (fun k e => by cases e; exact hg)
theorem gk_drew {w0 w : World} {b : Option Nat} (h : w0.grownBy w b) : w0.grownBy w.drew b := ⟨h.os, h.tape, h.output, h.size, h.block⟩
theorem owk_lo {w : World} {B B' k n : Nat} {e : TypeId} {v : Value} {xs : List Value} (h : w.ownsRow B e k v n xs) (hb : B' ≤ B) : w.ownsRow B' e k v n xs := by
 refine ⟨h.1, ?_⟩
 rcases h.2 with h | ⟨g, cap, cur, e, hg, h⟩
 ·exact .inl h
 ·exact .inr ⟨g, cap, cur, e, Nat.le_trans hb hg, h⟩
theorem Gr2.drew {w w' : World} {g : Nat} {v : Value} (h : Gr2 w w' g v) : Gr2 w w'.drew g v := ⟨h.os, h.tape, h.output, h.size, h.block⟩
theorem gk_under {w0 w w' : World} {b : Option Nat} {B : Nat} (h : w0.grownBy w b) (h2 : Below B w w') (hB : w0.heap.size ≤ B) : w0.grownBy w' b :=
 ⟨h2.os.trans h.os, h2.tape.trans h.tape, h2.output.trans h.output, Nat.le_trans h.size h2.size, fun k hk hne => (h2.block k (Nat.lt_of_lt_of_le hk hB)).trans (h.block k hk hne)⟩
open Go.RowKit

theorem cells_st (l : List UInt8) : Lib.strCells ⟨l.toArray⟩ = l.map u8v := by
 unfold Lib.strCells
 apply List.ext_getElem
 ·simp
 ·intro i h1 h2
  simp [u8v]
theorem wp_append_st {P : Program} {o : Oper} {a : Act} {w : World} {K : Act → World → Prop} {Q : Exit → Act → World → Prop} (sl x : Operand) (t u : TypeId)
  (ho : o.op = .call { callee := .builtin .append, args := #[sl, x], argTypes := #[t, u] })
  (base : Nat) (e : TypeId) (i : TypeInfo) (ht : P.underlying t = some (.slice e)) (hu : P.underlying u = some .string) (hi : P.info? e = some i) (hz : i.zero = some (.int .u8 0))
  (hsize : i.size = 1) (hby : i.bytes = 1) (v : Value) (n : Nat) (l : List UInt8) (hs : a.eval sl = v) (hown : w.ownsRow base e 1 v n (l.map u8v)) (l2 : List UInt8) (m : Nat) (hm : l2.length = m) (hx : a.eval x = .string ⟨l2.toArray⟩)
  (h63 : n + m ≤ 140737488355328) (hbase : base ≤ w.heap.size)
  (h : ∀ v' w', w'.ownsRow base e 1 v' (n + m) ((l ++ l2).map u8v) → Below base w w' → K (a.put o.dst v') w') : Oper.wp P o a w K Q := by
 subst hm
 obtain ⟨v', w', hr, h2, h3, _⟩ := Lib.run_append_own_string (P := P) (w := w) base t u o.type e i ht hu hi hz hsize hby v n (l.map u8v) hown ⟨l2.toArray⟩ (by rw [st_size]; unfold maxLen; omega) (by rw [st_size]; omega) hbase
 rw [st_size, cells_st, ← List.map_append] at h2
 unfold Oper.wp execOp
 simp only [ho, resolve, invoke, builtin, Sem.run_bind, Sem.run_pure, Result.andThen_ok, List.map_toArray, List.map_cons, List.map_nil, hs, hx, hr]
 exact h _ _ h2 ((Below.refl base w).grown h3 hbase (fun k hk => (hown.lt k hk).1))
theorem wpList_append_st {P : Program} {ops : Array Oper} {rest : List Oper} {o : Oper} {a : Act} {w : World} {Q : Exit → Act → World → Prop} (hgd : o.guard = none) (sl x : Operand) (t u : TypeId)
  (ho : o.op = .call { callee := .builtin .append, args := #[sl, x], argTypes := #[t, u] })
  (base : Nat) (e : TypeId) (i : TypeInfo) (ht : P.underlying t = some (.slice e)) (hu : P.underlying u = some .string) (hi : P.info? e = some i) (hz : i.zero = some (.int .u8 0))
  (hsize : i.size = 1) (hby : i.bytes = 1) (v : Value) (n : Nat) (l : List UInt8) (hs : a.eval sl = v) (hown : w.ownsRow base e 1 v n (l.map u8v)) (l2 : List UInt8) (m : Nat) (hm : l2.length = m) (hx : a.eval x = .string ⟨l2.toArray⟩)
  (h63 : n + m ≤ 140737488355328) (hbase : base ≤ w.heap.size)
  (h : ∀ v' w', w'.ownsRow base e 1 v' (n + m) ((l ++ l2).map u8v) → Below base w w' → wpList P ops Q rest (a.put o.dst v') w') : wpList P ops Q (o :: rest) a w :=
 wpList_plain hgd fun _ hK => wp_append_st sl x t u ho base e i ht hu hi hz hsize hby v n l hs hown l2 m hm hx h63 hbase fun v' w' h1 h2 => hK _ _ (h v' w' h1 h2)
theorem own_to {w : World} {B n n' : Nat} {T : TypeId} {v : Value} {l l' : List UInt8} (h : w.ownsRow B T 1 v n (l.map u8v)) (hn : n = n') (hl : l = l') : w.ownsRow B T 1 v n' (l'.map u8v) := by subst hn; subst hl; exact h
theorem Try.info_str : (Try.prog.info? 9).map (fun i => (i.zero, i.size, i.bytes)) = some (some (.string ⟨#[]⟩), 1, 16) := by kernel_rfl

set_option linter.unusedVariables false in
set_option linter.unusedSimpArgs false in
set_option maxRecDepth 100000 in
set_option maxHeartbeats 16000000 in
theorem nclone_nil {n c : Nat} {l : List UInt8} (w : World) (hs : Sl w none n c l) : Calls Try.prog 66 #[.slice none n c] w fun e w' => ∃ v, e = .returned v ∧ w'.ownsRow w.heap.size 5 1 v n ((l).map u8v) ∧ Below w.heap.size w w' := by
 have r4 := fun W => Lib.run_eql_slice_nil (P := Try.prog) W 30 5 none n c 0 0 Try.underlying30
 simp only [Option.isNone_none] at r4
 have HN : Hid (n = 0) := Lib.hid (by rcases Nat.eq_zero_or_pos n with h_ | h_; exact h_; obtain ⟨g, o, e, _⟩ := hs.2.2.2 h_; cases e)
 have HL : Hid (l = []) := Lib.hid (List.eq_nil_of_length_eq_zero (hs.1.trans HN.out))
 clear hs
 have bel := Below.refl w.heap.size w
 go_enter Try.func66, Try.ntmps66
 have R4 := r4
 go_wp2_with fail
 clear R4
 go_ret
 exact ⟨.slice none 0 0, rfl, by rw [HN.out, HL.out]; exact World.ownsRow_nil _ _ _ _, bel⟩
set_option linter.unusedVariables false in
set_option linter.unusedSimpArgs false in
set_option maxRecDepth 100000 in
set_option maxHeartbeats 16000000 in
theorem nclone_some {ad : Addr} {n c : Nat} {l : List UInt8} (w : World) (hs : Sl w (some ad) n c l) (hn : n ≤ 100000) : Calls Try.prog 66 #[.slice (some ad) n c] w fun e w' => ∃ v, e = .returned v ∧ w'.ownsRow w.heap.size 5 1 v n ((l).map u8v) ∧ Below w.heap.size w w' := by
 have r4 := fun W => Lib.run_eql_slice_nil (P := Try.prog) W 30 5 (some ad) n c 0 0 Try.underlying30
 simp only [Option.isNone_some] at r4
 obtain ⟨ii, hii, hz0, hz1, hz2⟩ := info_parts Try.info5
 have bel := Below.refl w.heap.size w
 go_enter Try.func66, Try.ntmps66
 have R4 := r4
 go_wp2_with (first | ((with_reducible show wpList _ _ _ (⟨some 5, _, _, _, _, _⟩ :: _) _ _); refine wpList_lit_n rfl 30 5 0 _ rfl #[] (.int .u8 0) Try.underlying30 (by kernel_rfl) 1 (by kernel_rfl) (by decide) (by kernel_rfl) ?_; intro g5 w1 ge lt hh bb; have hl : w1.heap[g5]? = some (.cells (([] : List UInt8).map u8v).toArray 5 (0, 0)) := (by simpa [u8v, byteOf_val] using hh); have e0w := own_lit (B := w.heap.size) ([]) hl ge 0 rfl (by simp [maxLen]); have e0 := (own_sl e0w).1; have e0lo := bel.size; clear hl; have e0ge := ge; have lz_e0 := bb.size; have bl_hs_e0 := hs.bl_new; replace hs := hs.below bb; replace bel := bel.trans (bb.mono bel.size); clear hh lt ge bb) | ((with_reducible show wpList _ _ _ (⟨some 7, _, _, _, _, _⟩ :: _) _ _); refine wpList_append_bb _ rfl (.tmp 5) (.tmp 6) 30 rfl (w.heap.size) 5 ii (.int .u8 0) Try.underlying30 hii hz0 hz1 hz2 rfl _ (0) ([]) rfl e0w (some ad) (n) (c) (l) rfl hs (by omega) lz_e0 ?_; intro v7 w2 own_ bb; replace hs := hs.under bl_hs_e0 bb; replace bel := bel.trans (bb.mono e0lo); have lz_cl := Nat.le_trans lz_e0 bb.size; clear bb; clear e0 e0w lz_e0; replace own_ : w2.ownsRow (w.heap.size) 5 1 v7 (n) ((l : List UInt8).map u8v) := (by simpa using own_); obtain ⟨A7, c7, rfl⟩ := own_val own_; have clw := own_; have cl := (own_sl own_).1; have fr_cl := (own_sl own_).2; clear own_))
 try clear R4
 go_ret
 exact ⟨_, rfl, owk_lo clw e0lo, bel⟩
theorem nclone_any {A : Option Addr} {n c : Nat} {l : List UInt8} (w : World) (hs : Sl w A n c l) (hn : n ≤ 100000) : Calls Try.prog 66 #[.slice A n c] w fun e w' => ∃ v, e = .returned v ∧ w'.ownsRow w.heap.size 5 1 v n ((l).map u8v) ∧ Below w.heap.size w w' := by
 cases A with
 | none => exact nclone_nil w hs
 | some ad => exact nclone_some w hs hn
set_option linter.unusedVariables false in
set_option linter.unusedSimpArgs false in
set_option maxRecDepth 100000 in
set_option maxHeartbeats 16000000 in
theorem nput_good (A B : Option Addr) (n d m c : Nat) (b : List UInt8) (l : List (List UInt8)) (w : World) (lb : Sl w B n d b) (la : Sle stf 1 w A m c l) (hn : n ≤ 100000) (hg : goodN l = true) : Calls Try.prog 51 #[.slice B n d, .slice A m c] w fun e w' => ∃ v, e = .returned (.tuple #[v, .int .i64 0]) ∧ w'.ownsRow w.heap.size 5 1 v (b ++ putN l).length ((b ++ putN l).map u8v) ∧ Below w.heap.size w w' := by
 have HN := Lib.hid la.1
 have HG := Lib.hid (good_all hg)
 have HS := Lib.hid (good_size hg)
 have BLA := la.bl_new
 have hb : (m : Int) ≤ 255 := by have h_ := size_ge l; have h1_ := HN.out; have h2_ := HS.out; omega
 have HB := Lib.hid lb.1
 obtain ⟨ii, hii, hz0, hz1, hz2⟩ := info_parts Try.info5
 have bel := Below.refl w.heap.size w
 go_enter Try.func51, Try.ntmps51
 go_wp2_with fail
 with_reducible refine (ngood_any _ _ _ _ _ la (by have h_ := hb; omega)).mono ?_
 rintro e _ ⟨rfl, rfl⟩
 rw [hg]
 go_wp2_with fail
 with_reducible refine (nclone_any _ lb hn).mono ?_
 rintro e w1 ⟨vcl, rfl, clw, b1⟩
 have bl_lb_cl := lb.bl_new
 have bl_la_cl := la.bl_new
 have cllo := bel.size
 have lz_cl := b1.size
 replace lb := lb.below b1
 replace la := la.below b1
 replace bel := bel.trans (b1.mono bel.size)
 clear b1
 obtain ⟨Acl, ccl, rfl⟩ := own_val clw
 have cl := (own_sl clw).1
 have fr_cl := (own_sl clw).2
 clear lb
 go_wp2_with fail
 go_loopg [16, 6] (m) (fun gk s16 s6 wr => ∃ i : Nat, ∃ z : Nat, ∃ (Aou : Option Addr) (cou : Nat), gk = m - i ∧ i ≤ m ∧ Hid (n + sizeN (l.take i) = z) ∧ z ≤ n + 254 ∧ s16 = .int .i64 (i : Int) ∧ s6 = .slice Aou z cou ∧ wr.ownsRow (w.heap.size) 5 1 (.slice Aou (z) cou) (z) ((b ++ encL (l.take i) : List UInt8).map u8v) ∧ Sle stf 1 wr (A) (m) (c) (l) ∧ Below w.heap.size w wr)
 case atStart => exact ⟨0, n, Acl, ccl, Nat.sub_zero _, Nat.zero_le _, Lib.hid rfl, by omega, rfl, rfl, own_to clw rfl (by simp [encL]), la, bel⟩
 case round =>
  clear la cl bel
  obtain ⟨i, z, Aou, cou, HGK, hi, HZ, hz, rfl, rfl, ouw, la, bel⟩ := hrel
  have HGK_ := Lib.hid HGK
  clear HGK
  have ou := (own_sl ouw).1
  have fr_ou := (own_sl ouw).2
  have lz_ou := bel.size
  have oulo := Nat.le_refl (w.heap.size)
  have i0 : (0 : Int) ≤ i := by omega
  by_cases h : i < m
  rotate_left
  ·have hh := Lib.hid h
   replace h : decide (i < m) = false := decide_eq_false h
   go_wp2_with (first | ((with_reducible show wpList _ _ _ (⟨some 31, _, _, _, _, _⟩ :: _) _ _); refine wpList_lit_n rfl 30 5 1 _ rfl #[.int .u8 0] (.int .u8 0) Try.underlying30 (by kernel_rfl) 1 (by kernel_rfl) (by decide) (by kernel_rfl) ?_; intro g31 w2 ge lt hh bb; have hl : w2.heap[g31]? = some (.cells (([0] : List UInt8).map u8v).toArray 5 (0, 0)) := (by simpa [u8v, byteOf_val] using hh); have ztw := own_lit (B := wr.heap.size) ([0]) hl ge 1 rfl (by simp [maxLen]); have zt := (own_sl ztw).1; have ztlo := bel.size; clear hl; have ztge := ge; have lz_zt := bb.size; have bl_la_zt := la.bl_new; have bl_ou_zt := ou.bl_new; have av_la_b31 := la.av_new ge; have av_ou_b31 := ou.av_new ge; have of_ou_b31 := own_new ouw ge; have ob31 := Nat.le_trans bel.size ge; replace la := la.below bb; replace ou := ou.below bb; replace ouw := own_under ouw bb; replace lz_ou := Nat.le_trans lz_ou bb.size; replace bel := bel.trans (bb.mono bel.size); have hb31 := hh; clear hh lt ge bb) | ((with_reducible show wpList _ _ _ (⟨some 32, _, _, _, _, _⟩ :: _) _ _); refine wpList_append_bg _ rfl (.tmp 30) (.tmp 31) 30 rfl (w.heap.size) 5 ii (.int .u8 0) Try.underlying30 hii hz0 hz1 hz2 rfl _ (z) (b ++ encL (l.take i)) rfl ouw (some ⟨g31, 0, none⟩) (1) (1) ([0]) rfl zt (by omega) lz_ou ?_; intro v32 w3 own_ bb gw ofw; have of32_b31 := ofw _ (hlt hb31) of_ou_b31; clear ofw; replace la := la.under BLA bb; clear zt ztw lz_zt; replace hb31 := blk_own hb31 gw of_ou_b31; clear gw; replace bel := bel.trans (bb.mono oulo); have lz_fi := Nat.le_trans lz_ou bb.size; clear bb; clear ou ouw lz_ou; replace own_ : w3.ownsRow (w.heap.size) 5 1 v32 (z + 1) ((b ++ encL (l.take i) ++ [0] : List UInt8).map u8v) := own_; obtain ⟨A32, c32, rfl⟩ := own_val own_; have fiw := own_; have fi := (own_sl own_).1; have fr_fi := (own_sl own_).2; clear own_; have av_fi_b31 := own_av fiw of32_b31))
   exact bodyPost_ret (v := .tuple #[.slice A32 (z + 1) c32, .int .i64 0]) (by simp [results, Try.results51, go_sem]) rfl ⟨_, rfl, own_to fiw (by rw [putN, List.length_append, List.length_append, enc_len, HB.out]; have h_ := HZ.out; rw [take_full (by rw [HN.out]; exact hh.out)] at h_; simp; omega) (by rw [take_full (by rw [HN.out]; exact hh.out)]; simp [putN]), bel⟩
  obtain ⟨gA, oA, rfl⟩ := la.place (by omega)
  obtain ⟨x, HX_⟩ : ∃ u_, l[i]? = some u_ := ⟨_, List.getElem?_eq_getElem (by rw [HN.out]; exact h)⟩
  have HX := Lib.hid HX_
  clear HX_
  obtain ⟨k, HK_⟩ : ∃ u_, x.length = u_ := ⟨_, rfl⟩
  have HK := Lib.hid HK_
  clear HK_
  have hk := HG.out x (List.mem_of_getElem? HX.out)
  rw [HK.out] at hk
  have k0 : (0 : Int) ≤ k := by omega
  have k1 : (k : Int) ≤ 63 := by omega
  have HZ2 : Hid (n + sizeN (l.take (i + 1)) = z + 1 + k) := Lib.hid (by rw [size_next HX.out, HK.out]; have h_ := HZ.out; omega)
  have hzn : z + 1 + k ≤ n + 254 := by have h_ := size_take l (i + 1); have h1_ := HS.out; have h2_ := HZ2.out; omega
  have R23_ : byteOf (k : Int) = byteOf (k : Int) := rfl
  have R19 := Sle.st (i := i) la HX.out
  have R22 := fun W => st_lenN HK.out 3 W
  go_wp2_with (first | ((with_reducible show wpList _ _ _ (⟨some 24, _, _, _, _, _⟩ :: _) _ _); refine wpList_lit_n rfl 30 5 1 _ rfl #[.int .u8 (k : Int)] (.int .u8 0) Try.underlying30 (by kernel_rfl) 1 (by kernel_rfl) (by decide) (by kernel_rfl) ?_; intro g24 w2 ge lt hh bb; have hl : w2.heap[g24]? = some (.cells (([byteOf (k : Int)] : List UInt8).map u8v).toArray 5 (0, 0)) := (by simpa [u8v, byteOf_nat (n := k) (by omega)] using hh); have ytw := own_lit (B := wr.heap.size) ([byteOf (k : Int)]) hl ge 1 rfl (by simp [maxLen]); have yt := (own_sl ytw).1; have ytlo := bel.size; clear hl; have ytge := ge; have lz_yt := bb.size; have bl_la_yt := la.bl_new; have bl_ou_yt := ou.bl_new; have av_la_b24 := la.av_new ge; have av_ou_b24 := ou.av_new ge; have of_ou_b24 := own_new ouw ge; have ob24 := Nat.le_trans bel.size ge; replace la := la.below bb; replace ou := ou.below bb; replace ouw := own_under ouw bb; replace lz_ou := Nat.le_trans lz_ou bb.size; replace bel := bel.trans (bb.mono bel.size); have hb24 := hh; clear hh lt ge bb) | ((with_reducible show wpList _ _ _ (⟨some 25, _, _, _, _, _⟩ :: _) _ _); refine wpList_append_bg _ rfl (.tmp 20) (.tmp 24) 30 rfl (w.heap.size) 5 ii (.int .u8 0) Try.underlying30 hii hz0 hz1 hz2 rfl _ (z) (b ++ encL (l.take i)) rfl ouw (some ⟨g24, 0, none⟩) (1) (1) ([byteOf (k : Int)]) rfl yt (by omega) lz_ou ?_; intro v25 w3 own_ bb gw ofw; have of25_b24 := ofw _ (hlt hb24) of_ou_b24; clear ofw; replace la := la.under BLA bb; clear yt ytw lz_yt; replace hb24 := blk_own hb24 gw of_ou_b24; clear gw; replace bel := bel.trans (bb.mono oulo); have lz_ou1 := Nat.le_trans lz_ou bb.size; clear bb; clear ou ouw lz_ou; replace own_ : w3.ownsRow (w.heap.size) 5 1 v25 (z + 1) ((b ++ encL (l.take i) ++ [byteOf (k : Int)] : List UInt8).map u8v) := own_; obtain ⟨A25, c25, rfl⟩ := own_val own_; have ou1w := own_; have ou1 := (own_sl own_).1; have fr_ou1 := (own_sl own_).2; clear own_; have av_ou1_b24 := own_av ou1w of25_b24) | ((with_reducible show wpList _ _ _ (⟨some 28, _, _, _, _, _⟩ :: _) _ _); refine wpList_append_st rfl (.tmp 26) (.tmp 27) 30 9 rfl (w.heap.size) 5 ii Try.underlying30 Try.underlying9 hii hz0 hz1 hz2 _ (z + 1) (b ++ encL (l.take i) ++ [byteOf (k : Int)]) rfl ou1w (x) (k) (HK.out) rfl (by omega) lz_ou1 ?_; intro v28 w4 own_ bb; replace la := la.under BLA bb; clear hb24; replace bel := bel.trans (bb.mono oulo); have lz_ou2 := Nat.le_trans lz_ou1 bb.size; clear bb; clear ou1 ou1w lz_ou1; obtain ⟨A28, c28, rfl⟩ := own_val own_; have ou2w := own_; have ou2 := (own_sl own_).1; have fr_ou2 := (own_sl own_).2; clear own_))
  try clear R19
  try clear R22
  go_roundg (m - (i + 1))
  case measure => have := HGK_.out; omega
  case rel => exact ⟨i + 1, z + 1 + k, A28, c28, rfl, h, HZ2, hzn, by go_num, rfl, (own_to ou2w rfl (by rw [enc_next HX.out, HK.out]; simp)), la, bel⟩
set_option linter.unusedVariables false in
set_option linter.unusedSimpArgs false in
set_option maxRecDepth 100000 in
set_option maxHeartbeats 16000000 in
theorem nput_bad (A B : Option Addr) (n d m c : Nat) (l : List (List UInt8)) (w : World) (la : Sle stf 1 w A m c l) (hm : m ≤ 100000) (hg : goodN l = false) : Calls Try.prog 51 #[.slice B n d, .slice A m c] w fun e w' => e = .returned (.tuple #[.slice none 0 0, .int .i64 1]) ∧ Below w.heap.size w w' := by
 have bel := Below.refl w.heap.size w
 go_enter Try.func51, Try.ntmps51
 go_wp2_with fail
 with_reducible refine (ngood_any _ _ _ _ _ la hm).mono ?_
 rintro e _ ⟨rfl, rfl⟩
 rw [hg]
 go_wp2_with fail
 exact bodyPost_ret (v := .tuple #[.slice none 0 0, .int .i64 1]) (by simp [results, Try.results51, go_sem]) rfl ⟨rfl, bel⟩
set_option linter.unusedVariables false in
set_option linter.unusedSimpArgs false in
set_option maxRecDepth 100000 in
set_option maxHeartbeats 16000000 in
theorem rput_good (A B : Option Addr) (n d m c : Nat) (b : List UInt8) (l : List (List UInt8)) (w : World) (lb : Sl w B n d b) (la : Sle stf 1 w A m c l) (hn : n ≤ 100000) (hg : goodN l = true) : Calls Try.prog 40 #[.slice B n d, .slice A m c] w fun e w' => ∃ v, e = .returned v ∧ w'.ownsRow w.heap.size 5 1 v (b ++ putN l).length ((b ++ putN l).map u8v) ∧ Below w.heap.size w w' := by
 have HN := Lib.hid la.1
 have HG := Lib.hid (good_all hg)
 have HS := Lib.hid (good_size hg)
 have BLA := la.bl_new
 have hb : (m : Int) ≤ 255 := by have h_ := size_ge l; have h1_ := HN.out; have h2_ := HS.out; omega
 have HB := Lib.hid lb.1
 obtain ⟨ii, hii, hz0, hz1, hz2⟩ := info_parts Try.info5
 have bel := Below.refl w.heap.size w
 go_enter Try.func40, Try.ntmps40
 go_wp2_with (first | ((with_reducible show wpList _ _ _ (⟨some 7, _, _, _, _, _⟩ :: _) _ _); refine wpList_lit_n rfl 30 5 0 _ rfl #[] (.int .u8 0) Try.underlying30 (by kernel_rfl) 1 (by kernel_rfl) (by decide) (by kernel_rfl) ?_; intro g7 w1 ge lt hh bb; have hl : w1.heap[g7]? = some (.cells (([] : List UInt8).map u8v).toArray 5 (0, 0)) := (by simpa [u8v, byteOf_val] using hh); have e0w := own_lit (B := w.heap.size) ([]) hl ge 0 rfl (by simp [maxLen]); have e0 := (own_sl e0w).1; have e0lo := bel.size; clear hl; have e0ge := ge; have lz_e0 := bb.size; have bl_lb_e0 := lb.bl_new; have bl_la_e0 := la.bl_new; replace lb := lb.below bb; replace la := la.below bb; replace bel := bel.trans (bb.mono bel.size); clear hh lt ge bb) | ((with_reducible show wpList _ _ _ (⟨some 9, _, _, _, _, _⟩ :: _) _ _); refine wpList_append_bb _ rfl (.tmp 7) (.tmp 8) 30 rfl (w.heap.size) 5 ii (.int .u8 0) Try.underlying30 hii hz0 hz1 hz2 rfl _ (0) ([]) rfl e0w (B) (n) (d) (b) rfl lb (by omega) lz_e0 ?_; intro v9 w2 own_ bb; replace lb := lb.under bl_lb_e0 bb; replace la := la.under bl_la_e0 bb; replace bel := bel.trans (bb.mono e0lo); have lz_cl := Nat.le_trans lz_e0 bb.size; clear bb; clear e0 e0w lz_e0; replace own_ : w2.ownsRow (w.heap.size) 5 1 v9 (n) ((b : List UInt8).map u8v) := (by simpa using own_); obtain ⟨A9, c9, rfl⟩ := own_val own_; have clw := own_; have cl := (own_sl own_).1; have fr_cl := (own_sl own_).2; clear own_; clear lb))
 go_loopg [6, 5] (m) (fun gk s6 s5 wr => ∃ i : Nat, ∃ z : Nat, ∃ (Aou : Option Addr) (cou : Nat), gk = m - i ∧ i ≤ m ∧ Hid (n + sizeN (l.take i) = z) ∧ z ≤ n + 254 ∧ s6 = .int .i64 (i : Int) ∧ s5 = .slice Aou z cou ∧ wr.ownsRow (w.heap.size) 5 1 (.slice Aou (z) cou) (z) ((b ++ encL (l.take i) : List UInt8).map u8v) ∧ Sle stf 1 wr (A) (m) (c) (l) ∧ Below w.heap.size w wr)
 case atStart => exact ⟨0, n, A9, c9, Nat.sub_zero _, Nat.zero_le _, Lib.hid rfl, by omega, rfl, rfl, own_to clw rfl (by simp [encL]), la, bel⟩
 case round =>
  clear la cl bel
  obtain ⟨i, z, Aou, cou, HGK, hi, HZ, hz, rfl, rfl, ouw, la, bel⟩ := hrel
  have HGK_ := Lib.hid HGK
  clear HGK
  have ou := (own_sl ouw).1
  have fr_ou := (own_sl ouw).2
  have lz_ou := bel.size
  have oulo := Nat.le_refl (w.heap.size)
  have i0 : (0 : Int) ≤ i := by omega
  by_cases h : i < m
  rotate_left
  ·have hh := Lib.hid h
   replace h : decide (i < m) = false := decide_eq_false h
   go_wp2_with (first | ((with_reducible show wpList _ _ _ (⟨some 31, _, _, _, _, _⟩ :: _) _ _); refine wpList_lit_n rfl 30 5 1 _ rfl #[.int .u8 0] (.int .u8 0) Try.underlying30 (by kernel_rfl) 1 (by kernel_rfl) (by decide) (by kernel_rfl) ?_; intro g31 w3 ge lt hh bb; have hl : w3.heap[g31]? = some (.cells (([0] : List UInt8).map u8v).toArray 5 (0, 0)) := (by simpa [u8v, byteOf_val] using hh); have ztw := own_lit (B := wr.heap.size) ([0]) hl ge 1 rfl (by simp [maxLen]); have zt := (own_sl ztw).1; have ztlo := bel.size; clear hl; have ztge := ge; have lz_zt := bb.size; have bl_la_zt := la.bl_new; have bl_ou_zt := ou.bl_new; have av_la_b31 := la.av_new ge; have av_ou_b31 := ou.av_new ge; have of_ou_b31 := own_new ouw ge; have ob31 := Nat.le_trans bel.size ge; replace la := la.below bb; replace ou := ou.below bb; replace ouw := own_under ouw bb; replace lz_ou := Nat.le_trans lz_ou bb.size; replace bel := bel.trans (bb.mono bel.size); have hb31 := hh; clear hh lt ge bb) | ((with_reducible show wpList _ _ _ (⟨some 32, _, _, _, _, _⟩ :: _) _ _); refine wpList_append_bg _ rfl (.tmp 30) (.tmp 31) 30 rfl (w.heap.size) 5 ii (.int .u8 0) Try.underlying30 hii hz0 hz1 hz2 rfl _ (z) (b ++ encL (l.take i)) rfl ouw (some ⟨g31, 0, none⟩) (1) (1) ([0]) rfl zt (by omega) lz_ou ?_; intro v32 w4 own_ bb gw ofw; have of32_b31 := ofw _ (hlt hb31) of_ou_b31; clear ofw; replace la := la.under BLA bb; clear zt ztw lz_zt; replace hb31 := blk_own hb31 gw of_ou_b31; clear gw; replace bel := bel.trans (bb.mono oulo); have lz_fi := Nat.le_trans lz_ou bb.size; clear bb; clear ou ouw lz_ou; replace own_ : w4.ownsRow (w.heap.size) 5 1 v32 (z + 1) ((b ++ encL (l.take i) ++ [0] : List UInt8).map u8v) := own_; obtain ⟨A32, c32, rfl⟩ := own_val own_; have fiw := own_; have fi := (own_sl own_).1; have fr_fi := (own_sl own_).2; clear own_; have av_fi_b31 := own_av fiw of32_b31))
   go_ret
   exact ⟨_, rfl, own_to fiw (by rw [putN, List.length_append, List.length_append, enc_len, HB.out]; have h_ := HZ.out; rw [take_full (by rw [HN.out]; exact hh.out)] at h_; simp; omega) (by rw [take_full (by rw [HN.out]; exact hh.out)]; simp [putN]), bel⟩
  obtain ⟨gA, oA, rfl⟩ := la.place (by omega)
  obtain ⟨x, HX_⟩ : ∃ u_, l[i]? = some u_ := ⟨_, List.getElem?_eq_getElem (by rw [HN.out]; exact h)⟩
  have HX := Lib.hid HX_
  clear HX_
  obtain ⟨k, HK_⟩ : ∃ u_, x.length = u_ := ⟨_, rfl⟩
  have HK := Lib.hid HK_
  clear HK_
  have hk := HG.out x (List.mem_of_getElem? HX.out)
  rw [HK.out] at hk
  have k0 : (0 : Int) ≤ k := by omega
  have k1 : (k : Int) ≤ 63 := by omega
  have HZ2 : Hid (n + sizeN (l.take (i + 1)) = z + 1 + k) := Lib.hid (by rw [size_next HX.out, HK.out]; have h_ := HZ.out; omega)
  have hzn : z + 1 + k ≤ n + 254 := by have h_ := size_take l (i + 1); have h1_ := HS.out; have h2_ := HZ2.out; omega
  have R23_ : byteOf (k : Int) = byteOf (k : Int) := rfl
  have R21 := fun W => st_lenN HK.out 3 W
  have uwk : IntKind.u8.wrap (k : Int) = (k : Int) := IntWalk.u8_in _ (by omega)
  go_wp2_with fail
  replace bel := bel.drew
  replace la := la.drew
  replace ou := ou.drew
  replace ouw : wr.drew.ownsRow _ _ _ _ _ _ := ouw
  replace lz_ou : _ ≤ wr.drew.heap.size := lz_ou
  refine wp_region_held_drew (S := fun W => Sle stf 1 W (some ⟨gA, oA, none⟩) (m) (c) (l)) (by kernel_rfl) la (fun hH => ?_)
  generalize wr.drew = w3 at bel la ou ouw lz_ou hH ⊢
  refine wpAnyH_take (i := 0) (v := ?_) rfl (by kernel_rfl) (by kernel_rfl) (by kernel_rfl) (fun _ _ _ h => h) (Or.inl ⟨by rfl, ?_⟩) hH ?_
  rotate_left
  ·((intro W hW; clear hW; go_simp) <;> with_reducible rfl)
  simp only [Act.put, List.getElem_toArray, List.getElem_cons_zero, List.setIfInBounds_toArray, List.set_cons_zero, List.set_cons_succ]
  refine wpAnyH_take (i := 1) (v := ?_) rfl (by kernel_rfl) (by kernel_rfl) (by kernel_rfl) (fun _ _ _ h => h) (Or.inl ⟨by rfl, ?_⟩) hH ?_
  rotate_left
  ·((intro W hW; clear hW; go_simp) <;> with_reducible rfl)
  simp only [sq3, sq4]
  refine wpAnyH_take (i := 2) (v := ?_) rfl (by kernel_rfl) (by kernel_rfl) (by kernel_rfl) (fun _ _ _ h => h) (Or.inl ⟨by rfl, ?_⟩) hH ?_
  rotate_left
  ·((intro W hW; clear hW; go_simp) <;> with_reducible rfl)
  simp only [sq3, sq4]
  refine wpAnyH_take (i := 3) (v := ?_) rfl (by kernel_rfl) (by kernel_rfl) (by kernel_rfl) (fun _ _ _ h => h) (Or.inl ⟨by rfl, ?_⟩) hH ?_
  rotate_left
  ·((intro W hW; clear hW; go_simp) <;> with_reducible rfl)
  simp only [sq3, sq4]
  refine wpAnyH_take (i := 4) (v := ?_) rfl (by kernel_rfl) (by kernel_rfl) (by kernel_rfl) (fun _ _ _ h => h) (Or.inl ⟨by rfl, ?_⟩) hH ?_
  rotate_left
  ·((intro W hW; have hk := Sle.st (i := i) (hW) HX.out; clear hW; go_simp) <;> with_reducible rfl)
  simp only [sq3, sq4]
  refine wpAnyH_take (i := 5) (v := ?_) rfl (by kernel_rfl) (by kernel_rfl) (by kernel_rfl) (fun _ _ _ h => h) (Or.inl ⟨by rfl, ?_⟩) hH ?_
  rotate_left
  ·((intro W hW; clear hW; go_simp) <;> with_reducible rfl)
  simp only [sq3, sq4]
  refine wpAnyH_take (i := 6) (v := ?_) rfl (by kernel_rfl) (by kernel_rfl) (by kernel_rfl) (fun _ _ _ h => h) (Or.inl ⟨by rfl, ?_⟩) hH ?_
  rotate_left
  ·((intro W hW; clear hW; go_simp) <;> with_reducible rfl)
  simp only [sq3, sq4]
  refine wpAnyH_take (i := 9) (v := ?_) rfl (by kernel_rfl) (by kernel_rfl) (by kernel_rfl) (fun _ _ _ h => h) (Or.inl ⟨by rfl, ?_⟩) hH ?_
  rotate_left
  ·((intro W hW; clear hW; go_simp) <;> with_reducible rfl)
  simp only [sq3, sq4]
  refine wpAnyH_take (i := 10) (v := ?_) rfl (by kernel_rfl) (by kernel_rfl) (by kernel_rfl) (fun _ _ _ h => h) (Or.inl ⟨by rfl, ?_⟩) hH ?_
  rotate_left
  ·((intro W hW; clear hW; go_simp) <;> with_reducible rfl)
  simp only [sq3, sq4]
  refine wpAnyH_take (i := 11) (v := ?_) rfl (by kernel_rfl) (by kernel_rfl) (by kernel_rfl) (fun _ _ _ h => h) (Or.inl ⟨by rfl, ?_⟩) hH ?_
  rotate_left
  ·((intro W hW; clear hW; go_simp) <;> with_reducible rfl)
  simp only [sq3, sq4]
  refine wpAnyH_take (i := 12) (v := ?_) rfl (by kernel_rfl) (by kernel_rfl) (by kernel_rfl) (fun _ _ _ h => h) (Or.inl ⟨by rfl, ?_⟩) hH ?_
  rotate_left
  ·((intro W hW; have hk := Sle.st (i := i) (hW) HX.out; clear hW; go_simp) <;> with_reducible rfl)
  simp only [sq3, sq4]
  refine wpAnyH_ready (rs := [7]) (by kernel_rfl) (by simp) ?_
  refine AllReadyH.cons (o := _) rfl (fun K hK => ?_) AllReadyH.nil
  simp only [sq3]
  rw [if_pos (by rfl)]
  refine wp_lit_n 30 5 1 _ rfl #[.int .u8 (k : Int)] (.int .u8 0) Try.underlying30 (by kernel_rfl) 1 (by kernel_rfl) (by decide) (by kernel_rfl) ?_
  intro g23 w4 ge lt hh bb
  have hl : w4.heap[g23]? = some (.cells (([byteOf (k : Int)] : List UInt8).map u8v).toArray 5 (0, 0)) := (by simpa [u8v, byteOf_nat (n := k) (by omega)] using hh)
  have ytw := own_lit (B := w3.heap.size) ([byteOf (k : Int)]) hl ge 1 rfl (by simp [maxLen])
  have yt := (own_sl ytw).1
  have ytlo := bel.size
  clear hl
  have ytge := ge
  have lz_yt := bb.size
  have bl_la_yt := la.bl_new
  have bl_ou_yt := ou.bl_new
  have av_la_b23 := la.av_new ge
  have av_ou_b23 := ou.av_new ge
  have of_ou_b23 := own_new ouw ge
  have ob23 := Nat.le_trans bel.size ge
  replace la := la.below bb
  replace ou := ou.below bb
  replace ouw := own_under ouw bb
  replace lz_ou := Nat.le_trans lz_ou bb.size
  replace bel := bel.trans (bb.mono bel.size)
  have hb23 := hh
  clear hh lt ge bb
  refine hK.out _ _ la (fun hH5 => ?_)
  clear hK K
  simp only [sq4]
  refine wpAnyH_ready (rs := [8]) (by kernel_rfl) (by simp) ?_
  refine AllReadyH.cons (o := _) rfl (fun K hK => ?_) AllReadyH.nil
  simp only [sq3]
  rw [if_pos (by rfl)]
  refine wp_append_bg (.tmp 16) (.tmp 23) 30 rfl (w.heap.size) 5 ii (.int .u8 0) Try.underlying30 hii hz0 hz1 hz2 rfl _ (z) (b ++ encL (l.take i)) rfl ouw (some ⟨g23, 0, none⟩) (1) (1) ([byteOf (k : Int)]) rfl yt (by omega) lz_ou ?_
  intro v24 w6 own_ bb gw ofw
  have of24_b23 := ofw _ (hlt hb23) of_ou_b23
  clear ofw
  replace la := la.under BLA bb
  clear yt ytw lz_yt
  replace hb23 := blk_own hb23 gw of_ou_b23
  clear gw
  replace bel := bel.trans (bb.mono oulo)
  have lz_ou1 := Nat.le_trans lz_ou bb.size
  clear bb
  clear ou ouw lz_ou
  replace own_ : w6.ownsRow (w.heap.size) 5 1 v24 (z + 1) ((b ++ encL (l.take i) ++ [byteOf (k : Int)] : List UInt8).map u8v) := own_
  obtain ⟨A24, c24, rfl⟩ := own_val own_
  have ou1w := own_
  have ou1 := (own_sl own_).1
  have fr_ou1 := (own_sl own_).2
  clear own_
  have av_ou1_b23 := own_av ou1w of24_b23
  refine hK.out _ _ la (fun hH7 => ?_)
  clear hK K
  simp only [sq4]
  refine wpAnyH_ready (rs := [13]) (by kernel_rfl) (by simp) ?_
  refine AllReadyH.cons (o := _) rfl (fun K hK => ?_) AllReadyH.nil
  simp only [sq3]
  rw [if_pos (by rfl)]
  refine wp_append_st (.tmp 24) (.tmp 28) 30 9 rfl (w.heap.size) 5 ii Try.underlying30 Try.underlying9 hii hz0 hz1 hz2 _ (z + 1) (b ++ encL (l.take i) ++ [byteOf (k : Int)]) rfl ou1w (x) (k) (HK.out) rfl (by omega) lz_ou1 ?_
  intro v29 w8 own_ bb
  replace la := la.under BLA bb
  clear hb23
  replace bel := bel.trans (bb.mono oulo)
  have lz_ou2 := Nat.le_trans lz_ou1 bb.size
  clear bb
  clear ou1 ou1w lz_ou1
  obtain ⟨A29, c29, rfl⟩ := own_val own_
  have ou2w := own_
  have ou2 := (own_sl own_).1
  have fr_ou2 := (own_sl own_).2
  clear own_
  refine hK.out _ _ la (fun hH9 => ?_)
  clear hK K
  simp only [sq4]
  refine wpAnyH_take (i := 14) (v := ?_) rfl (by kernel_rfl) (by kernel_rfl) (by kernel_rfl) (fun _ _ _ h => h) (Or.inl ⟨by rfl, ?_⟩) hH9 ?_
  rotate_left
  ·((intro W hW; clear hW; go_simp) <;> with_reducible rfl)
  simp only [sq3, sq4]
  refine wpAnyH_done (by kernel_rfl) ?_ _
  go_wp2_with fail
  go_roundg (m - (i + 1))
  case measure => have := HGK_.out; omega
  case rel => exact ⟨i + 1, z + 1 + k, A29, c29, rfl, h, HZ2, hzn, by go_num, rfl, (own_to ou2w rfl (by rw [enc_next HX.out, HK.out]; simp)), la, bel⟩
theorem dg_cells {c : UInt8} {x : Int} (h : (c.toNat : Int) = x) : ([92, dg1 c, dg2 c, dg3 c] : List UInt8).map u8v = [.int .u8 92, .int .u8 (48 + x / 100), .int .u8 (48 + x / 10 % 10), .int .u8 (48 + x % 10)] := by
 obtain ⟨h1, h2, h3⟩ := dg_val c
 subst h
 simp only [List.map_cons, List.map_nil, u8v, h1, h2, h3]
 rfl
open Go.RowKit

/-- A Reader at block g whose rest, where it is not empty, lies in a block that meets ok. -/
def Ro (w : World) (T : TypeId) (g : Nat) (ok : Nat → Prop) (l : List UInt8) (s : Bool) : Prop :=
 ∃ A n c, w.heap[g]? = some (.cells #[.slice A n c, .bool s] T (0, 0)) ∧ Sl w A n c l ∧ (0 < n → ∃ a o, A = some ⟨a, o, none⟩ ∧ ok a)
theorem Ro.rd {w : World} {T : TypeId} {g : Nat} {ok : Nat → Prop} {l : List UInt8} {s : Bool} (h : Ro w T g ok l s) : Rd w T g l s := by
 obtain ⟨A, n, c, h1, h2, _⟩ := h
 exact ⟨A, n, c, h1, h2⟩
theorem Ro.below {w w' : World} {T : TypeId} {g : Nat} {ok : Nat → Prop} {l : List UInt8} {s : Bool} (h : Ro w T g ok l s) (hb : Below w.heap.size w w') : Ro w' T g ok l s := by
 have hlt := h.rd.lt
 obtain ⟨A, n, c, h1, h2, h3⟩ := h
 exact ⟨A, n, c, (hb.block g hlt).trans h1, h2.below hb, h3⟩
/-- A store into a block that is neither the Reader's nor below the bound. -/
theorem Ro.setCell {w : World} {T : TypeId} {g q : Nat} {ok : Nat → Prop} {l : List UInt8} {s : Bool} (h : Ro w T g ok l s) (hq : ¬ ok q) (hne : q ≠ g) (i : Nat) (u : Value) : Ro (w.setCell ⟨q, i, none⟩ u) T g ok l s := by
 obtain ⟨A, n, c, h1, h2, h3⟩ := h
 have other : ∀ k, k ≠ q → (w.setCell ⟨q, i, none⟩ u).heap[k]? = w.heap[k]? := fun k hk => Below.heap_setCell w ⟨q, i, none⟩ u k (fun e => hk (by rw [e]))
 refine ⟨A, n, c, (other g (Ne.symm hne)).trans h1, ⟨h2.1, h2.2.1, h2.2.2.1, fun hn => ?_⟩, h3⟩
 obtain ⟨a, o, e, hc⟩ := h2.2.2.2 hn
 obtain ⟨a', o', e', hlt⟩ := h3 hn
 rw [e] at e'
 obtain ⟨rfl, rfl⟩ : a = a' ∧ o = o' := by injection e' with e'; injection e' with e1 e2; exact ⟨e1, e2⟩
 refine ⟨a, o, e, fun j b hj => ?_⟩
 exact (World.cell?_of_block (w := w) (other a (fun e => hq (e ▸ hlt)))).trans (hc j b hj)
theorem Ro.set {w w' : World} {T : TypeId} {g : Nat} {ok : Nat → Prop} {l l' : List UInt8} {s s' : Bool} {A : Option Addr} {n c : Nat} (hr : Ro w T g ok l s) (hg : w.grownBy w' (some g)) (hb : w'.heap[g]? = some (.cells #[.slice A n c, .bool s'] T (0, 0)))
  (hs : Sl w A n c l') (hB : 0 < n → ∃ a o, A = some ⟨a, o, none⟩ ∧ ok a) : Ro w' T g ok l' s' := ⟨A, n, c, hb, hs.far hr.rd hg, hB⟩
theorem take_yes_q (g : Nat) (ok : Nat → Prop) (l : List UInt8) (s : Bool) (k : Nat) (w : World) (hr : Ro w 106 g ok l s) (hk : k ≤ l.length) :
  Calls Try.prog 68 #[.pointer (some ⟨g, 0, none⟩), .int .i64 k] w fun e w' => ∃ A c, e = .returned (.slice A k c) ∧ Sl w' A k c (l.take k) ∧ Ro w' 106 g ok (l.drop k) s ∧ w.grownBy w' (some g) := by
 have hr' := hr
 obtain ⟨A, n, c, hb, hsl, hB⟩ := hr'
 have hn := hsl.1
 obtain ⟨hc0, hc1⟩ := cell_of_rd hb
 have hf0 : w.frozen? ⟨g, 0, none⟩ = false := by simp [World.frozen?, hb]
 have hf1 : w.frozen? ⟨g, 1, none⟩ = false := by simp [World.frozen?, hb]
 have hcap := hsl.2.1
 have b0 : (0 : Int) ≤ k := by omega
 have b1 : (k : Int) ≤ n := by omega
 have b2 : (n : Int) ≤ c := by omega
 have b3 : k ≤ n := by omega
 have hd := hsl.drop b3
 have ht := hsl.take b3
 by_cases hck : c = k
 ·rw [if_pos hck] at hd
  have hg : w.grownBy (w.setCell ⟨g, 0, none⟩ (.slice A (n - k) (c - k))) (some g) := grown_set (World.grownBy.refl w _) 0 _
  have R : Ro (w.setCell ⟨g, 0, none⟩ (.slice A (n - k) (c - k))) 106 g ok (l.drop k) s := hr.set hg (set_first hb) hd (fun h => hB (by omega))
  have T := ht.far hr.rd hg
  clear hn hb hd ht hsl hB
  subst hck
  have b4 : n = c := by omega
  subst b4
  simp only [Nat.sub_self] at R T hg
  go_enter Try.func68, Try.ntmps68
  go_wp2
  go_ret
  exact ⟨A, n, rfl, T, R, hg⟩
 ·rw [if_neg hck] at hd
  simp only [Nat.mul_one] at hd
  have hg : w.grownBy (w.setCell ⟨g, 0, none⟩ (.slice (A.map fun x => x.add k) (n - k) (c - k))) (some g) := grown_set (World.grownBy.refl w _) 0 _
  have R : Ro (w.setCell ⟨g, 0, none⟩ (.slice (A.map fun x => x.add k) (n - k) (c - k))) 106 g ok (l.drop k) s := hr.set hg (set_first hb) hd (fun h => by
   obtain ⟨a, o, rfl, hlt⟩ := hB (by omega)
   exact ⟨a, o + k, by simp [Addr.add_lit], hlt⟩)
  have T := ht.far hr.rd hg
  clear hn hb hd ht hsl hB
  have h0 : ¬ k = c := fun e => hck e.symm
  go_enter Try.func68, Try.ntmps68
  go_wp2
  all_goals (go_ret; exact ⟨A, c, rfl, T, R, hg⟩)

theorem number_yes_q (g : Nat) (ok : Nat → Prop) (l : List UInt8) (s : Bool) (k : Nat) (w : World) (hr : Ro w 106 g ok l s) (hk : k ≤ l.length) (h4 : k ≤ 4) (h0 : 0 < k) :
  Calls Try.prog 61 #[.pointer (some ⟨g, 0, none⟩), .int .i64 k] w fun e w' => e = .returned (.int .u32 (be (l.take k))) ∧ Ro w' 106 g ok (l.drop k) s ∧ w.grownBy w' (some g) := by
 go_enter Try.func61, Try.ntmps61
 go_wp2_with (go_at_call 68; refine (take_yes_q g ok l s k _ hr hk).mono ?_; rintro e w1 ⟨A, c, rfl, hsl, hr1, hg1⟩)
 obtain ⟨d, o, rfl, hc⟩ := hsl.2.2.2 h0
 have hlen := hsl.1
 obtain ⟨t, HT⟩ : ∃ t, Hid (l.take k = t) := ⟨_, rfl⟩
 rw [HT.out] at hc hlen
 clear hsl
 go_loop [5, 12] (fun v i => ∃ j : Nat, j ≤ k ∧ i = .int .i64 j ∧ v = .int .u32 (be (t.take j))) (fun _ i => k - (intOf i).toNat)
 case atStart => exact ⟨0, by omega, rfl, rfl⟩
 case round =>
  obtain ⟨j, hj, rfl, rfl⟩ := hrel
  have b0 : (0 : Int) ≤ k := by omega
  have b1 : (k : Int) ≤ 4 := by omega
  have b2 : (0 : Int) ≤ j := by omega
  by_cases hlt : j < k
  ·have hjl : j < t.length := by omega
   have hcell := hc j _ (List.getElem?_eq_getElem hjl)
   have hbe : be (t.take (j + 1)) = be (t.take j) * 256 + t[j].toNat := by
    rw [List.take_succ_eq_append_getElem hjl, be_snoc]
   have hv : be (t.take j) < 256 ^ j := be_lt j _ (by rw [List.length_take]; omega)
   have hv' : (256 : Nat) ^ j ≤ 256 ^ 3 := Nat.pow_le_pow_right (by omega) (by omega)
   have hu := t[j].toNat_lt
   unfold u8v at hcell
   generalize t[j].toNat = u at *
   clear hc hlen hr1 hr hg1
   have HBE : Hid (be (t.take (j + 1)) = be (t.take j) * 256 + u) := hbe
   clear hbe
   generalize be (t.take j) = v at *
   have b3 : (0 : Int) ≤ v := by omega
   have b4 : (v : Int) < 16777216 := by omega
   have b5 : (0 : Int) ≤ u := by omega
   have b6 : (u : Int) < 256 := by omega
   clear hv hv'
   have hor := or_u32 v u (by omega) (by omega)
   go_wp2
   go_round
   case rel => exact ⟨j + 1, by omega, by go_num, by rw [HBE.out]; go_num⟩
   case measure => simp [intOf]; omega
  ·go_wp2
   obtain rfl : j = k := by omega
   go_ret
   refine ⟨?_, hr1, hg1⟩
   rw [HT.out]
   show Ending.returned (.int .u32 (be (t.take j))) = _
   rw [List.take_of_length_le (by omega)]

theorem u8_yes_q (g : Nat) (ok : Nat → Prop) (l : List UInt8) (s : Bool) (w : World) (hr : Ro w 106 g ok l s) (hk : 1 ≤ l.length) :
  Calls Try.prog 74 #[.pointer (some ⟨g, 0, none⟩)] w fun e w' => e = .returned (.int .i64 (be (l.take 1))) ∧ Ro w' 106 g ok (l.drop 1) s ∧ w.grownBy w' (some g) := by
 have hlt := be_lt 1 (l.take 1) (by rw [List.length_take]; omega)
 have b1 : (be (l.take 1) : Int) < 256 := by omega
 have b0 : 0 ≤ (be (l.take 1) : Int) := by omega
 go_enter Try.func74, Try.ntmps74
 go_wp2_with (go_at_call 61; refine (number_yes_q g ok l s 1 _ hr hk (by omega) (by omega)).mono ?_; rintro e w1 ⟨rfl, hr1, hg1⟩)
 go_ret
 exact ⟨rfl, hr1, hg1⟩
theorem u16_yes_q (g : Nat) (ok : Nat → Prop) (l : List UInt8) (s : Bool) (w : World) (hr : Ro w 106 g ok l s) (hk : 2 ≤ l.length) :
  Calls Try.prog 45 #[.pointer (some ⟨g, 0, none⟩)] w fun e w' => e = .returned (.int .i64 (be (l.take 2))) ∧ Ro w' 106 g ok (l.drop 2) s ∧ w.grownBy w' (some g) := by
 have hlt := be_lt 2 (l.take 2) (by rw [List.length_take]; omega)
 have b1 : (be (l.take 2) : Int) < 65536 := by omega
 have b0 : 0 ≤ (be (l.take 2) : Int) := by omega
 go_enter Try.func45, Try.ntmps45
 go_wp2_with (go_at_call 61; refine (number_yes_q g ok l s 2 _ hr hk (by omega) (by omega)).mono ?_; rintro e w1 ⟨rfl, hr1, hg1⟩)
 go_ret
 exact ⟨rfl, hr1, hg1⟩
theorem u32_yes_q (g : Nat) (ok : Nat → Prop) (l : List UInt8) (s : Bool) (w : World) (hr : Ro w 106 g ok l s) (hk : 4 ≤ l.length) :
  Calls Try.prog 63 #[.pointer (some ⟨g, 0, none⟩)] w fun e w' => e = .returned (.int .u32 (be (l.take 4))) ∧ Ro w' 106 g ok (l.drop 4) s ∧ w.grownBy w' (some g) := by
 go_enter Try.func63, Try.ntmps63
 go_wp2_with (go_at_call 61; refine (number_yes_q g ok l s 4 _ hr hk (by omega) (by omega)).mono ?_; rintro e w1 ⟨rfl, hr1, hg1⟩)
 go_ret
 exact ⟨rfl, hr1, hg1⟩
theorem Ro.grown {w w' : World} {T : TypeId} {g q : Nat} {ok : Nat → Prop} {l : List UInt8} {s : Bool} (h : Ro w T g ok l s) (hg : w.grownBy w' (some q)) (hq : ¬ ok q) (hne : q ≠ g) : Ro w' T g ok l s := by
 have hlt := h.rd.lt
 obtain ⟨A, n, c, h1, h2, h3⟩ := h
 refine ⟨A, n, c, (hg.block g hlt (fun e => hne (by injection e with e; exact e.symm))).trans h1, ⟨h2.1, h2.2.1, h2.2.2.1, fun hn => ?_⟩, h3⟩
 obtain ⟨a, o, e, hc⟩ := h2.2.2.2 hn
 obtain ⟨a', o', e', hlt'⟩ := h3 hn
 rw [e] at e'
 obtain ⟨rfl, rfl⟩ : a = a' ∧ o = o' := by injection e' with e'; injection e' with e1 e2; exact ⟨e1, e2⟩
 refine ⟨a, o, e, fun j b hj => ?_⟩
 have hc' := hc j b hj
 exact (World.cell?_of_block (w := w) (hg.block a (cell_lt hc') (fun e => by injection e with e; exact hq (e ▸ hlt')))).trans hc'
theorem Ro.drew {w : World} {T : TypeId} {g : Nat} {ok : Nat → Prop} {l : List UInt8} {s : Bool} (h : Ro w T g ok l s) : Ro w.drew T g ok l s := by
 obtain ⟨A, n, c, h1, h2, h3⟩ := h
 exact ⟨A, n, c, h1, h2.keep fun _ _ _ h => h, h3⟩
theorem bytes_q (g : Nat) (ok : Nat → Prop) (l : List UInt8) (s : Bool) (k : Nat) (w : World) (hr : Ro w 106 g ok l s) (hk : k ≤ l.length) (hs : k ≤ 140737488355328) :
  Calls Try.prog 79 #[.pointer (some ⟨g, 0, none⟩), .int .i64 k] w fun e w' => ∃ A c, e = .returned (.slice A k c) ∧ Sl w' A k c (l.take k) ∧ Ro w' 106 g ok (l.drop k) s ∧ w.grownBy w' (some g) ∧ Fr w.heap.size A k := by
 go_enter Try.func79, Try.ntmps79
 go_wp2_with (go_at_call 68; refine (take_yes_q g ok l s k _ hr hk).mono ?_; rintro e w1 ⟨A, c, rfl, hsl, hr1, hg1⟩)
 go_wp2_with (go_at_call 60; refine (join_f A none k c 0 0 _ [] w1 hsl (Sl.nil w1) (by omega)).mono ?_; rintro e w2 ⟨A', c', rfl, hsl2, bel, hfr⟩)
 go_ret
 simp only [Nat.add_zero, List.append_nil] at hsl2 hfr
 exact ⟨A', c', rfl, hsl2, hr1.below bel, hg1.trans (grown_of_below bel), hfr.mono hg1.size⟩

/-- A Reader's rest is new memory. -/
theorem read_q (A : Option Addr) (n c : Nat) (l : List UInt8) (w : World) (hl : Sl w A n c l) (hs : n ≤ 140737488355328) :
  Calls Try.prog 44 #[.slice A n c] w fun e w' => ∃ g, e = .returned (.pointer (some ⟨g, 0, none⟩)) ∧ Ro w' 106 g (fun k => w.heap.size ≤ k) l false ∧ Below w.heap.size w w' ∧ w.heap.size ≤ g := by
 go_enter Try.func44, Try.ntmps44
 go_wp2_with (go_at_call 60; refine (join_f A none n c 0 0 l [] w hl (Sl.nil w) (by omega)).mono ?_; rintro e w1 ⟨A', c', rfl, hsl, bel, hfr⟩)
 simp only [Nat.add_zero, List.append_nil] at hsl hfr
 go_ret
 have hn : Below w1.heap.size w1 (w1.alloc (Obj.cells #[Value.slice A' n c', Value.bool false] 106)) := (Below.refl _ _).alloc (Nat.le_refl _) _
 exact ⟨w1.heap.size, rfl, ⟨A', n, c', heap_alloc_new w1 _, hsl.below hn, hfr⟩, bel.alloc bel.size _, bel.size⟩
/-- Numbers at the front of a list. -/
theorem u8_q1 (g : Nat) (ok : Nat → Prop) (x : UInt8) (r : List UInt8) (s : Bool) (w : World) (hr : Ro w 106 g ok (x :: r) s) :
  Calls Try.prog 74 #[.pointer (some ⟨g, 0, none⟩)] w fun e w' => e = .returned (.int .i64 (x.toNat : Int)) ∧ Ro w' 106 g ok r s ∧ w.grownBy w' (some g) := by
 refine (u8_yes_q g ok (x :: r) s w hr (by simp)).mono ?_
 rintro e w' ⟨rfl, h1, h2⟩
 exact ⟨by simp [be], h1, h2⟩
theorem u32_q4 (g : Nat) (ok : Nat → Prop) (x y z u : UInt8) (r : List UInt8) (s : Bool) (w : World) (hr : Ro w 106 g ok (x :: y :: z :: u :: r) s) :
  Calls Try.prog 63 #[.pointer (some ⟨g, 0, none⟩)] w fun e w' => e = .returned (.int .u32 (be [x, y, z, u] : Nat)) ∧ Ro w' 106 g ok r s ∧ w.grownBy w' (some g) := u32_yes_q g ok (x :: y :: z :: u :: r) s w hr (by simp)
open Go.RowKit

theorem av_rd {w : World} {T : TypeId} {A B : Option Addr} {n c m d g : Nat} {s : Bool} {l : List UInt8} (hs : Sl w A n c l) (h : w.heap[g]? = some (.cells #[.slice B m d, .bool s] T (0, 0))) : Av A n g := fun hn a o p e => by
 obtain ⟨a', o', e', hc⟩ := hs.2.2.2 hn
 rw [e] at e'
 injection e' with e'
 injection e' with e1 e2
 subst e1
 have hl : 0 < l.length := by have := hs.1; omega
 exact byte_not_rd h (hc 0 _ (List.getElem?_eq_getElem hl))
/-- The Reader's rest lies in A's block, or is empty. -/
theorem ro_in {w : World} {T : TypeId} {A : Option Addr} {n c g : Nat} {s : Bool} {l : List UInt8} (h : w.heap[g]? = some (.cells #[.slice A n c, .bool s] T (0, 0))) (hs : Sl w A n c l) : Ro w T g (fun a => ∃ o p, A = some ⟨a, o, p⟩) l s :=
 ⟨A, n, c, h, hs, fun hn => by obtain ⟨a, o, e, _⟩ := hs.2.2.2 hn; exact ⟨a, o, e, o, none, e⟩⟩
theorem ro_out {w : World} {T : TypeId} {A : Option Addr} {n g : Nat} {s : Bool} {l : List UInt8} (hn : l.length ≤ n) (h : Ro w T g (fun a => ∃ o p, A = some ⟨a, o, p⟩) l s) : ∃ A' n' c', w.heap[g]? = some (.cells #[.slice A' n' c', .bool s] T (0, 0)) ∧ Sl w A' n' c' l ∧ Sub A' n' A n := by
 obtain ⟨A', n', c', h1, h2, h3⟩ := h
 refine ⟨A', n', c', h1, h2, fun h0 => ⟨by have := h2.1; omega, fun a o p e => ?_⟩⟩
 obtain ⟨a', o', e', h⟩ := h3 h0
 rw [e] at e'
 injection e' with e'
 injection e' with e1 e2
 subst e1
 exact h
theorem rd_read (A : Option Addr) (n c : Nat) (l : List UInt8) (w : World) (hl : Sl w A n c l) (hs : n ≤ 140737488355328) :
  Calls Try.prog 44 #[.slice A n c] w fun e w' => ∃ g A' c', e = .returned (.pointer (some ⟨g, 0, none⟩)) ∧ w.heap.size ≤ g ∧ w'.heap[g]? = some (.cells #[.slice A' n c', .bool false] 106 (0, 0)) ∧ Sl w' A' n c' l ∧ Fr w.heap.size A' n ∧ Av A' n g ∧ Below w.heap.size w w' := by
 refine (read_q A n c l w hl hs).mono ?_
 rintro e w' ⟨g, rfl, ⟨A', n', c', h1, h2, h3⟩, hb, hg⟩
 obtain rfl : n = n' := hl.1.symm.trans h2.1
 exact ⟨g, A', c', rfl, hg, h1, h2, h3, av_rd h2 h1, hb⟩
/-- Two bytes, whether there are as many or not. -/
theorem rd_u16 (g : Nat) (A : Option Addr) (n c : Nat) (l : List UInt8) (s : Bool) (w : World) (h : w.heap[g]? = some (.cells #[.slice A n c, .bool s] 106 (0, 0))) (hs : Sl w A n c l) :
  Calls Try.prog 45 #[.pointer (some ⟨g, 0, none⟩)] w fun e w' => ∃ A' n' c', e = .returned (.int .i64 (if l.length < 2 then 0 else be (l.take 2) : Nat)) ∧ w'.heap[g]? = some (.cells #[.slice A' n' c', .bool (s || decide (l.length < 2))] 106 (0, 0)) ∧ Sl w' A' n' c' (l.drop 2) ∧ Sub A' n' A n ∧ w.grownBy w' (some g) := by
 by_cases hk : l.length < 2
 ·refine (u16_no g l s w ⟨A, n, c, h, hs⟩ hk).mono ?_
  rintro e w' ⟨rfl, ⟨A', n', c', h1, h2⟩, h3⟩
  have hd : l.drop 2 = [] := List.drop_eq_nil_of_le (by omega)
  rw [if_pos hk, decide_eq_true hk, Bool.or_true, hd]
  exact ⟨A', n', c', rfl, h1, h2, fun h0 => absurd h2.1 (by simp; omega), h3⟩
 ·refine (u16_yes_q g _ l s w (ro_in h hs) (by omega)).mono ?_
  rintro e w' ⟨rfl, h1, h3⟩
  rw [if_neg hk, decide_eq_false hk, Bool.or_false]
  obtain ⟨A', n', c', h4, h5, h6⟩ := ro_out (n := n) (by rw [List.length_drop]; have := hs.1; omega) h1
  exact ⟨A', n', c', rfl, h4, h5, h6, h3⟩
theorem rd_u8c (x : UInt8) (r : List UInt8) (g : Nat) (A : Option Addr) (n c : Nat) (s : Bool) (w : World) (h : w.heap[g]? = some (.cells #[.slice A n c, .bool s] 106 (0, 0))) (hs : Sl w A n c (x :: r)) :
  Calls Try.prog 74 #[.pointer (some ⟨g, 0, none⟩)] w fun e w' => ∃ A' n' c', e = .returned (.int .i64 (x.toNat : Int)) ∧ w'.heap[g]? = some (.cells #[.slice A' n' c', .bool s] 106 (0, 0)) ∧ Sl w' A' n' c' r ∧ Sub A' n' A n ∧ w.grownBy w' (some g) := by
 refine (u8_q1 g _ x r s w (ro_in h hs)).mono ?_
 rintro e w' ⟨rfl, h1, h3⟩
 obtain ⟨A', n', c', h4, h5, h6⟩ := ro_out (n := n) (by have := hs.1; simp at this; omega) h1
 exact ⟨A', n', c', rfl, h4, h5, h6, h3⟩
theorem rd_u32c (x y z u : UInt8) (r : List UInt8) (g : Nat) (A : Option Addr) (n c : Nat) (s : Bool) (w : World) (h : w.heap[g]? = some (.cells #[.slice A n c, .bool s] 106 (0, 0))) (hs : Sl w A n c (x :: y :: z :: u :: r)) :
  Calls Try.prog 63 #[.pointer (some ⟨g, 0, none⟩)] w fun e w' => ∃ A' n' c', e = .returned (.int .u32 (be [x, y, z, u] : Nat)) ∧ w'.heap[g]? = some (.cells #[.slice A' n' c', .bool s] 106 (0, 0)) ∧ Sl w' A' n' c' r ∧ Sub A' n' A n ∧ w.grownBy w' (some g) := by
 refine (u32_q4 g _ x y z u r s w (ro_in h hs)).mono ?_
 rintro e w' ⟨rfl, h1, h3⟩
 obtain ⟨A', n', c', h4, h5, h6⟩ := ro_out (n := n) (by have := hs.1; simp at this; omega) h1
 exact ⟨A', n', c', rfl, h4, h5, h6, h3⟩
theorem rd_bytes (k : Nat) (g : Nat) (A : Option Addr) (n c : Nat) (l : List UInt8) (s : Bool) (w : World) (h : w.heap[g]? = some (.cells #[.slice A n c, .bool s] 106 (0, 0))) (hs : Sl w A n c l) (hk : k ≤ l.length) (hm : k ≤ 140737488355328) :
  Calls Try.prog 79 #[.pointer (some ⟨g, 0, none⟩), .int .i64 (k : Int)] w fun e w' => ∃ Ab cb A' n' c', e = .returned (.slice Ab k cb) ∧ w'.heap[g]? = some (.cells #[.slice A' n' c', .bool s] 106 (0, 0)) ∧ Sl w' A' n' c' (l.drop k) ∧ Sub A' n' A n ∧ Sl w' Ab k cb (l.take k) ∧ Fr w.heap.size Ab k ∧ w.grownBy w' (some g) := by
 refine (bytes_q g _ l s k w (ro_in h hs) hk hm).mono ?_
 rintro e w' ⟨Ab, cb, rfl, h0, h1, h3, hf⟩
 obtain ⟨A', n', c', h4, h5, h6⟩ := ro_out (n := n) (by rw [List.length_drop]; have := hs.1; omega) h1
 exact ⟨Ab, cb, A', n', c', rfl, h4, h5, h6, h0, hf, h3⟩
theorem rd_short (g : Nat) (A : Option Addr) (n c : Nat) (l : List UInt8) (s : Bool) (w : World) (h : w.heap[g]? = some (.cells #[.slice A n c, .bool s] 106 (0, 0))) (hs : Sl w A n c l) :
  Calls Try.prog 75 #[.pointer (some ⟨g, 0, none⟩)] w fun e w' => e = .returned (.bool s) ∧ w = w' := short_any g l s w ⟨A, n, c, h, hs⟩
open Go.RowKit

/-- The shorter rest lies in A's block, whatever it is. -/
theorem rd_out {w : World} {T : TypeId} {A : Option Addr} {n g : Nat} {s : Bool} {l : List UInt8} (hl : l.length = 0) (h : Rd w T g l s) : ∃ A' n' c', w.heap[g]? = some (.cells #[.slice A' n' c', .bool s] T (0, 0)) ∧ Sl w A' n' c' l ∧ Sub A' n' A n := by
 obtain ⟨A', n', c', h1, h2⟩ := h
 exact ⟨A', n', c', h1, h2, fun h0 => absurd h2.1 (by omega)⟩
/-- Bytes(k): there are not as many. -/
theorem rd_bytes_no (k : Nat) (g : Nat) (A : Option Addr) (n c : Nat) (l : List UInt8) (s : Bool) (w : World) (h : w.heap[g]? = some (.cells #[.slice A n c, .bool s] 106 (0, 0))) (hs : Sl w A n c l) (hk : l.length < k) :
  Calls Try.prog 79 #[.pointer (some ⟨g, 0, none⟩), .int .i64 (k : Int)] w fun e w' => ∃ Ab cb A' n' c', e = .returned (.slice Ab 0 cb) ∧ w'.heap[g]? = some (.cells #[.slice A' n' c', .bool true] 106 (0, 0)) ∧ Sl w' A' n' c' [] ∧ Sub A' n' A n ∧ w.grownBy w' (some g) := by
 refine (bytes_no g l s k w ⟨A, n, c, h, hs⟩ (by omega)).mono ?_
 rintro e w' ⟨Ab, cb, rfl, h0, h1, h3⟩
 obtain ⟨A', n', c', h4, h5, h6⟩ := rd_out (A := A) (n := n) rfl h1
 exact ⟨Ab, cb, A', n', c', rfl, h4, h5, h6, h3⟩
open Go.RowKit

/-- A question's, a record's cells. -/
structure Qh where
 A : Option Addr
 n : Nat
 c : Nat
 t : Int
 k : Int
structure Rh where
 A : Option Addr
 n : Nat
 c : Nat
 t : Int
 k : Int
 u : Int
 B : Option Addr
 d : Nat
 e : Nat
def qE (h : Qh) : List Value := [.slice h.A h.n h.c, .int .i64 h.t, .int .i64 h.k]
def rE (h : Rh) : List Value := [.slice h.A h.n h.c, .int .i64 h.t, .int .i64 h.k, .int .u32 h.u, .slice h.B h.d h.e]
theorem qE_len (h : Qh) : (qE h).length = 3 := rfl
theorem rE_len (h : Rh) : (rE h).length = 5 := rfl
theorem qE_one (h : Qh) : ∀ u ∈ qE h, u.oneCell' = true := by
 intro u hu
 simp only [qE, List.mem_cons, List.not_mem_nil, or_false] at hu
 rcases hu with h | h | h <;> rw [h] <;> rfl
theorem rE_one (h : Rh) : ∀ u ∈ rE h, u.oneCell' = true := by
 intro u hu
 simp only [rE, List.mem_cons, List.not_mem_nil, or_false] at hu
 rcases hu with h | h | h | h | h <;> rw [h] <;> rfl
/-- Element by element. -/
def All2 {α β : Type} (P : α → β → Prop) (hs : List α) (L : List β) : Prop := hs.length = L.length ∧ ∀ (i : Nat) (x : α) (y : β), hs[i]? = some x → L[i]? = some y → P x y
section
variable {α β : Type} {P Q : α → β → Prop} {hs : List α} {L : List β}
theorem All2.nil : All2 P [] [] := ⟨rfl, fun i x y hx => by simp at hx⟩
theorem All2.mono (h : All2 P hs L) (f : ∀ x y, P x y → Q x y) : All2 Q hs L := ⟨h.1, fun i x y hx hy => f _ _ (h.2 i x y hx hy)⟩
theorem All2.snoc (h : All2 P hs L) {x : α} {y : β} (hp : P x y) : All2 P (hs ++ [x]) (L ++ [y]) := by
 refine ⟨by rw [List.length_append, List.length_append, h.1]; rfl, fun i a b ha hb => ?_⟩
 rcases Nat.lt_or_ge i hs.length with hi | hi
 ·rw [List.getElem?_append_left hi] at ha
  rw [List.getElem?_append_left (by rw [← h.1]; exact hi)] at hb
  exact h.2 i a b ha hb
 ·have hi2 : L.length ≤ i := by rw [← h.1]; exact hi
  rw [List.getElem?_append_right hi] at ha
  rw [List.getElem?_append_right hi2] at hb
  have e : i - hs.length = 0 := by
   have := (List.getElem?_eq_some_iff.1 ha).1
   simp at this; omega
  rw [e] at ha
  rw [show i - L.length = 0 by rw [← h.1]; exact e] at hb
  obtain rfl : x = a := by simpa using ha
  obtain rfl : y = b := by simpa using hb
  exact hp
theorem All2.at (h : All2 P hs L) {i : Nat} {x : α} (hx : hs[i]? = some x) : ∃ y, L[i]? = some y ∧ P x y := by
 have hi := (List.getElem?_eq_some_iff.1 hx).1
 have hl : i < L.length := h.1 ▸ hi
 exact ⟨L[i], List.getElem?_eq_getElem hl, h.2 i x _ hx (List.getElem?_eq_getElem hl)⟩
theorem All2.append {hs2 : List α} {L2 : List β} (h : All2 P hs L) (h2 : All2 P hs2 L2) : All2 P (hs ++ hs2) (L ++ L2) := by
 refine ⟨by rw [List.length_append, List.length_append, h.1, h2.1], fun i a b ha hb => ?_⟩
 rcases Nat.lt_or_ge i hs.length with hi | hi
 ·rw [List.getElem?_append_left hi] at ha
  rw [List.getElem?_append_left (by rw [← h.1]; exact hi)] at hb
  exact h.2 i a b ha hb
 ·have hi2 : L.length ≤ i := by rw [← h.1]; exact hi
  rw [List.getElem?_append_right hi] at ha
  rw [List.getElem?_append_right hi2, ← h.1] at hb
  exact h2.2 _ a b ha hb
end
/-- In rows of their own, from lo on. -/
def Qw (lo : Nat) (w : World) (h : Qh) (q : Qn) : Prop := h.t = q.t ∧ h.k = q.k ∧ w.ownsRow lo 9 1 (.slice h.A h.n h.c) h.n (q.name.flatMap stf)
def Rw (lo : Nat) (w : World) (h : Rh) (r : Rn) : Prop := h.t = r.t ∧ h.k = r.k ∧ h.u = r.ttl ∧ w.ownsRow lo 9 1 (.slice h.A h.n h.c) h.n (r.name.flatMap stf) ∧ w.ownsRow lo 5 1 (.slice h.B h.d h.e) h.d (r.data.map u8v)
/-- As they are read. -/
def QR (w : World) (h : Qh) (q : Qn) : Prop := h.t = q.t ∧ h.k = q.k ∧ Sle stf 1 w h.A h.n h.c q.name
def RR (w : World) (h : Rh) (r : Rn) : Prop := h.t = r.t ∧ h.k = r.k ∧ h.u = r.ttl ∧ Sle stf 1 w h.A h.n h.c r.name ∧ Sl w h.B h.d h.e r.data
abbrev Qws (lo : Nat) (w : World) := All2 (Qw lo w)
abbrev Rws (lo : Nat) (w : World) := All2 (Rw lo w)
abbrev QRs (w : World) := All2 (QR w)
abbrev RRs (w : World) := All2 (RR w)
section
variable {S : List TypeId} {w w' : World} {lo lo' : Nat} {q : Qn} {r : Rn}
theorem Qw.kt {h : Qh} (p : Qw lo w h q) (k : Kt S w w') (h1 : 9 ∉ S) (_h2 : 5 ∉ S) : Qw lo w' h q := ⟨p.1, p.2.1, k.own p.2.2 h1⟩
theorem Rw.kt {h : Rh} (p : Rw lo w h r) (k : Kt S w w') (h1 : 9 ∉ S) (h2 : 5 ∉ S) : Rw lo w' h r := ⟨p.1, p.2.1, p.2.2.1, k.own p.2.2.2.1 h1, k.own p.2.2.2.2 h2⟩
theorem Qw.drew {h : Qh} (p : Qw lo w h q) : Qw lo w.drew h q := p
theorem Rw.drew {h : Rh} (p : Rw lo w h r) : Rw lo w.drew h r := p
theorem Qw.lower {h : Qh} (p : Qw lo w h q) (hl : lo' ≤ lo) : Qw lo' w h q := ⟨p.1, p.2.1, owk_lo p.2.2 hl⟩
theorem Rw.lower {h : Rh} (p : Rw lo w h r) (hl : lo' ≤ lo) : Rw lo' w h r := ⟨p.1, p.2.1, p.2.2.1, owk_lo p.2.2.2.1 hl, owk_lo p.2.2.2.2 hl⟩
theorem Qw.qr {h : Qh} (p : Qw lo w h q) : QR w h q := ⟨p.1, p.2.1, (owk_sle (by decide) stf_len p.2.2).1⟩
theorem Rw.rr {h : Rh} (p : Rw lo w h r) : RR w h r := ⟨p.1, p.2.1, p.2.2.1, (owk_sle (by decide) stf_len p.2.2.2.1).1, (own_sl p.2.2.2.2).1⟩
theorem QR.below {h : Qh} (p : QR w h q) (b : Below w.heap.size w w') : QR w' h q := ⟨p.1, p.2.1, p.2.2.below b⟩
theorem RR.below {h : Rh} (p : RR w h r) (b : Below w.heap.size w w') : RR w' h r := ⟨p.1, p.2.1, p.2.2.1, p.2.2.2.1.below b, p.2.2.2.2.below b⟩
theorem Qws.kt {hs : List Qh} {L : List Qn} (p : Qws lo w hs L) (k : Kt S w w') (h1 : 9 ∉ S) (h2 : 5 ∉ S) : Qws lo w' hs L := p.mono fun _ _ x => x.kt k h1 h2
theorem Rws.kt {hs : List Rh} {L : List Rn} (p : Rws lo w hs L) (k : Kt S w w') (h1 : 9 ∉ S) (h2 : 5 ∉ S) : Rws lo w' hs L := p.mono fun _ _ x => x.kt k h1 h2
theorem Qws.drew {hs : List Qh} {L : List Qn} (p : Qws lo w hs L) : Qws lo w.drew hs L := p
theorem Rws.drew {hs : List Rh} {L : List Rn} (p : Rws lo w hs L) : Rws lo w.drew hs L := p
theorem Qws.lower {hs : List Qh} {L : List Qn} (p : Qws lo w hs L) (hl : lo' ≤ lo) : Qws lo' w hs L := p.mono fun _ _ x => x.lower hl
theorem Rws.lower {hs : List Rh} {L : List Rn} (p : Rws lo w hs L) (hl : lo' ≤ lo) : Rws lo' w hs L := p.mono fun _ _ x => x.lower hl
theorem Qws.qr {hs : List Qh} {L : List Qn} (p : Qws lo w hs L) : QRs w hs L := p.mono fun _ _ x => x.qr
theorem Rws.rr {hs : List Rh} {L : List Rn} (p : Rws lo w hs L) : RRs w hs L := p.mono fun _ _ x => x.rr
theorem QRs.below {hs : List Qh} {L : List Qn} (p : QRs w hs L) (b : Below w.heap.size w w') : QRs w' hs L := p.mono fun _ _ x => x.below b
theorem RRs.below {hs : List Rh} {L : List Rn} (p : RRs w hs L) (b : Below w.heap.size w w') : RRs w' hs L := p.mono fun _ _ x => x.below b
end
/-- A message as it is read: questions and three lists of records at these places. -/
def Mr (w : World) (Q : Option Addr) (qn qc : Nat) (A : Option Addr) (an ac : Nat) (O : Option Addr) (on oc : Nat) (M : Option Addr) (mn mc : Nat) (m : Mn) : Prop :=
 ∃ hq ha ho hm, Sle qE 3 w Q qn qc hq ∧ QRs w hq m.q ∧ Sle rE 5 w A an ac ha ∧ RRs w ha m.a ∧ Sle rE 5 w O on oc ho ∧ RRs w ho m.o ∧ Sle rE 5 w M mn mc hm ∧ RRs w hm m.m
theorem Mr.below {w w' : World} {Q A O M : Option Addr} {qn qc an ac on oc mn mc : Nat} {m : Mn} (h : Mr w Q qn qc A an ac O on oc M mn mc m) (b : Below w.heap.size w w') : Mr w' Q qn qc A an ac O on oc M mn mc m := by
 obtain ⟨hq, ha, ho, hm, h1, h2, h3, h4, h5, h6, h7, h8⟩ := h
 exact ⟨hq, ha, ho, hm, h1.below b, h2.below b, h3.below b, h4.below b, h5.below b, h6.below b, h7.below b, h8.below b⟩
/-- What is in no other block than b stays. -/
theorem fz_self {w0 w w' : World} {b : Option Nat} (h : w0.grownBy w b) (g : w.grownBy w' b) : w0.grownBy w' b :=
 ⟨g.os.trans h.os, g.tape.trans h.tape, g.output.trans h.output, Nat.le_trans h.size g.size, fun i hi hne => (g.block i (Nat.lt_of_lt_of_le hi h.size) hne).trans (h.block i hi hne)⟩
theorem fz_new {w0 w w' : World} {b : Option Nat} {q : Nat} (h : w0.grownBy w b) (g : w.grownBy w' (some q)) (hq : w0.heap.size ≤ q) : w0.grownBy w' b :=
 ⟨g.os.trans h.os, g.tape.trans h.tape, g.output.trans h.output, Nat.le_trans h.size g.size, fun i hi hne => (g.block i (Nat.lt_of_lt_of_le hi h.size) (fun e => by injection e; omega)).trans (h.block i hi hne)⟩
theorem fz_row {w0 w w' : World} {b : Option Nat} {B k n : Nat} {T : TypeId} {v : Value} {xs : List Value} (h : w0.grownBy w b) (g : w.grownBy w' v.ownBlock) (ho : w.ownsRow B T k v n xs) (hB : w0.heap.size ≤ B) : w0.grownBy w' b :=
 ⟨g.os.trans h.os, g.tape.trans h.tape, g.output.trans h.output, Nat.le_trans h.size g.size, fun i hi hne => (g.block i (Nat.lt_of_lt_of_le hi h.size) (fun e => by have := (ho.lt i e.symm).1; omega)).trans (h.block i hi hne)⟩
theorem fz_refl (w : World) (b : Option Nat) : w.grownBy w b := World.grownBy.refl w b
theorem sz_drew' {n : Nat} {w : World} (h : n ≤ w.heap.size) : n ≤ w.drew.heap.size := h
theorem Try.info_qn : (Try.prog.info? 60).map (fun i => (i.zero, i.size, i.bytes)) = some (some (.agg #[.slice none 0 0, .int .i64 0, .int .i64 0]), 3, 40) := by kernel_rfl
theorem Try.info_rn : (Try.prog.info? 36).map (fun i => (i.zero, i.size, i.bytes)) = some (some (.agg #[.slice none 0 0, .int .i64 0, .int .i64 0, .int .u32 0, .slice none 0 0]), 5, 72) := by kernel_rfl
theorem Try.info_rqn : (Try.prog.info? 68).map (fun i => (i.zero, i.size, i.bytes)) = some (some (.agg #[.slice none 0 0, .int .i64 0, .int .i64 0]), 3, 40) := by kernel_rfl
theorem Try.info_rrn : (Try.prog.info? 100).map (fun i => (i.zero, i.size, i.bytes)) = some (some (.agg #[.slice none 0 0, .int .i64 0, .int .i64 0, .int .u32 0, .slice none 0 0]), 5, 72) := by kernel_rfl
end Go.Proofs.Ytjedknjlpeccbaa
