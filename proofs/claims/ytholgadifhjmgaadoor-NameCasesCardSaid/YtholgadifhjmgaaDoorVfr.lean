/- Frames: what a slice of bytes, or a row of the call's own, keeps under a store elsewhere and under an append elsewhere. Laws of no program. -/
import Derived.Test.YtholgadifhjmgaaDoorVst
import Derived.Test.YtholgadifhjmgaaDoorWalks
import Derived.Lib.Hide
namespace Go.Proofs.YtholgadifhjmgaaDoor
open Go.RowKit

/-- No byte of the slice lies in block g; all of them lie below lo; the one slice lies where the other does. -/
def Av (A : Option Addr) (n g : Nat) : Prop := 0 < n → ∀ a o p, A = some ⟨a, o, p⟩ → a ≠ g
def Bl (A : Option Addr) (n lo : Nat) : Prop := 0 < n → ∀ a o p, A = some ⟨a, o, p⟩ → a < lo
def Sub (A' : Option Addr) (k : Nat) (A : Option Addr) (n : Nat) : Prop := 0 < k → 0 < n ∧ ∀ a o p, A' = some ⟨a, o, p⟩ → ∃ o' p', A = some ⟨a, o', p'⟩
theorem Sl.away {w w' : World} {A : Option Addr} {n c g : Nat} {l : List UInt8} (h : Sl w A n c l) (v : Av A n g) (hg : w.grownBy w' (some g)) : Sl w' A n c l := by
  refine ⟨h.1, h.2.1, h.2.2.1, fun hn => ?_⟩
  obtain ⟨a, o, e, hc⟩ := h.2.2.2 hn
  have hne := v hn a o none e
  exact ⟨a, o, e, fun j b hj => (World.cell?_of_block (w := w) (hg.block a (cell_lt (hc j b hj)) (fun e2 => hne (by injection e2)))).trans (hc j b hj)⟩
theorem Sl.under {w w' : World} {A : Option Addr} {n c lo : Nat} {l : List UInt8} (h : Sl w A n c l) (v : Bl A n lo) (hb : Below lo w w') : Sl w' A n c l := by
  refine ⟨h.1, h.2.1, h.2.2.1, fun hn => ?_⟩
  obtain ⟨a, o, e, hc⟩ := h.2.2.2 hn
  exact ⟨a, o, e, fun j b hj => (hb.cell (p := ⟨a, o + j, none⟩) (v hn a o none e)).trans (hc j b hj)⟩
theorem Sl.at0 {w : World} {A : Option Addr} {n c : Nat} {l : List UInt8} (h : Sl w A n c l) (hn : 0 < n) {a o : Nat} {p : Option Nat} (e : A = some ⟨a, o, p⟩) : a < w.heap.size := by
  obtain ⟨a', o', e', hc⟩ := h.2.2.2 hn
  rw [e] at e'
  injection e' with e'
  injection e' with e1 e2
  subst e1
  have hl : 0 < l.length := by have := h.1; omega
  exact cell_lt (hc 0 _ (List.getElem?_eq_getElem hl))
theorem Sl.av_new {w : World} {A : Option Addr} {n c g : Nat} {l : List UInt8} (h : Sl w A n c l) (hg : w.heap.size ≤ g) : Av A n g := fun hn _ _ _ e => Nat.ne_of_lt (Nat.lt_of_lt_of_le (h.at0 hn e) hg)
theorem Sl.bl_new {w : World} {A : Option Addr} {n c : Nat} {l : List UInt8} (h : Sl w A n c l) : Bl A n w.heap.size := fun hn _ _ _ e => h.at0 hn e
theorem Bl.mono {A : Option Addr} {n lo lo' : Nat} (h : Bl A n lo) (hl : lo ≤ lo') : Bl A n lo' := fun hn a o p e => Nat.lt_of_lt_of_le (h hn a o p e) hl
theorem Bl.av {A : Option Addr} {n lo g : Nat} (h : Bl A n lo) (hl : lo ≤ g) : Av A n g := fun hn a o p e => Nat.ne_of_lt (Nat.lt_of_lt_of_le (h hn a o p e) hl)
theorem Fr.av {B : Nat} {A : Option Addr} {n g : Nat} (f : Fr B A n) (hg : g < B) : Av A n g := fun hn a o p e => by
  obtain ⟨a', o', e', h⟩ := f hn
  rw [e] at e'
  injection e' with e'
  injection e' with e1 e2
  omega
theorem Av.sub {A A' : Option Addr} {n k g : Nat} (h : Av A n g) (hs : Sub A' k A n) : Av A' k g := fun hk a o p e => by
  obtain ⟨hn, h2⟩ := hs hk
  obtain ⟨o', p', e'⟩ := h2 a o p e
  exact h hn a o' p' e'
theorem Bl.sub {A A' : Option Addr} {n k lo : Nat} (h : Bl A n lo) (hs : Sub A' k A n) : Bl A' k lo := fun hk a o p e => by
  obtain ⟨hn, h2⟩ := hs hk
  obtain ⟨o', p', e'⟩ := h2 a o p e
  exact h hn a o' p' e'
theorem own_away {w w' : World} {B q : Nat} {e : TypeId} {v : Value} {n : Nat} {xs : List Value} (h : w.ownsRow B e 1 v n xs) (hq : q < B) (hg : w.grownBy w' (some q)) : w'.ownsRow B e 1 v n xs := by
  refine ⟨h.1, ?_⟩
  rcases h.2 with h | ⟨g, cap, cur, e, hb, hh, h⟩
  · exact .inl h
  · exact .inr ⟨g, cap, cur, e, hb, (hg.block g (Array.getElem?_eq_some_iff.1 hh).1 (fun e2 => by injection e2; omega)).trans hh, h⟩
/-- A row of the call's own lies not in block q. -/
def Ofs (v : Value) (q : Nat) : Prop := ∀ g, v.ownBlock = some g → g ≠ q
theorem own_new {w : World} {B q : Nat} {e : TypeId} {v : Value} {n : Nat} {xs : List Value} (h : w.ownsRow B e 1 v n xs) (hq : w.heap.size ≤ q) : Ofs v q := fun g hg => by
  rcases h.2 with ⟨h, _⟩ | ⟨g', cap, cur, e, hb, hh, h⟩
  · rw [h] at hg; simp [Value.ownBlock] at hg
  · have hl := (Array.getElem?_eq_some_iff.1 hh).1
    rw [e] at hg
    simp only [Value.ownBlock, Option.some.injEq] at hg
    omega
theorem own_off {w w' : World} {B q : Nat} {e : TypeId} {v : Value} {n : Nat} {xs : List Value} (h : w.ownsRow B e 1 v n xs) (hv : Ofs v q) (hg : w.grownBy w' (some q)) : w'.ownsRow B e 1 v n xs := by
  refine ⟨h.1, ?_⟩
  rcases h.2 with h | ⟨g, cap, cur, e, hb, hh, h⟩
  · exact .inl h
  · have hne := hv g (by rw [e]; rfl)
    exact .inr ⟨g, cap, cur, e, hb, (hg.block g (Array.getElem?_eq_some_iff.1 hh).1 (fun e2 => hne (by injection e2))).trans hh, h⟩
theorem own_under {w w' : World} {B : Nat} {e : TypeId} {v : Value} {n : Nat} {xs : List Value} (h : w.ownsRow B e 1 v n xs) (hb : Below w.heap.size w w') : w'.ownsRow B e 1 v n xs := by
  refine ⟨h.1, ?_⟩
  rcases h.2 with h | ⟨g, cap, cur, e, hg, hh, h⟩
  · exact .inl h
  · exact .inr ⟨g, cap, cur, e, hg, (hb.block g (Array.getElem?_eq_some_iff.1 hh).1).trans hh, h⟩
/-- Blocks. -/
theorem blk_under {w w' : World} {g B : Nat} {x : Option Obj} (h : w.heap[g]? = x) (hb : Below B w w') (hg : g < B) : w'.heap[g]? = x := (hb.block g hg).trans h
theorem blk_away {w w' : World} {g q : Nat} {x : Option Obj} (h : w.heap[g]? = x) (hg : w.grownBy w' (some q)) (hz : g < w.heap.size) (d : Hid (g ≠ q)) : w'.heap[g]? = x := (hg.block g hz (fun e => d.out (by injection e))).trans h
theorem ne_new {g q n : Nat} (hz : g < n) (hq : n ≤ q) : Hid (g ≠ q) := Lib.hid (Nat.ne_of_lt (Nat.lt_of_lt_of_le hz hq))
theorem ne_symm {g q : Nat} (h : Hid (g ≠ q)) : Hid (q ≠ g) := Lib.hid (Ne.symm h.out)
/-- Rows of bytes of the call's own: where they lie, a store into them. -/
theorem own_at {w : World} {B : Nat} {T : TypeId} {v : Value} {n : Nat} {l : List UInt8} (h : w.ownsRow B T 1 v n (l.map u8v)) (hn : 0 < n) : ∃ g c, v = .slice (some ⟨g, 0, none⟩) n c ∧ B ≤ g ∧ g < w.heap.size ∧ n ≤ c ∧ c ≤ maxLen := by
  rcases h.2 with ⟨_, rfl⟩ | ⟨g, cap, cur, rfl, hb, hh, hnc, hm, _⟩
  · omega
  · exact ⟨g, cap, rfl, hb, (Array.getElem?_eq_some_iff.1 hh).1, hnc, hm⟩
theorem own_sl {w : World} {B : Nat} {T : TypeId} {A : Option Addr} {n m c : Nat} {l : List UInt8} (h : w.ownsRow B T 1 (.slice A m c) n (l.map u8v)) : Sl w A n c l ∧ Fr B A n := by
  obtain ⟨A', c', e, h1, h2⟩ := Sl.of_own_f h
  injection e with e1 e2 e3
  subst e1
  subst e3
  exact ⟨h1, h2⟩
theorem own_val {w : World} {B : Nat} {T : TypeId} {v : Value} {n : Nat} {l : List UInt8} (h : w.ownsRow B T 1 v n (l.map u8v)) : ∃ A c, v = .slice A n c := by
  obtain ⟨A', c', e, _, _⟩ := Sl.of_own_f h
  exact ⟨A', c', e⟩
theorem own_byte {w : World} {B : Nat} {T : TypeId} {g n c j : Nat} {l : List UInt8} {x : UInt8} (h : w.ownsRow B T 1 (.slice (some ⟨g, 0, none⟩) n c) n (l.map u8v)) (hx : l[j]? = some x) : w.cell? ⟨g, j, none⟩ = some (.int .u8 (x.toNat : Int)) := by
  have hl : l.length = n := by simpa using h.1
  have hj : j < l.length := (List.getElem?_eq_some_iff.1 hx).1
  rw [h.cellAt j (by omega), List.getElem?_map, hx]
  rfl
theorem wp_store_byte {P : Program} {o : Oper} {a : Act} {w : World} {K : Act → World → Prop} {Q : Exit → Act → World → Prop} (ty : TypeId) (x y : Operand) (ho : o.op = .store ty x y)
    (B : Nat) (T : TypeId) (g j n c : Nat) (l : List UInt8) (b : UInt8) (hx : a.eval x = .pointer (some ⟨g, j, none⟩)) (hy : a.eval y = .int .u8 (b.toNat : Int)) (hown : w.ownsRow B T 1 (.slice (some ⟨g, 0, none⟩) n c) n (l.map u8v)) (hj : j < n)
    (hi : (P.info? ty).map (·.size) = some 1)
    (h : ∀ w', w'.ownsRow B T 1 (.slice (some ⟨g, 0, none⟩) n c) n ((l.set j b).map u8v) → w.grownBy w' (some g) → K (a.put o.dst undef) w') : Oper.wp P o a w K Q := by
  have hl : l.length = n := by simpa using hown.1
  have hc : w.cell? ⟨g, j, none⟩ = some (u8v l[j]) := by
    rw [hown.cellAt j (by omega)]
    simp [hl, hj]
  have hf : w.frozen? ⟨g, j, none⟩ = false := hown.frozenAt j
  have hs := hown.stored j (u8v b)
  rw [show (l.map u8v).set j (u8v b) = (l.set j b).map u8v by rw [List.map_set]] at hs
  have hr : (Instr.storeAt ty (.pointer (some ⟨g, j, none⟩)) (.int .u8 (b.toNat : Int))).run P w = .ok () (w.setCell ⟨g, j, none⟩ (u8v b)) := by
    have := run_storeCells_cells (P := P) g j [u8v b] 0 w (fun i hi => by
      have : i = 0 := by simp at hi; omega
      subst this
      simp only [Nat.add_zero, hc]; rfl) (fun i hi => by
      have : i = 0 := by simp at hi; omega
      subst this
      simp only [Nat.add_zero, hf]) (fun v hv => by simp at hv; subst hv; rfl)
    simp only [Nat.add_zero] at this
    cases hq : P.info? ty with
    | none => simp [hq] at hi
    | some i =>
      have hs1 : i.size = 1 := by simpa [hq] using hi
      have hcs : (Value.int .u8 (b.toNat : Int)).cells = #[u8v b] := rfl
      simp [Instr.storeAt, Instr.sureAddr, Sem.run_bind, Sem.run_pure, storeVar, sizeOf, typeInfo, hq, hcs, hs1, this, World.setCells]
  unfold Oper.wp execOp
  simp only [ho, hx, hy, Sem.run_bind, Sem.run_pure, Result.andThen_ok, hr]
  exact h _ hs.1 hs.2
theorem wpList_store_byte {P : Program} {ops : Array Oper} {rest : List Oper} {o : Oper} {a : Act} {w : World} {Q : Exit → Act → World → Prop} (hgd : o.guard = none) (ty : TypeId) (x y : Operand) (ho : o.op = .store ty x y)
    (B : Nat) (T : TypeId) (g j n c : Nat) (l : List UInt8) (b : UInt8) (hx : a.eval x = .pointer (some ⟨g, j, none⟩)) (hy : a.eval y = .int .u8 (b.toNat : Int)) (hown : w.ownsRow B T 1 (.slice (some ⟨g, 0, none⟩) n c) n (l.map u8v)) (hj : j < n)
    (hi : (P.info? ty).map (·.size) = some 1)
    (h : ∀ w', w'.ownsRow B T 1 (.slice (some ⟨g, 0, none⟩) n c) n ((l.set j b).map u8v) → w.grownBy w' (some g) → wpList P ops Q rest (a.put o.dst undef) w') : wpList P ops Q (o :: rest) a w :=
  wpList_plain hgd fun _ hK => wp_store_byte ty x y ho B T g j n c l b hx hy hown hj hi (fun w' h1 h2 => hK _ _ (h w' h1 h2))
/-- Pieces of a slice, with where they lie. -/
theorem sub_of {A A' : Option Addr} {n k : Nat} (h : 0 < k → 0 < n ∧ ∃ a o o', A = some ⟨a, o, none⟩ ∧ A' = some ⟨a, o', none⟩) : Sub A' k A n := fun hk => by
  obtain ⟨hn, a, o, o', e, e'⟩ := h hk
  refine ⟨hn, fun b q p hb => ?_⟩
  rw [e'] at hb
  injection hb with hb
  injection hb with h1 h2 h3
  subst h1
  exact ⟨o, none, e⟩
theorem Sl.sub_drop {w : World} {A : Option Addr} {n c : Nat} {l : List UInt8} (h : Sl w A n c l) {p k : Nat} (hk : p + k ≤ n) : Sub (if c = p then A else A.map (·.add (p * 1))) k A n := sub_of fun h0 => by
  refine ⟨by omega, ?_⟩
  obtain ⟨a, o, rfl, _⟩ := h.2.2.2 (by omega)
  have := h.2.1
  rw [if_neg (by omega)]
  refine ⟨a, o, o + p, rfl, ?_⟩
  by_cases h0 : p = 0
  · subst h0; simp [Addr.add]
  · simp [Addr.add, h0]
theorem piece_front {w : World} {A : Option Addr} {n c : Nat} {l : List UInt8} (h : Sl w A n c l) {k : Nat} (hk : k ≤ n) :
    ∃ A' c', (∀ W, (Instr.slice 27 (.slice A n c) none (some (.int .i64 (k : Int))) none).run Tryd.prog W = .ok (.slice A' k c') W) ∧ (∀ W, Sl W A n c l → Sl W A' k c' (l.take k)) ∧ Sub A' k A n := by
  have h2 := h.2.1
  refine ⟨_, _, fun W => ?_, fun W hW => by have ht := (hW.drop (k := 0) (by omega)).take (k := k) (by omega); rw [List.drop_zero] at ht; exact ht, h.sub_drop (p := 0) (by omega)⟩
  have hz : ∀ w, (Go.sizeOf 5).run Tryd.prog w = .ok 1 w := fun w => by kernel_rfl
  have hu : Tryd.prog.underlying 27 = some (.slice (Tryd.prog.elem 27)) := by kernel_rfl
  have he : Tryd.prog.elem 27 = 5 := by kernel_rfl
  rw [run_slice_h W 27 A n c hu .i64 _ (by omega) (by omega), he, hz]
  simp [Result.andThen, sliced]
theorem piece_back {w : World} {A : Option Addr} {n c : Nat} {l : List UInt8} (h : Sl w A n c l) {k : Nat} (hk : k ≤ n) :
    ∃ A' c', (∀ W, (Instr.slice 27 (.slice A n c) (some (.int .i64 (k : Int))) none none).run Tryd.prog W = .ok (.slice A' (n - k) c') W) ∧ (∀ W, Sl W A n c l → Sl W A' (n - k) c' (l.drop k)) ∧ Sub A' (n - k) A n := by
  have h2 := h.2.1
  refine ⟨_, _, fun W => ?_, fun W hW => hW.drop hk, h.sub_drop (by omega)⟩
  have hz : ∀ w, (Go.sizeOf 5).run Tryd.prog w = .ok 1 w := fun w => by kernel_rfl
  have hu : Tryd.prog.underlying 27 = some (.slice (Tryd.prog.elem 27)) := by kernel_rfl
  have he : Tryd.prog.elem 27 = 5 := by kernel_rfl
  rw [run_slice_l W 27 A n c hu .i64 _ (by omega) (by omega), he, hz]
  simp [Result.andThen, sliced]
theorem piece_mid {w : World} {A : Option Addr} {n c : Nat} {l : List UInt8} (h : Sl w A n c l) {p k : Nat} (hk : p + k ≤ n) :
    ∃ A' c', (∀ W, (Instr.slice 27 (.slice A n c) (some (.int .i64 (p : Int))) (some (.int .i64 ((p : Int) + k))) none).run Tryd.prog W = .ok (.slice A' k c') W) ∧ (∀ W, Sl W A n c l → Sl W A' k c' ((l.drop p).take k)) ∧ Sub A' k A n := by
  have h2 := h.2.1
  refine ⟨_, _, fun W => ?_, fun W hW => (hW.drop (k := p) (by omega)).take (k := k) (by omega), h.sub_drop hk⟩
  have hz : ∀ w, (Go.sizeOf 5).run Tryd.prog w = .ok 1 w := fun w => by kernel_rfl
  have hu : Tryd.prog.underlying 27 = some (.slice (Tryd.prog.elem 27)) := by kernel_rfl
  have he : Tryd.prog.elem 27 = 5 := by kernel_rfl
  rw [run_slice_lh W 27 A n c hu .i64 .i64 _ _ (by omega) (by omega) (by omega), he, hz]
  have e1 : ((p : Int) + k).toNat = p + k := by omega
  simp [Result.andThen, sliced, e1]
end Go.Proofs.YtholgadifhjmgaaDoor
