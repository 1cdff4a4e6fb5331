/- Laws of no program: an append onto a row of the call's own as 'Below' of the row's own bound; copy of bytes over a whole block; a Reader under a call that writes elsewhere. -/
import Derived.Test.YtholgadifhjmgaaDoorMemz
import Derived.Test.YtholgadifhjmgaaDoorRdf
import Derived.Laws.CopyOwn
namespace Go.Proofs.YtholgadifhjmgaaDoor
open Go.RowKit

/-- append of bytes: nothing below the row's bound changes. -/
theorem wpList_append_bb {P : Program} (w : World) {ops : Array Oper} {rest : List Oper} {o : Oper} {a : Act} {Q : Exit → Act → World → Prop} (hgd : o.guard = none) (s x : Operand) (t : TypeId)
    (ho : o.op = .call { callee := .builtin .append, args := #[s, x], argTypes := #[t, t] })
    (base : Nat) (e : TypeId) (i : TypeInfo) (z : Value) (ht : P.underlying t = some (.slice e)) (hi : P.info? e = some i) (hz : i.zero = some z)
    (hsize : i.size = 1) (hby : i.bytes = 1) (hzs : z.cells.size = 1)
    (v : Value) (n : Nat) (l : List UInt8) (hs : a.eval s = v) (hown : w.ownsRow base e 1 v n (l.map u8v))
    (A : Option Addr) (m c : Nat) (l2 : List UInt8) (hx : a.eval x = .slice A m c) (hr : Sl w A m c l2)
    (h63 : n + m ≤ 140737488355328) (hbase : base ≤ w.heap.size)
    (h : ∀ v' w', w'.ownsRow base e 1 v' (n + m) ((l ++ l2).map u8v) → Below base w w' → wpList P ops Q rest (a.put o.dst v') w') :
    wpList P ops Q (o :: rest) a w :=
  wpList_append_bytes w hgd s x t ho base e i z ht hi hz hsize hby hzs v n l hs hown A m c l2 hx hr h63 hbase
    (fun v' w' h1 h2 _ => h v' w' h1 ((Below.refl base w).grown h2 hbase (fun k hk => (hown.lt k hk).1)))
theorem wp_append_bb {P : Program} {o : Oper} {a : Act} {w : World} {K : Act → World → Prop} {Q : Exit → Act → World → Prop} (s x : Operand) (t : TypeId)
    (ho : o.op = .call { callee := .builtin .append, args := #[s, x], argTypes := #[t, t] })
    (base : Nat) (e : TypeId) (i : TypeInfo) (z : Value) (ht : P.underlying t = some (.slice e)) (hi : P.info? e = some i) (hz : i.zero = some z)
    (hsize : i.size = 1) (hby : i.bytes = 1) (hzs : z.cells.size = 1)
    (v : Value) (n : Nat) (l : List UInt8) (hs : a.eval s = v) (hown : w.ownsRow base e 1 v n (l.map u8v))
    (A : Option Addr) (m c : Nat) (l2 : List UInt8) (hx : a.eval x = .slice A m c) (hr : Sl w A m c l2)
    (h63 : n + m ≤ 140737488355328) (hbase : base ≤ w.heap.size)
    (h : ∀ v' w', w'.ownsRow base e 1 v' (n + m) ((l ++ l2).map u8v) → Below base w w' → K (a.put o.dst v') w') :
    Oper.wp P o a w K Q :=
  wp_append_bytes s x t ho base e i z ht hi hz hsize hby hzs v n l hs hown A m c l2 hx hr h63 hbase
    (fun v' w' h1 h2 _ => h v' w' h1 ((Below.refl base w).grown h2 hbase (fun k hk => (hown.lt k hk).1)))
/-- Nothing below the bound changes: what is owned from the bound on is still of use. -/
theorem ownsRow_mono {w : World} {B C : Nat} {e : TypeId} {v : Value} {n : Nat} {xs : List Value} (h : w.ownsRow C e 1 v n xs) (hb : B ≤ C) : w.ownsRow B e 1 v n xs :=
  ⟨h.1, by rcases h.2 with h | ⟨g, cap, cur, e, hc, h⟩; exact .inl h; exact .inr ⟨g, cap, cur, e, Nat.le_trans hb hc, h⟩⟩
/-- copy of a whole block of bytes, as one step of a region that draws its order ('rw [if_pos (by rfl)]' ahead of it). -/
theorem wp_copy_all {P : Program} {o : Oper} {a : Act} {w : World} {K : Act → World → Prop} {Q : Exit → Act → World → Prop} (d s : Operand) (dT sT : TypeId)
    (ho : o.op = .call { callee := .builtin .copy, args := #[d, s], argTypes := #[dT, sT] }) (elem : TypeId) (hu : P.underlying dT = some (.slice elem)) (hsz : (P.info? elem).map (·.size) = some 1)
    (g n c : Nat) (A : Option Addr) (l : List UInt8) (cur : Array Value) (t : TypeId) (hd : a.eval d = .slice (some ⟨g, 0, none⟩) n n) (hs : a.eval s = .slice A n c)
    (hg : w.heap[g]? = some (.cells cur t (0, 0))) (hcur : cur.size = n) (hl : Sl w A n c l) (hn : 0 < n)
    (h : ∀ w', w'.heap[g]? = some (.cells (l.map u8v).toArray t (0, 0)) → w.grownBy w' (some g) → K (a.put o.dst (goInt n)) w') : Oper.wp P o a w K Q := by
  obtain ⟨q, r, rfl, _⟩ := hl.2.2.2 hn
  have hlen : (l.map u8v).length = n := by rw [List.length_map, hl.1]
  have hrun := run_copy_row (P := P) w dT sT o.type elem g 0 n n ⟨q, r, none⟩ n c cur t (l.map u8v) hu hsz hg (by rw [hlen]; exact (Nat.min_self n).symm) (hl.cells _ rfl) (by omega) (oneCell_u8 l)
  rw [hlen] at hrun
  have hrow : (cur.toList.take 0 ++ l.map u8v ++ cur.toList.drop (0 + n)).toArray = (l.map u8v).toArray := by
    have : cur.toList.drop (0 + n) = [] := List.drop_eq_nil_of_le (by simp; omega)
    rw [this]; simp
  rw [hrow] at hrun
  unfold Oper.wp
  simp [execOp, ho, resolve, invoke, builtin, hd, hs, hrun, Result.andThen]
  exact h _ (setRow_heap w g _ _ t _ hg) ⟨rfl, rfl, rfl, by simp [World.setRow], fun k _ hk => setRow_other w g k _ (fun e => hk (by rw [e]))⟩
theorem Rb.grown {w w' : World} {T : TypeId} {g B q : Nat} {l : List UInt8} {s : Bool} (h : Rb w T g B l s) (hg : w.grownBy w' (some q)) (hq : B ≤ q) (hne : q ≠ g) : Rb w' T g B l s := by
  have hlt := h.rd.lt
  obtain ⟨A, n, c, h1, h2, h3⟩ := h
  refine ⟨A, n, c, (hg.block g hlt (fun e => hne (by injection e with e; exact e.symm))).trans h1, ⟨h2.1, h2.2.1, h2.2.2.1, fun hn => ?_⟩, h3⟩
  obtain ⟨a, o, e, hc⟩ := h2.2.2.2 hn
  obtain ⟨a', o', e', hlt'⟩ := h3 hn
  rw [e] at e'
  obtain ⟨rfl, rfl⟩ : a = a' ∧ o = o' := by injection e' with e'; injection e' with e1 e2; exact ⟨e1, e2⟩
  refine ⟨a, o, e, fun j b hj => ?_⟩
  have hc' := hc j b hj
  exact (World.cell?_of_block (w := w) (hg.block a (cell_lt hc') (fun e => by injection e with e; omega))).trans hc'
theorem Rb.drew {w : World} {T : TypeId} {g B : Nat} {l : List UInt8} {s : Bool} (h : Rb w T g B l s) : Rb w.drew T g B l s := by
  obtain ⟨A, n, c, h1, h2, h3⟩ := h
  exact ⟨A, n, c, h1, h2.keep fun _ _ _ h => h, h3⟩
theorem Sl.drew {w : World} {A : Option Addr} {n c : Nat} {l : List UInt8} (h : Sl w A n c l) : Sl w.drew A n c l := h.keep fun _ _ _ h => h
theorem grown_new {w w1 w2 : World} {g k : Nat} (h : w.grownBy w1 (some g)) (h2 : w1.grownBy w2 (some k)) (hk : w.heap.size ≤ k) : w.grownBy w2 (some g) :=
  ⟨h2.os.trans h.os, h2.tape.trans h.tape, h2.output.trans h.output, Nat.le_trans h.size h2.size, fun i hi hne => (h2.block i (Nat.lt_of_lt_of_le hi h.size) (fun e => by injection e with e; omega)).trans (h.block i hi hne)⟩

theorem bytes_b (g B : Nat) (l : List UInt8) (s : Bool) (k : Nat) (w : World) (hr : Rb w 67 g B l s) (hk : k ≤ l.length) (hs : k ≤ 140737488355328) :
    Calls Tryd.prog 44 #[.pointer (some ⟨g, 0, none⟩), .int .i64 k] w fun e w' => ∃ A c, e = .returned (.slice A k c) ∧ Sl w' A k c (l.take k) ∧ Rb w' 67 g B (l.drop k) s ∧ w.grownBy w' (some g) ∧ Fr w.heap.size A k := by
  go_enter Tryd.func44, Tryd.ntmps44
  go_wp2_with (go_at_call 49; refine (take_yes_b g B l s k _ hr hk).mono ?_; rintro e w1 ⟨A, c, rfl, hsl, hr1, hg1⟩)
  go_wp2_with (go_at_call 48; refine (join_f A none k c 0 0 _ [] w1 hsl (Sl.nil w1) (by omega)).mono ?_; rintro e w2 ⟨A', c', rfl, hsl2, bel, hfr⟩)
  go_ret
  simp only [Nat.add_zero, List.append_nil] at hsl2 hfr
  exact ⟨A', c', rfl, hsl2, hr1.below bel, hg1.trans (grown_of_below bel), hfr.mono hg1.size⟩
end Go.Proofs.YtholgadifhjmgaaDoor
