/- The map of fixed addresses: a map at a block, keyed by six bytes: what is looked up in it, what is laid into it. -/
import Derived.Test.YthcjepafcemmnaaPl0
import Derived.DeepKeys4
import Derived.Maps.Keyed
import Derived.Maps.Own
import Derived.Stop.BytesEq
namespace Go.Proofs.Ythcjepafcemmnaa
open Go.RowKit

def macV (m : Mc6) : Value := .agg #[.int .u8 (m.a.toNat : Int), .int .u8 (m.b.toNat : Int), .int .u8 (m.c.toNat : Int), .int .u8 (m.d.toNat : Int), .int .u8 (m.e.toNat : Int), .int .u8 (m.f.toNat : Int)]
def adV (x : Ad4) : Value := .agg #[.int .u8 (x.a.toNat : Int), .int .u8 (x.b.toNat : Int), .int .u8 (x.c.toNat : Int), .int .u8 (x.d.toNat : Int)]
theorem eqm_b (x y : Mc6) (W : World) : (binOp .eql 31 (macV x) (macV y)).run Try.prog W = .ok (.bool (x.eqB y)) W :=
  run_eql_bytes (P := Try.prog) W 31 5 6 (by kernel_rfl) (by kernel_rfl) (fun w => by kernel_rfl) x.l y.l rfl rfl
theorem eqa_b (x y : Ad4) (W : World) : (binOp .eql 28 (adV x) (adV y)).run Try.prog W = .ok (.bool (x.eqB y)) W :=
  run_eql_bytes (P := Try.prog) W 28 5 4 (by kernel_rfl) (by kernel_rfl) (fun w => by kernel_rfl) x.l y.l rfl rfl
theorem nem_b (x y : Mc6) (W : World) : (binOp .neq 31 (macV x) (macV y)).run Try.prog W = .ok (.bool (!x.eqB y)) W := by
  have h := run_equalIn_bytes (P := Try.prog) W 9998 31 5 6 (by kernel_rfl) (by kernel_rfl) (fun w => by kernel_rfl) x.l y.l rfl rfl
  show (binOp .neq 31 (.agg (x.l.map u8v).toArray) (.agg (y.l.map u8v).toArray)).run Try.prog W = _
  rw [run_neq_struct]
  have h2 : (Op.equalIn 10000 31 (.agg (x.l.map u8v).toArray) (.agg (y.l.map u8v).toArray)).run Try.prog W = .ok (x.l == y.l) W := h
  rw [h2]
  rfl
theorem nea_b (x y : Ad4) (W : World) : (binOp .neq 28 (adV x) (adV y)).run Try.prog W = .ok (.bool (!x.eqB y)) W := by
  have h := run_equalIn_bytes (P := Try.prog) W 9998 28 5 4 (by kernel_rfl) (by kernel_rfl) (fun w => by kernel_rfl) x.l y.l rfl rfl
  show (binOp .neq 28 (.agg (x.l.map u8v).toArray) (.agg (y.l.map u8v).toArray)).run Try.prog W = _
  rw [run_neq_struct]
  have h2 : (Op.equalIn 10000 28 (.agg (x.l.map u8v).toArray) (.agg (y.l.map u8v).toArray)).run Try.prog W = .ok (x.l == y.l) W := h
  rw [h2]
  rfl
theorem guardm (op : BinOp) (x y : Operand) (a b : Array Value) (W : World) : (eqGuard op 31 x y (.agg a) (.agg b)).run Try.prog W = .ok () W := run_eqGuard_agg W op 31 x y _ _ (by kernel_rfl)
theorem guarda (op : BinOp) (x y : Operand) (a b : Array Value) (W : World) : (eqGuard op 28 x y (.agg a) (.agg b)).run Try.prog W = .ok () W := run_eqGuard_agg W op 28 x y _ _ (by kernel_rfl)
theorem macV_inj {x y : Mc6} (h : macV x = macV y) : x = y := by
  obtain ⟨a, b, c, d, e, f⟩ := x
  obtain ⟨a', b', c', d', e', f'⟩ := y
  simp only [macV, Value.agg.injEq, Array.mk.injEq, List.cons.injEq, Value.int.injEq, true_and, and_true] at h
  obtain ⟨h1, h2, h3, h4, h5, h6⟩ := h
  have e1 : ∀ p q : UInt8, (p.toNat : Int) = q.toNat → p = q := fun p q h => UInt8.toNat_inj.1 (by omega)
  rw [e1 _ _ h1, e1 _ _ h2, e1 _ _ h3, e1 _ _ h4, e1 _ _ h5, e1 _ _ h6]
theorem lawM : WideMaps.KeyLaw Try.prog 31 := deep_law_laid (by kernel_rfl) (m := 2) (by omega) (of_decide_eq_true (by kernel_rfl)) (by kernel_rfl) (by kernel_rfl)
theorem key_mac (m : Mc6) : ∃ l, keyOf Try.prog 31 (macV m) = some l := by
  have hu : Try.prog.underlying 31 = some (.array 6 5) := by kernel_rfl
  have h8 : Try.prog.underlying 5 = some (.int .u8) := by kernel_rfl
  have hk : Try.prog.keyType 31 = true := by kernel_rfl
  have c6 : Try.prog.cellsOf 31 = 6 := by kernel_rfl
  have c1 : Try.prog.cellsOf 5 = 1 := by kernel_rfl
  obtain ⟨d, hd⟩ : ∃ d, Try.prog.types.size = d + 1 := ⟨Try.prog.types.size - 1, by have : 0 < Try.prog.types.size := of_decide_eq_true (by kernel_rfl); omega⟩
  have one : ∀ (a : UInt8), Try.prog.keyLits (d + 1) 5 [.int .u8 (a.toNat : Int)] = some [.int .u8 (a.toNat : Int)] := fun a => by
    have hw : (Lit.int .u8 (a.toNat : Int)).wf = true := by
      have := a.toNat_lt
      simp [Lit.wf, IntKind.min, IntKind.max, IntKind.signed, IntKind.bits]; omega
    unfold Program.keyLits
    simp only [h8]
    rw [if_pos ⟨trivial, hw⟩]
  obtain ⟨a, b, c, e, f, g⟩ := m
  rw [← Option.isSome_iff_exists]
  unfold keyOf
  simp only [hu, hk, Bool.true_and]
  have hf : (macV ⟨a, b, c, e, f, g⟩).formed Try.prog 31 = true := by simp [Value.formed, macV, hu, c6]
  rw [if_pos hf, hd]
  unfold Program.keyLits
  simp only [hu, c6, c1]
  rw [if_pos (show (macV ⟨a, b, c, e, f, g⟩).cells.toList.length = 6 from rfl)]
  simp only [macV, Value.cells, List.range_succ, List.range_zero, List.nil_append, List.cons_append, List.mapM_cons, List.mapM_nil, List.drop_zero, Nat.mul_one, List.drop_succ_cons, List.take_succ_cons, List.take_zero, one, Option.pure_def, Option.bind_eq_bind, Option.bind_some, Option.map_some, Option.isSome_some]

/-- The map at block mb: who has which address. -/
def Hm (lo mb : Nat) (w : World) (hs : List (Mc6 × Ad4)) : Prop := ∃ (es : Array MapEntry) (ck : Nat), w.heap[mb]? = some (.map es ck) ∧ lo ≤ mb ∧ es.toList.map (fun e => (e.key, e.val)) = hs.map (fun p => (macV p.1, adV p.2)) ∧ (hs.map (·.1)).Nodup
theorem Hm.of {lo mb : Nat} {w w' : World} {hs : List (Mc6 × Ad4)} (h : Hm lo mb w hs) (e : ∀ o, w.heap[mb]? = some o → w'.heap[mb]? = some o) : Hm lo mb w' hs := by
  obtain ⟨es, ck, h1, h2⟩ := h
  exact ⟨es, ck, e _ h1, h2⟩
theorem Hm.lt {lo mb : Nat} {w : World} {hs : List (Mc6 × Ad4)} (h : Hm lo mb w hs) : mb < w.heap.size := by
  obtain ⟨es, ck, h1, _⟩ := h
  exact hlt h1
theorem Hm.below {lo mb : Nat} {w w' : World} {hs : List (Mc6 × Ad4)} (h : Hm lo mb w hs) (b : Below w.heap.size w w') : Hm lo mb w' hs := h.of fun _ ho => blk_u ho b
/-- A block of cells is no map. -/
theorem Hm.ne {lo mb q : Nat} {w : World} {hs : List (Mc6 × Ad4)} {c : Array Value} {T : TypeId} {fz : Nat × Nat} (h : Hm lo mb w hs) (hq : w.heap[q]? = some (.cells c T fz)) : mb ≠ q := fun e => by
  obtain ⟨es, ck, h1, _⟩ := h
  subst e
  rw [h1] at hq; cases hq
theorem Hm.grown {lo mb q : Nat} {w w' : World} {hs : List (Mc6 × Ad4)} {c : Array Value} {T : TypeId} {fz : Nat × Nat} (h : Hm lo mb w hs) (g : w.grownBy w' (some q)) (hq : w.heap[q]? = some (.cells c T fz)) : Hm lo mb w' hs := by
  have hne := h.ne hq
  have hl := h.lt
  exact h.of fun _ ho => (g.block mb hl (fun e => hne (by injection e))).trans ho
theorem Hm.lo_le {lo lo' mb : Nat} {w : World} {hs : List (Mc6 × Ad4)} (h : Hm lo mb w hs) (hl : lo' ≤ lo) : Hm lo' mb w hs := by
  obtain ⟨es, ck, h1, h2, h3⟩ := h
  exact ⟨es, ck, h1, Nat.le_trans hl h2, h3⟩
theorem Hm.row {lo mb B k n : Nat} {w w' : World} {hs : List (Mc6 × Ad4)} {T : TypeId} {v : Value} {xs : List Value} (h : Hm lo mb w hs) (g : w.grownBy w' v.ownBlock) (ho : w.ownsRow B T k v n xs) : Hm lo mb w' hs := by
  have hl := h.lt
  refine h.of fun o ho' => (g.block mb hl (fun e => ?_)).trans ho'
  rcases ho.2 with ⟨h2, _⟩ | ⟨g', cap, cur, e2, hb, hh, h2⟩
  · rw [h2] at e; simp [Value.ownBlock] at e
  · rw [e2] at e
    simp only [Value.ownBlock, Option.some.injEq] at e
    exact h.ne hh e
theorem homeF_none {hs : List (Mc6 × Ad4)} {m : Mc6} (h : ∀ p ∈ hs, p.1 ≠ m) : homeF hs m = none := by
  unfold homeF
  rw [List.find?_eq_none.2 fun p hp => by rw [Mc6.eqB_no (h p hp)]; decide]
  rfl
theorem homeF_some {hs : List (Mc6 × Ad4)} {p : Mc6 × Ad4} (hp : p ∈ hs) (hn : (hs.map (·.1)).Nodup) : homeF hs p.1 = some p.2 := by
  unfold homeF
  induction hs with
  | nil => cases hp
  | cons q hs ih =>
    rw [List.map_cons, List.nodup_cons] at hn
    rcases List.mem_cons.1 hp with rfl | hp'
    · rw [List.find?_cons_of_pos (by exact Mc6.eqB_self _)]; rfl
    · have hne : q.1 ≠ p.1 := fun e => hn.1 (e ▸ List.mem_map.2 ⟨p, hp', rfl⟩)
      rw [List.find?_cons_of_neg (by rw [Mc6.eqB_no hne]; decide)]
      exact ih hp' hn.2
/-- A look-up. -/
theorem Hm.look {lo mb : Nat} {w : World} {hs : List (Mc6 × Ad4)} (h : Hm lo mb w hs) (m : Mc6) : (Instr.lookup 55 (.map (some mb)) (macV m) true).run Try.prog w = .ok (.tuple #[adV ((homeF hs m).getD Ad4.zero), .bool (homeF hs m).isSome]) w := by
  obtain ⟨es, ck, hb, _, he, hn⟩ := h
  obtain ⟨kl, hkl⟩ := key_mac m
  have ht : Try.prog.underlying 55 = some (.map 31 28) := by kernel_rfl
  have hz : ∀ W, (zeroValue 28).run Try.prog W = .ok (adV Ad4.zero) W := fun W => by kernel_rfl
  have hk : ∀ e ∈ es.toList, ∃ p ∈ hs, e.key = macV p.1 ∧ e.val = adV p.2 := fun e hx => by
    have : (e.key, e.val) ∈ hs.map (fun p => (macV p.1, adV p.2)) := he ▸ List.mem_map.2 ⟨e, hx, rfl⟩
    obtain ⟨p, hp, hq⟩ := List.mem_map.1 this
    injection hq with h1 h2
    exact ⟨p, hp, h1.symm, h2.symm⟩
  rcases lawM.find w hkl es.toList (fun e hx => by obtain ⟨p, _, h1, _⟩ := hk e hx; rw [h1]; exact key_mac p.1) with ⟨h1, h2⟩ | ⟨j, e0, h1, h2, h3⟩
  · have hm : homeF hs m = none := homeF_none fun p hp hpm => by
      have : (macV p.1, adV p.2) ∈ es.toList.map (fun e => (e.key, e.val)) := he ▸ List.mem_map.2 ⟨p, hp, rfl⟩
      obtain ⟨e, hx, hq⟩ := List.mem_map.1 this
      injection hq with q1 q2
      exact h2 e hx (by rw [q1, hpm])
    rw [hm]
    simp [Instr.lookup, run_underlying ht, MapKept.run_getObj_map hb, lawM.check w _ hkl, h1, hz, Result.andThen]
  · obtain ⟨p, hp, q1, q2⟩ := hk e0 (List.mem_of_getElem? h2)
    have hpm : p.1 = m := macV_inj (by rw [← q1, h3])
    have hm : homeF hs m = some p.2 := hpm ▸ homeF_some hp hn
    rw [hm]
    simp [Instr.lookup, run_underlying ht, MapKept.run_getObj_map hb, lawM.check w _ hkl, h1, q2, Result.andThen]
/-- A new one is laid in. -/
theorem Hm.put {lo mb : Nat} {w : World} {hs : List (Mc6 × Ad4)} (h : Hm lo mb w hs) (m : Mc6) (a : Ad4) (hm : ∀ p ∈ hs, p.1 ≠ m) : ∃ w', (Instr.mapUpdate 55 (.map (some mb)) (macV m) (adV a)).run Try.prog w = .ok () w' ∧ Hm lo mb w' (hs ++ [(m, a)]) ∧ w.grownBy w' (some mb) := by
  obtain ⟨es, ck, hb, hlo, he, hn⟩ := h
  obtain ⟨kl, hkl⟩ := key_mac m
  have ht : Try.prog.underlying 55 = some (.map 31 28) := by kernel_rfl
  have hk : ∀ e ∈ es.toList, ∃ p ∈ hs, e.key = macV p.1 ∧ e.val = adV p.2 := fun e hx => by
    have : (e.key, e.val) ∈ hs.map (fun p => (macV p.1, adV p.2)) := he ▸ List.mem_map.2 ⟨e, hx, rfl⟩
    obtain ⟨p, hp, hq⟩ := List.mem_map.1 this
    injection hq with h1 h2
    exact ⟨p, hp, h1.symm, h2.symm⟩
  rcases lawM.find w hkl es.toList (fun e hx => by obtain ⟨p, _, h1, _⟩ := hk e hx; rw [h1]; exact key_mac p.1) with ⟨h1, h2⟩ | ⟨j, e0, h1, h2, h3⟩
  · refine ⟨ChangeMaps.setBlock w mb (.map (es.push ⟨macV m, adV a, ck⟩) (ck + 1)), ?_, ⟨_, _, ChangeMaps.heap_setBlock_same hb _, hlo, ?_, ?_⟩, ⟨rfl, rfl, rfl, by simp [ChangeMaps.setBlock], fun i _ hi => ChangeMaps.heap_setBlock_other hb _ (fun e => hi (by rw [e]))⟩⟩
    · simp [Instr.mapUpdate, run_underlying ht, MapKept.run_getObj_map hb, lawM.check w false hkl, h1, MapKept.run_setObj_map _ hb, Result.andThen, ChangeMaps.setBlock]
    · rw [Array.toList_push, List.map_append, he]; simp
    · rw [List.map_append, List.nodup_append]
      refine ⟨hn, by simp, fun x hx y hy => ?_⟩
      obtain ⟨p, hp, rfl⟩ := List.mem_map.1 hx
      simp at hy
      rw [hy]; exact hm p hp
  · obtain ⟨p, hp, q1, q2⟩ := hk e0 (List.mem_of_getElem? h2)
    exact absurd (macV_inj (by rw [← q1, h3])) (hm p hp)
theorem Hm.made (w : World) : Hm w.heap.size w.heap.size (w.alloc (.map #[] 0)) [] := ⟨#[], 0, (MapKept.heap_alloc w _).1, Nat.le_refl _, rfl, by simp⟩
theorem Hm.len {lo mb : Nat} {w : World} {hs : List (Mc6 × Ad4)} (h : Hm lo mb w hs) (ty : TypeId) : (Builtin.len_ #[55] ty #[.map (some mb)]).run Try.prog w = .ok (.int .i64 (hs.length : Int)) w := by
  obtain ⟨es, ck, hb, _, he, _⟩ := h
  have ht : Try.prog.underlying 55 = some (.map 31 28) := by kernel_rfl
  have hl : es.size = hs.length := by have := congrArg List.length he; simpa using this
  simp [Builtin.len_, run_underlying ht, MapKept.run_getObj_map hb, Result.andThen, goInt, hl]
end Go.Proofs.Ythcjepafcemmnaa
