/- The bytes of a text in a row of their own, which bears a conversion's mark; letters turned. -/
import Derived.Test.YtholgadifhjmgaaDoorLaw20
import Derived.Test.YtholgadifhjmgaaDoorSts
import Derived.Lib.ConvBytes
namespace Go.Proofs.YtholgadifhjmgaaDoor
open Go.RowKit

/-- The first n bytes of block g, of which none is frozen. -/
def Mb (w : World) (g n : Nat) (l : List UInt8) : Prop :=
  l.length = n ∧ ∃ C lo hi, w.heap[g]? = some (.cells C 5 (lo, hi)) ∧ n ≤ lo ∧ C.toList.take n = l.map u8v
section
variable {w w' : World} {g n : Nat} {l : List UInt8}
theorem Mb.cell (h : Mb w g n l) {j : Nat} {b : UInt8} (hj : l[j]? = some b) : w.cell? ⟨g, j, none⟩ = some (u8v b) := by
  obtain ⟨h1, C, lo, hi, h2, h3, h4⟩ := h
  have hl := (List.getElem?_eq_some_iff.1 hj).1
  have e : (C.toList.take n)[j]? = some (u8v b) := by rw [h4, List.getElem?_map, hj]; rfl
  rw [List.getElem?_take, if_pos (by omega)] at e
  simp only [World.cell?, h2]
  simpa using e
theorem Mb.sl (h : Mb w g n l) {c : Nat} (hc : n ≤ c ∧ c ≤ maxLen) : Sl w (some ⟨g, 0, none⟩) n c l :=
  ⟨h.1, hc.1, hc.2, fun _ => ⟨g, 0, rfl, fun j b hj => by rw [Nat.zero_add]; exact h.cell hj⟩⟩
theorem Mb.below (h : Mb w g n l) (hb : Below w.heap.size w w') : Mb w' g n l := by
  obtain ⟨h1, C, lo, hi, h2, h3, h4⟩ := h
  exact ⟨h1, C, lo, hi, (hb.block g (Array.getElem?_eq_some_iff.1 h2).1).trans h2, h3, h4⟩
theorem Mb.ofs (h : Mb w g n l) {B k m : Nat} {T : TypeId} {v : Value} {xs : List Value} (ho : w.ownsRow B T k v m xs) (hT : 5 ≠ T) : Ofs v g := by
  obtain ⟨_, C, lo, hi, h2, _⟩ := h
  exact ofs_type ho h2 hT
theorem Mb.set (h : Mb w g n l) (j : Nat) (b : UInt8) : Mb (w.setCell ⟨g, j, none⟩ (u8v b)) g n (l.set j b) ∧ w.grownBy (w.setCell ⟨g, j, none⟩ (u8v b)) (some g) := by
  obtain ⟨h1, C, lo, hi, h2, h3, h4⟩ := h
  refine ⟨⟨by rw [List.length_set]; exact h1, C.setIfInBounds j (u8v b), lo, hi, ?_, h3, ?_⟩, grown_set (World.grownBy.refl w (some g)) j (u8v b)⟩
  · simp [World.setCell, Array.getElem?_modify, h2]
  · rw [Array.toList_setIfInBounds, List.take_set, h4, List.map_set]
theorem wp_store_mb {P : Program} {o : Oper} {a : Act} {K : Act → World → Prop} {Q : Exit → Act → World → Prop} (ty : TypeId) (x y : Operand) (ho : o.op = .store ty x y) (j : Nat) (b : UInt8) (hx : a.eval x = .pointer (some ⟨g, j, none⟩)) (hy : a.eval y = .int .u8 (b.toNat : Int)) (h : Mb w g n l) (hj : j < n)
    (hi : (P.info? ty).map (·.size) = some 1) (hK : ∀ w', Mb w' g n (l.set j b) → w.grownBy w' (some g) → K (a.put o.dst undef) w') : Oper.wp P o a w K Q := by
  have hl := h.1
  have hc : w.cell? ⟨g, j, none⟩ = some (u8v l[j]) := h.cell (List.getElem?_eq_getElem (by omega))
  have hf : w.frozen? ⟨g, j, none⟩ = false := by
    obtain ⟨_, C, lo, hi, h2, h3, _⟩ := h
    simp only [World.frozen?, h2]
    simp; omega
  have hs := h.set j b
  have hr : (Instr.storeAt ty (.pointer (some ⟨g, j, none⟩)) (.int .u8 (b.toNat : Int))).run P w = .ok () (w.setCell ⟨g, j, none⟩ (u8v b)) := by
    have := run_storeCells_cells (P := P) g j [u8v b] 0 w (fun i hi => by
      have : i = 0 := by simp at hi; omega
      subst this
      simp only [Nat.add_zero, hc]; rfl) (fun i hi => by
      have : i = 0 := by simp at hi; omega
      subst this
      simp only [Nat.add_zero, hf]) (fun v hv => by simp at hv; subst hv; rfl)
    simp only [Nat.add_zero] at this
    cases hq : P.info? ty with
    | none => simp [hq] at hi
    | some i =>
      have hs1 : i.size = 1 := by simpa [hq] using hi
      have hcs : (Value.int .u8 (b.toNat : Int)).cells = #[u8v b] := rfl
      simp [Instr.storeAt, Instr.sureAddr, Sem.run_bind, Sem.run_pure, storeVar, sizeOf, typeInfo, hq, hcs, hs1, this, World.setCells]
  unfold Oper.wp execOp
  simp only [ho, hx, hy, Sem.run_bind, Sem.run_pure, Result.andThen_ok, hr]
  exact hK _ hs.1 hs.2
theorem wpList_store_mb {P : Program} {ops : Array Oper} {rest : List Oper} {o : Oper} {a : Act} {Q : Exit → Act → World → Prop} (hgd : o.guard = none) (ty : TypeId) (x y : Operand) (ho : o.op = .store ty x y) (j : Nat) (b : UInt8) (hx : a.eval x = .pointer (some ⟨g, j, none⟩)) (hy : a.eval y = .int .u8 (b.toNat : Int)) (h : Mb w g n l) (hj : j < n)
    (hi : (P.info? ty).map (·.size) = some 1) (hK : ∀ w', Mb w' g n (l.set j b) → w.grownBy w' (some g) → wpList P ops Q rest (a.put o.dst undef) w') : wpList P ops Q (o :: rest) a w :=
  wpList_plain hgd fun _ hK' => wp_store_mb ty x y ho j b hx hy h hj hi fun w' h1 h2 => hK' _ _ (hK w' h1 h2)
theorem mb_new (w : World) (l : List UInt8) : Mb (Lib.bytesWorld w 5 ⟨l.toArray⟩) w.heap.size l.length l ∧ Below w.heap.size w (Lib.bytesWorld w 5 ⟨l.toArray⟩) := by
  have hcap := grownCap_ge w (⟨l.toArray⟩ : ByteArray).size 0 5
  rw [st_size] at hcap
  refine ⟨⟨rfl, _, _, _, Lib.bytesWorld_at_new w 5 ⟨l.toArray⟩, ?_, ?_⟩, ?_⟩
  · simp [Lib.bytesCells]
  · simp only [Lib.bytesCells, Array.toList_append, Array.toList_map]
    rw [List.take_left' (by simp)]
    rfl
  · have h1 : Below w.heap.size w (w.drew.alloc (.cells (Lib.bytesCells w 5 ⟨l.toArray⟩) 5)) := ((Below.refl _ w).drew).alloc (Nat.le_refl _) _
    have h2 := freeze_heap (w.drew.alloc (.cells (Lib.bytesCells w 5 ⟨l.toArray⟩) 5)) w.heap.size (Lib.bytesCells w 5 ⟨l.toArray⟩).size _ 5 (heap_alloc_new w.drew _)
    exact h1.grown h2.2 (by simp) (fun k hk => by injection hk with hk; omega)
end
theorem wpList_to_bytes {ops : Array Oper} {rest : List Oper} {o : Oper} {a : Act} {w : World} {Q : Exit → Act → World → Prop} (hgd : o.guard = none) (x : Operand) (ho : o.op = .convert 9 27 x) (l : List UInt8) (n : Nat) (hn : l.length = n) (hx : a.eval x = .string ⟨l.toArray⟩) (hm : n ≤ 100000)
    (h : ∀ g c w', w.heap.size ≤ g → Mb w' g n l → (n ≤ c ∧ c ≤ maxLen) → Below w.heap.size w w' → wpList Tryd.prog ops Q rest (a.put o.dst (.slice (some ⟨g, 0, none⟩) n c)) w') : wpList Tryd.prog ops Q (o :: rest) a w := by
  subst hn
  have hr := Lib.run_convert_string_bytes (P := Tryd.prog) w 9 27 5 ⟨l.toArray⟩ Tryd.underlying9 Tryd.underlying27 Tryd.underlying5
  rw [st_size] at hr
  have hm := mb_new w l
  refine wpList_plain hgd fun K hK => ?_
  unfold Oper.wp execOp
  simp only [ho, hx, Sem.run_bind, hr, Result.andThen_ok]
  exact hK _ _ (h _ _ _ (Nat.le_refl _) hm.1 ⟨grownCap_ge _ _ _ _, grownCap_le_maxLen _ _ _ _ (by unfold maxLen; omega)⟩ hm.2)
theorem Sle.bt {w : World} {g o n c i : Nat} {l : List Bool} {x : Bool} (h : Sle btf 1 w (some ⟨g, o, none⟩) n c l) (hx : l[i]? = some x) : w.cell? ⟨g, o + i, none⟩ = some (.bool x) := by
  have := Sle.cell (j := 0) h hx rfl
  rw [Nat.mul_one, Nat.add_zero] at this
  exact this
/-- A letter turned. -/
def tog (c : UInt8) : UInt8 := byteOf (bits .xor .u8 (c.toNat : Int) 32)
theorem all256 {p : UInt8 → Bool} (h : ((List.range 256).all fun n => p (UInt8.ofNat n)) = true) (c : UInt8) : p c = true := by
  have := List.all_eq_true.1 h c.toNat (by simp [c.toNat_lt])
  rwa [UInt8.ofNat_toNat] at this
theorem tog_val (c : UInt8) : bits .xor .u8 (c.toNat : Int) 32 = ((tog c).toNat : Int) :=
  of_decide_eq_true (all256 (p := fun c => decide (bits .xor .u8 (c.toNat : Int) 32 = ((tog c).toNat : Int))) (by decide +kernel) c)
theorem tog_low (c : UInt8) (h : (97 ≤ c.toNat ∧ c.toNat ≤ 122) ∨ (65 ≤ c.toNat ∧ c.toNat ≤ 90)) : lowB (tog c) = lowB c := by
  have := all256 (p := fun c => decide (((97 ≤ c.toNat ∧ c.toNat ≤ 122) ∨ (65 ≤ c.toNat ∧ c.toNat ≤ 90)) → lowB (tog c) = lowB c)) (by decide +kernel) c
  exact of_decide_eq_true this h
theorem set_low {l : List UInt8} {j : Nat} {c b : UInt8} (h : l[j]? = some c) (hb : lowB b = lowB c) : (l.set j b).map lowB = l.map lowB := by
  rw [List.map_set, hb]
  apply List.ext_getElem?
  intro i
  rw [List.getElem?_set]
  split
  · rename_i e
    subst e
    have hj := (List.getElem?_eq_some_iff.1 h).1
    rw [List.length_map, if_pos hj, List.getElem?_map, h]
    rfl
  · rfl
theorem low_len {a b : List (List UInt8)} (h : lowN a = lowN b) {n : Nat} (hb : ∀ x ∈ b, x.length ≤ n) : ∀ x ∈ a, x.length ≤ n := by
  intro x hx
  obtain ⟨i, hi⟩ := List.getElem?_of_mem hx
  have h1 : (lowN a)[i]? = some (x.map lowB) := map_at hi
  rw [h] at h1
  obtain ⟨y, hy, e⟩ := List.mem_map.1 (List.mem_of_getElem? h1)
  have := congrArg List.length e
  rw [List.length_map, List.length_map] at this
  have := hb y hy
  omega
theorem low_next {ms l : List (List UInt8)} {i : Nat} {x bs : List UInt8} (h : lowN ms = lowN (l.take i)) (hx : l[i]? = some x) (hb : bs.map lowB = x.map lowB) : lowN (ms ++ [bs]) = lowN (l.take (i + 1)) := by
  rw [take_next hx]
  unfold lowN at h ⊢
  rw [List.map_append, List.map_append, h, List.map_singleton, List.map_singleton, hb]
theorem same_more (l ms : List (List UInt8)) (x : List UInt8) (h : lowN ms = lowN l) : sameN l (ms ++ [x]) = false := by
  refine decide_eq_false fun e => ?_
  have h1 := congrArg List.length e
  have h2 := congrArg List.length h
  unfold lowN at h1 h2
  simp at h1 h2
  omega
end Go.Proofs.YtholgadifhjmgaaDoor
