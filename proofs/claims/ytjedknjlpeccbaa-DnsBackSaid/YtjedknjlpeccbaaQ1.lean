/- Texts put together: Mem, Dn0, Ds0, Memz, Walks, Rdb, Rdf, App, Blk, Stp, Vst, Vfr, Vfs, Vap. -/
import Derived.WalkKit
import Derived.Laws.BytesArg
import Derived.Laws.IdiomStrings
import Derived.Maps.AppendAt
import Derived.Lib.AppendZerosOnto
import Derived.Lib.Hide
import Derived.Test.YtjedknjlpeccbaaRows
import Derived.WalkSpells
import Derived.WalkLawsBesides
import Derived.Laws.CopyOwn
import Derived.Deep.MidRow
import Derived.Laws.ResultCell
import Derived.DeepKeys
import Derived.Stop.BytesEq
import Derived.Laws.StructEq
import Derived.Laws.Tables
namespace Go.Proofs.Ytjedknjlpeccbaa
open Go.RowKit
theorem sq3 : (∀ {α : Type} {xs : List α} {i : Nat} (h : i < xs.toArray.size), xs.toArray[i] = xs[i]'(by simpa using h)) ∧ (∀ {α : Type} (a : α) (l : List α) (h : 0 < (a :: l).length), (a :: l)[0] = a) ∧ (∀ {α : Type} (a : α) (l : List α) (i : Nat) (h : i + 1 < (a :: l).length), (a :: l)[i + 1] = l[i]'(by simpa using h)) := ⟨fun _ => rfl, fun _ _ _ => rfl, fun _ _ _ _ => rfl⟩
theorem sq4 : ((∀ (a : Act) (v : Value) (d : Tmp), a.put (some d) v = { tmps := a.tmps.setIfInBounds d v, defers := a.defers }) ∧ (∀ (a : Act) (v : Value), a.put none v = a)) ∧ (∀ {α : Type} (l : List α) (i : Nat) (a : α), l.toArray.setIfInBounds i a = (l.set i a).toArray) ∧ (∀ {α : Type} {x : α} {xs : List α} {a : α}, (x :: xs).set 0 a = a :: xs) ∧ (∀ {α : Type} {x : α} {xs : List α} {n : Nat} {a : α}, (x :: xs).set (n + 1) a = x :: xs.set n a) := ⟨⟨fun _ _ _ => rfl, fun _ _ => rfl⟩, fun l i a => List.setIfInBounds_toArray l i a, rfl, rfl⟩

/-- A byte as a cell's value. -/
def u8v (b : UInt8) : Value := .int .u8 (b.toNat : Int)

/-- The slice with address A, length n, capacity c reads as the bytes l. -/
def Sl (w : World) (A : Option Addr) (n c : Nat) (l : List UInt8) : Prop :=
 l.length = n ∧ n ≤ c ∧ c ≤ maxLen ∧ (0 < n → ∃ g o, A = some ⟨g, o, none⟩ ∧ ∀ j b, l[j]? = some b → w.cell? ⟨g, o + j, none⟩ = some (u8v b))

theorem cell_lt {w : World} {a : Addr} {v : Value} (h : w.cell? a = some v) : a.block < w.heap.size := by
 rcases Nat.lt_or_ge a.block w.heap.size with hlt | hge
 ·exact hlt
 ·simp [World.cell?, Array.getElem?_eq_none hge] at h

theorem Sl.nil (w : World) : Sl w none 0 0 [] := ⟨rfl, Nat.le_refl _, Nat.zero_le _, fun h => absurd h (by omega)⟩

theorem Sl.keep {w w' : World} {A : Option Addr} {n c : Nat} {l : List UInt8} (h : Sl w A n c l)
  (hk : ∀ g o b, w.cell? ⟨g, o, none⟩ = some (u8v b) → w'.cell? ⟨g, o, none⟩ = some (u8v b)) : Sl w' A n c l :=
 ⟨h.1, h.2.1, h.2.2.1, fun hn => by
  obtain ⟨g, o, e, hc⟩ := h.2.2.2 hn
  exact ⟨g, o, e, fun j b hj => hk _ _ _ (hc j b hj)⟩⟩

theorem Sl.below {w w' : World} {A : Option Addr} {n c : Nat} {l : List UInt8} (h : Sl w A n c l) (hb : Below w.heap.size w w') : Sl w' A n c l :=
 h.keep fun _ _ _ hc => (hb.cell (cell_lt hc)).trans hc

/-- A Reader at block g: its rest reads as l; is it short? -/
def Rd (w : World) (T : TypeId) (g : Nat) (l : List UInt8) (s : Bool) : Prop :=
 ∃ A n c, w.heap[g]? = some (.cells #[.slice A n c, .bool s] T (0, 0)) ∧ Sl w A n c l

theorem cell_of_rd {w : World} {T : TypeId} {g : Nat} {A : Option Addr} {n c : Nat} {s : Bool} (h : w.heap[g]? = some (.cells #[.slice A n c, .bool s] T (0, 0))) :
  w.cell? ⟨g, 0, none⟩ = some (.slice A n c) ∧ w.cell? ⟨g, 1, none⟩ = some (.bool s) := by
 simp [World.cell?, h]

/-- A slice's bytes lie in no Reader's block. -/
theorem byte_not_rd {w : World} {T : TypeId} {g o : Nat} {A : Option Addr} {n c : Nat} {s : Bool} {b : UInt8} {g' : Nat} (h : w.heap[g]? = some (.cells #[.slice A n c, .bool s] T (0, 0)))
  (hc : w.cell? ⟨g', o, none⟩ = some (u8v b)) : g' ≠ g := by
 rintro rfl
 simp [World.cell?, h, u8v] at hc
 match o, hc with
 | 0, hc => simp at hc
 | 1, hc => simp at hc
 | o + 2, hc => simp at hc

theorem Sl.far {w w' : World} {A : Option Addr} {n c : Nat} {l : List UInt8} (h : Sl w A n c l) {T : TypeId} {g : Nat} {l' : List UInt8} {s : Bool} (hr : Rd w T g l' s) (hg : w.grownBy w' (some g)) : Sl w' A n c l := by
 obtain ⟨A', n', c', hb, _⟩ := hr
 refine h.keep fun g' o b hc => ?_
 have hne := byte_not_rd hb hc
 exact (World.cell?_of_block (w := w) (hg.block g' (cell_lt hc) (fun e => hne (by injection e)))).trans hc

theorem Rd.lt {w : World} {T : TypeId} {g : Nat} {l : List UInt8} {s : Bool} (h : Rd w T g l s) : g < w.heap.size := by
 obtain ⟨A, n, c, hb, _⟩ := h
 exact cell_lt (a := ⟨g, 0, none⟩) (cell_of_rd hb).1

theorem Rd.below {w w' : World} {T : TypeId} {g : Nat} {l : List UInt8} {s : Bool} (h : Rd w T g l s) (hb : Below w.heap.size w w') : Rd w' T g l s := by
 have hlt := h.lt
 obtain ⟨A, n, c, h1, h2⟩ := h
 exact ⟨A, n, c, (hb.block g hlt).trans h1, h2.below hb⟩

theorem Sl.take {w : World} {A : Option Addr} {n c k : Nat} {l : List UInt8} (h : Sl w A n c l) (hk : k ≤ n) : Sl w A k c (l.take k) := by
 obtain ⟨h1, h2, h3, h4⟩ := h
 refine ⟨by rw [List.length_take]; omega, by omega, h3, fun hn => ?_⟩
 obtain ⟨g, o, e, hc⟩ := h4 (by omega)
 refine ⟨g, o, e, fun j b hj => hc j b ?_⟩
 rw [List.getElem?_take] at hj
 split at hj
 ·exact hj
 ·cases hj

theorem Sl.drop {w : World} {A : Option Addr} {n c k : Nat} {l : List UInt8} (h : Sl w A n c l) (hk : k ≤ n) :
  Sl w (if c = k then A else A.map (·.add (k * 1))) (n - k) (c - k) (l.drop k) := by
 obtain ⟨h1, h2, h3, h4⟩ := h
 refine ⟨by rw [List.length_drop]; omega, by omega, by omega, fun hn => ?_⟩
 obtain ⟨g, o, rfl, hc⟩ := h4 (by omega)
 rw [if_neg (by omega)]
 refine ⟨g, o + k, ?_, fun j b hj => ?_⟩
 ·by_cases h0 : k = 0
  ·subst h0; simp [Addr.add]
  ·simp [Addr.add, h0]
 ·rw [List.getElem?_drop] at hj
  rw [Nat.add_assoc]
  exact hc _ _ hj

/-- 'string(b)'. -/
theorem Sl.str {P : Program} {w : World} {A : Option Addr} {n c : Nat} {l : List UInt8} (h : Sl w A n c l) (src e dst : TypeId) (hs : P.underlying src = some (.slice e)) (he : P.underlying e = some (.int .u8)) (hd : P.underlying dst = some .string) :
  (convert src dst (.slice A n c)).run P w = .ok (.string ⟨l.toArray⟩) w := by
 obtain ⟨h1, h2, h3, h4⟩ := h
 rcases Nat.eq_zero_or_pos n with h0 | h0
 ·subst h0
  obtain rfl := List.eq_nil_of_length_eq_zero h1
  rcases A with _ | ad
  ·exact run_convert_bytes_nil w src e hs he _ _ dst hd
  ·exact run_convert_bytes_back w src dst e ad c [] hs he hd (fun j hj => absurd hj (by simp))
 ·obtain ⟨g, o, rfl, hc⟩ := h4 h0
  rw [← h1]
  refine run_convert_bytes_back w src dst e ⟨g, o, none⟩ c l hs he hd (fun j hj => ?_)
  rw [Addr.add_lit]
  exact hc j _ (List.getElem?_eq_getElem hj)

/-- What owns a row of bytes reads as these bytes. -/
theorem Sl.of_own {w : World} {base : Nat} {e : TypeId} {v : Value} {l : List UInt8} {n : Nat} (h : w.ownsRow base e 1 v n (l.map u8v)) : ∃ A c, v = .slice A n c ∧ Sl w A n c l := by
 have hl : l.length = n := by simpa using h.1
 rcases h.2 with ⟨rfl, rfl⟩ | ⟨g, cap, cur, rfl, _, hh, hn, hm, hs, ht⟩
 ·exact ⟨none, 0, rfl, hl, Nat.le_refl _, Nat.zero_le _, fun h => absurd h (by omega)⟩
 ·refine ⟨_, _, rfl, hl, hn, hm, fun _ => ⟨g, 0, rfl, fun j b hj => ?_⟩⟩
  have hjl : j < l.length := (List.getElem?_eq_some_iff.1 hj).1
  have e1 : cur.toList[j]? = some (u8v b) := by
   have : (cur.toList.take (n * 1))[j]? = some (u8v b) := by rw [ht]; simp [hj]
   rw [List.getElem?_take] at this
   split at this
   ·exact this
   ·cases this
  simp [World.cell?, hh]
  simpa using e1

/-- The cells of a slice, as the laws on append ask for them. -/
theorem Sl.cells {w : World} {A : Option Addr} {n c : Nat} {l : List UInt8} (h : Sl w A n c l) : ∀ ad, A = some ad → ∀ j u, (l.map u8v)[j]? = some u → w.cell? (ad.add j) = some u := by
 intro ad hA j u hu
 have hj : j < l.length := by
  have := (List.getElem?_eq_some_iff.1 hu).1
  simpa using this
 obtain ⟨g, o, e, hc⟩ := h.2.2.2 (by have := h.1; omega)
 rw [hA] at e
 obtain rfl := Option.some.inj e
 rw [Addr.add_lit, hc j _ (List.getElem?_eq_getElem hj)]
 simpa [List.getElem?_eq_getElem hj] using hu

theorem oneCell_u8 (l : List UInt8) : ∀ u ∈ l.map u8v, u.oneCell' = true := by
 intro u hu
 obtain ⟨_, _, rfl⟩ := List.mem_map.1 hu
 rfl

/-- append of bytes onto a row of the call's own, whatever the source. -/
theorem run_append_bytes {P : Program} (w : World) (base : Nat) (t ty e : TypeId) (i : TypeInfo) (z : Value) (ht : P.underlying t = some (.slice e)) (hi : P.info? e = some i) (hz : i.zero = some z)
  (hsize : i.size = 1) (hby : i.bytes = 1) (hzs : z.cells.size = 1)
  (v : Value) (n : Nat) (l : List UInt8) (hown : w.ownsRow base e 1 v n (l.map u8v))
  (A : Option Addr) (m c : Nat) (l2 : List UInt8) (hr : Sl w A m c l2)
  (h63 : n + m ≤ 140737488355328) (hbase : base ≤ w.heap.size) :
  ∃ v' w', (Builtin.append_ #[t, t] ty #[v, .slice A m c]).run P w = .ok v' w' ∧ w'.ownsRow base e 1 v' (n + m) ((l ++ l2).map u8v) ∧ w.grownBy w' v.ownBlock ∧
   (v'.ownBlock = v.ownBlock ∨ v'.ownBlock = some w.heap.size) := by
 have hlen : (l2.map u8v).length = m * 1 := by rw [List.length_map, hr.1]; omega
 rw [List.map_append]
 rcases A with _ | ad
 ·have hm : m = 0 := by
   rcases Nat.eq_zero_or_pos m with h0 | h0
   ·exact h0
   ·obtain ⟨g, o, h, _⟩ := hr.2.2.2 h0
    cases h
  subst hm
  have hn : l2 = [] := List.eq_nil_of_length_eq_zero hr.1
  subst hn
  refine ⟨v, w, ?_, by simpa using hown, World.grownBy.refl w _, .inl rfl⟩
  rcases hown.2 with ⟨rfl, rfl⟩ | ⟨g, cap, cur, rfl, _, _, hnc, _⟩
  ·simp [Builtin.append_, run_underlying ht, sizeOf, typeInfo, hi, Builtin.lenOf, Builtin.firstCells]
  ·simp [Builtin.append_, run_underlying ht, sizeOf, typeInfo, hi, Builtin.lenOf, Builtin.firstCells, hnc, storeCells]
 ·obtain ⟨v', w', h1, h2, h3, _, h5⟩ := run_append_own_at (P := P) w base t ty e i z 1 1 ht hi hz hsize hby hzs (by omega) v n (l.map u8v) hown ad m c (l2.map u8v) hlen (hr.cells ad rfl) (oneCell_u8 l2)
   (by unfold maxLen; omega) (by omega) hbase
  exact ⟨v', w', h1, h2, h3, h5⟩

/-- The same at the operation, for the walk. -/
theorem wpList_append_bytes {P : Program} (w : World) {ops : Array Oper} {rest : List Oper} {o : Oper} {a : Act} {Q : Exit → Act → World → Prop} (hgd : o.guard = none) (s x : Operand) (t : TypeId)
  (ho : o.op = .call { callee := .builtin .append, args := #[s, x], argTypes := #[t, t] })
  (base : Nat) (e : TypeId) (i : TypeInfo) (z : Value) (ht : P.underlying t = some (.slice e)) (hi : P.info? e = some i) (hz : i.zero = some z)
  (hsize : i.size = 1) (hby : i.bytes = 1) (hzs : z.cells.size = 1)
  (v : Value) (n : Nat) (l : List UInt8) (hs : a.eval s = v) (hown : w.ownsRow base e 1 v n (l.map u8v))
  (A : Option Addr) (m c : Nat) (l2 : List UInt8) (hx : a.eval x = .slice A m c) (hr : Sl w A m c l2)
  (h63 : n + m ≤ 140737488355328) (hbase : base ≤ w.heap.size)
  (h : ∀ v' w', w'.ownsRow base e 1 v' (n + m) ((l ++ l2).map u8v) → w.grownBy w' v.ownBlock → (v'.ownBlock = v.ownBlock ∨ v'.ownBlock = some w.heap.size) → wpList P ops Q rest (a.put o.dst v') w') :
  wpList P ops Q (o :: rest) a w := by
 refine wpList_plain hgd fun K hK => ?_
 obtain ⟨v', w', hr, h2, h3, h5⟩ := run_append_bytes (P := P) w base t o.type e i z ht hi hz hsize hby hzs v n l hown A m c l2 hr h63 hbase
 unfold Oper.wp execOp
 simp only [ho, resolve, invoke, builtin, Sem.run_bind, Sem.run_pure, Result.andThen_ok, List.map_toArray, List.map_cons, List.map_nil, hs, hx, hr]
 exact hK _ _ (h v' w' h2 h3 h5)

/-- A store into a Reader's first cell; into both. -/
theorem set_first {w : World} {T : TypeId} {g : Nat} {x y u : Value} (h : w.heap[g]? = some (.cells #[x, y] T (0, 0))) : (w.setCell ⟨g, 0, none⟩ u).heap[g]? = some (.cells #[u, y] T (0, 0)) := by
 simp [World.setCell, Array.getElem?_modify, h]
theorem set_second {w : World} {T : TypeId} {g : Nat} {x y u : Value} (h : w.heap[g]? = some (.cells #[x, y] T (0, 0))) : (w.setCell ⟨g, 1, none⟩ u).heap[g]? = some (.cells #[x, u] T (0, 0)) := by
 simp [World.setCell, Array.getElem?_modify, h]
theorem grown_set {a w : World} {g : Nat} (h : a.grownBy w (some g)) (i : Nat) (u : Value) : a.grownBy (w.setCell ⟨g, i, none⟩ u) (some g) :=
 ⟨h.os, h.tape, h.output, by simpa [World.setCell] using h.size, fun k hk hne => (Below.heap_setCell w ⟨g, i, none⟩ u k (fun e => hne (by rw [e]))).trans (h.block k hk hne)⟩
theorem grown_of_below {a w : World} {row : Option Nat} (h : Below a.heap.size a w) : a.grownBy w row := ⟨h.os, h.tape, h.output, h.size, fun i hi _ => h.block i hi⟩

/-- A Reader that has been written anew: its rest a piece of what it was. -/
theorem Rd.set {w w' : World} {T : TypeId} {g : Nat} {l l' : List UInt8} {s s' : Bool} {A : Option Addr} {n c : Nat} (hr : Rd w T g l s) (hg : w.grownBy w' (some g)) (hb : w'.heap[g]? = some (.cells #[.slice A n c, .bool s'] T (0, 0)))
  (hs : Sl w A n c l') : Rd w' T g l' s' := ⟨A, n, c, hb, hs.far hr hg⟩

/-- The number that bytes spell, the first byte the greatest. -/
def be (l : List UInt8) : Nat := l.foldl (fun v b => v * 256 + b.toNat) 0
theorem be_snoc (l : List UInt8) (b : UInt8) : be (l ++ [b]) = be l * 256 + b.toNat := by simp [be, List.foldl_append]
theorem be_lt : ∀ (n : Nat) (l : List UInt8), l.length = n → be l < 256 ^ n := by
 intro n
 induction n with
 | zero => intro l hl; obtain rfl := List.eq_nil_of_length_eq_zero hl; simp [be]
 | succ n ih =>
  intro l hl
  have hne : l ≠ [] := by rintro rfl; simp at hl
  rw [← List.dropLast_concat_getLast hne, be_snoc]
  have h1 := ih l.dropLast (by simp; omega)
  have h2 := (l.getLast hne).toNat_lt
  rw [Nat.pow_succ]; omega

theorem or_u32 (v u : Nat) (hv : v < 16777216) (hu : u < 256) : bits .or .u32 ((v : Int) * 256) (u : Int) = ((v * 256 + u : Nat) : Int) := by
 have e1 : (v : Int) * 256 = ((v * 256 : Nat) : Int) := by omega
 rw [e1]
 show IntKind.u32.wrap ((BitVec.ofInt 32 ((v * 256 : Nat) : Int) ||| BitVec.ofInt 32 (u : Int)).toNat : Int) = _
 rw [BitVec.toNat_or, BitVec.ofInt_natCast, BitVec.ofInt_natCast, BitVec.toNat_ofNat, BitVec.toNat_ofNat, Nat.mod_eq_of_lt (by omega), Nat.mod_eq_of_lt (by omega)]
 have e2 : v * 256 ||| u = v * 256 + u := by
  have := Nat.two_pow_add_eq_or_of_lt (i := 8) (b := u) (by omega) v
  rw [Nat.mul_comm] at this
  exact this.symm
 rw [e2]
 simp [IntKind.wrap, IntKind.signed, IntKind.bits]
 omega

/-- A new block of bytes. -/
theorem Sl.made (w : World) (T : TypeId) (l : List UInt8) (h : l.length ≤ maxLen) : Sl (w.alloc (.cells (l.map u8v).toArray T)) (some ⟨w.heap.size, 0, none⟩) l.length l.length l := by
 refine ⟨rfl, Nat.le_refl _, h, fun _ => ⟨_, _, rfl, fun j b hj => ?_⟩⟩
 have h1 := heap_alloc_new w (.cells (l.map u8v).toArray T)
 simp only [World.cell?, h1]
 simp [hj]

/-- The byte of a number. -/
def byteOf (v : Int) : UInt8 := UInt8.ofNat (v % 256).toNat
theorem byteOf_val (v : Int) : ((byteOf v).toNat : Int) = v % 256 := by
 have h1 : 0 ≤ v % 256 := Int.emod_nonneg _ (by omega)
 have h2 : v % 256 < 256 := Int.emod_lt_of_pos _ (by omega)
 unfold byteOf
 rw [UInt8.toNat_ofNat']
 omega
/-- A number in two bytes, in four. -/
def two (v : Int) : List UInt8 := [byteOf (v / 256), byteOf v]
def four (v : Int) : List UInt8 := [byteOf (v / 16777216), byteOf (v / 65536), byteOf (v / 256), byteOf v]

theorem byteOf_mod (v : Int) (m : Int) (h : m % 256 = 0) : byteOf (v % m) = byteOf v := by
 unfold byteOf
 rw [Int.emod_emod_of_dvd v (Int.dvd_of_emod_eq_zero h)]
theorem four_two (v : Int) : two (v / 65536) ++ two (v % 65536) = four v := by
 have e1 : v / 65536 / 256 = v / 16777216 := by omega
 have e2 : byteOf (v % 65536 / 256) = byteOf (v / 256) := by
  unfold byteOf
  have : v % 65536 / 256 % 256 = v / 256 % 256 := by omega
  rw [this]
 simp [two, four, e1, e2, byteOf_mod]

theorem be_two (a b : UInt8) : be [a, b] = a.toNat * 256 + b.toNat := by simp [be]
theorem be_from (t : List UInt8) : ∀ a : Nat, t.foldl (fun v b => v * 256 + b.toNat) a = a * 256 ^ t.length + be t := by
 unfold be
 induction t with
 | nil => intro a; simp
 | cons b t ih =>
  intro a
  rw [List.foldl_cons, ih, List.foldl_cons, ih (0 * 256 + b.toNat), List.length_cons, Nat.pow_succ, Nat.add_mul, Nat.zero_mul, Nat.zero_add, Nat.mul_assoc, Nat.mul_comm 256, Nat.add_assoc]
theorem be_append (l t : List UInt8) : be (l ++ t) = be l * 256 ^ t.length + be t := by
 show (l ++ t).foldl _ 0 = _
 rw [List.foldl_append, be_from]
 rfl
theorem be_byteOf (v : Int) : (be (two v) : Int) = v % 65536 := by
 rw [two, be_two]
 have h1 := byteOf_val (v / 256)
 have h2 := byteOf_val v
 rw [Int.natCast_add, Int.natCast_mul, h1, h2]
 omega
theorem be_four (v : Int) : (be (four v) : Int) = v % 4294967296 := by
 rw [← four_two, be_append, Int.natCast_add, Int.natCast_mul, be_byteOf, be_byteOf]
 show v / 65536 % 65536 * (((256 : Nat) ^ 2 : Nat) : Int) + v % 65536 % 65536 = _
 omega

theorem and_u32 (v : Int) (h0 : 0 ≤ v) (h1 : v < 4294967296) : bits .and .u32 v 65535 = v % 65536 := by
 obtain ⟨n, rfl⟩ := Int.eq_ofNat_of_zero_le h0
 have h := u32_and_nat n 65535 (by omega) (by omega)
 have e : n &&& 65535 = n % 65536 := Nat.and_two_pow_sub_one_eq_mod n 16
 rw [e] at h
 exact h
theorem or_i64 (x y : Nat) (hx : x < 256) (hy : y < 256) : bits .or .i64 ((x : Int) * 256) (y : Int) = ((x * 256 + y : Nat) : Int) := by
 have e1 : (x : Int) * 256 = ((x * 256 : Nat) : Int) := by omega
 rw [e1]
 show IntKind.i64.wrap ((BitVec.ofInt 64 ((x * 256 : Nat) : Int) ||| BitVec.ofInt 64 (y : Int)).toNat : Int) = _
 rw [BitVec.toNat_or, BitVec.ofInt_natCast, BitVec.ofInt_natCast, BitVec.toNat_ofNat, BitVec.toNat_ofNat, Nat.mod_eq_of_lt (by omega), Nat.mod_eq_of_lt (by omega), nat_join 8 _ _ (by omega) (by omega), IntKind.wrap_i64]
 omega
theorem or_u32_16 (x y : Nat) (hx : x < 65536) (hy : y < 65536) : bits .or .u32 ((x : Int) * 65536) (y : Int) = ((x * 65536 + y : Nat) : Int) := by
 have e1 : (x : Int) * 65536 = ((x * 65536 : Nat) : Int) := by omega
 rw [e1, u32_or_nat _ _ (by omega) (by omega), nat_join 16 _ _ (by omega) (by omega)]

/-- A Reader stays as it is while another one reads. -/
theorem Rd.far {w w' : World} {T : TypeId} {g s : Nat} {l l' : List UInt8} {b b' : Bool} (h : Rd w T g l b) (hs : Rd w T s l' b') (hne : g ≠ s) (hg : w.grownBy w' (some s)) : Rd w' T g l b := by
 have hlt := h.lt
 obtain ⟨A, n, c, h1, h2⟩ := h
 exact ⟨A, n, c, (hg.block g hlt (fun e => hne (by injection e))).trans h1, h2.far hs hg⟩

/-- A slice of bytes that came in, as a row's opening tells it. -/
theorem sl_of_row {w : World} {a : Option Addr} {len cap : Nat} {zs : List Int}
  (h : (a = none ∧ len = 0 ∧ cap = 0 ∧ zs = []) ∨ ∃ x, a = some x ∧ len ≤ cap ∧ cap ≤ maxLen ∧ zs.length = cap ∧ (∀ i, i < zs.length → w.cell? (x.add i) = some (.int .u8 (zs.getD i 0))) ∧ ∀ n ∈ zs, (Lit.int .u8 n).wf = true) :
  ∃ l, Sl w a len cap l := by
 rcases h with ⟨rfl, rfl, rfl, rfl⟩ | ⟨x, rfl, hl, hm, hz, hcell, hwz⟩
 ·exact ⟨[], Sl.nil w⟩
 ·refine ⟨(zs.take len).map byteOf, by simp; omega, hl, hm, fun hn => ?_⟩
  have hb : ∀ n ∈ zs, ((byteOf n).toNat : Int) = n := by
   intro n hn
   have h := hwz n hn
   simp [Lit.wf, IntKind.min, IntKind.max, IntKind.signed, IntKind.bits] at h
   rw [byteOf_val]; omega
  obtain ⟨b, off, spot⟩ := x
  have h0 := hcell 0 (by omega)
  have hspot : spot = none := by simpa [Addr.add] using World.cell?_spot h0
  subst hspot
  refine ⟨b, off, rfl, fun j u hj => ?_⟩
  have hjl : j < zs.length := by
   have := (List.getElem?_eq_some_iff.1 hj).1
   simp at this; omega
  have hc := hcell j hjl
  rw [Addr.add_lit] at hc
  rw [hc]
  rw [List.getElem?_map, List.getElem?_take] at hj
  split at hj
  ·rw [List.getElem?_eq_getElem hjl] at hj
   simp only [Option.map_some, Option.some.injEq] at hj
   subst hj
   simp [u8v, hb _ (List.getElem_mem hjl), List.getD, List.getElem?_eq_getElem hjl]
  ·simp at hj

/-- How many bytes the labels of a name take. -/
def sizeN : List (List UInt8) → Nat
 | [] => 0
 | x :: l => 1 + x.length + sizeN l
def okL (x : List UInt8) : Bool := decide (1 ≤ x.length ∧ x.length ≤ 63)
def goodN (l : List (List UInt8)) : Bool := l.all okL && decide (1 + sizeN l ≤ 255)
def encL : List (List UInt8) → List UInt8
 | [] => []
 | x :: l => byteOf (x.length : Int) :: (x ++ encL l)
def putN (l : List (List UInt8)) : List UInt8 := encL l ++ [0]
theorem size_app (a b : List (List UInt8)) : sizeN (a ++ b) = sizeN a + sizeN b := by
 induction a with
 | nil => simp [sizeN]
 | cons x a ih => rw [List.cons_append, sizeN, sizeN, ih]; omega
theorem enc_app (a b : List (List UInt8)) : encL (a ++ b) = encL a ++ encL b := by
 induction a with
 | nil => rfl
 | cons x a ih => rw [List.cons_append, encL, encL, ih, List.cons_append, List.append_assoc]
theorem enc_len (l : List (List UInt8)) : (encL l).length = sizeN l := by
 induction l with
 | nil => rfl
 | cons x l ih => rw [encL, sizeN, List.length_cons, List.length_append, ih]; omega
theorem take_next {α : Type} {l : List α} {i : Nat} {x : α} (h : l[i]? = some x) : l.take (i + 1) = l.take i ++ [x] := by rw [List.take_add_one, h]; rfl
theorem take_full {α : Type} {l : List α} {i : Nat} (h : ¬ i < l.length) : l.take i = l := List.take_of_length_le (by omega)
theorem size_next {l : List (List UInt8)} {i : Nat} {x : List UInt8} (h : l[i]? = some x) : sizeN (l.take (i + 1)) = sizeN (l.take i) + (1 + x.length) := by rw [take_next h, size_app]; simp [sizeN]
theorem enc_next {l : List (List UInt8)} {i : Nat} {x : List UInt8} (h : l[i]? = some x) : encL (l.take (i + 1)) = encL (l.take i) ++ byteOf (x.length : Int) :: x := by rw [take_next h, enc_app]; simp [encL]
theorem size_take (l : List (List UInt8)) (i : Nat) : sizeN (l.take i) ≤ sizeN l := by
 have := size_app (l.take i) (l.drop i)
 rw [List.take_append_drop] at this
 omega
theorem size_ge (l : List (List UInt8)) : l.length ≤ sizeN l := by
 induction l with
 | nil => simp
 | cons x l ih => rw [sizeN, List.length_cons]; omega
theorem size_ge2 {l : List (List UInt8)} (h : ∀ x ∈ l, okL x = true) : 2 * l.length ≤ sizeN l := by
 induction l with
 | nil => simp
 | cons x l ih =>
  rw [sizeN, List.length_cons]
  have h1 := ih fun y hy => h y (by simp [hy])
  have h2 := of_decide_eq_true (h x (by simp))
  omega
theorem size_le {l : List (List UInt8)} {n : Nat} (h : ∀ x ∈ l, x.length ≤ n) : sizeN l ≤ l.length * (n + 1) := by
 induction l with
 | nil => simp [sizeN]
 | cons x l ih =>
  rw [sizeN, List.length_cons, Nat.succ_mul]
  have h1 := ih fun y hy => h y (by simp [hy])
  have h2 := h x (by simp)
  omega
theorem good_all {l : List (List UInt8)} (h : goodN l = true) : ∀ x ∈ l, 1 ≤ x.length ∧ x.length ≤ 63 := fun x hx => by
 have := (Bool.and_eq_true _ _ ▸ h).1
 exact of_decide_eq_true (List.all_eq_true.1 this x hx)
theorem good_size {l : List (List UInt8)} (h : goodN l = true) : 1 + sizeN l ≤ 255 := of_decide_eq_true (Bool.and_eq_true _ _ ▸ h).2
theorem good_of {l : List (List UInt8)} (h1 : ∀ x ∈ l, 1 ≤ x.length ∧ x.length ≤ 63) (h2 : 1 + sizeN l ≤ 255) : goodN l = true := by
 unfold goodN
 rw [Bool.and_eq_true, List.all_eq_true]
 exact ⟨fun x hx => decide_eq_true (h1 x hx), decide_eq_true h2⟩
theorem good_not {l : List (List UInt8)} {i : Nat} {x : List UInt8} (h : l[i]? = some x) (hx : okL x = false) : goodN l = false := by
 unfold goodN
 rw [Bool.and_eq_false_iff]
 left
 rw [List.all_eq_false]
 exact ⟨x, List.mem_of_getElem? h, by rw [hx]; decide⟩
theorem good_end {l : List (List UInt8)} (h : ∀ x ∈ l, okL x = true) : goodN l = decide (1 + sizeN l ≤ 255) := by
 unfold goodN
 rw [List.all_eq_true.2 h, Bool.true_and]
theorem ok_next {l : List (List UInt8)} {i : Nat} {x : List UInt8} (h : ∀ y ∈ l.take i, okL y = true) (hi : l[i]? = some x) (hx : okL x = true) : ∀ y ∈ l.take (i + 1), okL y = true := by
 rw [take_next hi]
 intro y hy
 rcases List.mem_append.1 hy with h1 | h1
 ·exact h y h1
 ·rw [List.mem_singleton.1 h1]; exact hx
theorem ok_end {l : List (List UInt8)} {i : Nat} (h : ∀ y ∈ l.take i, okL y = true) (hi : ¬ i < l.length) : ∀ y ∈ l, okL y = true := by rwa [take_full hi] at h
theorem good_many {l : List (List UInt8)} {i : Nat} (h : ∀ y ∈ l.take i, okL y = true) (hi : i < l.length) (h127 : 127 < i) : goodN l = false := by
 unfold goodN
 rw [Bool.and_eq_false_iff]
 right
 have h1 := size_ge2 h
 have h2 := size_take l i
 rw [List.length_take] at h1
 exact decide_eq_false (by omega)
/-- Where a lead leads to. -/
def leadTo (c d : UInt8) : Nat := (c.toNat - 192) * 256 + d.toNat
/-- A name's labels, the place behind it, the error: k more steps at most. -/
def getF : Nat → List UInt8 → Nat → Nat → Nat → List (List UInt8) → Nat → List (List UInt8) × Nat × Nat
 | 0, _, _, _, _, _, _ => ([], 0, 4)
 | k + 1, b, a, nx, p, ls, sz =>
  match b[a]? with
  | none => ([], 0, 3)
  | some c =>
   if c.toNat = 0 then (ls, if p = 0 then a + 1 else nx, 0)
   else if c.toNat ≤ 63 then
    if b.length < a + (1 + c.toNat) then ([], 0, 3)
    else if 255 < sz + (1 + c.toNat) then ([], 0, 4)
    else getF k b (a + (1 + c.toNat)) nx p (ls ++ [(b.drop (a + 1)).take c.toNat]) (sz + (1 + c.toNat))
   else if c.toNat < 192 then ([], 0, 4)
   else match b[a + 1]? with
    | none => ([], 0, 3)
    | some d => if a ≤ leadTo c d ∨ 64 ≤ p then ([], 0, 4) else getF k b (leadTo c d) (if p = 0 then a + 2 else nx) (p + 1) ls sz
def getN (b : List UInt8) (i : Int) : List (List UInt8) × Nat × Nat := if i < 0 then ([], 0, 3) else getF 400 b i.toNat 0 0 [] 1
section
variable {k : Nat} {b : List UInt8} {a nx p sz : Nat} {ls : List (List UInt8)} {c d : UInt8}
theorem getF_out (h : b.length ≤ a) : getF (k + 1) b a nx p ls sz = ([], 0, 3) := by
 rw [getF, List.getElem?_eq_none h]
theorem getF_end (h : b[a]? = some c) (hc : c.toNat = 0) : getF (k + 1) b a nx p ls sz = (ls, if p = 0 then a + 1 else nx, 0) := by
 rw [getF, h]; simp only [hc, if_true]
theorem getF_cut (h : b[a]? = some c) (h0 : c.toNat ≠ 0) (h1 : c.toNat ≤ 63) (h2 : b.length < a + (1 + c.toNat)) : getF (k + 1) b a nx p ls sz = ([], 0, 3) := by
 rw [getF, h]; simp only [if_neg h0, if_pos h1, if_pos h2]
theorem getF_long (h : b[a]? = some c) (h0 : c.toNat ≠ 0) (h1 : c.toNat ≤ 63) (h2 : ¬ b.length < a + (1 + c.toNat)) (h3 : 255 < sz + (1 + c.toNat)) : getF (k + 1) b a nx p ls sz = ([], 0, 4) := by
 rw [getF, h]; simp only [if_neg h0, if_pos h1, if_neg h2, if_pos h3]
theorem getF_label (h : b[a]? = some c) (h0 : c.toNat ≠ 0) (h1 : c.toNat ≤ 63) (h2 : ¬ b.length < a + (1 + c.toNat)) (h3 : ¬ 255 < sz + (1 + c.toNat)) :
  getF (k + 1) b a nx p ls sz = getF k b (a + (1 + c.toNat)) nx p (ls ++ [(b.drop (a + 1)).take c.toNat]) (sz + (1 + c.toNat)) := by
 rw [getF, h]; simp only [if_neg h0, if_pos h1, if_neg h2, if_neg h3]
theorem getF_form (h : b[a]? = some c) (h1 : ¬ c.toNat ≤ 63) (h2 : c.toNat < 192) : getF (k + 1) b a nx p ls sz = ([], 0, 4) := by
 rw [getF, h]; simp only [if_neg (show ¬ c.toNat = 0 by omega), if_neg h1, if_pos h2]
theorem getF_half (h : b[a]? = some c) (h2 : ¬ c.toNat < 192) (hd : b.length ≤ a + 1) : getF (k + 1) b a nx p ls sz = ([], 0, 3) := by
 rw [getF, h]; simp only [if_neg (show ¬ c.toNat = 0 by omega), if_neg (show ¬ c.toNat ≤ 63 by omega), if_neg h2, List.getElem?_eq_none hd]
theorem getF_bad (h : b[a]? = some c) (h2 : ¬ c.toNat < 192) (hd : b[a + 1]? = some d) (h3 : a ≤ leadTo c d ∨ 64 ≤ p) : getF (k + 1) b a nx p ls sz = ([], 0, 4) := by
 rw [getF, h]; simp only [if_neg (show ¬ c.toNat = 0 by omega), if_neg (show ¬ c.toNat ≤ 63 by omega), if_neg h2, hd, if_pos h3]
theorem getF_lead (h : b[a]? = some c) (h2 : ¬ c.toNat < 192) (hd : b[a + 1]? = some d) (h3 : ¬ (a ≤ leadTo c d ∨ 64 ≤ p)) :
  getF (k + 1) b a nx p ls sz = getF k b (leadTo c d) (if p = 0 then a + 2 else nx) (p + 1) ls sz := by
 rw [getF, h]; simp only [if_neg (show ¬ c.toNat = 0 by omega), if_neg (show ¬ c.toNat ≤ 63 by omega), if_neg h2, hd, if_neg h3]
end
theorem byteOf_nat {n : Nat} (h : n < 256) : (byteOf (n : Int)).toNat = n := by
 have := byteOf_val (n : Int)
 omega
/-- Labels that stand as they are written are read. -/
theorem getF_run : ∀ (l : List (List UInt8)) (k : Nat) (pre r : List UInt8) (nx p sz : Nat) (ls : List (List UInt8)), (∀ x ∈ l, 1 ≤ x.length ∧ x.length ≤ 63) → sz + sizeN l ≤ 255 →
  getF (k + l.length) (pre ++ (encL l ++ r)) pre.length nx p ls sz = getF k (pre ++ (encL l ++ r)) (pre ++ encL l).length nx p (ls ++ l) (sz + sizeN l)
 | [], k, pre, r, nx, p, sz, ls, _, _ => by simp [encL, sizeN]
 | x :: l, k, pre, r, nx, p, sz, ls, h, hs => by
  have hx := h x (by simp)
  have hc := byteOf_nat (n := x.length) (by omega)
  rw [sizeN] at hs ⊢
  have e1 : pre ++ (encL (x :: l) ++ r) = (pre ++ byteOf (x.length : Int) :: x) ++ (encL l ++ r) := by simp [encL]
  have e2 : (pre ++ byteOf (x.length : Int) :: x).length = pre.length + (1 + x.length) := by simp; omega
  have hb : (pre ++ (encL (x :: l) ++ r))[pre.length]? = some (byteOf (x.length : Int)) := by rw [List.getElem?_append_right (Nat.le_refl _)]; simp [encL]
  rw [show k + (x :: l).length = (k + l.length) + 1 by simp; omega, getF_label hb (by omega) (by omega) (by rw [e1, List.length_append, e2]; omega) (by omega)]
  have e3 : ((pre ++ (encL (x :: l) ++ r)).drop (pre.length + 1)).take (byteOf (x.length : Int)).toNat = x := by
   rw [hc, ← List.drop_drop, List.drop_left']
   ·simp [encL]
   ·rfl
  rw [e3, hc, ← e2, e1]
  have ih := getF_run l k (pre ++ byteOf (x.length : Int) :: x) r nx p (sz + (1 + x.length)) (ls ++ [x]) (fun y hy => h y (by simp [hy])) (by omega)
  rw [ih]
  congr 1
  ·simp [encL]
  ·simp
  ·omega
/-- How a byte of a label is written. -/
def plainB (c : UInt8) : Bool := decide (33 ≤ c.toNat ∧ c.toNat ≤ 126 ∧ c.toNat ≠ 46 ∧ c.toNat ≠ 92)
def dg1 (c : UInt8) : UInt8 := byteOf (48 + (c.toNat : Int) / 100)
def dg2 (c : UInt8) : UInt8 := byteOf (48 + (c.toNat : Int) / 10 % 10)
def dg3 (c : UInt8) : UInt8 := byteOf (48 + (c.toNat : Int) % 10)
def escB (c : UInt8) : List UInt8 := if plainB c = true then [c] else [92, dg1 c, dg2 c, dg3 c]
def textL (x : List UInt8) : List UInt8 := x.flatMap escB
def textG : List (List UInt8) → List UInt8
 | [] => []
 | x :: l => textL x ++ l.flatMap fun y => 46 :: textL y
def textN (l : List (List UInt8)) : List UInt8 := if l = [] then [46] else textG l
theorem dg_val (c : UInt8) : (dg1 c).toNat = 48 + c.toNat / 100 ∧ (dg2 c).toNat = 48 + c.toNat / 10 % 10 ∧ (dg3 c).toNat = 48 + c.toNat % 10 := by
 have hc := c.toNat_lt
 have h1 := byteOf_val (48 + (c.toNat : Int) / 100)
 have h2 := byteOf_val (48 + (c.toNat : Int) / 10 % 10)
 have h3 := byteOf_val (48 + (c.toNat : Int) % 10)
 unfold dg1 dg2 dg3
 refine ⟨?_, ?_, ?_⟩ <;> omega
theorem esc_len (c : UInt8) : (escB c).length ≤ 4 := by unfold escB; split <;> simp
theorem text_snoc (x : List UInt8) (c : UInt8) : textL (x ++ [c]) = textL x ++ escB c := by simp [textL]
theorem textL_len (x : List UInt8) : (textL x).length ≤ 4 * x.length := by
 induction x with
 | nil => simp [textL]
 | cons c x ih =>
  have := esc_len c
  rw [show textL (c :: x) = escB c ++ textL x from rfl, List.length_append, List.length_cons]
  omega
theorem textL_next {l : List UInt8} {i : Nat} {c : UInt8} (h : l[i]? = some c) : textL (l.take (i + 1)) = textL (l.take i) ++ escB c := by rw [take_next h, text_snoc]
theorem textG_snoc {l : List (List UInt8)} (h : l ≠ []) (x : List UInt8) : textG (l ++ [x]) = textG l ++ 46 :: textL x := by
 cases l with
 | nil => exact absurd rfl h
 | cons y l => simp [textG]
theorem textG_next {l : List (List UInt8)} {i : Nat} {x : List UInt8} (h : l[i]? = some x) (hi : 0 < i) : textG (l.take (i + 1)) = textG (l.take i) ++ 46 :: textL x := by
 rw [take_next h]
 refine textG_snoc (fun e => ?_) x
 have := congrArg List.length e
 have hl := (List.getElem?_eq_some_iff.1 h).1
 rw [List.length_take, List.length_nil] at this
 omega
theorem textG_first {l : List (List UInt8)} {x : List UInt8} (h : l[0]? = some x) : textG (l.take 1) = textL x := by rw [take_next h]; simp [textG]
theorem textG_len (l : List (List UInt8)) : (textG l).length ≤ 4 * sizeN l := by
 have aux : ∀ l : List (List UInt8), (l.flatMap fun y => 46 :: textL y).length ≤ 4 * sizeN l := by
  intro l
  induction l with
  | nil => simp [sizeN]
  | cons x l ih =>
   have := textL_len x
   rw [List.flatMap_cons, List.length_append, List.length_cons, sizeN]
   omega
 cases l with
 | nil => simp [textG]
 | cons x l =>
  have h1 := textL_len x
  have h2 := aux l
  rw [textG, List.length_append, sizeN]
  omega

/-- A question, a record, a message. -/
structure Qn where
 name : List (List UInt8)
 t : Int
 k : Int
structure Rn where
 name : List (List UInt8)
 t : Int
 k : Int
 ttl : Int
 data : List UInt8
structure Mn where
 id : Int
 fl : Int
 q : List Qn
 a : List Rn
 o : List Rn
 m : List Rn
/-- A number of k bytes at a place. -/
def nAt (b : List UInt8) (i k : Nat) : Nat := be ((b.drop i).take k)
/-- A question at a place, and the place behind it; or the error. -/
def qAt (b : List UInt8) (a : Nat) : Except Nat (Qn × Nat) :=
 if (getN b a).2.2 ≠ 0 then .error (getN b a).2.2
 else if b.length < (getN b a).2.1 + 4 then .error 3
 else .ok (⟨(getN b a).1, nAt b (getN b a).2.1 2, nAt b ((getN b a).2.1 + 2) 2⟩, (getN b a).2.1 + 4)
/-- What Data of a type consists of: bytes ahead, names, bytes behind. -/
def lay (t : Int) (n : Nat) : Nat × Nat × Nat := if t = 2 ∨ t = 5 ∨ t = 12 then (0, 1, 0) else if t = 15 then (2, 1, 0) else if t = 6 then (0, 2, 20) else (n, 0, 0)
def goE (b : List UInt8) : Nat → Nat → List UInt8 → Option (List UInt8 × Nat)
 | 0, a, d => some (d, a)
 | k + 1, a, d => if (getN b a).2.2 ≠ 0 then none else goE b k (getN b a).2.1 (d ++ putN (getN b a).1)
def expE (b : List UInt8) (a x k y : Nat) : Option (List UInt8) :=
 if b.length < a + x then none else
 match goE b k (a + x) ((b.drop a).take x) with
 | none => none
 | some (d, a2) => if b.length = a2 + y then some (d ++ (b.drop a2).take y) else none
def dAt (b : List UInt8) (t : Int) (a n : Nat) : Except Nat (List UInt8) :=
 if b.length < a + n then .error 3 else
 match expE (b.take (a + n)) a (lay t n).1 (lay t n).2.1 (lay t n).2.2 with
 | none => .error 4
 | some d => .ok d
/-- A record at a place. -/
def rAt (b : List UInt8) (a : Nat) : Except Nat (Rn × Nat) :=
 match qAt b a with
 | .error e => .error e
 | .ok (q, a1) =>
  if b.length < a1 + 6 then .error 3 else
  match dAt b q.t (a1 + 6) (nAt b (a1 + 4) 2) with
  | .error e => .error e
  | .ok d => .ok (⟨q.name, q.t, q.k, nAt b a1 4, d⟩, a1 + 6 + nAt b (a1 + 4) 2)
/-- So many, one behind the other. -/
def goL {α : Type} (f : Nat → Except Nat (α × Nat)) : Nat → Nat → List α → Except Nat (List α × Nat)
 | 0, a, L => .ok (L, a)
 | k + 1, a, L => match f a with
  | .error e => .error e
  | .ok (x, a1) => goL f k a1 (L ++ [x])
theorem goL_no {α : Type} {f : Nat → Except Nat (α × Nat)} {a e : Nat} (h : f a = .error e) (k : Nat) (L : List α) : goL f (k + 1) a L = .error e := by rw [goL, h]
theorem goL_yes {α : Type} {f : Nat → Except Nat (α × Nat)} {a a1 : Nat} {x : α} (h : f a = .ok (x, a1)) (k : Nat) (L : List α) : goL f (k + 1) a L = goL f k a1 (L ++ [x]) := by rw [goL, h]
def getM (b : List UInt8) : Except Nat Mn :=
 if 1472 < b.length then .error 2 else if b.length < 12 then .error 3
 else if 64 < nAt b 4 2 + nAt b 6 2 + nAt b 8 2 + nAt b 10 2 then .error 2 else
 match goL (qAt b) (nAt b 4 2) 12 [] with
 | .error e => .error e
 | .ok (q, a1) => match goL (rAt b) (nAt b 6 2) a1 [] with
  | .error e => .error e
  | .ok (a, a2) => match goL (rAt b) (nAt b 8 2) a2 [] with
   | .error e => .error e
   | .ok (o, a3) => match goL (rAt b) (nAt b 10 2) a3 [] with
    | .error e => .error e
    | .ok (m, a4) => if a4 = b.length then .ok ⟨nAt b 0 2, nAt b 2 2, q, a, o, m⟩ else .error 4

/-- What a message's bytes are. -/
def encQ (q : Qn) : List UInt8 := putN q.name ++ two q.t ++ two q.k
def encR (r : Rn) : List UInt8 := putN r.name ++ two r.t ++ two r.k ++ four r.ttl ++ two (r.data.length : Int) ++ r.data
def h16 (x : Int) : Bool := decide (0 ≤ x) && decide (x ≤ 65535)
def okQ (q : Qn) : Bool := goodN q.name && h16 q.t && h16 q.k
def okR (r : Rn) : Bool := goodN r.name && h16 r.t && h16 r.k && decide (r.data.length ≤ 65535)
def partsM (m : Mn) : Nat := m.q.length + m.a.length + m.o.length + m.m.length
def headM (m : Mn) : List UInt8 := two m.id ++ two m.fl ++ two (m.q.length : Int) ++ two (m.a.length : Int) ++ two (m.o.length : Int) ++ two (m.m.length : Int)
def allR (m : Mn) : List Rn := m.a ++ m.o ++ m.m
def encM (m : Mn) : List UInt8 := headM m ++ m.q.flatMap encQ ++ (allR m).flatMap encR
def okM (m : Mn) : Bool := h16 m.id && h16 m.fl && decide (partsM m ≤ 64) && m.q.all okQ && (allR m).all okR
def putM (m : Mn) : List UInt8 × Int := if okM m = true then (if (encM m).length ≤ 1472 then (encM m, 0) else ([], 2)) else ([], 1)
/-- Records behind bytes, as far as they are looked at. -/
def cutE : List UInt8 → List Rn → List UInt8
 | l, [] => l
 | l, r :: L => if 2000 < l.length then l else cutE (l ++ encR r) L
theorem cutE_eq : ∀ (L : List Rn) (l : List UInt8), cutE l L = l ++ L.flatMap encR ∨ (2000 < (cutE l L).length ∧ 2000 < (l ++ L.flatMap encR).length)
 | [], l => .inl (by simp [cutE])
 | r :: L, l => by
  rw [cutE]
  split
  ·rename_i h
   right
   refine ⟨h, ?_⟩
   rw [List.length_append]; omega
  ·have := cutE_eq L (l ++ encR r)
   rwa [List.append_assoc, ← List.flatMap_cons] at this

-- names that are read are good
theorem getF_err : ∀ (k : Nat) (b : List UInt8) (a nx p : Nat) (ls : List (List UInt8)) (sz : Nat), (getF k b a nx p ls sz).2.2 = 0 ∨ (getF k b a nx p ls sz).2.2 = 3 ∨ (getF k b a nx p ls sz).2.2 = 4
 | 0, _, _, _, _, _, _ => .inr (.inr rfl)
 | k + 1, b, a, nx, p, ls, sz => by
  rw [getF]
  split
  ·exact .inr (.inl rfl)
  ·split
   ·exact .inl rfl
   ·split
    ·split
     ·exact .inr (.inl rfl)
     ·split
      ·exact .inr (.inr rfl)
      ·exact getF_err k ..
    ·split
     ·exact .inr (.inr rfl)
     ·split
      ·exact .inr (.inl rfl)
      ·split
       ·exact .inr (.inr rfl)
       ·exact getF_err k ..
theorem getN_err (b : List UInt8) (a : Int) : (getN b a).2.2 = 0 ∨ (getN b a).2.2 = 3 ∨ (getN b a).2.2 = 4 := by
 unfold getN
 split
 ·exact .inr (.inl rfl)
 ·exact getF_err ..
theorem good_nil : goodN [] = true := by decide
theorem getF_good : ∀ (k : Nat) (b : List UInt8) (a nx p : Nat) (ls : List (List UInt8)) (sz : Nat), (∀ x ∈ ls, 1 ≤ x.length ∧ x.length ≤ 63) → 1 + sizeN ls = sz → sz ≤ 255 → goodN (getF k b a nx p ls sz).1 = true
 | 0, _, _, _, _, _, _, _, _, _ => good_nil
 | k + 1, b, a, nx, p, ls, sz, h1, h2, h3 => by
  rw [getF]
  split
  ·decide
  ·rename_i c hc
   split
   ·exact good_of h1 (show 1 + sizeN ls ≤ 255 by omega)
   ·rename_i h0
    split
    ·rename_i h63
     split
     ·decide
     ·rename_i hl
      split
      ·decide
      ·rename_i hs
       have hx : ((b.drop (a + 1)).take c.toNat).length = c.toNat := by rw [List.length_take, List.length_drop]; omega
       refine getF_good k _ _ _ _ _ _ (fun x hm => ?_) ?_ (by omega)
       ·rcases List.mem_append.1 hm with hm | hm
        ·exact h1 x hm
        ·rw [List.mem_singleton.1 hm, hx]; omega
       ·rw [size_app, sizeN, sizeN, hx]; omega
    ·split
     ·decide
     ·split
      ·decide
      ·split
       ·decide
       ·exact getF_good k _ _ _ _ _ _ h1 h2 h3
theorem getN_good (b : List UInt8) (a : Int) : goodN (getN b a).1 = true := by
 unfold getN
 split
 ·decide
 ·exact getF_good _ _ _ _ _ _ _ (by simp) rfl (by decide)
theorem nAt_lt2 (b : List UInt8) (i : Nat) (h : i + 2 ≤ b.length) : nAt b i 2 < 65536 := by
 unfold nAt
 exact be_lt 2 _ (by rw [List.length_take, List.length_drop]; omega)
theorem nAt_lt4 (b : List UInt8) (i : Nat) (h : i + 4 ≤ b.length) : nAt b i 4 < 4294967296 := by
 unfold nAt
 exact be_lt 4 _ (by rw [List.length_take, List.length_drop]; omega)
theorem h16_of {x : Int} (h0 : 0 ≤ x) (h1 : x ≤ 65535) : h16 x = true := by unfold h16; rw [decide_eq_true h0, decide_eq_true h1]; rfl
theorem h16_is {x : Int} (h : h16 x = true) : 0 ≤ x ∧ x ≤ 65535 := by
 unfold h16 at h
 rw [Bool.and_eq_true] at h
 exact ⟨of_decide_eq_true h.1, of_decide_eq_true h.2⟩
theorem qAt_no {b : List UInt8} {a : Nat} (h : (getN b a).2.2 ≠ 0) : qAt b a = .error (getN b a).2.2 := by unfold qAt; rw [if_pos h]
theorem qAt_short {b : List UInt8} {a : Nat} (h : (getN b a).2.2 = 0) (hn : b.length < (getN b a).2.1 + 4) : qAt b a = .error 3 := by unfold qAt; rw [if_neg (by omega), if_pos hn]
theorem qAt_yes {b : List UInt8} {a : Nat} (h : (getN b a).2.2 = 0) (hn : ¬ b.length < (getN b a).2.1 + 4) : qAt b a = .ok (⟨(getN b a).1, nAt b (getN b a).2.1 2, nAt b ((getN b a).2.1 + 2) 2⟩, (getN b a).2.1 + 4) := by unfold qAt; rw [if_neg (by omega), if_neg hn]
theorem qAt_ok {b : List UInt8} {a a2 : Nat} {q : Qn} (h : qAt b a = .ok (q, a2)) : okQ q = true ∧ a2 ≤ b.length := by
 by_cases h1 : (getN b a).2.2 = 0
 ·by_cases h2 : b.length < (getN b a).2.1 + 4
  ·rw [qAt_short h1 h2] at h; cases h
  ·rw [qAt_yes h1 h2] at h
   injection h with h
   injection h with h3 h4
   subst h3; subst h4
   have e1 := nAt_lt2 b (getN b a).2.1 (by omega)
   have e2 := nAt_lt2 b ((getN b a).2.1 + 2) (by omega)
   refine ⟨?_, by omega⟩
   unfold okQ
   simp only [getN_good, Bool.true_and, Bool.and_eq_true]
   exact ⟨h16_of (by omega) (by omega), h16_of (by omega) (by omega)⟩
 ·rw [qAt_no h1] at h; cases h
theorem qAt_err {b : List UInt8} {a e : Nat} (h : qAt b a = .error e) : e = 3 ∨ e = 4 := by
 by_cases h1 : (getN b a).2.2 = 0
 ·by_cases h2 : b.length < (getN b a).2.1 + 4
  ·rw [qAt_short h1 h2] at h; injection h with h; exact .inl h.symm
  ·rw [qAt_yes h1 h2] at h; cases h
 ·rw [qAt_no h1] at h
  injection h with h
  have := getN_err b a
  omega
theorem dAt_err {b : List UInt8} {t : Int} {a n e : Nat} (h : dAt b t a n = .error e) : e = 3 ∨ e = 4 := by
 unfold dAt at h
 split at h
 ·injection h with h; exact .inl h.symm
 ·split at h
  ·injection h with h; exact .inr h.symm
  ·cases h
theorem rAt_err {b : List UInt8} {a e : Nat} (h : rAt b a = .error e) : e = 3 ∨ e = 4 := by
 unfold rAt at h
 split at h
 ·rename_i e' he
  injection h with h; subst h
  exact qAt_err he
 ·split at h
  ·injection h with h; exact .inl h.symm
  ·split at h
   ·rename_i e' he
    injection h with h; subst h
    exact dAt_err he
   ·cases h
theorem goL_err {α : Type} {f : Nat → Except Nat (α × Nat)} (hf : ∀ a e, f a = .error e → e = 3 ∨ e = 4) : ∀ (k a : Nat) (L : List α) (e : Nat), goL f k a L = .error e → e = 3 ∨ e = 4
 | 0, a, L, e, h => by cases h
 | k + 1, a, L, e, h => by
  rcases hx : f a with e' | ⟨x, a1⟩
  ·rw [goL_no hx] at h; injection h with h; subst h; exact hf _ _ hx
  ·rw [goL_yes hx] at h; exact goL_err hf k a1 _ e h
theorem goL_all {α : Type} {f : Nat → Except Nat (α × Nat)} {P : α → Prop} {n : Nat} (hf : ∀ a x a2, f a = .ok (x, a2) → P x ∧ a2 ≤ n) : ∀ (k a : Nat) (L M : List α) (a2 : Nat), (∀ x ∈ L, P x) → a ≤ n → goL f k a L = .ok (M, a2) → (∀ x ∈ M, P x) ∧ a2 ≤ n ∧ M.length = L.length + k
 | 0, a, L, M, a2, h1, h2, h => by injection h with h; injection h with h3 h4; subst h3; subst h4; exact ⟨h1, h2, rfl⟩
 | k + 1, a, L, M, a2, h1, h2, h => by
  rcases hx : f a with e' | ⟨x, a1⟩
  ·rw [goL_no hx] at h; cases h
  ·rw [goL_yes hx] at h
   have h4 := hf _ _ _ hx
   obtain ⟨g1, g2, g3⟩ := goL_all hf k a1 (L ++ [x]) M a2 (fun y hy => by
    rcases List.mem_append.1 hy with hy | hy
    ·exact h1 y hy
    ·rw [List.mem_singleton.1 hy]; exact h4.1) h4.2 h
   exact ⟨g1, g2, by rw [g3, List.length_append, List.length_singleton]; omega⟩
open Go.RowKit

/-- An operation under a guard that holds. -/
theorem wpList_wanted {P : Program} {ops : Array Oper} {Q : Exit → Act → World → Prop} {a : Act} {w : World} {rest : List Oper} {o : Oper} (hw : Region.wanted o (yielded ops a.tmps) = true)
  (h : ∀ K : Act → World → Prop, (∀ a w, wpList P ops Q rest a w → K a w) → o.wp P a w K Q) : wpList P ops Q (o :: rest) a w :=
 wpList_step fun K hK => by rw [if_pos hw]; exact h K hK

/-- A block of the call's own whose first bytes read as l. -/
def Ow (T : TypeId) (w : World) (g c : Nat) (l : List UInt8) : Prop :=
 l.length ≤ c ∧ c ≤ maxLen ∧ ∃ cur : Array Value, w.heap[g]? = some (.cells cur T (0, 0)) ∧ ∀ (j : Nat) (b : UInt8), l[j]? = some b → cur[j]? = some (u8v b)
theorem Ow.of_own {T : TypeId} {w : World} {base : Nat} {v : Value} {l : List UInt8} {n : Nat} (h : w.ownsRow base T 1 v n (l.map u8v)) (hn : 0 < n) :
  ∃ g c, v = .slice (some ⟨g, 0, none⟩) n c ∧ Ow T w g c l ∧ base ≤ g ∧ n = l.length := by
 have hl : l.length = n := by simpa using h.1
 rcases h.2 with ⟨rfl, rfl⟩ | ⟨g, cap, cur, rfl, hb, hh, hnc, hm, hs, ht⟩
 ·omega
 ·refine ⟨g, cap, rfl, ⟨by rw [hl]; exact hnc, hm, cur, hh, fun j b hj => ?_⟩, hb, hl.symm⟩
  have hjl : j < l.length := (List.getElem?_eq_some_iff.1 hj).1
  have e1 : (cur.toList.take (n * 1))[j]? = some (u8v b) := by rw [ht]; simp [hj]
  rw [List.getElem?_take] at e1
  split at e1
  ·simpa using e1
  ·cases e1
theorem Ow.lt {T : TypeId} {w : World} {g c : Nat} {l : List UInt8} (h : Ow T w g c l) : g < w.heap.size := by
 obtain ⟨_, _, cur, hh, _⟩ := h
 exact (Array.getElem?_eq_some_iff.1 hh).1
theorem Ow.sl {T : TypeId} {w : World} {g c : Nat} {l : List UInt8} (h : Ow T w g c l) : Sl w (some ⟨g, 0, none⟩) l.length c l := by
 obtain ⟨h1, h2, cur, hh, hc⟩ := h
 refine ⟨rfl, h1, h2, fun _ => ⟨g, 0, rfl, fun j b hj => ?_⟩⟩
 have := hc j b hj
 simp [World.cell?, hh, this]
theorem Ow.cell {T : TypeId} {w : World} {g c : Nat} {l : List UInt8} (h : Ow T w g c l) (j : Nat) (hj : j < l.length) : w.cell? ⟨g, j, none⟩ = some (.int .u8 (l[j].toNat : Int)) ∧ w.frozen? ⟨g, j, none⟩ = false := by
 obtain ⟨h1, h2, cur, hh, hc⟩ := h
 have := hc j _ (List.getElem?_eq_getElem hj)
 exact ⟨by simp [World.cell?, hh, this, u8v], by simp [World.frozen?, hh]⟩
theorem Ow.set {T : TypeId} {w : World} {g c : Nat} {l : List UInt8} (h : Ow T w g c l) (j : Nat) (b : UInt8) : Ow T (w.setCell ⟨g, j, none⟩ (u8v b)) g c (l.set j b) := by
 obtain ⟨h1, h2, cur, hh, hc⟩ := h
 refine ⟨by simpa using h1, h2, cur.setIfInBounds j (u8v b), by simp [World.setCell, Array.getElem?_modify, hh], fun i x hi => ?_⟩
 rw [List.getElem?_set] at hi
 rw [Array.getElem?_setIfInBounds]
 by_cases hij : j = i
 ·subst hij
  rw [if_pos rfl] at hi ⊢
  split at hi
  ·rename_i hjl
   have hj := hc j _ (List.getElem?_eq_getElem hjl)
   have hjs : j < cur.size := (Array.getElem?_eq_some_iff.1 hj).1
   simp at hi
   rw [if_pos hjs, hi]
  ·cases hi
 ·rw [if_neg hij] at hi ⊢
  exact hc i x hi
theorem Ow.below {T : TypeId} {w w' : World} {g c : Nat} {l : List UInt8} (h : Ow T w g c l) (hb : Below w.heap.size w w') : Ow T w' g c l := by
 have hlt := h.lt
 obtain ⟨h1, h2, cur, hh, hc⟩ := h
 exact ⟨h1, h2, cur, (hb.block g hlt).trans hh, hc⟩


/-- append of bytes as one step of a region that draws its order ('rw [if_pos (by rfl)]' ahead of it). -/
theorem wp_append_bytes {P : Program} {o : Oper} {a : Act} {w : World} {K : Act → World → Prop} {Q : Exit → Act → World → Prop} (s x : Operand) (t : TypeId)
  (ho : o.op = .call { callee := .builtin .append, args := #[s, x], argTypes := #[t, t] })
  (base : Nat) (e : TypeId) (i : TypeInfo) (z : Value) (ht : P.underlying t = some (.slice e)) (hi : P.info? e = some i) (hz : i.zero = some z)
  (hsize : i.size = 1) (hby : i.bytes = 1) (hzs : z.cells.size = 1)
  (v : Value) (n : Nat) (l : List UInt8) (hs : a.eval s = v) (hown : w.ownsRow base e 1 v n (l.map u8v))
  (A : Option Addr) (m c : Nat) (l2 : List UInt8) (hx : a.eval x = .slice A m c) (hr : Sl w A m c l2)
  (h63 : n + m ≤ 140737488355328) (hbase : base ≤ w.heap.size)
  (h : ∀ v' w', w'.ownsRow base e 1 v' (n + m) ((l ++ l2).map u8v) → w.grownBy w' v.ownBlock → (v'.ownBlock = v.ownBlock ∨ v'.ownBlock = some w.heap.size) → K (a.put o.dst v') w') :
  Oper.wp P o a w K Q := by
 obtain ⟨v', w', hr, h2, h3, h5⟩ := run_append_bytes (P := P) w base t o.type e i z ht hi hz hsize hby hzs v n l hown A m c l2 hr h63 hbase
 unfold Oper.wp execOp
 simp only [ho, resolve, invoke, builtin, Sem.run_bind, Sem.run_pure, Result.andThen_ok, List.map_toArray, List.map_cons, List.map_nil, hs, hx, hr]
 exact h v' w' h2 h3 h5

open Go.RowKit

theorem Try.info5 : (Try.prog.info? 5).map (fun i => (i.zero, i.size, i.bytes)) = some (some (.int .u8 0), 1, 1) := by kernel_rfl

set_option maxHeartbeats 400000 in
theorem join_any (A B : Option Addr) (n c m d : Nat) (l t : List UInt8) (w : World) (hl : Sl w A n c l) (ht : Sl w B m d t) (hs : n + m ≤ 140737488355328) :
  Calls Try.prog 60 #[.slice A n c, .slice B m d] w fun e w' => ∃ A' c', e = .returned (.slice A' (n + m) c') ∧ Sl w' A' (n + m) c' (l ++ t) ∧ Below w.heap.size w w' := by
 obtain ⟨i, hi, hz0, hz1, hz2⟩ := info_parts Try.info5
 have hb1 : (0 : Int) ≤ n := by omega
 have hb2 : (0 : Int) ≤ m := by omega
 have hb3 : (n : Int) + m ≤ 140737488355328 := by omega
 go_enter Try.func60, Try.ntmps60
 go_wp2_with (at_make; refine wpList_make_own _ rfl _ _ 30 rfl w.heap.size 5 i (.int .u8 0) 1 Try.underlying30 hi hz0 hz1 _ _ _ (n + m) rfl rfl ?b1 ?b2 ?b3 (Nat.le_refl _) ?_)
 case b1 => simp
 case b2 => rw [hz2]; omega
 case b3 => unfold maxLen; omega
 intro w1 hown hg1
 have bel1 : Below w.heap.size w w1 := (Below.refl _ _).grown hg1 (Nat.le_refl _) (fun k h => by cases h)
 have hsz : w.heap.size ≤ w1.heap.size := bel1.size
 go_wp2_with (at_builtin; refine wpList_append_bytes w1 rfl (.tmp 12) (.tmp 13) 30 rfl w.heap.size 5 i (.int .u8 0) Try.underlying30 hi hz0 hz1 hz2 rfl _ 0 [] rfl hown A n c l rfl (hl.below bel1) ?c1 ?c2 ?_)
 case c1 => omega
 case c2 => exact hsz
 intro v2 w2 hown2 hg2 hat2
 have bel2 : Below w.heap.size w w2 := bel1.grown hg2 hsz (fun k h => by simp [Value.ownBlock] at h; omega)
 have hv2 : ∀ k, v2.ownBlock = some k → w.heap.size ≤ k := by
  intro k hk
  rcases hat2 with h | h
  ·rw [h] at hk; simp [Value.ownBlock] at hk; omega
  ·rw [h] at hk; simp at hk; omega
 clear hat2
 go_wp2_with (at_builtin; refine wpList_append_bytes w2 rfl (.tmp 15) (.tmp 16) 30 rfl w.heap.size 5 i (.int .u8 0) Try.underlying30 hi hz0 hz1 hz2 rfl _ n l rfl hown2 B m d t rfl (ht.below bel2) ?c1 ?c2 ?_)
 case c1 => omega
 case c2 => exact bel2.size
 intro v3 w3 hown3 hg3 hat3
 have bel3 : Below w.heap.size w w3 := bel2.grown hg3 bel2.size hv2
 clear hat3 hv2
 rw [← List.map_append] at hown3
 obtain ⟨A', c', rfl, hsl⟩ := Sl.of_own hown3
 go_wp2
 go_ret
 exact ⟨A', c', rfl, hsl, bel3⟩

theorem take_no (g : Nat) (l : List UInt8) (s : Bool) (k : Int) (w : World) (hr : Rd w 106 g l s) (hk : k < 0 ∨ l.length < k) :
  Calls Try.prog 68 #[.pointer (some ⟨g, 0, none⟩), .int .i64 k] w fun e w' => e = .returned (.slice none 0 0) ∧ Rd w' 106 g [] true ∧ w.grownBy w' (some g) := by
 have hr' := hr
 obtain ⟨A, n, c, hb, hsl⟩ := hr'
 have hn := hsl.1
 obtain ⟨hc0, hc1⟩ := cell_of_rd hb
 have hf0 : w.frozen? ⟨g, 0, none⟩ = false := by simp [World.frozen?, hb]
 have hf1 : w.frozen? ⟨g, 1, none⟩ = false := by simp [World.frozen?, hb]
 have hg : w.grownBy ((w.setCell ⟨g, 0, none⟩ (.slice none 0 0)).setCell ⟨g, 1, none⟩ (.bool true)) (some g) := grown_set (grown_set (World.grownBy.refl w _) 0 _) 1 _
 have R : Rd ((w.setCell ⟨g, 0, none⟩ (.slice none 0 0)).setCell ⟨g, 1, none⟩ (.bool true)) 106 g [] true := hr.set hg (set_second (set_first hb)) (Sl.nil w)
 by_cases h0 : k < 0
 ·clear hn hb
  go_enter Try.func68, Try.ntmps68
  go_wp2
  go_ret
  exact ⟨rfl, R, hg⟩
 ·have h1 : (n : Int) < k := by omega
  clear hn hb
  go_enter Try.func68, Try.ntmps68
  go_wp2
  go_ret
  exact ⟨rfl, R, hg⟩

theorem number_no (g : Nat) (l : List UInt8) (s : Bool) (k : Nat) (w : World) (hr : Rd w 106 g l s) (hk : l.length < k) :
  Calls Try.prog 61 #[.pointer (some ⟨g, 0, none⟩), .int .i64 k] w fun e w' => e = .returned (.int .u32 0) ∧ Rd w' 106 g [] true ∧ w.grownBy w' (some g) := by
 go_enter Try.func61, Try.ntmps61
 go_wp2_with (go_at_call 68; refine (take_no g l s k _ hr (by omega)).mono ?_; rintro e w1 ⟨rfl, hr1, hg1⟩)
 refine wp_loop_rounds 1 ?_
 rw [rounds_succ]
 go_wp2
 go_ret
 exact ⟨rfl, hr1, hg1⟩

theorem u8_no (g : Nat) (l : List UInt8) (s : Bool) (w : World) (hr : Rd w 106 g l s) (hk : l.length < 1) :
  Calls Try.prog 74 #[.pointer (some ⟨g, 0, none⟩)] w fun e w' => e = .returned (.int .i64 0) ∧ Rd w' 106 g [] true ∧ w.grownBy w' (some g) := by
 go_enter Try.func74, Try.ntmps74
 go_wp2_with (go_at_call 61; refine (number_no g l s 1 _ hr hk).mono ?_; rintro e w1 ⟨rfl, hr1, hg1⟩)
 go_ret
 exact ⟨rfl, hr1, hg1⟩
theorem u16_no (g : Nat) (l : List UInt8) (s : Bool) (w : World) (hr : Rd w 106 g l s) (hk : l.length < 2) :
  Calls Try.prog 45 #[.pointer (some ⟨g, 0, none⟩)] w fun e w' => e = .returned (.int .i64 0) ∧ Rd w' 106 g [] true ∧ w.grownBy w' (some g) := by
 go_enter Try.func45, Try.ntmps45
 go_wp2_with (go_at_call 61; refine (number_no g l s 2 _ hr hk).mono ?_; rintro e w1 ⟨rfl, hr1, hg1⟩)
 go_ret
 exact ⟨rfl, hr1, hg1⟩
theorem bytes_no (g : Nat) (l : List UInt8) (s : Bool) (k : Int) (w : World) (hr : Rd w 106 g l s) (hk : k < 0 ∨ l.length < k) :
  Calls Try.prog 79 #[.pointer (some ⟨g, 0, none⟩), .int .i64 k] w fun e w' => ∃ A c, e = .returned (.slice A 0 c) ∧ Sl w' A 0 c [] ∧ Rd w' 106 g [] true ∧ w.grownBy w' (some g) := by
 go_enter Try.func79, Try.ntmps79
 go_wp2_with (go_at_call 68; refine (take_no g l s k _ hr hk).mono ?_; rintro e w1 ⟨rfl, hr1, hg1⟩)
 go_wp2_with (go_at_call 60; refine (join_any none none 0 0 0 0 [] [] w1 (Sl.nil w1) (Sl.nil w1) (by omega)).mono ?_; rintro e w2 ⟨A', c', rfl, hsl2, bel⟩)
 go_ret
 exact ⟨A', c', rfl, hsl2, hr1.below bel, hg1.trans (grown_of_below bel)⟩

theorem short_any (g : Nat) (l : List UInt8) (s : Bool) (w : World) (hr : Rd w 106 g l s) :
  Calls Try.prog 75 #[.pointer (some ⟨g, 0, none⟩)] w fun e w' => e = .returned (.bool s) ∧ w = w' := by
 obtain ⟨A, n, c, hb, hsl⟩ := hr
 obtain ⟨hc0, hc1⟩ := cell_of_rd hb
 clear hsl hb
 go_enter Try.func75, Try.ntmps75
 go_wp2
 go_ret
 exact ⟨rfl, rfl⟩
open Go.RowKit

/-- A Reader at block g whose rest, where it is not empty, lies in a block below B. -/
def Rb (w : World) (T : TypeId) (g B : Nat) (l : List UInt8) (s : Bool) : Prop :=
 ∃ A n c, w.heap[g]? = some (.cells #[.slice A n c, .bool s] T (0, 0)) ∧ Sl w A n c l ∧ (0 < n → ∃ a o, A = some ⟨a, o, none⟩ ∧ a < B)
theorem Rb.rd {w : World} {T : TypeId} {g B : Nat} {l : List UInt8} {s : Bool} (h : Rb w T g B l s) : Rd w T g l s := by
 obtain ⟨A, n, c, h1, h2, _⟩ := h
 exact ⟨A, n, c, h1, h2⟩
theorem Rd.rb {w : World} {T : TypeId} {g : Nat} {l : List UInt8} {s : Bool} (h : Rd w T g l s) : Rb w T g w.heap.size l s := by
 obtain ⟨A, n, c, h1, h2⟩ := h
 refine ⟨A, n, c, h1, h2, fun hn => ?_⟩
 obtain ⟨a, o, e, hc⟩ := h2.2.2.2 hn
 have h0 : 0 < l.length := by have := h2.1; omega
 exact ⟨a, o, e, cell_lt (hc 0 _ (List.getElem?_eq_getElem h0))⟩
theorem Rb.below {w w' : World} {T : TypeId} {g B : Nat} {l : List UInt8} {s : Bool} (h : Rb w T g B l s) (hb : Below w.heap.size w w') : Rb w' T g B l s := by
 have hlt := h.rd.lt
 obtain ⟨A, n, c, h1, h2, h3⟩ := h
 exact ⟨A, n, c, (hb.block g hlt).trans h1, h2.below hb, h3⟩
/-- A store into a block that is neither the Reader's nor below the bound. -/
theorem Rb.setCell {w : World} {T : TypeId} {g B q : Nat} {l : List UInt8} {s : Bool} (h : Rb w T g B l s) (hq : B ≤ q) (hne : q ≠ g) (i : Nat) (u : Value) : Rb (w.setCell ⟨q, i, none⟩ u) T g B l s := by
 obtain ⟨A, n, c, h1, h2, h3⟩ := h
 have other : ∀ k, k ≠ q → (w.setCell ⟨q, i, none⟩ u).heap[k]? = w.heap[k]? := fun k hk => Below.heap_setCell w ⟨q, i, none⟩ u k (fun e => hk (by rw [e]))
 refine ⟨A, n, c, (other g (Ne.symm hne)).trans h1, ⟨h2.1, h2.2.1, h2.2.2.1, fun hn => ?_⟩, h3⟩
 obtain ⟨a, o, e, hc⟩ := h2.2.2.2 hn
 obtain ⟨a', o', e', hlt⟩ := h3 hn
 rw [e] at e'
 obtain ⟨rfl, rfl⟩ : a = a' ∧ o = o' := by injection e' with e'; injection e' with e1 e2; exact ⟨e1, e2⟩
 refine ⟨a, o, e, fun j b hj => ?_⟩
 exact (World.cell?_of_block (w := w) (other a (by omega))).trans (hc j b hj)
theorem Rb.set {w w' : World} {T : TypeId} {g B : Nat} {l l' : List UInt8} {s s' : Bool} {A : Option Addr} {n c : Nat} (hr : Rb w T g B l s) (hg : w.grownBy w' (some g)) (hb : w'.heap[g]? = some (.cells #[.slice A n c, .bool s'] T (0, 0)))
  (hs : Sl w A n c l') (hB : 0 < n → ∃ a o, A = some ⟨a, o, none⟩ ∧ a < B) : Rb w' T g B l' s' := ⟨A, n, c, hb, hs.far hr.rd hg, hB⟩
open Go.RowKit

/-- What is not empty lies in a block from B on. -/
def Fr (B : Nat) (A : Option Addr) (n : Nat) : Prop := 0 < n → ∃ a o, A = some ⟨a, o, none⟩ ∧ B ≤ a
theorem Fr.mono {B C : Nat} {A : Option Addr} {n : Nat} (h : Fr B A n) (hc : C ≤ B) : Fr C A n := fun hn => by
 obtain ⟨a, o, e, hb⟩ := h hn
 exact ⟨a, o, e, Nat.le_trans hc hb⟩
theorem Sl.of_own_f {w : World} {base : Nat} {e : TypeId} {v : Value} {l : List UInt8} {n : Nat} (h : w.ownsRow base e 1 v n (l.map u8v)) : ∃ A c, v = .slice A n c ∧ Sl w A n c l ∧ Fr base A n := by
 obtain ⟨A, c, rfl, hs⟩ := Sl.of_own h
 refine ⟨A, c, rfl, hs, fun hn => ?_⟩
 rcases h.2 with ⟨e1, rfl⟩ | ⟨g, cap, cur, e1, hb, _⟩
 ·omega
 ·injection e1 with e2
  exact ⟨g, 0, e2, hb⟩
/-- A store elsewhere. -/
theorem Sl.setCell {w : World} {A : Option Addr} {n c : Nat} {l : List UInt8} {B k : Nat} (h : Sl w A n c l) (hf : Fr B A n) (hk : k < B) (i : Nat) (u : Value) : Sl (w.setCell ⟨k, i, none⟩ u) A n c l := by
 refine ⟨h.1, h.2.1, h.2.2.1, fun hn => ?_⟩
 obtain ⟨a, o, e, hc⟩ := h.2.2.2 hn
 obtain ⟨a', o', e', hlt⟩ := hf hn
 rw [e] at e'
 obtain ⟨rfl, rfl⟩ : a = a' ∧ o = o' := by injection e' with e'; injection e' with e1 e2; exact ⟨e1, e2⟩
 refine ⟨a, o, e, fun j b hj => ?_⟩
 exact (World.cell?_of_block (w := w) (Below.heap_setCell w ⟨k, i, none⟩ u a (by show a ≠ k; omega))).trans (hc j b hj)
theorem Sl.grown {w w' : World} {A : Option Addr} {n c : Nat} {l : List UInt8} {B g : Nat} (h : Sl w A n c l) (hf : Fr B A n) (hg : w.grownBy w' (some g)) (hk : g < B) : Sl w' A n c l := by
 refine ⟨h.1, h.2.1, h.2.2.1, fun hn => ?_⟩
 obtain ⟨a, o, e, hc⟩ := h.2.2.2 hn
 obtain ⟨a', o', e', hlt⟩ := hf hn
 rw [e] at e'
 obtain ⟨rfl, rfl⟩ : a = a' ∧ o = o' := by injection e' with e'; injection e' with e1 e2; exact ⟨e1, e2⟩
 refine ⟨a, o, e, fun j b hj => ?_⟩
 have hne : (some a : Option Nat) ≠ some g := fun h => by injection h with h; omega
 exact (World.cell?_of_block (w := w) (hg.block a (cell_lt (hc j b hj)) hne)).trans (hc j b hj)

set_option maxHeartbeats 400000 in
theorem join_f (A B : Option Addr) (n c m d : Nat) (l t : List UInt8) (w : World) (hl : Sl w A n c l) (ht : Sl w B m d t) (hs : n + m ≤ 140737488355328) :
  Calls Try.prog 60 #[.slice A n c, .slice B m d] w fun e w' => ∃ A' c', e = .returned (.slice A' (n + m) c') ∧ Sl w' A' (n + m) c' (l ++ t) ∧ Below w.heap.size w w' ∧ Fr w.heap.size A' (n + m) := by
 obtain ⟨i, hi, hz0, hz1, hz2⟩ := info_parts Try.info5
 have hb1 : (0 : Int) ≤ n := by omega
 have hb2 : (0 : Int) ≤ m := by omega
 have hb3 : (n : Int) + m ≤ 140737488355328 := by omega
 go_enter Try.func60, Try.ntmps60
 go_wp2_with (at_make; refine wpList_make_own _ rfl _ _ 30 rfl w.heap.size 5 i (.int .u8 0) 1 Try.underlying30 hi hz0 hz1 _ _ _ (n + m) rfl rfl ?b1 ?b2 ?b3 (Nat.le_refl _) ?_)
 case b1 => simp
 case b2 => rw [hz2]; omega
 case b3 => unfold maxLen; omega
 intro w1 hown hg1
 have bel1 : Below w.heap.size w w1 := (Below.refl _ _).grown hg1 (Nat.le_refl _) (fun k h => by cases h)
 have hsz : w.heap.size ≤ w1.heap.size := bel1.size
 go_wp2_with (at_builtin; refine wpList_append_bytes w1 rfl (.tmp 12) (.tmp 13) 30 rfl w.heap.size 5 i (.int .u8 0) Try.underlying30 hi hz0 hz1 hz2 rfl _ 0 [] rfl hown A n c l rfl (hl.below bel1) ?c1 ?c2 ?_)
 case c1 => omega
 case c2 => exact hsz
 intro v2 w2 hown2 hg2 hat2
 have bel2 : Below w.heap.size w w2 := bel1.grown hg2 hsz (fun k h => by simp [Value.ownBlock] at h; omega)
 have hv2 : ∀ k, v2.ownBlock = some k → w.heap.size ≤ k := by
  intro k hk
  rcases hat2 with h | h
  ·rw [h] at hk; simp [Value.ownBlock] at hk; omega
  ·rw [h] at hk; simp at hk; omega
 clear hat2
 go_wp2_with (at_builtin; refine wpList_append_bytes w2 rfl (.tmp 15) (.tmp 16) 30 rfl w.heap.size 5 i (.int .u8 0) Try.underlying30 hi hz0 hz1 hz2 rfl _ n l rfl hown2 B m d t rfl (ht.below bel2) ?c1 ?c2 ?_)
 case c1 => omega
 case c2 => exact bel2.size
 intro v3 w3 hown3 hg3 hat3
 have bel3 : Below w.heap.size w w3 := bel2.grown hg3 bel2.size hv2
 clear hat3 hv2
 rw [← List.map_append] at hown3
 obtain ⟨A', c', rfl, hsl, hfr⟩ := Sl.of_own_f hown3
 go_wp2
 go_ret
 exact ⟨A', c', rfl, hsl, bel3, hfr⟩

open Go.RowKit

/-- append of bytes: nothing below the row's bound changes. -/
theorem wpList_append_bb {P : Program} (w : World) {ops : Array Oper} {rest : List Oper} {o : Oper} {a : Act} {Q : Exit → Act → World → Prop} (hgd : o.guard = none) (s x : Operand) (t : TypeId)
  (ho : o.op = .call { callee := .builtin .append, args := #[s, x], argTypes := #[t, t] })
  (base : Nat) (e : TypeId) (i : TypeInfo) (z : Value) (ht : P.underlying t = some (.slice e)) (hi : P.info? e = some i) (hz : i.zero = some z)
  (hsize : i.size = 1) (hby : i.bytes = 1) (hzs : z.cells.size = 1)
  (v : Value) (n : Nat) (l : List UInt8) (hs : a.eval s = v) (hown : w.ownsRow base e 1 v n (l.map u8v))
  (A : Option Addr) (m c : Nat) (l2 : List UInt8) (hx : a.eval x = .slice A m c) (hr : Sl w A m c l2)
  (h63 : n + m ≤ 140737488355328) (hbase : base ≤ w.heap.size)
  (h : ∀ v' w', w'.ownsRow base e 1 v' (n + m) ((l ++ l2).map u8v) → Below base w w' → wpList P ops Q rest (a.put o.dst v') w') :
  wpList P ops Q (o :: rest) a w :=
 wpList_append_bytes w hgd s x t ho base e i z ht hi hz hsize hby hzs v n l hs hown A m c l2 hx hr h63 hbase
  (fun v' w' h1 h2 _ => h v' w' h1 ((Below.refl base w).grown h2 hbase (fun k hk => (hown.lt k hk).1)))
theorem wp_append_bb {P : Program} {o : Oper} {a : Act} {w : World} {K : Act → World → Prop} {Q : Exit → Act → World → Prop} (s x : Operand) (t : TypeId)
  (ho : o.op = .call { callee := .builtin .append, args := #[s, x], argTypes := #[t, t] })
  (base : Nat) (e : TypeId) (i : TypeInfo) (z : Value) (ht : P.underlying t = some (.slice e)) (hi : P.info? e = some i) (hz : i.zero = some z)
  (hsize : i.size = 1) (hby : i.bytes = 1) (hzs : z.cells.size = 1)
  (v : Value) (n : Nat) (l : List UInt8) (hs : a.eval s = v) (hown : w.ownsRow base e 1 v n (l.map u8v))
  (A : Option Addr) (m c : Nat) (l2 : List UInt8) (hx : a.eval x = .slice A m c) (hr : Sl w A m c l2)
  (h63 : n + m ≤ 140737488355328) (hbase : base ≤ w.heap.size)
  (h : ∀ v' w', w'.ownsRow base e 1 v' (n + m) ((l ++ l2).map u8v) → Below base w w' → K (a.put o.dst v') w') :
  Oper.wp P o a w K Q :=
 wp_append_bytes s x t ho base e i z ht hi hz hsize hby hzs v n l hs hown A m c l2 hx hr h63 hbase
  (fun v' w' h1 h2 _ => h v' w' h1 ((Below.refl base w).grown h2 hbase (fun k hk => (hown.lt k hk).1)))
/-- Nothing below the bound changes: what is owned from the bound on is still of use. -/
theorem ownsRow_mono {w : World} {B C : Nat} {e : TypeId} {v : Value} {n : Nat} {xs : List Value} (h : w.ownsRow C e 1 v n xs) (hb : B ≤ C) : w.ownsRow B e 1 v n xs :=
 ⟨h.1, by rcases h.2 with h | ⟨g, cap, cur, e, hc, h⟩; exact .inl h; exact .inr ⟨g, cap, cur, e, Nat.le_trans hb hc, h⟩⟩
theorem Rb.grown {w w' : World} {T : TypeId} {g B q : Nat} {l : List UInt8} {s : Bool} (h : Rb w T g B l s) (hg : w.grownBy w' (some q)) (hq : B ≤ q) (hne : q ≠ g) : Rb w' T g B l s := by
 have hlt := h.rd.lt
 obtain ⟨A, n, c, h1, h2, h3⟩ := h
 refine ⟨A, n, c, (hg.block g hlt (fun e => hne (by injection e with e; exact e.symm))).trans h1, ⟨h2.1, h2.2.1, h2.2.2.1, fun hn => ?_⟩, h3⟩
 obtain ⟨a, o, e, hc⟩ := h2.2.2.2 hn
 obtain ⟨a', o', e', hlt'⟩ := h3 hn
 rw [e] at e'
 obtain ⟨rfl, rfl⟩ : a = a' ∧ o = o' := by injection e' with e'; injection e' with e1 e2; exact ⟨e1, e2⟩
 refine ⟨a, o, e, fun j b hj => ?_⟩
 have hc' := hc j b hj
 exact (World.cell?_of_block (w := w) (hg.block a (cell_lt hc') (fun e => by injection e with e; omega))).trans hc'
theorem Rb.drew {w : World} {T : TypeId} {g B : Nat} {l : List UInt8} {s : Bool} (h : Rb w T g B l s) : Rb w.drew T g B l s := by
 obtain ⟨A, n, c, h1, h2, h3⟩ := h
 exact ⟨A, n, c, h1, h2.keep fun _ _ _ h => h, h3⟩
theorem Sl.drew {w : World} {A : Option Addr} {n c : Nat} {l : List UInt8} (h : Sl w A n c l) : Sl w.drew A n c l := h.keep fun _ _ _ h => h
open Go.RowKit

theorem grown_setRow {w : World} (b : Nat) (cs : Array Value) : w.grownBy (w.setRow b cs) (some b) :=
 ⟨rfl, rfl, rfl, by simp [World.setRow], fun k _ hk => setRow_other w b k cs (fun e => hk (by rw [e]))⟩
/-- A whole struct or array goes into a block of its own. -/
theorem wp_store_blk {P : Program} {o : Oper} {a : Act} {w : World} {K : Act → World → Prop} {Q : Exit → Act → World → Prop} (ty : TypeId) (x y : Operand) (ho : o.op = .store ty x y)
  (b : Nat) (hx : a.eval x = .pointer (some ⟨b, 0, none⟩)) (cells : Array Value) (hy : a.eval y = .agg cells) (C : Array Value) (T : TypeId) (hb : w.heap[b]? = some (.cells C T (0, 0)))
  (hs : C.size = cells.size) (hi : (P.info? ty).map (·.size) = some cells.size) (h1 : cells.all (·.oneCell') = true)
  (h : ∀ w', w'.heap[b]? = some (.cells cells T (0, 0)) → w.grownBy w' (some b) → K (a.put o.dst undef) w') : Oper.wp P o a w K Q := by
 have hr := run_storeVar_row (P := P) w b T ty C cells hb hi hs h1
 unfold Oper.wp execOp
 simp only [ho, hx, hy, Instr.storeAt, Instr.sureAddr, Sem.run_bind, Sem.run_pure, Result.andThen_ok, hr]
 exact h _ (setRow_heap w b _ _ T _ hb) (grown_setRow b cells)
theorem wpList_store_blk {P : Program} {ops : Array Oper} {rest : List Oper} {o : Oper} {a : Act} {w : World} {Q : Exit → Act → World → Prop} (hgd : o.guard = none) (ty : TypeId) (x y : Operand) (ho : o.op = .store ty x y)
  (b : Nat) (hx : a.eval x = .pointer (some ⟨b, 0, none⟩)) (cells : Array Value) (hy : a.eval y = .agg cells) (C : Array Value) (T : TypeId) (hb : w.heap[b]? = some (.cells C T (0, 0)))
  (hs : C.size = cells.size) (hi : (P.info? ty).map (·.size) = some cells.size) (h1 : cells.all (·.oneCell') = true)
  (h : ∀ w', w'.heap[b]? = some (.cells cells T (0, 0)) → w.grownBy w' (some b) → wpList P ops Q rest (a.put o.dst undef) w') : wpList P ops Q (o :: rest) a w :=
 wpList_plain hgd fun _ hK => wp_store_blk ty x y ho b hx cells hy C T hb hs hi h1 (fun w' h1 h2 => hK _ _ (h w' h1 h2))
/-- A piece of a block, read by value. -/
theorem range_lit {w : World} {b : Nat} {L : List Value} {T : TypeId} {fr : Nat × Nat} (hb : w.heap[b]? = some (.cells L.toArray T fr)) (o n : Nat) (cs : List Value) (hcs : (L.drop o).take n = cs) : w.rangeAt b o cs := by
 intro j v hv
 rw [cell_of_row w b (o + j) _ T fr hb]
 rw [← hcs, List.getElem?_take] at hv
 split at hv
 ·rw [List.getElem?_drop] at hv
  simpa using hv
 ·cases hv
theorem yieldsIf_load_part {P : Program} {ops : Array Oper} {S : World → Prop} {o : Oper} {a : Act} (hw : Region.wanted o (yielded ops a.tmps) = true) (ty : TypeId) (x : Operand) (ho : o.op = .load ty x)
  (b i n : Nat) (hx : a.eval x = .pointer (some ⟨b, i, none⟩)) (L : List Value) (T : TypeId) (fr : Nat × Nat) (hS : ∀ w, S w → w.heap[b]? = some (.cells L.toArray T fr)) (cs : List Value) (hcs : (L.drop i).take n = cs)
  (d : TypeDesc) (hu : P.underlying ty = some d) (hd : d.isRow = true) (hi : (P.info? ty).map (·.size) = some cs.length) : YieldsIf P ops S o (.agg cs.toArray) a :=
 yieldsIf_load_mid hw ty x ho b i hx cs d (fun w h => range_lit (hS w h) i n cs hcs) hu hd hi
theorem wpList_load_rng {P : Program} {ops : Array Oper} {rest : List Oper} {o : Oper} {a : Act} {w : World} {Q : Exit → Act → World → Prop} (ty : TypeId) (x : Operand) (ho : o.op = .load ty x) (hgd : Region.wanted o (yielded ops a.tmps) = true)
  (b i : Nat) (hx : a.eval x = .pointer (some ⟨b, i, none⟩)) (cs : List Value) (hc : w.rangeAt b i cs) (d : TypeDesc) (hu : P.underlying ty = some d) (hd : d.isRow = true) (hi : (P.info? ty).map (·.size) = some cs.length)
  (h : wpList P ops Q rest (a.put o.dst (.agg cs.toArray)) w) : wpList P ops Q (o :: rest) a w :=
 wpList_wanted hgd fun _ hK => wp_load_mid ty x ho b i hx cs d hc hu hd hi (hK _ _ h)
/-- One cell, read where its type is none of many cells. -/
theorem cell_lit {w : World} {b : Nat} {C : Array Value} {T : TypeId} {fr : Nat × Nat} (hb : w.heap[b]? = some (.cells C T fr)) (i : Nat) (v : Value) (hv : C[i]? = some v) : w.cell? ⟨b, i, none⟩ = some v := by
 rw [cell_of_row w b i C T fr hb, hv]
/-- What a function with a struct and a number in its results answers. -/
theorem results_cell_tmp_row {P : Program} {fn : Func} {p u : Tmp} {ty : TypeId} (h : fn.results = #[.cell p ty, .tmp u]) (tmps : Array Value) (w : World) (g : Nat) (T : TypeId) (cs : Array Value) (fr : Nat × Nat) (d : TypeDesc)
  (hp : tmps.getD p undef = .pointer (some ⟨g, 0, none⟩)) (hg : w.heap[g]? = some (.cells cs T fr)) (hu : P.underlying ty = some d) (hd : d.isRow = true) (hi : (P.info? ty).map (·.size) = some cs.size) (v : Value) (hv : tmps.getD u undef = v) :
  (results fn tmps).run P w = .ok (.tuple #[.agg cs, v]) w := by
 rw [results_cell_tmp h, hp, hv]
 have hr := run_loadVar_row (P := P) w g T ty cs fr d hg hu (by cases d <;> simp_all) hi
 simp [asAddr, Result.andThen, hr]
theorem results_cell_row' {P : Program} {fn : Func} {p : Tmp} {ty : TypeId} (h : fn.results = #[.cell p ty]) (tmps : Array Value) (w : World) (g : Nat) (T : TypeId) (cs : Array Value) (fr : Nat × Nat) (d : TypeDesc)
  (hp : tmps.getD p undef = .pointer (some ⟨g, 0, none⟩)) (hg : w.heap[g]? = some (.cells cs T fr)) (hu : P.underlying ty = some d) (hd : d.isRow = true) (hi : (P.info? ty).map (·.size) = some cs.size) :
  (results fn tmps).run P w = .ok (.agg cs) w :=
 results_cell_row h tmps w g T cs fr d hp hg hu (by cases d <;> simp_all) hi
/-- A call that writes into a block from the bound on, or into none. -/
theorem below_grown {B : Nat} {w0 w w' : World} {b : Nat} (h : Below B w0 w) (hg : w.grownBy w' (some b)) (hb : B ≤ b) (hB : B ≤ w.heap.size) : Below B w0 w' := h.grown hg hB (fun k e => by cases e; exact hb)
open Go.RowKit

theorem setCell_heap {w : World} {b : Nat} {L : List Value} {T : TypeId} {fr : Nat × Nat} (h : w.heap[b]? = some (.cells L.toArray T fr)) (o : Nat) (v : Value) : (w.setCell ⟨b, o, none⟩ v).heap[b]? = some (.cells (L.set o v).toArray T fr) := by
 simp [World.setCell, Array.getElem?_modify, h]
theorem setCells_heap {b : Nat} {T : TypeId} {fr : Nat × Nat} : ∀ (vs : List Value) (o : Nat) (w : World) (L : List Value), w.heap[b]? = some (.cells L.toArray T fr) → o + vs.length ≤ L.length →
  (w.setCells b o vs).heap[b]? = some (.cells (L.take o ++ vs ++ L.drop (o + vs.length)).toArray T fr)
 | [], o, w, L, h, _ => by
  show w.heap[b]? = _
  rw [h]; simp
 | v :: r, o, w, L, h, hn => by
  rw [List.length_cons] at hn
  rw [World.setCells, setCells_heap r (o + 1) _ _ (setCell_heap h o v) (by rw [List.length_set]; omega)]
  have e1 : (L.set o v).take (o + 1) = L.take o ++ [v] := by
   rw [List.take_add_one, List.take_set_of_le (Nat.le_refl _), List.getElem?_set_self (by omega)]
   rfl
  have e2 : (L.set o v).drop (o + 1 + r.length) = L.drop (o + (r.length + 1)) := by
   rw [List.drop_set_of_lt (by omega)]
   congr 1
   omega
  rw [e1, e2, List.length_cons]
  simp
theorem setCells_grown {b : Nat} : ∀ (vs : List Value) (o : Nat) (w : World), w.grownBy (w.setCells b o vs) (some b)
 | [], _, w => World.grownBy.refl w _
 | v :: r, o, w => by
  have h1 : w.grownBy (w.setCell ⟨b, o, none⟩ v) (some b) := grown_set (World.grownBy.refl w _) o v
  exact h1.trans (setCells_grown r (o + 1) _)
theorem run_storeAt_part {P : Program} (w : World) (b i : Nat) (ty : TypeId) (y : Value) (cs : List Value) (hy : y.cells = cs.toArray) (L : List Value) (T : TypeId) (hb : w.heap[b]? = some (.cells L.toArray T (0, 0))) (hn : i + cs.length ≤ L.length)
  (hi : (P.info? ty).map (·.size) = some cs.length) (h1 : cs.all (·.oneCell') = true) : (Instr.storeAt ty (.pointer (some ⟨b, i, none⟩)) y).run P w = .ok () (w.setCells b i cs) := by
 have hc : ∀ j, j < cs.length → (w.cell? ⟨b, i + 0 + j, none⟩).isSome = true := by
  intro j hj
  rw [cell_of_row w b (i + 0 + j) _ T (0, 0) hb]
  simp; omega
 have hf : ∀ j, j < cs.length → w.frozen? ⟨b, i + 0 + j, none⟩ = false := by
  intro j hj
  simp [World.frozen?, hb]
 have := run_storeCells_cells (P := P) b i cs 0 w hc hf (fun v hv => List.all_eq_true.1 h1 v hv)
 simp only [Nat.add_zero] at this
 cases hq : P.info? ty with
 | none => simp [hq] at hi
 | some x =>
  have hs : x.size = cs.length := by simpa [hq] using hi
  simp [Instr.storeAt, Instr.sureAddr, Sem.run_bind, Sem.run_pure, storeVar, sizeOf, typeInfo, hq, hy, hs, this]
theorem wp_store_part {P : Program} {o : Oper} {a : Act} {w : World} {K : Act → World → Prop} {Q : Exit → Act → World → Prop} (ty : TypeId) (x y : Operand) (ho : o.op = .store ty x y)
  (b i : Nat) (hx : a.eval x = .pointer (some ⟨b, i, none⟩)) (cs : List Value) (hy : (a.eval y).cells = cs.toArray) (L : List Value) (T : TypeId) (hb : w.heap[b]? = some (.cells L.toArray T (0, 0))) (hn : i + cs.length ≤ L.length)
  (L' : List Value) (hL : L.take i ++ cs ++ L.drop (i + cs.length) = L') (hi : (P.info? ty).map (·.size) = some cs.length) (h1 : cs.all (·.oneCell') = true)
  (h : ∀ w', w'.heap[b]? = some (.cells L'.toArray T (0, 0)) → w.grownBy w' (some b) → K (a.put o.dst undef) w') : Oper.wp P o a w K Q := by
 have hr := run_storeAt_part (P := P) w b i ty _ cs hy L T hb hn hi h1
 unfold Oper.wp execOp
 simp only [ho, hx, Sem.run_bind, Sem.run_pure, Result.andThen_ok, hr]
 exact h _ (hL ▸ setCells_heap cs i w L hb hn) (setCells_grown cs i w)
theorem wpList_store_part {P : Program} {ops : Array Oper} {rest : List Oper} {o : Oper} {a : Act} {w : World} {Q : Exit → Act → World → Prop} (hgd : o.guard = none) (ty : TypeId) (x y : Operand) (ho : o.op = .store ty x y)
  (b i : Nat) (hx : a.eval x = .pointer (some ⟨b, i, none⟩)) (cs : List Value) (hy : (a.eval y).cells = cs.toArray) (L : List Value) (T : TypeId) (hb : w.heap[b]? = some (.cells L.toArray T (0, 0))) (hn : i + cs.length ≤ L.length)
  (L' : List Value) (hL : L.take i ++ cs ++ L.drop (i + cs.length) = L') (hi : (P.info? ty).map (·.size) = some cs.length) (h1 : cs.all (·.oneCell') = true)
  (h : ∀ w', w'.heap[b]? = some (.cells L'.toArray T (0, 0)) → w.grownBy w' (some b) → wpList P ops Q rest (a.put o.dst undef) w') : wpList P ops Q (o :: rest) a w :=
 wpList_plain hgd fun _ hK => wp_store_part ty x y ho b i hx cs hy L T hb hn L' hL hi h1 (fun w' h1 h2 => hK _ _ (h w' h1 h2))
open Go.RowKit

theorem below_new (w : World) (o : Obj) : Below w.heap.size w (w.alloc o) := (Below.refl _ _).alloc (Nat.le_refl _) o
theorem size_new (w : World) (o : Obj) : w.heap.size < (w.alloc o).heap.size := by simp
theorem wp_box_n {P : Program} {o : Oper} {a : Act} {w : World} {K : Act → World → Prop} {Q : Exit → Act → World → Prop} (e : TypeId) (x : Operand) (ho : o.op = .box e x) (cs : Array Value) (hx : (a.eval x).cells = cs)
  (h : ∀ g w', w.heap.size ≤ g → g < w'.heap.size → w'.heap[g]? = some (.cells cs e (0, 0)) → Below w.heap.size w w' → K (a.put o.dst (.pointer (some ⟨g, 0, none⟩))) w') : Oper.wp P o a w K Q := by
 have hr : (Instr.box e (a.eval x)).run P w = .ok (.pointer (some ⟨w.heap.size, 0, none⟩)) (w.alloc (.cells cs e)) := by
  simp [Instr.box, newVar, newRow, hx]
 unfold Oper.wp execOp
 simp only [ho, Sem.run_bind, hr, Result.andThen_ok]
 exact h _ _ (Nat.le_refl _) (size_new w _) (heap_alloc_new w _) (below_new w _)
theorem wpList_box_n {P : Program} {ops : Array Oper} {rest : List Oper} {o : Oper} {a : Act} {w : World} {Q : Exit → Act → World → Prop} (hgd : o.guard = none) (e : TypeId) (x : Operand) (ho : o.op = .box e x) (cs : Array Value) (hx : (a.eval x).cells = cs)
  (h : ∀ g w', w.heap.size ≤ g → g < w'.heap.size → w'.heap[g]? = some (.cells cs e (0, 0)) → Below w.heap.size w w' → wpList P ops Q rest (a.put o.dst (.pointer (some ⟨g, 0, none⟩))) w') : wpList P ops Q (o :: rest) a w :=
 wpList_plain hgd fun _ hK => wp_box_n e x ho cs hx fun g w' h1 h2 h3 h4 => hK _ _ (h g w' h1 h2 h3 h4)
theorem wp_new_i {P : Program} {o : Oper} {a : Act} {w : World} {K : Act → World → Prop} {Q : Exit → Act → World → Prop} (e : TypeId) (ho : o.op = .alloc e) (i : TypeInfo) (z : Value) (hi : P.info? e = some i) (hz : i.zero = some z) (cs : Array Value) (hx : z.cells = cs)
  (h : ∀ g w', w.heap.size ≤ g → g < w'.heap.size → w'.heap[g]? = some (.cells cs e (0, 0)) → Below w.heap.size w w' → K (a.put o.dst (.pointer (some ⟨g, 0, none⟩))) w') : Oper.wp P o a w K Q := by
 have hr : (Instr.alloc e true (.tuple #[])).run P w = .ok (.pointer (some ⟨w.heap.size, 0, none⟩)) (w.alloc (.cells cs e)) := by
  simp [Instr.alloc, newVar, newRow, zeroValue, typeInfo, hi, hz, hx]
 unfold Oper.wp execOp
 simp only [ho, Sem.run_bind, hr, Result.andThen_ok]
 exact h _ _ (Nat.le_refl _) (size_new w _) (heap_alloc_new w _) (below_new w _)
theorem info_zero {P : Program} {e : TypeId} {z : Value} (h : (P.info? e).bind (·.zero) = some z) : ∃ i, P.info? e = some i ∧ i.zero = some z := by
 cases hi : P.info? e with
 | none => simp [hi] at h
 | some i => exact ⟨i, rfl, by simpa [hi] using h⟩
theorem wp_new_n {P : Program} {o : Oper} {a : Act} {w : World} {K : Act → World → Prop} {Q : Exit → Act → World → Prop} (e : TypeId) (ho : o.op = .alloc e) (z : Value) (hi : (P.info? e).bind (·.zero) = some z) (cs : Array Value) (hx : z.cells = cs)
  (h : ∀ g w', w.heap.size ≤ g → g < w'.heap.size → w'.heap[g]? = some (.cells cs e (0, 0)) → Below w.heap.size w w' → K (a.put o.dst (.pointer (some ⟨g, 0, none⟩))) w') : Oper.wp P o a w K Q := by
 obtain ⟨i, h1, h2⟩ := info_zero hi
 exact wp_new_i e ho i z h1 h2 cs hx h
theorem wpList_new_n {P : Program} {ops : Array Oper} {rest : List Oper} {o : Oper} {a : Act} {w : World} {Q : Exit → Act → World → Prop} (hgd : o.guard = none) (e : TypeId) (ho : o.op = .alloc e) (z : Value) (hi : (P.info? e).bind (·.zero) = some z) (cs : Array Value) (hx : z.cells = cs)
  (h : ∀ g w', w.heap.size ≤ g → g < w'.heap.size → w'.heap[g]? = some (.cells cs e (0, 0)) → Below w.heap.size w w' → wpList P ops Q rest (a.put o.dst (.pointer (some ⟨g, 0, none⟩))) w') : wpList P ops Q (o :: rest) a w := by
 obtain ⟨i, h1, h2⟩ := info_zero hi
 exact wpList_plain hgd fun _ hK => wp_new_i e ho i z h1 h2 cs hx fun g w' h1 h2 h3 h4 => hK _ _ (h g w' h1 h2 h3 h4)
theorem run_lit_n {P : Program} (w : World) (t e : TypeId) (len : Nat) (parts : Array (Nat × Value))
  (cells : Array Value) (ie : TypeInfo) (z : Value) (hu : P.underlying t = some (.slice e)) (hie : P.info? e = some ie) (hz : ie.zero = some z) (hsmall : ¬ len * ie.size > 2 ^ 24)
  (hf : Instr.fill (fun i => some (i * ie.size, ie.size)) ((Array.range (len * ie.size)).map (z.cells[· % z.cells.size]!)) parts.toList = some cells) :
  (Instr.buildSlice t len parts).run P w = .ok (.slice (some ⟨w.heap.size, 0, none⟩) len len) (w.alloc (.cells cells e)) := by
 by_cases h0 : len * ie.size = 0
 ·rw [h0] at hf
  have e0 : ∀ f : Nat → Value, (Array.range 0).map f = (#[] : Array Value) := fun f => by simp
  rw [e0] at hf
  simp [Instr.buildSlice, run_underlying hu, sizeOf, typeInfo, hie, h0, newRow]
  rw [e0, hf]
  simp
 ·simp [Instr.buildSlice, run_underlying hu, sizeOf, typeInfo, zeroValue, hie, hz, hsmall, h0, hf, newRow]
theorem wp_lit_n {P : Program} {o : Oper} {a : Act} {w : World} {K : Act → World → Prop} {Q : Exit → Act → World → Prop} (t e : TypeId) (len : Nat) (parts : Array (Nat × Operand)) (ho : o.op = .buildSlice t len parts)
  (cells : Array Value) (z : Value) (hu : P.underlying t = some (.slice e)) (hz : (P.info? e).bind (·.zero) = some z) (n : Nat) (hn : (P.info? e).map (·.size) = some n) (hsmall : ¬ len * n > 2 ^ 24)
  (hf : Instr.fill (fun i => some (i * n, n)) ((Array.range (len * n)).map (z.cells[· % z.cells.size]!)) (parts.map fun (i, x) => (i, a.eval x)).toList = some cells)
  (h : ∀ g w', w.heap.size ≤ g → g < w'.heap.size → w'.heap[g]? = some (.cells cells e (0, 0)) → Below w.heap.size w w' → K (a.put o.dst (.slice (some ⟨g, 0, none⟩) len len)) w') : Oper.wp P o a w K Q := by
 obtain ⟨ie, hie, hz⟩ := info_zero hz
 have hn' : ie.size = n := by simpa [hie] using hn
 subst hn'
 unfold Oper.wp execOp
 simp only [ho, Sem.run_bind, run_lit_n w t e len _ cells ie z hu hie hz hsmall hf, Result.andThen_ok]
 exact h _ _ (Nat.le_refl _) (size_new w _) (heap_alloc_new w _) (below_new w _)
theorem wpList_lit_n {P : Program} {ops : Array Oper} {rest : List Oper} {o : Oper} {a : Act} {w : World} {Q : Exit → Act → World → Prop} (hgd : o.guard = none) (t e : TypeId) (len : Nat) (parts : Array (Nat × Operand)) (ho : o.op = .buildSlice t len parts)
  (cells : Array Value) (z : Value) (hu : P.underlying t = some (.slice e)) (hz : (P.info? e).bind (·.zero) = some z) (n : Nat) (hn : (P.info? e).map (·.size) = some n) (hsmall : ¬ len * n > 2 ^ 24)
  (hf : Instr.fill (fun i => some (i * n, n)) ((Array.range (len * n)).map (z.cells[· % z.cells.size]!)) (parts.map fun (i, x) => (i, a.eval x)).toList = some cells)
  (h : ∀ g w', w.heap.size ≤ g → g < w'.heap.size → w'.heap[g]? = some (.cells cells e (0, 0)) → Below w.heap.size w w' → wpList P ops Q rest (a.put o.dst (.slice (some ⟨g, 0, none⟩) len len)) w') : wpList P ops Q (o :: rest) a w :=
 wpList_plain hgd fun _ hK => wp_lit_n t e len parts ho cells z hu hz n hn hsmall hf fun g w' h1 h2 h3 h4 => hK _ _ (h g w' h1 h2 h3 h4)
theorem own_lit {w : World} {g B : Nat} {T : TypeId} (l : List UInt8) (h : w.heap[g]? = some (.cells (l.map u8v).toArray T (0, 0))) (hB : B ≤ g) (n : Nat) (hn : l.length = n) (hm : n ≤ maxLen) : w.ownsRow B T 1 (.slice (some ⟨g, 0, none⟩) n n) n (l.map u8v) := by
 subst hn
 exact ⟨by simp, .inr ⟨g, _, _, rfl, hB, h, Nat.le_refl _, hm, by simp, by rw [Nat.mul_one]; simpa using List.take_of_length_le (Nat.le_of_eq (List.length_map u8v))⟩⟩
open Go.RowKit

/-- No byte of the slice lies in block g; all of them lie below lo; the one slice lies where the other does. -/
def Av (A : Option Addr) (n g : Nat) : Prop := 0 < n → ∀ a o p, A = some ⟨a, o, p⟩ → a ≠ g
def Bl (A : Option Addr) (n lo : Nat) : Prop := 0 < n → ∀ a o p, A = some ⟨a, o, p⟩ → a < lo
def Sub (A' : Option Addr) (k : Nat) (A : Option Addr) (n : Nat) : Prop := 0 < k → 0 < n ∧ ∀ a o p, A' = some ⟨a, o, p⟩ → ∃ o' p', A = some ⟨a, o', p'⟩
theorem Sl.away {w w' : World} {A : Option Addr} {n c g : Nat} {l : List UInt8} (h : Sl w A n c l) (v : Av A n g) (hg : w.grownBy w' (some g)) : Sl w' A n c l := by
 refine ⟨h.1, h.2.1, h.2.2.1, fun hn => ?_⟩
 obtain ⟨a, o, e, hc⟩ := h.2.2.2 hn
 have hne := v hn a o none e
 exact ⟨a, o, e, fun j b hj => (World.cell?_of_block (w := w) (hg.block a (cell_lt (hc j b hj)) (fun e2 => hne (by injection e2)))).trans (hc j b hj)⟩
theorem Sl.under {w w' : World} {A : Option Addr} {n c lo : Nat} {l : List UInt8} (h : Sl w A n c l) (v : Bl A n lo) (hb : Below lo w w') : Sl w' A n c l := by
 refine ⟨h.1, h.2.1, h.2.2.1, fun hn => ?_⟩
 obtain ⟨a, o, e, hc⟩ := h.2.2.2 hn
 exact ⟨a, o, e, fun j b hj => (hb.cell (p := ⟨a, o + j, none⟩) (v hn a o none e)).trans (hc j b hj)⟩
theorem Sl.at0 {w : World} {A : Option Addr} {n c : Nat} {l : List UInt8} (h : Sl w A n c l) (hn : 0 < n) {a o : Nat} {p : Option Nat} (e : A = some ⟨a, o, p⟩) : a < w.heap.size := by
 obtain ⟨a', o', e', hc⟩ := h.2.2.2 hn
 rw [e] at e'
 injection e' with e'
 injection e' with e1 e2
 subst e1
 have hl : 0 < l.length := by have := h.1; omega
 exact cell_lt (hc 0 _ (List.getElem?_eq_getElem hl))
theorem Sl.av_new {w : World} {A : Option Addr} {n c g : Nat} {l : List UInt8} (h : Sl w A n c l) (hg : w.heap.size ≤ g) : Av A n g := fun hn _ _ _ e => Nat.ne_of_lt (Nat.lt_of_lt_of_le (h.at0 hn e) hg)
theorem Sl.bl_new {w : World} {A : Option Addr} {n c : Nat} {l : List UInt8} (h : Sl w A n c l) : Bl A n w.heap.size := fun hn _ _ _ e => h.at0 hn e
theorem Bl.mono {A : Option Addr} {n lo lo' : Nat} (h : Bl A n lo) (hl : lo ≤ lo') : Bl A n lo' := fun hn a o p e => Nat.lt_of_lt_of_le (h hn a o p e) hl
theorem Bl.av {A : Option Addr} {n lo g : Nat} (h : Bl A n lo) (hl : lo ≤ g) : Av A n g := fun hn a o p e => Nat.ne_of_lt (Nat.lt_of_lt_of_le (h hn a o p e) hl)
theorem Fr.av {B : Nat} {A : Option Addr} {n g : Nat} (f : Fr B A n) (hg : g < B) : Av A n g := fun hn a o p e => by
 obtain ⟨a', o', e', h⟩ := f hn
 rw [e] at e'
 injection e' with e'
 injection e' with e1 e2
 omega
theorem Av.sub {A A' : Option Addr} {n k g : Nat} (h : Av A n g) (hs : Sub A' k A n) : Av A' k g := fun hk a o p e => by
 obtain ⟨hn, h2⟩ := hs hk
 obtain ⟨o', p', e'⟩ := h2 a o p e
 exact h hn a o' p' e'
theorem Bl.sub {A A' : Option Addr} {n k lo : Nat} (h : Bl A n lo) (hs : Sub A' k A n) : Bl A' k lo := fun hk a o p e => by
 obtain ⟨hn, h2⟩ := hs hk
 obtain ⟨o', p', e'⟩ := h2 a o p e
 exact h hn a o' p' e'
theorem own_away {w w' : World} {B q : Nat} {e : TypeId} {v : Value} {n : Nat} {xs : List Value} (h : w.ownsRow B e 1 v n xs) (hq : q < B) (hg : w.grownBy w' (some q)) : w'.ownsRow B e 1 v n xs := by
 refine ⟨h.1, ?_⟩
 rcases h.2 with h | ⟨g, cap, cur, e, hb, hh, h⟩
 ·exact .inl h
 ·exact .inr ⟨g, cap, cur, e, hb, (hg.block g (Array.getElem?_eq_some_iff.1 hh).1 (fun e2 => by injection e2; omega)).trans hh, h⟩
/-- A row of the call's own lies not in block q. -/
def Ofs (v : Value) (q : Nat) : Prop := ∀ g, v.ownBlock = some g → g ≠ q
theorem own_new {w : World} {B q : Nat} {e : TypeId} {v : Value} {n : Nat} {xs : List Value} (h : w.ownsRow B e 1 v n xs) (hq : w.heap.size ≤ q) : Ofs v q := fun g hg => by
 rcases h.2 with ⟨h, _⟩ | ⟨g', cap, cur, e, hb, hh, h⟩
 ·rw [h] at hg; simp [Value.ownBlock] at hg
 ·have hl := (Array.getElem?_eq_some_iff.1 hh).1
  rw [e] at hg
  simp only [Value.ownBlock, Option.some.injEq] at hg
  omega
theorem own_off {w w' : World} {B q : Nat} {e : TypeId} {v : Value} {n : Nat} {xs : List Value} (h : w.ownsRow B e 1 v n xs) (hv : Ofs v q) (hg : w.grownBy w' (some q)) : w'.ownsRow B e 1 v n xs := by
 refine ⟨h.1, ?_⟩
 rcases h.2 with h | ⟨g, cap, cur, e, hb, hh, h⟩
 ·exact .inl h
 ·have hne := hv g (by rw [e]; rfl)
  exact .inr ⟨g, cap, cur, e, hb, (hg.block g (Array.getElem?_eq_some_iff.1 hh).1 (fun e2 => hne (by injection e2))).trans hh, h⟩
theorem own_under {w w' : World} {B : Nat} {e : TypeId} {v : Value} {n : Nat} {xs : List Value} (h : w.ownsRow B e 1 v n xs) (hb : Below w.heap.size w w') : w'.ownsRow B e 1 v n xs := by
 refine ⟨h.1, ?_⟩
 rcases h.2 with h | ⟨g, cap, cur, e, hg, hh, h⟩
 ·exact .inl h
 ·exact .inr ⟨g, cap, cur, e, hg, (hb.block g (Array.getElem?_eq_some_iff.1 hh).1).trans hh, h⟩
/-- Blocks. -/
theorem blk_under {w w' : World} {g B : Nat} {x : Option Obj} (h : w.heap[g]? = x) (hb : Below B w w') (hg : g < B) : w'.heap[g]? = x := (hb.block g hg).trans h
theorem ne_new {g q n : Nat} (hz : g < n) (hq : n ≤ q) : Hid (g ≠ q) := Lib.hid (Nat.ne_of_lt (Nat.lt_of_lt_of_le hz hq))
theorem ne_symm {g q : Nat} (h : Hid (g ≠ q)) : Hid (q ≠ g) := Lib.hid (Ne.symm h.out)
theorem own_sl {w : World} {B : Nat} {T : TypeId} {A : Option Addr} {n m c : Nat} {l : List UInt8} (h : w.ownsRow B T 1 (.slice A m c) n (l.map u8v)) : Sl w A n c l ∧ Fr B A n := by
 obtain ⟨A', c', e, h1, h2⟩ := Sl.of_own_f h
 injection e with e1 e2 e3
 subst e1
 subst e3
 exact ⟨h1, h2⟩
theorem own_val {w : World} {B : Nat} {T : TypeId} {v : Value} {n : Nat} {l : List UInt8} (h : w.ownsRow B T 1 v n (l.map u8v)) : ∃ A c, v = .slice A n c := by
 obtain ⟨A', c', e, _, _⟩ := Sl.of_own_f h
 exact ⟨A', c', e⟩
/-- Pieces of a slice, with where they lie. -/
theorem sub_of {A A' : Option Addr} {n k : Nat} (h : 0 < k → 0 < n ∧ ∃ a o o', A = some ⟨a, o, none⟩ ∧ A' = some ⟨a, o', none⟩) : Sub A' k A n := fun hk => by
 obtain ⟨hn, a, o, o', e, e'⟩ := h hk
 refine ⟨hn, fun b q p hb => ?_⟩
 rw [e'] at hb
 injection hb with hb
 injection hb with h1 h2 h3
 subst h1
 exact ⟨o, none, e⟩
theorem Sl.sub_drop {w : World} {A : Option Addr} {n c : Nat} {l : List UInt8} (h : Sl w A n c l) {p k : Nat} (hk : p + k ≤ n) : Sub (if c = p then A else A.map (·.add (p * 1))) k A n := sub_of fun h0 => by
 refine ⟨by omega, ?_⟩
 obtain ⟨a, o, rfl, _⟩ := h.2.2.2 (by omega)
 have := h.2.1
 rw [if_neg (by omega)]
 refine ⟨a, o, o + p, rfl, ?_⟩
 by_cases h0 : p = 0
 ·subst h0; simp [Addr.add]
 ·simp [Addr.add, h0]
theorem piece_front {w : World} {A : Option Addr} {n c : Nat} {l : List UInt8} (h : Sl w A n c l) {k : Nat} (hk : k ≤ n) :
  ∃ A' c', (∀ W, (Instr.slice 30 (.slice A n c) none (some (.int .i64 (k : Int))) none).run Try.prog W = .ok (.slice A' k c') W) ∧ (∀ W, Sl W A n c l → Sl W A' k c' (l.take k)) ∧ Sub A' k A n := by
 have h2 := h.2.1
 refine ⟨_, _, fun W => ?_, fun W hW => by have ht := (hW.drop (k := 0) (by omega)).take (k := k) (by omega); rw [List.drop_zero] at ht; exact ht, h.sub_drop (p := 0) (by omega)⟩
 have hz : ∀ w, (Go.sizeOf 5).run Try.prog w = .ok 1 w := fun w => by kernel_rfl
 have hu : Try.prog.underlying 30 = some (.slice (Try.prog.elem 30)) := by kernel_rfl
 have he : Try.prog.elem 30 = 5 := by kernel_rfl
 rw [run_slice_h W 30 A n c hu .i64 _ (by omega) (by omega), he, hz]
 simp [Result.andThen, sliced]
theorem piece_back {w : World} {A : Option Addr} {n c : Nat} {l : List UInt8} (h : Sl w A n c l) {k : Nat} (hk : k ≤ n) :
  ∃ A' c', (∀ W, (Instr.slice 30 (.slice A n c) (some (.int .i64 (k : Int))) none none).run Try.prog W = .ok (.slice A' (n - k) c') W) ∧ (∀ W, Sl W A n c l → Sl W A' (n - k) c' (l.drop k)) ∧ Sub A' (n - k) A n := by
 have h2 := h.2.1
 refine ⟨_, _, fun W => ?_, fun W hW => hW.drop hk, h.sub_drop (by omega)⟩
 have hz : ∀ w, (Go.sizeOf 5).run Try.prog w = .ok 1 w := fun w => by kernel_rfl
 have hu : Try.prog.underlying 30 = some (.slice (Try.prog.elem 30)) := by kernel_rfl
 have he : Try.prog.elem 30 = 5 := by kernel_rfl
 rw [run_slice_l W 30 A n c hu .i64 _ (by omega) (by omega), he, hz]
 simp [Result.andThen, sliced]
theorem piece_mid {w : World} {A : Option Addr} {n c : Nat} {l : List UInt8} (h : Sl w A n c l) {p k : Nat} (hk : p + k ≤ n) :
  ∃ A' c', (∀ W, (Instr.slice 30 (.slice A n c) (some (.int .i64 (p : Int))) (some (.int .i64 ((p : Int) + k))) none).run Try.prog W = .ok (.slice A' k c') W) ∧ (∀ W, Sl W A n c l → Sl W A' k c' ((l.drop p).take k)) ∧ Sub A' k A n := by
 have h2 := h.2.1
 refine ⟨_, _, fun W => ?_, fun W hW => (hW.drop (k := p) (by omega)).take (k := k) (by omega), h.sub_drop hk⟩
 have hz : ∀ w, (Go.sizeOf 5).run Try.prog w = .ok 1 w := fun w => by kernel_rfl
 have hu : Try.prog.underlying 30 = some (.slice (Try.prog.elem 30)) := by kernel_rfl
 have he : Try.prog.elem 30 = 5 := by kernel_rfl
 rw [run_slice_lh W 30 A n c hu .i64 .i64 _ _ (by omega) (by omega) (by omega), he, hz]
 have e1 : ((p : Int) + k).toNat = p + k := by omega
 simp [Result.andThen, sliced, e1]
open Go.RowKit

theorem hlt {w : World} {g : Nat} {x : Obj} (h : w.heap[g]? = some x) : g < w.heap.size := (Array.getElem?_eq_some_iff.1 h).1
theorem blk_u {w w' : World} {g : Nat} {x : Obj} (h : w.heap[g]? = some x) (hb : Below w.heap.size w w') : w'.heap[g]? = some x := (hb.block g (hlt h)).trans h
theorem blk_a {w w' : World} {g q : Nat} {x : Obj} (h : w.heap[g]? = some x) (hg : w.grownBy w' (some q)) (d : Hid (g ≠ q)) : w'.heap[g]? = some x := (hg.block g (hlt h) (fun e => d.out (by injection e))).trans h
theorem wp_new_a {P : Program} {o : Oper} {a : Act} {w : World} {K : Act → World → Prop} {Q : Exit → Act → World → Prop} (e : TypeId) (ho : o.op = .alloc e) (cs : Array Value) (hi : (P.info? e).bind (·.zero) = some (.agg cs))
  (h : ∀ g w', w.heap.size ≤ g → w'.heap[g]? = some (.cells cs e (0, 0)) → Below w.heap.size w w' → K (a.put o.dst (.pointer (some ⟨g, 0, none⟩))) w') : Oper.wp P o a w K Q :=
 wp_new_n e ho (.agg cs) hi cs rfl fun g w' h1 _ h3 h4 => h g w' h1 h3 h4
theorem wpList_new_a {P : Program} {ops : Array Oper} {rest : List Oper} {o : Oper} {a : Act} {w : World} {Q : Exit → Act → World → Prop} (hgd : o.guard = none) (e : TypeId) (ho : o.op = .alloc e) (cs : Array Value) (hi : (P.info? e).bind (·.zero) = some (.agg cs))
  (h : ∀ g w', w.heap.size ≤ g → w'.heap[g]? = some (.cells cs e (0, 0)) → Below w.heap.size w w' → wpList P ops Q rest (a.put o.dst (.pointer (some ⟨g, 0, none⟩))) w') : wpList P ops Q (o :: rest) a w :=
 wpList_new_n hgd e ho (.agg cs) hi cs rfl fun g w' h1 _ h3 h4 => h g w' h1 h3 h4
open Go.RowKit

theorem blk_own {w w' : World} {g : Nat} {x : Obj} {v : Value} (h : w.heap[g]? = some x) (hg : w.grownBy w' v.ownBlock) (o : Ofs v g) : w'.heap[g]? = some x := (hg.block g (hlt h) (fun e => o g e.symm rfl)).trans h
theorem own_av {w : World} {B : Nat} {e : TypeId} {A : Option Addr} {m c n g : Nat} {xs : List Value} (h : w.ownsRow B e 1 (.slice A m c) n xs) (o : Ofs (.slice A m c) g) : Av A n g := fun hn a p q e1 => by
 rcases h.2 with ⟨_, rfl⟩ | ⟨g', cap, cur, e2, _⟩
 ·omega
 ·injection e2 with e3 e4 e5
  rw [e3] at e1
  injection e1 with e1
  injection e1 with e6 e7 e8
  subst e6
  exact o g' (by rw [e3]; rfl)
theorem ofs_of {v v' : Value} {n : Nat} (h : v'.ownBlock = v.ownBlock ∨ v'.ownBlock = some n) : ∀ g, g < n → Ofs v g → Ofs v' g := fun g hg o g' e => by
 rcases h with h | h
 ·exact o g' (h ▸ e)
 ·rw [h] at e
  injection e with e
  omega
theorem wpList_append_bg {P : Program} (w : World) {ops : Array Oper} {rest : List Oper} {o : Oper} {a : Act} {Q : Exit → Act → World → Prop} (hgd : o.guard = none) (s x : Operand) (t : TypeId)
  (ho : o.op = .call { callee := .builtin .append, args := #[s, x], argTypes := #[t, t] })
  (base : Nat) (e : TypeId) (i : TypeInfo) (z : Value) (ht : P.underlying t = some (.slice e)) (hi : P.info? e = some i) (hz : i.zero = some z)
  (hsize : i.size = 1) (hby : i.bytes = 1) (hzs : z.cells.size = 1)
  (v : Value) (n : Nat) (l : List UInt8) (hs : a.eval s = v) (hown : w.ownsRow base e 1 v n (l.map u8v))
  (A : Option Addr) (m c : Nat) (l2 : List UInt8) (hx : a.eval x = .slice A m c) (hr : Sl w A m c l2)
  (h63 : n + m ≤ 140737488355328) (hbase : base ≤ w.heap.size)
  (h : ∀ v' w', w'.ownsRow base e 1 v' (n + m) ((l ++ l2).map u8v) → Below base w w' → w.grownBy w' v.ownBlock → (∀ g, g < w.heap.size → Ofs v g → Ofs v' g) → wpList P ops Q rest (a.put o.dst v') w') :
  wpList P ops Q (o :: rest) a w :=
 wpList_append_bytes w hgd s x t ho base e i z ht hi hz hsize hby hzs v n l hs hown A m c l2 hx hr h63 hbase
  (fun v' w' h1 h2 h3 => h v' w' h1 ((Below.refl base w).grown h2 hbase (fun k hk => (hown.lt k hk).1)) h2 (ofs_of h3))
theorem wp_append_bg {P : Program} {o : Oper} {a : Act} {w : World} {K : Act → World → Prop} {Q : Exit → Act → World → Prop} (s x : Operand) (t : TypeId)
  (ho : o.op = .call { callee := .builtin .append, args := #[s, x], argTypes := #[t, t] })
  (base : Nat) (e : TypeId) (i : TypeInfo) (z : Value) (ht : P.underlying t = some (.slice e)) (hi : P.info? e = some i) (hz : i.zero = some z)
  (hsize : i.size = 1) (hby : i.bytes = 1) (hzs : z.cells.size = 1)
  (v : Value) (n : Nat) (l : List UInt8) (hs : a.eval s = v) (hown : w.ownsRow base e 1 v n (l.map u8v))
  (A : Option Addr) (m c : Nat) (l2 : List UInt8) (hx : a.eval x = .slice A m c) (hr : Sl w A m c l2)
  (h63 : n + m ≤ 140737488355328) (hbase : base ≤ w.heap.size)
  (h : ∀ v' w', w'.ownsRow base e 1 v' (n + m) ((l ++ l2).map u8v) → Below base w w' → w.grownBy w' v.ownBlock → (∀ g, g < w.heap.size → Ofs v g → Ofs v' g) → K (a.put o.dst v') w') :
  Oper.wp P o a w K Q :=
 wp_append_bytes s x t ho base e i z ht hi hz hsize hby hzs v n l hs hown A m c l2 hx hr h63 hbase
  (fun v' w' h1 h2 h3 => h v' w' h1 ((Below.refl base w).grown h2 hbase (fun k hk => (hown.lt k hk).1)) h2 (ofs_of h3))
end Go.Proofs.Ytjedknjlpeccbaa
