/- Texts put together: Mem, Memz, Walks, Rdb, Rdf, App, Blk, Stp, Vst, Vfr, Vfs, Vap, Sle, Orz, Nr0, Adm, Ade. -/
import Derived.WalkKit
import Derived.Laws.BytesArg
import Derived.Laws.IdiomStrings
import Derived.Maps.AppendAt
import Derived.Lib.AppendZerosOnto
import Derived.Lib.Hide
import Derived.Test.YtbdaejodbcjmfaaGreatRows
import Derived.WalkSpells
import Derived.WalkLawsBesides
import Derived.Laws.CopyOwn
import Derived.Deep.MidRow
import Derived.Laws.ResultCell
import Derived.DeepKeys
import Derived.Stop.BytesEq
import Derived.Laws.StructEq
import Derived.Laws.Tables
import Derived.Deep.RegionHeld
import Derived.Deep.AppendLies
import Derived.Laws.CopyRow
import Derived.Deep.AppendSrc
namespace Go.Proofs.YtbdaejodbcjmfaaGreat
open Go.RowKit
set_option linter.unusedVariables false
set_option linter.unusedSimpArgs false
set_option maxRecDepth 100000
set_option maxHeartbeats 16000000
theorem sq3 : (∀ {α : Type} {xs : List α} {i : Nat} (h : i < xs.toArray.size), xs.toArray[i] = xs[i]'(by simpa using h)) ∧ (∀ {α : Type} (a : α) (l : List α) (h : 0 < (a :: l).length), (a :: l)[0] = a) ∧ (∀ {α : Type} (a : α) (l : List α) (i : Nat) (h : i + 1 < (a :: l).length), (a :: l)[i + 1] = l[i]'(by simpa using h)) := ⟨fun _ => rfl, fun _ _ _ => rfl, fun _ _ _ _ => rfl⟩
theorem sq4 : ((∀ (a : Act) (v : Value) (d : Tmp), a.put (some d) v = { tmps := a.tmps.setIfInBounds d v, defers := a.defers }) ∧ (∀ (a : Act) (v : Value), a.put none v = a)) ∧ (∀ {α : Type} (l : List α) (i : Nat) (a : α), l.toArray.setIfInBounds i a = (l.set i a).toArray) ∧ (∀ {α : Type} {x : α} {xs : List α} {a : α}, (x :: xs).set 0 a = a :: xs) ∧ (∀ {α : Type} {x : α} {xs : List α} {n : Nat} {a : α}, (x :: xs).set (n + 1) a = x :: xs.set n a) := ⟨⟨fun _ _ _ => rfl, fun _ _ => rfl⟩, fun l i a => List.setIfInBounds_toArray l i a, rfl, rfl⟩

/-- A byte as a cell's value. -/
def u8v (b : UInt8) : Value := .int .u8 (b.toNat : Int)

/-- The slice with address A, length n, capacity c reads as the bytes l. -/
def Sl (w : World) (A : Option Addr) (n c : Nat) (l : List UInt8) : Prop :=
 l.length = n ∧ n ≤ c ∧ c ≤ maxLen ∧ (0 < n → ∃ g o, A = some ⟨g, o, none⟩ ∧ ∀ j b, l[j]? = some b → w.cell? ⟨g, o + j, none⟩ = some (u8v b))

theorem cell_lt {w : World} {a : Addr} {v : Value} (h : w.cell? a = some v) : a.block < w.heap.size := by
 rcases Nat.lt_or_ge a.block w.heap.size with hlt | hge
 ·exact hlt
 ·simp [World.cell?, Array.getElem?_eq_none hge] at h

theorem Sl.nil (w : World) : Sl w none 0 0 [] := ⟨rfl, Nat.le_refl _, Nat.zero_le _, fun h => absurd h (by omega)⟩

theorem Sl.keep {w w' : World} {A : Option Addr} {n c : Nat} {l : List UInt8} (h : Sl w A n c l)
  (hk : ∀ g o b, w.cell? ⟨g, o, none⟩ = some (u8v b) → w'.cell? ⟨g, o, none⟩ = some (u8v b)) : Sl w' A n c l :=
 ⟨h.1, h.2.1, h.2.2.1, fun hn => by
  obtain ⟨g, o, e, hc⟩ := h.2.2.2 hn
  exact ⟨g, o, e, fun j b hj => hk _ _ _ (hc j b hj)⟩⟩

theorem Sl.below {w w' : World} {A : Option Addr} {n c : Nat} {l : List UInt8} (h : Sl w A n c l) (hb : Below w.heap.size w w') : Sl w' A n c l :=
 h.keep fun _ _ _ hc => (hb.cell (cell_lt hc)).trans hc

/-- A Reader at block g: its rest reads as l; is it short? -/
def Rd (w : World) (T : TypeId) (g : Nat) (l : List UInt8) (s : Bool) : Prop :=
 ∃ A n c, w.heap[g]? = some (.cells #[.slice A n c, .bool s] T (0, 0)) ∧ Sl w A n c l

theorem cell_of_rd {w : World} {T : TypeId} {g : Nat} {A : Option Addr} {n c : Nat} {s : Bool} (h : w.heap[g]? = some (.cells #[.slice A n c, .bool s] T (0, 0))) :
  w.cell? ⟨g, 0, none⟩ = some (.slice A n c) ∧ w.cell? ⟨g, 1, none⟩ = some (.bool s) := by
 simp [World.cell?, h]

/-- A slice's bytes lie in no Reader's block. -/
theorem byte_not_rd {w : World} {T : TypeId} {g o : Nat} {A : Option Addr} {n c : Nat} {s : Bool} {b : UInt8} {g' : Nat} (h : w.heap[g]? = some (.cells #[.slice A n c, .bool s] T (0, 0)))
  (hc : w.cell? ⟨g', o, none⟩ = some (u8v b)) : g' ≠ g := by
 rintro rfl
 simp [World.cell?, h, u8v] at hc
 match o, hc with
 | 0, hc => simp at hc
 | 1, hc => simp at hc
 | o + 2, hc => simp at hc

theorem Sl.far {w w' : World} {A : Option Addr} {n c : Nat} {l : List UInt8} (h : Sl w A n c l) {T : TypeId} {g : Nat} {l' : List UInt8} {s : Bool} (hr : Rd w T g l' s) (hg : w.grownBy w' (some g)) : Sl w' A n c l := by
 obtain ⟨A', n', c', hb, _⟩ := hr
 refine h.keep fun g' o b hc => ?_
 have hne := byte_not_rd hb hc
 exact (World.cell?_of_block (w := w) (hg.block g' (cell_lt hc) (fun e => hne (by injection e)))).trans hc

theorem Rd.lt {w : World} {T : TypeId} {g : Nat} {l : List UInt8} {s : Bool} (h : Rd w T g l s) : g < w.heap.size := by
 obtain ⟨A, n, c, hb, _⟩ := h
 exact cell_lt (a := ⟨g, 0, none⟩) (cell_of_rd hb).1

theorem Rd.below {w w' : World} {T : TypeId} {g : Nat} {l : List UInt8} {s : Bool} (h : Rd w T g l s) (hb : Below w.heap.size w w') : Rd w' T g l s := by
 have hlt := h.lt
 obtain ⟨A, n, c, h1, h2⟩ := h
 exact ⟨A, n, c, (hb.block g hlt).trans h1, h2.below hb⟩

theorem Sl.take {w : World} {A : Option Addr} {n c k : Nat} {l : List UInt8} (h : Sl w A n c l) (hk : k ≤ n) : Sl w A k c (l.take k) := by
 obtain ⟨h1, h2, h3, h4⟩ := h
 refine ⟨by rw [List.length_take]; omega, by omega, h3, fun hn => ?_⟩
 obtain ⟨g, o, e, hc⟩ := h4 (by omega)
 refine ⟨g, o, e, fun j b hj => hc j b ?_⟩
 rw [List.getElem?_take] at hj
 split at hj
 ·exact hj
 ·cases hj

theorem Sl.drop {w : World} {A : Option Addr} {n c k : Nat} {l : List UInt8} (h : Sl w A n c l) (hk : k ≤ n) :
  Sl w (if c = k then A else A.map (·.add (k * 1))) (n - k) (c - k) (l.drop k) := by
 obtain ⟨h1, h2, h3, h4⟩ := h
 refine ⟨by rw [List.length_drop]; omega, by omega, by omega, fun hn => ?_⟩
 obtain ⟨g, o, rfl, hc⟩ := h4 (by omega)
 rw [if_neg (by omega)]
 refine ⟨g, o + k, ?_, fun j b hj => ?_⟩
 ·by_cases h0 : k = 0
  ·subst h0; simp [Addr.add]
  ·simp [Addr.add, h0]
 ·rw [List.getElem?_drop] at hj
  rw [Nat.add_assoc]
  exact hc _ _ hj

/-- 'string(b)'. -/
theorem Sl.str {P : Program} {w : World} {A : Option Addr} {n c : Nat} {l : List UInt8} (h : Sl w A n c l) (src e dst : TypeId) (hs : P.underlying src = some (.slice e)) (he : P.underlying e = some (.int .u8)) (hd : P.underlying dst = some .string) :
  (convert src dst (.slice A n c)).run P w = .ok (.string ⟨l.toArray⟩) w := by
 obtain ⟨h1, h2, h3, h4⟩ := h
 rcases Nat.eq_zero_or_pos n with h0 | h0
 ·subst h0
  obtain rfl := List.eq_nil_of_length_eq_zero h1
  rcases A with _ | ad
  ·exact run_convert_bytes_nil w src e hs he _ _ dst hd
  ·exact run_convert_bytes_back w src dst e ad c [] hs he hd (fun j hj => absurd hj (by simp))
 ·obtain ⟨g, o, rfl, hc⟩ := h4 h0
  rw [← h1]
  refine run_convert_bytes_back w src dst e ⟨g, o, none⟩ c l hs he hd (fun j hj => ?_)
  rw [Addr.add_lit]
  exact hc j _ (List.getElem?_eq_getElem hj)

/-- What owns a row of bytes reads as these bytes. -/
theorem Sl.of_own {w : World} {base : Nat} {e : TypeId} {v : Value} {l : List UInt8} {n : Nat} (h : w.ownsRow base e 1 v n (l.map u8v)) : ∃ A c, v = .slice A n c ∧ Sl w A n c l := by
 have hl : l.length = n := by simpa using h.1
 rcases h.2 with ⟨rfl, rfl⟩ | ⟨g, cap, cur, rfl, _, hh, hn, hm, hs, ht⟩
 ·exact ⟨none, 0, rfl, hl, Nat.le_refl _, Nat.zero_le _, fun h => absurd h (by omega)⟩
 ·refine ⟨_, _, rfl, hl, hn, hm, fun _ => ⟨g, 0, rfl, fun j b hj => ?_⟩⟩
  have hjl : j < l.length := (List.getElem?_eq_some_iff.1 hj).1
  have e1 : cur.toList[j]? = some (u8v b) := by
   have : (cur.toList.take (n * 1))[j]? = some (u8v b) := by rw [ht]; simp [hj]
   rw [List.getElem?_take] at this
   split at this
   ·exact this
   ·cases this
  simp [World.cell?, hh]
  simpa using e1

/-- The cells of a slice, as the laws on append ask for them. -/
theorem Sl.cells {w : World} {A : Option Addr} {n c : Nat} {l : List UInt8} (h : Sl w A n c l) : ∀ ad, A = some ad → ∀ j u, (l.map u8v)[j]? = some u → w.cell? (ad.add j) = some u := by
 intro ad hA j u hu
 have hj : j < l.length := by
  have := (List.getElem?_eq_some_iff.1 hu).1
  simpa using this
 obtain ⟨g, o, e, hc⟩ := h.2.2.2 (by have := h.1; omega)
 rw [hA] at e
 obtain rfl := Option.some.inj e
 rw [Addr.add_lit, hc j _ (List.getElem?_eq_getElem hj)]
 simpa [List.getElem?_eq_getElem hj] using hu

theorem oneCell_u8 (l : List UInt8) : ∀ u ∈ l.map u8v, u.oneCell' = true := by
 intro u hu
 obtain ⟨_, _, rfl⟩ := List.mem_map.1 hu
 rfl

/-- append of bytes onto a row of the call's own, whatever the source. -/
theorem run_append_bytes {P : Program} (w : World) (base : Nat) (t ty e : TypeId) (i : TypeInfo) (z : Value) (ht : P.underlying t = some (.slice e)) (hi : P.info? e = some i) (hz : i.zero = some z)
  (hsize : i.size = 1) (hby : i.bytes = 1) (hzs : z.cells.size = 1)
  (v : Value) (n : Nat) (l : List UInt8) (hown : w.ownsRow base e 1 v n (l.map u8v))
  (A : Option Addr) (m c : Nat) (l2 : List UInt8) (hr : Sl w A m c l2)
  (h63 : n + m ≤ 140737488355328) (hbase : base ≤ w.heap.size) :
  ∃ v' w', (Builtin.append_ #[t, t] ty #[v, .slice A m c]).run P w = .ok v' w' ∧ w'.ownsRow base e 1 v' (n + m) ((l ++ l2).map u8v) ∧ w.grownBy w' v.ownBlock ∧
   (v'.ownBlock = v.ownBlock ∨ v'.ownBlock = some w.heap.size) := by
 have hlen : (l2.map u8v).length = m * 1 := by rw [List.length_map, hr.1]; omega
 rw [List.map_append]
 rcases A with _ | ad
 ·have hm : m = 0 := by
   rcases Nat.eq_zero_or_pos m with h0 | h0
   ·exact h0
   ·obtain ⟨g, o, h, _⟩ := hr.2.2.2 h0
    cases h
  subst hm
  have hn : l2 = [] := List.eq_nil_of_length_eq_zero hr.1
  subst hn
  refine ⟨v, w, ?_, by simpa using hown, World.grownBy.refl w _, .inl rfl⟩
  rcases hown.2 with ⟨rfl, rfl⟩ | ⟨g, cap, cur, rfl, _, _, hnc, _⟩
  ·simp [Builtin.append_, run_underlying ht, sizeOf, typeInfo, hi, Builtin.lenOf, Builtin.firstCells]
  ·simp [Builtin.append_, run_underlying ht, sizeOf, typeInfo, hi, Builtin.lenOf, Builtin.firstCells, hnc, storeCells]
 ·obtain ⟨v', w', h1, h2, h3, _, h5⟩ := run_append_own_at (P := P) w base t ty e i z 1 1 ht hi hz hsize hby hzs (by omega) v n (l.map u8v) hown ad m c (l2.map u8v) hlen (hr.cells ad rfl) (oneCell_u8 l2)
   (by unfold maxLen; omega) (by omega) hbase
  exact ⟨v', w', h1, h2, h3, h5⟩

/-- The same at the operation, for the walk. -/
theorem wpList_append_bytes {P : Program} (w : World) {ops : Array Oper} {rest : List Oper} {o : Oper} {a : Act} {Q : Exit → Act → World → Prop} (hgd : o.guard = none) (s x : Operand) (t : TypeId)
  (ho : o.op = .call { callee := .builtin .append, args := #[s, x], argTypes := #[t, t] })
  (base : Nat) (e : TypeId) (i : TypeInfo) (z : Value) (ht : P.underlying t = some (.slice e)) (hi : P.info? e = some i) (hz : i.zero = some z)
  (hsize : i.size = 1) (hby : i.bytes = 1) (hzs : z.cells.size = 1)
  (v : Value) (n : Nat) (l : List UInt8) (hs : a.eval s = v) (hown : w.ownsRow base e 1 v n (l.map u8v))
  (A : Option Addr) (m c : Nat) (l2 : List UInt8) (hx : a.eval x = .slice A m c) (hr : Sl w A m c l2)
  (h63 : n + m ≤ 140737488355328) (hbase : base ≤ w.heap.size)
  (h : ∀ v' w', w'.ownsRow base e 1 v' (n + m) ((l ++ l2).map u8v) → w.grownBy w' v.ownBlock → (v'.ownBlock = v.ownBlock ∨ v'.ownBlock = some w.heap.size) → wpList P ops Q rest (a.put o.dst v') w') :
  wpList P ops Q (o :: rest) a w := by
 refine wpList_plain hgd fun K hK => ?_
 obtain ⟨v', w', hr, h2, h3, h5⟩ := run_append_bytes (P := P) w base t o.type e i z ht hi hz hsize hby hzs v n l hown A m c l2 hr h63 hbase
 unfold Oper.wp execOp
 simp only [ho, resolve, invoke, builtin, Sem.run_bind, Sem.run_pure, Result.andThen_ok, List.map_toArray, List.map_cons, List.map_nil, hs, hx, hr]
 exact hK _ _ (h v' w' h2 h3 h5)

/-- A store into a Reader's first cell; into both. -/
theorem set_first {w : World} {T : TypeId} {g : Nat} {x y u : Value} (h : w.heap[g]? = some (.cells #[x, y] T (0, 0))) : (w.setCell ⟨g, 0, none⟩ u).heap[g]? = some (.cells #[u, y] T (0, 0)) := by
 simp [World.setCell, Array.getElem?_modify, h]
theorem grown_set {a w : World} {g : Nat} (h : a.grownBy w (some g)) (i : Nat) (u : Value) : a.grownBy (w.setCell ⟨g, i, none⟩ u) (some g) :=
 ⟨h.os, h.tape, h.output, by simpa [World.setCell] using h.size, fun k hk hne => (Below.heap_setCell w ⟨g, i, none⟩ u k (fun e => hne (by rw [e]))).trans (h.block k hk hne)⟩
theorem grown_of_below {a w : World} {row : Option Nat} (h : Below a.heap.size a w) : a.grownBy w row := ⟨h.os, h.tape, h.output, h.size, fun i hi _ => h.block i hi⟩

/-- A Reader that has been written anew: its rest a piece of what it was. -/
theorem Rd.set {w w' : World} {T : TypeId} {g : Nat} {l l' : List UInt8} {s s' : Bool} {A : Option Addr} {n c : Nat} (hr : Rd w T g l s) (hg : w.grownBy w' (some g)) (hb : w'.heap[g]? = some (.cells #[.slice A n c, .bool s'] T (0, 0)))
  (hs : Sl w A n c l') : Rd w' T g l' s' := ⟨A, n, c, hb, hs.far hr hg⟩

/-- The number that bytes spell, the first byte the greatest. -/
def be (l : List UInt8) : Nat := l.foldl (fun v b => v * 256 + b.toNat) 0
theorem be_snoc (l : List UInt8) (b : UInt8) : be (l ++ [b]) = be l * 256 + b.toNat := by simp [be, List.foldl_append]
theorem be_lt : ∀ (n : Nat) (l : List UInt8), l.length = n → be l < 256 ^ n := by
 intro n
 induction n with
 | zero => intro l hl; obtain rfl := List.eq_nil_of_length_eq_zero hl; simp [be]
 | succ n ih =>
  intro l hl
  have hne : l ≠ [] := by rintro rfl; simp at hl
  rw [← List.dropLast_concat_getLast hne, be_snoc]
  have h1 := ih l.dropLast (by simp; omega)
  have h2 := (l.getLast hne).toNat_lt
  rw [Nat.pow_succ]; omega

theorem or_u32 (v u : Nat) (hv : v < 16777216) (hu : u < 256) : bits .or .u32 ((v : Int) * 256) (u : Int) = ((v * 256 + u : Nat) : Int) := by
 have e1 : (v : Int) * 256 = ((v * 256 : Nat) : Int) := by omega
 rw [e1]
 show IntKind.u32.wrap ((BitVec.ofInt 32 ((v * 256 : Nat) : Int) ||| BitVec.ofInt 32 (u : Int)).toNat : Int) = _
 rw [BitVec.toNat_or, BitVec.ofInt_natCast, BitVec.ofInt_natCast, BitVec.toNat_ofNat, BitVec.toNat_ofNat, Nat.mod_eq_of_lt (by omega), Nat.mod_eq_of_lt (by omega)]
 have e2 : v * 256 ||| u = v * 256 + u := by
  have := Nat.two_pow_add_eq_or_of_lt (i := 8) (b := u) (by omega) v
  rw [Nat.mul_comm] at this
  exact this.symm
 rw [e2]
 simp [IntKind.wrap, IntKind.signed, IntKind.bits]
 omega

/-- A new block of bytes. -/
theorem Sl.made (w : World) (T : TypeId) (l : List UInt8) (h : l.length ≤ maxLen) : Sl (w.alloc (.cells (l.map u8v).toArray T)) (some ⟨w.heap.size, 0, none⟩) l.length l.length l := by
 refine ⟨rfl, Nat.le_refl _, h, fun _ => ⟨_, _, rfl, fun j b hj => ?_⟩⟩
 have h1 := heap_alloc_new w (.cells (l.map u8v).toArray T)
 simp only [World.cell?, h1]
 simp [hj]

/-- The byte of a number. -/
def byteOf (v : Int) : UInt8 := UInt8.ofNat (v % 256).toNat
theorem byteOf_val (v : Int) : ((byteOf v).toNat : Int) = v % 256 := by
 have h1 : 0 ≤ v % 256 := Int.emod_nonneg _ (by omega)
 have h2 : v % 256 < 256 := Int.emod_lt_of_pos _ (by omega)
 unfold byteOf
 rw [UInt8.toNat_ofNat']
 omega
/-- A number in two bytes, in four. -/
def two (v : Int) : List UInt8 := [byteOf (v / 256), byteOf v]
def four (v : Int) : List UInt8 := [byteOf (v / 16777216), byteOf (v / 65536), byteOf (v / 256), byteOf v]

theorem byteOf_mod (v : Int) (m : Int) (h : m % 256 = 0) : byteOf (v % m) = byteOf v := by
 unfold byteOf
 rw [Int.emod_emod_of_dvd v (Int.dvd_of_emod_eq_zero h)]
theorem four_two (v : Int) : two (v / 65536) ++ two (v % 65536) = four v := by
 have e1 : v / 65536 / 256 = v / 16777216 := by omega
 have e2 : byteOf (v % 65536 / 256) = byteOf (v / 256) := by
  unfold byteOf
  have : v % 65536 / 256 % 256 = v / 256 % 256 := by omega
  rw [this]
 simp [two, four, e1, e2, byteOf_mod]

theorem be_two (a b : UInt8) : be [a, b] = a.toNat * 256 + b.toNat := by simp [be]
theorem be_from (t : List UInt8) : ∀ a : Nat, t.foldl (fun v b => v * 256 + b.toNat) a = a * 256 ^ t.length + be t := by
 unfold be
 induction t with
 | nil => intro a; simp
 | cons b t ih =>
  intro a
  rw [List.foldl_cons, ih, List.foldl_cons, ih (0 * 256 + b.toNat), List.length_cons, Nat.pow_succ, Nat.add_mul, Nat.zero_mul, Nat.zero_add, Nat.mul_assoc, Nat.mul_comm 256, Nat.add_assoc]
theorem be_append (l t : List UInt8) : be (l ++ t) = be l * 256 ^ t.length + be t := by
 show (l ++ t).foldl _ 0 = _
 rw [List.foldl_append, be_from]
 rfl
theorem be_byteOf (v : Int) : (be (two v) : Int) = v % 65536 := by
 rw [two, be_two]
 have h1 := byteOf_val (v / 256)
 have h2 := byteOf_val v
 rw [Int.natCast_add, Int.natCast_mul, h1, h2]
 omega
theorem be_four (v : Int) : (be (four v) : Int) = v % 4294967296 := by
 rw [← four_two, be_append, Int.natCast_add, Int.natCast_mul, be_byteOf, be_byteOf]
 show v / 65536 % 65536 * (((256 : Nat) ^ 2 : Nat) : Int) + v % 65536 % 65536 = _
 omega

/-- A Reader stays as it is while another one reads. -/
theorem Rd.far {w w' : World} {T : TypeId} {g s : Nat} {l l' : List UInt8} {b b' : Bool} (h : Rd w T g l b) (hs : Rd w T s l' b') (hne : g ≠ s) (hg : w.grownBy w' (some s)) : Rd w' T g l b := by
 have hlt := h.lt
 obtain ⟨A, n, c, h1, h2⟩ := h
 exact ⟨A, n, c, (hg.block g hlt (fun e => hne (by injection e))).trans h1, h2.far hs hg⟩

theorem i64_and65535 (n : Int) : bits .and .i64 n 65535 = n % 65536 := by
 have hm : (BitVec.ofInt 64 65535).toNat = 2 ^ 16 - 1 := by decide
 have key : (BitVec.ofInt 64 n &&& BitVec.ofInt 64 65535).toNat = (n % ((2 ^ 64 : Nat) : Int)).toNat % 2 ^ 16 := by
  rw [BitVec.toNat_and, BitVec.toNat_ofInt, hm, Nat.and_two_pow_sub_one_eq_mod]
 show IntKind.i64.wrap ((BitVec.ofInt 64 n &&& BitVec.ofInt 64 65535).toNat : Nat) = n % 65536
 rw [key, IntKind.wrap_i64]
 omega
open Go.RowKit

/-- An operation under a guard that holds. -/
theorem wpList_wanted {P : Program} {ops : Array Oper} {Q : Exit → Act → World → Prop} {a : Act} {w : World} {rest : List Oper} {o : Oper} (hw : Region.wanted o (yielded ops a.tmps) = true)
  (h : ∀ K : Act → World → Prop, (∀ a w, wpList P ops Q rest a w → K a w) → o.wp P a w K Q) : wpList P ops Q (o :: rest) a w :=
 wpList_step fun K hK => by rw [if_pos hw]; exact h K hK

/-- A block of the call's own whose first bytes read as l. -/
def Ow (T : TypeId) (w : World) (g c : Nat) (l : List UInt8) : Prop :=
 l.length ≤ c ∧ c ≤ maxLen ∧ ∃ cur : Array Value, w.heap[g]? = some (.cells cur T (0, 0)) ∧ ∀ (j : Nat) (b : UInt8), l[j]? = some b → cur[j]? = some (u8v b)
theorem Ow.of_own {T : TypeId} {w : World} {base : Nat} {v : Value} {l : List UInt8} {n : Nat} (h : w.ownsRow base T 1 v n (l.map u8v)) (hn : 0 < n) :
  ∃ g c, v = .slice (some ⟨g, 0, none⟩) n c ∧ Ow T w g c l ∧ base ≤ g ∧ n = l.length := by
 have hl : l.length = n := by simpa using h.1
 rcases h.2 with ⟨rfl, rfl⟩ | ⟨g, cap, cur, rfl, hb, hh, hnc, hm, hs, ht⟩
 ·omega
 ·refine ⟨g, cap, rfl, ⟨by rw [hl]; exact hnc, hm, cur, hh, fun j b hj => ?_⟩, hb, hl.symm⟩
  have hjl : j < l.length := (List.getElem?_eq_some_iff.1 hj).1
  have e1 : (cur.toList.take (n * 1))[j]? = some (u8v b) := by rw [ht]; simp [hj]
  rw [List.getElem?_take] at e1
  split at e1
  ·simpa using e1
  ·cases e1
theorem Ow.lt {T : TypeId} {w : World} {g c : Nat} {l : List UInt8} (h : Ow T w g c l) : g < w.heap.size := by
 obtain ⟨_, _, cur, hh, _⟩ := h
 exact (Array.getElem?_eq_some_iff.1 hh).1
theorem Ow.sl {T : TypeId} {w : World} {g c : Nat} {l : List UInt8} (h : Ow T w g c l) : Sl w (some ⟨g, 0, none⟩) l.length c l := by
 obtain ⟨h1, h2, cur, hh, hc⟩ := h
 refine ⟨rfl, h1, h2, fun _ => ⟨g, 0, rfl, fun j b hj => ?_⟩⟩
 have := hc j b hj
 simp [World.cell?, hh, this]
theorem Ow.cell {T : TypeId} {w : World} {g c : Nat} {l : List UInt8} (h : Ow T w g c l) (j : Nat) (hj : j < l.length) : w.cell? ⟨g, j, none⟩ = some (.int .u8 (l[j].toNat : Int)) ∧ w.frozen? ⟨g, j, none⟩ = false := by
 obtain ⟨h1, h2, cur, hh, hc⟩ := h
 have := hc j _ (List.getElem?_eq_getElem hj)
 exact ⟨by simp [World.cell?, hh, this, u8v], by simp [World.frozen?, hh]⟩
theorem Ow.at_ {T : TypeId} {w : World} {g c : Nat} {l : List UInt8} (h : Ow T w g c l) (j : Nat) (hj : j < l.length) : ∃ x : UInt8, Hid (l[j]? = some x) ∧ w.cell? ⟨g, j, none⟩ = some (.int .u8 (x.toNat : Int)) ∧ w.frozen? ⟨g, j, none⟩ = false :=
 ⟨l[j], Lib.hid (List.getElem?_eq_getElem hj), h.cell j hj⟩
theorem Ow.set {T : TypeId} {w : World} {g c : Nat} {l : List UInt8} (h : Ow T w g c l) (j : Nat) (b : UInt8) : Ow T (w.setCell ⟨g, j, none⟩ (u8v b)) g c (l.set j b) := by
 obtain ⟨h1, h2, cur, hh, hc⟩ := h
 refine ⟨by simpa using h1, h2, cur.setIfInBounds j (u8v b), by simp [World.setCell, Array.getElem?_modify, hh], fun i x hi => ?_⟩
 rw [List.getElem?_set] at hi
 rw [Array.getElem?_setIfInBounds]
 by_cases hij : j = i
 ·subst hij
  rw [if_pos rfl] at hi ⊢
  split at hi
  ·rename_i hjl
   have hj := hc j _ (List.getElem?_eq_getElem hjl)
   have hjs : j < cur.size := (Array.getElem?_eq_some_iff.1 hj).1
   simp at hi
   rw [if_pos hjs, hi]
  ·cases hi
 ·rw [if_neg hij] at hi ⊢
  exact hc i x hi
theorem Ow.below {T : TypeId} {w w' : World} {g c : Nat} {l : List UInt8} (h : Ow T w g c l) (hb : Below w.heap.size w w') : Ow T w' g c l := by
 have hlt := h.lt
 obtain ⟨h1, h2, cur, hh, hc⟩ := h
 exact ⟨h1, h2, cur, (hb.block g hlt).trans hh, hc⟩


/-- append of bytes as one step of a region that draws its order ('rw [if_pos (by rfl)]' ahead of it). -/
theorem wp_append_bytes {P : Program} {o : Oper} {a : Act} {w : World} {K : Act → World → Prop} {Q : Exit → Act → World → Prop} (s x : Operand) (t : TypeId)
  (ho : o.op = .call { callee := .builtin .append, args := #[s, x], argTypes := #[t, t] })
  (base : Nat) (e : TypeId) (i : TypeInfo) (z : Value) (ht : P.underlying t = some (.slice e)) (hi : P.info? e = some i) (hz : i.zero = some z)
  (hsize : i.size = 1) (hby : i.bytes = 1) (hzs : z.cells.size = 1)
  (v : Value) (n : Nat) (l : List UInt8) (hs : a.eval s = v) (hown : w.ownsRow base e 1 v n (l.map u8v))
  (A : Option Addr) (m c : Nat) (l2 : List UInt8) (hx : a.eval x = .slice A m c) (hr : Sl w A m c l2)
  (h63 : n + m ≤ 140737488355328) (hbase : base ≤ w.heap.size)
  (h : ∀ v' w', w'.ownsRow base e 1 v' (n + m) ((l ++ l2).map u8v) → w.grownBy w' v.ownBlock → (v'.ownBlock = v.ownBlock ∨ v'.ownBlock = some w.heap.size) → K (a.put o.dst v') w') :
  Oper.wp P o a w K Q := by
 obtain ⟨v', w', hr, h2, h3, h5⟩ := run_append_bytes (P := P) w base t o.type e i z ht hi hz hsize hby hzs v n l hown A m c l2 hr h63 hbase
 unfold Oper.wp execOp
 simp only [ho, resolve, invoke, builtin, Sem.run_bind, Sem.run_pure, Result.andThen_ok, List.map_toArray, List.map_cons, List.map_nil, hs, hx, hr]
 exact h v' w' h2 h3 h5

open Go.RowKit

theorem Tryz.info5 : (Tryz.prog.info? 5).map (fun i => (i.zero, i.size, i.bytes)) = some (some (.int .u8 0), 1, 1) := by kernel_rfl

set_option maxHeartbeats 400000 in
theorem join_any (A B : Option Addr) (n c m d : Nat) (l t : List UInt8) (w : World) (hl : Sl w A n c l) (ht : Sl w B m d t) (hs : n + m ≤ 140737488355328) :
  Calls Tryz.prog 81 #[.slice A n c, .slice B m d] w fun e w' => ∃ A' c', e = .returned (.slice A' (n + m) c') ∧ Sl w' A' (n + m) c' (l ++ t) ∧ Below w.heap.size w w' := by
 obtain ⟨i, hi, hz0, hz1, hz2⟩ := info_parts Tryz.info5
 have hb1 : (0 : Int) ≤ n := by omega
 have hb2 : (0 : Int) ≤ m := by omega
 have hb3 : (n : Int) + m ≤ 140737488355328 := by omega
 go_enter Tryz.func81, Tryz.ntmps81
 go_wp2_with (at_make; refine wpList_make_own _ rfl _ _ 36 rfl w.heap.size 5 i (.int .u8 0) 1 Tryz.underlying36 hi hz0 hz1 _ _ _ (n + m) rfl rfl ?b1 ?b2 ?b3 (Nat.le_refl _) ?_)
 case b1 => simp
 case b2 => rw [hz2]; omega
 case b3 => unfold maxLen; omega
 intro w1 hown hg1
 have bel1 : Below w.heap.size w w1 := (Below.refl _ _).grown hg1 (Nat.le_refl _) (fun k h => by cases h)
 have hsz : w.heap.size ≤ w1.heap.size := bel1.size
 go_wp2_with (at_builtin; refine wpList_append_bytes w1 rfl (.tmp 12) (.tmp 13) 36 rfl w.heap.size 5 i (.int .u8 0) Tryz.underlying36 hi hz0 hz1 hz2 rfl _ 0 [] rfl hown A n c l rfl (hl.below bel1) ?c1 ?c2 ?_)
 case c1 => omega
 case c2 => exact hsz
 intro v2 w2 hown2 hg2 hat2
 have bel2 : Below w.heap.size w w2 := bel1.grown hg2 hsz (fun k h => by simp [Value.ownBlock] at h; omega)
 have hv2 : ∀ k, v2.ownBlock = some k → w.heap.size ≤ k := by
  intro k hk
  rcases hat2 with h | h
  ·rw [h] at hk; simp [Value.ownBlock] at hk; omega
  ·rw [h] at hk; simp at hk; omega
 clear hat2
 go_wp2_with (at_builtin; refine wpList_append_bytes w2 rfl (.tmp 15) (.tmp 16) 36 rfl w.heap.size 5 i (.int .u8 0) Tryz.underlying36 hi hz0 hz1 hz2 rfl _ n l rfl hown2 B m d t rfl (ht.below bel2) ?c1 ?c2 ?_)
 case c1 => omega
 case c2 => exact bel2.size
 intro v3 w3 hown3 hg3 hat3
 have bel3 : Below w.heap.size w w3 := bel2.grown hg3 bel2.size hv2
 clear hat3 hv2
 rw [← List.map_append] at hown3
 obtain ⟨A', c', rfl, hsl⟩ := Sl.of_own hown3
 go_wp2
 go_ret
 exact ⟨A', c', rfl, hsl, bel3⟩

/-- Read. -/
theorem read_any (A : Option Addr) (n c : Nat) (l : List UInt8) (w : World) (hl : Sl w A n c l) (hs : n ≤ 140737488355328) :
  Calls Tryz.prog 41 #[.slice A n c] w fun e w' => ∃ g, e = .returned (.pointer (some ⟨g, 0, none⟩)) ∧ Rd w' 134 g l false ∧ Below w.heap.size w w' ∧ w.heap.size ≤ g := by
 go_enter Tryz.func41, Tryz.ntmps41
 go_wp2_with (go_at_call 81; refine (join_any A none n c 0 0 l [] w hl (Sl.nil w) (by omega)).mono ?_; rintro e w1 ⟨A', c', rfl, hsl, bel⟩)
 go_ret
 have hn : Below w1.heap.size w1 (w1.alloc (Obj.cells #[Value.slice A' n c', Value.bool false] 134)) := (Below.refl _ _).alloc (Nat.le_refl _) _
 refine ⟨w1.heap.size, rfl, ⟨A', n, c', heap_alloc_new w1 _, ?_⟩, bel.alloc bel.size _, bel.size⟩
 simp only [Nat.add_zero, List.append_nil] at hsl
 exact hsl.below hn

theorem take_yes (g : Nat) (l : List UInt8) (s : Bool) (k : Nat) (w : World) (hr : Rd w 134 g l s) (hk : k ≤ l.length) :
  Calls Tryz.prog 84 #[.pointer (some ⟨g, 0, none⟩), .int .i64 k] w fun e w' => ∃ A c, e = .returned (.slice A k c) ∧ Sl w' A k c (l.take k) ∧ Rd w' 134 g (l.drop k) s ∧ w.grownBy w' (some g) := by
 have hr' := hr
 obtain ⟨A, n, c, hb, hsl⟩ := hr'
 have hn := hsl.1
 obtain ⟨hc0, hc1⟩ := cell_of_rd hb
 have hf0 : w.frozen? ⟨g, 0, none⟩ = false := by simp [World.frozen?, hb]
 have hf1 : w.frozen? ⟨g, 1, none⟩ = false := by simp [World.frozen?, hb]
 have hcap := hsl.2.1
 have b0 : (0 : Int) ≤ k := by omega
 have b1 : (k : Int) ≤ n := by omega
 have b2 : (n : Int) ≤ c := by omega
 have b3 : k ≤ n := by omega
 have hd := hsl.drop b3
 have ht := hsl.take b3
 by_cases hck : c = k
 ·rw [if_pos hck] at hd
  have hg : w.grownBy (w.setCell ⟨g, 0, none⟩ (.slice A (n - k) (c - k))) (some g) := grown_set (World.grownBy.refl w _) 0 _
  have R : Rd (w.setCell ⟨g, 0, none⟩ (.slice A (n - k) (c - k))) 134 g (l.drop k) s := hr.set hg (set_first hb) hd
  have T := ht.far hr hg
  clear hn hb hd ht hsl
  subst hck
  have b4 : n = c := by omega
  subst b4
  simp only [Nat.sub_self] at R T hg
  go_enter Tryz.func84, Tryz.ntmps84
  go_wp2
  go_ret
  exact ⟨A, n, rfl, T, R, hg⟩
 ·rw [if_neg hck] at hd
  simp only [Nat.mul_one] at hd
  have hg : w.grownBy (w.setCell ⟨g, 0, none⟩ (.slice (A.map fun x => x.add k) (n - k) (c - k))) (some g) := grown_set (World.grownBy.refl w _) 0 _
  have R : Rd (w.setCell ⟨g, 0, none⟩ (.slice (A.map fun x => x.add k) (n - k) (c - k))) 134 g (l.drop k) s := hr.set hg (set_first hb) hd
  have T := ht.far hr hg
  clear hn hb hd ht hsl
  have h0 : ¬ k = c := fun e => hck e.symm
  go_enter Tryz.func84, Tryz.ntmps84
  go_wp2
  all_goals (go_ret; exact ⟨A, c, rfl, T, R, hg⟩)

theorem number_yes (g : Nat) (l : List UInt8) (s : Bool) (k : Nat) (w : World) (hr : Rd w 134 g l s) (hk : k ≤ l.length) (h4 : k ≤ 4) (h0 : 0 < k) :
  Calls Tryz.prog 82 #[.pointer (some ⟨g, 0, none⟩), .int .i64 k] w fun e w' => e = .returned (.int .u32 (be (l.take k))) ∧ Rd w' 134 g (l.drop k) s ∧ w.grownBy w' (some g) := by
 go_enter Tryz.func82, Tryz.ntmps82
 go_wp2_with (go_at_call 84; refine (take_yes g l s k _ hr hk).mono ?_; rintro e w1 ⟨A, c, rfl, hsl, hr1, hg1⟩)
 obtain ⟨d, o, rfl, hc⟩ := hsl.2.2.2 h0
 have hlen := hsl.1
 obtain ⟨t, HT⟩ : ∃ t, Hid (l.take k = t) := ⟨_, rfl⟩
 rw [HT.out] at hc hlen
 clear hsl
 go_loop [5, 12] (fun v i => ∃ j : Nat, j ≤ k ∧ i = .int .i64 j ∧ v = .int .u32 (be (t.take j))) (fun _ i => k - (intOf i).toNat)
 case atStart => exact ⟨0, by omega, rfl, rfl⟩
 case round =>
  obtain ⟨j, hj, rfl, rfl⟩ := hrel
  have b0 : (0 : Int) ≤ k := by omega
  have b1 : (k : Int) ≤ 4 := by omega
  have b2 : (0 : Int) ≤ j := by omega
  by_cases hlt : j < k
  ·have hjl : j < t.length := by omega
   have hcell := hc j _ (List.getElem?_eq_getElem hjl)
   have hbe : be (t.take (j + 1)) = be (t.take j) * 256 + t[j].toNat := by
    rw [List.take_succ_eq_append_getElem hjl, be_snoc]
   have hv : be (t.take j) < 256 ^ j := be_lt j _ (by rw [List.length_take]; omega)
   have hv' : (256 : Nat) ^ j ≤ 256 ^ 3 := Nat.pow_le_pow_right (by omega) (by omega)
   have hu := t[j].toNat_lt
   unfold u8v at hcell
   generalize t[j].toNat = u at *
   clear hc hlen hr1 hr hg1
   have HBE : Hid (be (t.take (j + 1)) = be (t.take j) * 256 + u) := hbe
   clear hbe
   generalize be (t.take j) = v at *
   have b3 : (0 : Int) ≤ v := by omega
   have b4 : (v : Int) < 16777216 := by omega
   have b5 : (0 : Int) ≤ u := by omega
   have b6 : (u : Int) < 256 := by omega
   clear hv hv'
   have hor := or_u32 v u (by omega) (by omega)
   go_wp2
   go_round
   case rel => exact ⟨j + 1, by omega, by go_num, by rw [HBE.out]; go_num⟩
   case measure => simp [intOf]; omega
  ·go_wp2
   obtain rfl : j = k := by omega
   go_ret
   refine ⟨?_, hr1, hg1⟩
   rw [HT.out]
   show Ending.returned (.int .u32 (be (t.take j))) = _
   rw [List.take_of_length_le (by omega)]

theorem u16_yes (g : Nat) (l : List UInt8) (s : Bool) (w : World) (hr : Rd w 134 g l s) (hk : 2 ≤ l.length) :
  Calls Tryz.prog 43 #[.pointer (some ⟨g, 0, none⟩)] w fun e w' => e = .returned (.int .i64 (be (l.take 2))) ∧ Rd w' 134 g (l.drop 2) s ∧ w.grownBy w' (some g) := by
 have hlt := be_lt 2 (l.take 2) (by rw [List.length_take]; omega)
 have b1 : (be (l.take 2) : Int) < 65536 := by omega
 have b0 : 0 ≤ (be (l.take 2) : Int) := by omega
 go_enter Tryz.func43, Tryz.ntmps43
 go_wp2_with (go_at_call 82; refine (number_yes g l s 2 _ hr hk (by omega) (by omega)).mono ?_; rintro e w1 ⟨rfl, hr1, hg1⟩)
 go_ret
 exact ⟨rfl, hr1, hg1⟩
/-- Left, Short. -/
theorem left_any (g : Nat) (l : List UInt8) (s : Bool) (w : World) (hr : Rd w 134 g l s) :
  Calls Tryz.prog 48 #[.pointer (some ⟨g, 0, none⟩)] w fun e w' => e = .returned (.int .i64 l.length) ∧ w = w' := by
 obtain ⟨A, n, c, hb, hsl⟩ := hr
 obtain ⟨hc0, hc1⟩ := cell_of_rd hb
 obtain rfl := hsl.1
 clear hsl hb
 go_enter Tryz.func48, Tryz.ntmps48
 go_wp2
 go_ret
 exact ⟨rfl, rfl⟩
theorem short_any (g : Nat) (l : List UInt8) (s : Bool) (w : World) (hr : Rd w 134 g l s) :
  Calls Tryz.prog 45 #[.pointer (some ⟨g, 0, none⟩)] w fun e w' => e = .returned (.bool s) ∧ w = w' := by
 obtain ⟨A, n, c, hb, hsl⟩ := hr
 obtain ⟨hc0, hc1⟩ := cell_of_rd hb
 clear hsl hb
 go_enter Tryz.func45, Tryz.ntmps45
 go_wp2
 go_ret
 exact ⟨rfl, rfl⟩
open Go.RowKit

/-- A Reader at block g whose rest, where it is not empty, lies in a block below B. -/
def Rb (w : World) (T : TypeId) (g B : Nat) (l : List UInt8) (s : Bool) : Prop :=
 ∃ A n c, w.heap[g]? = some (.cells #[.slice A n c, .bool s] T (0, 0)) ∧ Sl w A n c l ∧ (0 < n → ∃ a o, A = some ⟨a, o, none⟩ ∧ a < B)
theorem Rb.rd {w : World} {T : TypeId} {g B : Nat} {l : List UInt8} {s : Bool} (h : Rb w T g B l s) : Rd w T g l s := by
 obtain ⟨A, n, c, h1, h2, _⟩ := h
 exact ⟨A, n, c, h1, h2⟩
theorem Rd.rb {w : World} {T : TypeId} {g : Nat} {l : List UInt8} {s : Bool} (h : Rd w T g l s) : Rb w T g w.heap.size l s := by
 obtain ⟨A, n, c, h1, h2⟩ := h
 refine ⟨A, n, c, h1, h2, fun hn => ?_⟩
 obtain ⟨a, o, e, hc⟩ := h2.2.2.2 hn
 have h0 : 0 < l.length := by have := h2.1; omega
 exact ⟨a, o, e, cell_lt (hc 0 _ (List.getElem?_eq_getElem h0))⟩
theorem Rb.below {w w' : World} {T : TypeId} {g B : Nat} {l : List UInt8} {s : Bool} (h : Rb w T g B l s) (hb : Below w.heap.size w w') : Rb w' T g B l s := by
 have hlt := h.rd.lt
 obtain ⟨A, n, c, h1, h2, h3⟩ := h
 exact ⟨A, n, c, (hb.block g hlt).trans h1, h2.below hb, h3⟩
/-- A store into a block that is neither the Reader's nor below the bound. -/
theorem Rb.setCell {w : World} {T : TypeId} {g B q : Nat} {l : List UInt8} {s : Bool} (h : Rb w T g B l s) (hq : B ≤ q) (hne : q ≠ g) (i : Nat) (u : Value) : Rb (w.setCell ⟨q, i, none⟩ u) T g B l s := by
 obtain ⟨A, n, c, h1, h2, h3⟩ := h
 have other : ∀ k, k ≠ q → (w.setCell ⟨q, i, none⟩ u).heap[k]? = w.heap[k]? := fun k hk => Below.heap_setCell w ⟨q, i, none⟩ u k (fun e => hk (by rw [e]))
 refine ⟨A, n, c, (other g (Ne.symm hne)).trans h1, ⟨h2.1, h2.2.1, h2.2.2.1, fun hn => ?_⟩, h3⟩
 obtain ⟨a, o, e, hc⟩ := h2.2.2.2 hn
 obtain ⟨a', o', e', hlt⟩ := h3 hn
 rw [e] at e'
 obtain ⟨rfl, rfl⟩ : a = a' ∧ o = o' := by injection e' with e'; injection e' with e1 e2; exact ⟨e1, e2⟩
 refine ⟨a, o, e, fun j b hj => ?_⟩
 exact (World.cell?_of_block (w := w) (other a (by omega))).trans (hc j b hj)
theorem Rb.set {w w' : World} {T : TypeId} {g B : Nat} {l l' : List UInt8} {s s' : Bool} {A : Option Addr} {n c : Nat} (hr : Rb w T g B l s) (hg : w.grownBy w' (some g)) (hb : w'.heap[g]? = some (.cells #[.slice A n c, .bool s'] T (0, 0)))
  (hs : Sl w A n c l') (hB : 0 < n → ∃ a o, A = some ⟨a, o, none⟩ ∧ a < B) : Rb w' T g B l' s' := ⟨A, n, c, hb, hs.far hr.rd hg, hB⟩
open Go.RowKit

/-- What is not empty lies in a block from B on. -/
def Fr (B : Nat) (A : Option Addr) (n : Nat) : Prop := 0 < n → ∃ a o, A = some ⟨a, o, none⟩ ∧ B ≤ a
theorem Fr.mono {B C : Nat} {A : Option Addr} {n : Nat} (h : Fr B A n) (hc : C ≤ B) : Fr C A n := fun hn => by
 obtain ⟨a, o, e, hb⟩ := h hn
 exact ⟨a, o, e, Nat.le_trans hc hb⟩
theorem Sl.of_own_f {w : World} {base : Nat} {e : TypeId} {v : Value} {l : List UInt8} {n : Nat} (h : w.ownsRow base e 1 v n (l.map u8v)) : ∃ A c, v = .slice A n c ∧ Sl w A n c l ∧ Fr base A n := by
 obtain ⟨A, c, rfl, hs⟩ := Sl.of_own h
 refine ⟨A, c, rfl, hs, fun hn => ?_⟩
 rcases h.2 with ⟨e1, rfl⟩ | ⟨g, cap, cur, e1, hb, _⟩
 ·omega
 ·injection e1 with e2
  exact ⟨g, 0, e2, hb⟩
/-- A store elsewhere. -/
theorem Sl.setCell {w : World} {A : Option Addr} {n c : Nat} {l : List UInt8} {B k : Nat} (h : Sl w A n c l) (hf : Fr B A n) (hk : k < B) (i : Nat) (u : Value) : Sl (w.setCell ⟨k, i, none⟩ u) A n c l := by
 refine ⟨h.1, h.2.1, h.2.2.1, fun hn => ?_⟩
 obtain ⟨a, o, e, hc⟩ := h.2.2.2 hn
 obtain ⟨a', o', e', hlt⟩ := hf hn
 rw [e] at e'
 obtain ⟨rfl, rfl⟩ : a = a' ∧ o = o' := by injection e' with e'; injection e' with e1 e2; exact ⟨e1, e2⟩
 refine ⟨a, o, e, fun j b hj => ?_⟩
 exact (World.cell?_of_block (w := w) (Below.heap_setCell w ⟨k, i, none⟩ u a (by show a ≠ k; omega))).trans (hc j b hj)
theorem Sl.grown {w w' : World} {A : Option Addr} {n c : Nat} {l : List UInt8} {B g : Nat} (h : Sl w A n c l) (hf : Fr B A n) (hg : w.grownBy w' (some g)) (hk : g < B) : Sl w' A n c l := by
 refine ⟨h.1, h.2.1, h.2.2.1, fun hn => ?_⟩
 obtain ⟨a, o, e, hc⟩ := h.2.2.2 hn
 obtain ⟨a', o', e', hlt⟩ := hf hn
 rw [e] at e'
 obtain ⟨rfl, rfl⟩ : a = a' ∧ o = o' := by injection e' with e'; injection e' with e1 e2; exact ⟨e1, e2⟩
 refine ⟨a, o, e, fun j b hj => ?_⟩
 have hne : (some a : Option Nat) ≠ some g := fun h => by injection h with h; omega
 exact (World.cell?_of_block (w := w) (hg.block a (cell_lt (hc j b hj)) hne)).trans (hc j b hj)

set_option maxHeartbeats 400000 in
theorem join_f (A B : Option Addr) (n c m d : Nat) (l t : List UInt8) (w : World) (hl : Sl w A n c l) (ht : Sl w B m d t) (hs : n + m ≤ 140737488355328) :
  Calls Tryz.prog 81 #[.slice A n c, .slice B m d] w fun e w' => ∃ A' c', e = .returned (.slice A' (n + m) c') ∧ Sl w' A' (n + m) c' (l ++ t) ∧ Below w.heap.size w w' ∧ Fr w.heap.size A' (n + m) := by
 obtain ⟨i, hi, hz0, hz1, hz2⟩ := info_parts Tryz.info5
 have hb1 : (0 : Int) ≤ n := by omega
 have hb2 : (0 : Int) ≤ m := by omega
 have hb3 : (n : Int) + m ≤ 140737488355328 := by omega
 go_enter Tryz.func81, Tryz.ntmps81
 go_wp2_with (at_make; refine wpList_make_own _ rfl _ _ 36 rfl w.heap.size 5 i (.int .u8 0) 1 Tryz.underlying36 hi hz0 hz1 _ _ _ (n + m) rfl rfl ?b1 ?b2 ?b3 (Nat.le_refl _) ?_)
 case b1 => simp
 case b2 => rw [hz2]; omega
 case b3 => unfold maxLen; omega
 intro w1 hown hg1
 have bel1 : Below w.heap.size w w1 := (Below.refl _ _).grown hg1 (Nat.le_refl _) (fun k h => by cases h)
 have hsz : w.heap.size ≤ w1.heap.size := bel1.size
 go_wp2_with (at_builtin; refine wpList_append_bytes w1 rfl (.tmp 12) (.tmp 13) 36 rfl w.heap.size 5 i (.int .u8 0) Tryz.underlying36 hi hz0 hz1 hz2 rfl _ 0 [] rfl hown A n c l rfl (hl.below bel1) ?c1 ?c2 ?_)
 case c1 => omega
 case c2 => exact hsz
 intro v2 w2 hown2 hg2 hat2
 have bel2 : Below w.heap.size w w2 := bel1.grown hg2 hsz (fun k h => by simp [Value.ownBlock] at h; omega)
 have hv2 : ∀ k, v2.ownBlock = some k → w.heap.size ≤ k := by
  intro k hk
  rcases hat2 with h | h
  ·rw [h] at hk; simp [Value.ownBlock] at hk; omega
  ·rw [h] at hk; simp at hk; omega
 clear hat2
 go_wp2_with (at_builtin; refine wpList_append_bytes w2 rfl (.tmp 15) (.tmp 16) 36 rfl w.heap.size 5 i (.int .u8 0) Tryz.underlying36 hi hz0 hz1 hz2 rfl _ n l rfl hown2 B m d t rfl (ht.below bel2) ?c1 ?c2 ?_)
 case c1 => omega
 case c2 => exact bel2.size
 intro v3 w3 hown3 hg3 hat3
 have bel3 : Below w.heap.size w w3 := bel2.grown hg3 bel2.size hv2
 clear hat3 hv2
 rw [← List.map_append] at hown3
 obtain ⟨A', c', rfl, hsl, hfr⟩ := Sl.of_own_f hown3
 go_wp2
 go_ret
 exact ⟨A', c', rfl, hsl, bel3, hfr⟩

open Go.RowKit

/-- append of bytes: nothing below the row's bound changes. -/
theorem wpList_append_bb {P : Program} (w : World) {ops : Array Oper} {rest : List Oper} {o : Oper} {a : Act} {Q : Exit → Act → World → Prop} (hgd : o.guard = none) (s x : Operand) (t : TypeId)
  (ho : o.op = .call { callee := .builtin .append, args := #[s, x], argTypes := #[t, t] })
  (base : Nat) (e : TypeId) (i : TypeInfo) (z : Value) (ht : P.underlying t = some (.slice e)) (hi : P.info? e = some i) (hz : i.zero = some z)
  (hsize : i.size = 1) (hby : i.bytes = 1) (hzs : z.cells.size = 1)
  (v : Value) (n : Nat) (l : List UInt8) (hs : a.eval s = v) (hown : w.ownsRow base e 1 v n (l.map u8v))
  (A : Option Addr) (m c : Nat) (l2 : List UInt8) (hx : a.eval x = .slice A m c) (hr : Sl w A m c l2)
  (h63 : n + m ≤ 140737488355328) (hbase : base ≤ w.heap.size)
  (h : ∀ v' w', w'.ownsRow base e 1 v' (n + m) ((l ++ l2).map u8v) → Below base w w' → wpList P ops Q rest (a.put o.dst v') w') :
  wpList P ops Q (o :: rest) a w :=
 wpList_append_bytes w hgd s x t ho base e i z ht hi hz hsize hby hzs v n l hs hown A m c l2 hx hr h63 hbase
  (fun v' w' h1 h2 _ => h v' w' h1 ((Below.refl base w).grown h2 hbase (fun k hk => (hown.lt k hk).1)))
theorem wp_append_bb {P : Program} {o : Oper} {a : Act} {w : World} {K : Act → World → Prop} {Q : Exit → Act → World → Prop} (s x : Operand) (t : TypeId)
  (ho : o.op = .call { callee := .builtin .append, args := #[s, x], argTypes := #[t, t] })
  (base : Nat) (e : TypeId) (i : TypeInfo) (z : Value) (ht : P.underlying t = some (.slice e)) (hi : P.info? e = some i) (hz : i.zero = some z)
  (hsize : i.size = 1) (hby : i.bytes = 1) (hzs : z.cells.size = 1)
  (v : Value) (n : Nat) (l : List UInt8) (hs : a.eval s = v) (hown : w.ownsRow base e 1 v n (l.map u8v))
  (A : Option Addr) (m c : Nat) (l2 : List UInt8) (hx : a.eval x = .slice A m c) (hr : Sl w A m c l2)
  (h63 : n + m ≤ 140737488355328) (hbase : base ≤ w.heap.size)
  (h : ∀ v' w', w'.ownsRow base e 1 v' (n + m) ((l ++ l2).map u8v) → Below base w w' → K (a.put o.dst v') w') :
  Oper.wp P o a w K Q :=
 wp_append_bytes s x t ho base e i z ht hi hz hsize hby hzs v n l hs hown A m c l2 hx hr h63 hbase
  (fun v' w' h1 h2 _ => h v' w' h1 ((Below.refl base w).grown h2 hbase (fun k hk => (hown.lt k hk).1)))
/-- Nothing below the bound changes: what is owned from the bound on is still of use. -/
theorem ownsRow_mono {w : World} {B C : Nat} {e : TypeId} {v : Value} {n : Nat} {xs : List Value} (h : w.ownsRow C e 1 v n xs) (hb : B ≤ C) : w.ownsRow B e 1 v n xs :=
 ⟨h.1, by rcases h.2 with h | ⟨g, cap, cur, e, hc, h⟩; exact .inl h; exact .inr ⟨g, cap, cur, e, Nat.le_trans hb hc, h⟩⟩
theorem Rb.grown {w w' : World} {T : TypeId} {g B q : Nat} {l : List UInt8} {s : Bool} (h : Rb w T g B l s) (hg : w.grownBy w' (some q)) (hq : B ≤ q) (hne : q ≠ g) : Rb w' T g B l s := by
 have hlt := h.rd.lt
 obtain ⟨A, n, c, h1, h2, h3⟩ := h
 refine ⟨A, n, c, (hg.block g hlt (fun e => hne (by injection e with e; exact e.symm))).trans h1, ⟨h2.1, h2.2.1, h2.2.2.1, fun hn => ?_⟩, h3⟩
 obtain ⟨a, o, e, hc⟩ := h2.2.2.2 hn
 obtain ⟨a', o', e', hlt'⟩ := h3 hn
 rw [e] at e'
 obtain ⟨rfl, rfl⟩ : a = a' ∧ o = o' := by injection e' with e'; injection e' with e1 e2; exact ⟨e1, e2⟩
 refine ⟨a, o, e, fun j b hj => ?_⟩
 have hc' := hc j b hj
 exact (World.cell?_of_block (w := w) (hg.block a (cell_lt hc') (fun e => by injection e with e; omega))).trans hc'
theorem Rb.drew {w : World} {T : TypeId} {g B : Nat} {l : List UInt8} {s : Bool} (h : Rb w T g B l s) : Rb w.drew T g B l s := by
 obtain ⟨A, n, c, h1, h2, h3⟩ := h
 exact ⟨A, n, c, h1, h2.keep fun _ _ _ h => h, h3⟩
theorem Sl.drew {w : World} {A : Option Addr} {n c : Nat} {l : List UInt8} (h : Sl w A n c l) : Sl w.drew A n c l := h.keep fun _ _ _ h => h
open Go.RowKit

theorem grown_setRow {w : World} (b : Nat) (cs : Array Value) : w.grownBy (w.setRow b cs) (some b) :=
 ⟨rfl, rfl, rfl, by simp [World.setRow], fun k _ hk => setRow_other w b k cs (fun e => hk (by rw [e]))⟩
/-- A whole struct or array goes into a block of its own. -/
theorem wp_store_blk {P : Program} {o : Oper} {a : Act} {w : World} {K : Act → World → Prop} {Q : Exit → Act → World → Prop} (ty : TypeId) (x y : Operand) (ho : o.op = .store ty x y)
  (b : Nat) (hx : a.eval x = .pointer (some ⟨b, 0, none⟩)) (cells : Array Value) (hy : a.eval y = .agg cells) (C : Array Value) (T : TypeId) (hb : w.heap[b]? = some (.cells C T (0, 0)))
  (hs : C.size = cells.size) (hi : (P.info? ty).map (·.size) = some cells.size) (h1 : cells.all (·.oneCell') = true)
  (h : ∀ w', w'.heap[b]? = some (.cells cells T (0, 0)) → w.grownBy w' (some b) → K (a.put o.dst undef) w') : Oper.wp P o a w K Q := by
 have hr := run_storeVar_row (P := P) w b T ty C cells hb hi hs h1
 unfold Oper.wp execOp
 simp only [ho, hx, hy, Instr.storeAt, Instr.sureAddr, Sem.run_bind, Sem.run_pure, Result.andThen_ok, hr]
 exact h _ (setRow_heap w b _ _ T _ hb) (grown_setRow b cells)
theorem wpList_store_blk {P : Program} {ops : Array Oper} {rest : List Oper} {o : Oper} {a : Act} {w : World} {Q : Exit → Act → World → Prop} (hgd : o.guard = none) (ty : TypeId) (x y : Operand) (ho : o.op = .store ty x y)
  (b : Nat) (hx : a.eval x = .pointer (some ⟨b, 0, none⟩)) (cells : Array Value) (hy : a.eval y = .agg cells) (C : Array Value) (T : TypeId) (hb : w.heap[b]? = some (.cells C T (0, 0)))
  (hs : C.size = cells.size) (hi : (P.info? ty).map (·.size) = some cells.size) (h1 : cells.all (·.oneCell') = true)
  (h : ∀ w', w'.heap[b]? = some (.cells cells T (0, 0)) → w.grownBy w' (some b) → wpList P ops Q rest (a.put o.dst undef) w') : wpList P ops Q (o :: rest) a w :=
 wpList_plain hgd fun _ hK => wp_store_blk ty x y ho b hx cells hy C T hb hs hi h1 (fun w' h1 h2 => hK _ _ (h w' h1 h2))
/-- A piece of a block, read by value. -/
theorem range_lit {w : World} {b : Nat} {L : List Value} {T : TypeId} {fr : Nat × Nat} (hb : w.heap[b]? = some (.cells L.toArray T fr)) (o n : Nat) (cs : List Value) (hcs : (L.drop o).take n = cs) : w.rangeAt b o cs := by
 intro j v hv
 rw [cell_of_row w b (o + j) _ T fr hb]
 rw [← hcs, List.getElem?_take] at hv
 split at hv
 ·rw [List.getElem?_drop] at hv
  simpa using hv
 ·cases hv
theorem yieldsIf_load_part {P : Program} {ops : Array Oper} {S : World → Prop} {o : Oper} {a : Act} (hw : Region.wanted o (yielded ops a.tmps) = true) (ty : TypeId) (x : Operand) (ho : o.op = .load ty x)
  (b i n : Nat) (hx : a.eval x = .pointer (some ⟨b, i, none⟩)) (L : List Value) (T : TypeId) (fr : Nat × Nat) (hS : ∀ w, S w → w.heap[b]? = some (.cells L.toArray T fr)) (cs : List Value) (hcs : (L.drop i).take n = cs)
  (d : TypeDesc) (hu : P.underlying ty = some d) (hd : d.isRow = true) (hi : (P.info? ty).map (·.size) = some cs.length) : YieldsIf P ops S o (.agg cs.toArray) a :=
 yieldsIf_load_mid hw ty x ho b i hx cs d (fun w h => range_lit (hS w h) i n cs hcs) hu hd hi
theorem wpList_load_rng {P : Program} {ops : Array Oper} {rest : List Oper} {o : Oper} {a : Act} {w : World} {Q : Exit → Act → World → Prop} (ty : TypeId) (x : Operand) (ho : o.op = .load ty x) (hgd : Region.wanted o (yielded ops a.tmps) = true)
  (b i : Nat) (hx : a.eval x = .pointer (some ⟨b, i, none⟩)) (cs : List Value) (hc : w.rangeAt b i cs) (d : TypeDesc) (hu : P.underlying ty = some d) (hd : d.isRow = true) (hi : (P.info? ty).map (·.size) = some cs.length)
  (h : wpList P ops Q rest (a.put o.dst (.agg cs.toArray)) w) : wpList P ops Q (o :: rest) a w :=
 wpList_wanted hgd fun _ hK => wp_load_mid ty x ho b i hx cs d hc hu hd hi (hK _ _ h)
/-- One cell, read where its type is none of many cells. -/
theorem cell_lit {w : World} {b : Nat} {C : Array Value} {T : TypeId} {fr : Nat × Nat} (hb : w.heap[b]? = some (.cells C T fr)) (i : Nat) (v : Value) (hv : C[i]? = some v) : w.cell? ⟨b, i, none⟩ = some v := by
 rw [cell_of_row w b i C T fr hb, hv]
/-- What a function with a struct and a number in its results answers. -/
theorem results_cell_tmp_row {P : Program} {fn : Func} {p u : Tmp} {ty : TypeId} (h : fn.results = #[.cell p ty, .tmp u]) (tmps : Array Value) (w : World) (g : Nat) (T : TypeId) (cs : Array Value) (fr : Nat × Nat) (d : TypeDesc)
  (hp : tmps.getD p undef = .pointer (some ⟨g, 0, none⟩)) (hg : w.heap[g]? = some (.cells cs T fr)) (hu : P.underlying ty = some d) (hd : d.isRow = true) (hi : (P.info? ty).map (·.size) = some cs.size) (v : Value) (hv : tmps.getD u undef = v) :
  (results fn tmps).run P w = .ok (.tuple #[.agg cs, v]) w := by
 rw [results_cell_tmp h, hp, hv]
 have hr := run_loadVar_row (P := P) w g T ty cs fr d hg hu (by cases d <;> simp_all) hi
 simp [asAddr, Result.andThen, hr]
theorem results_cell_row' {P : Program} {fn : Func} {p : Tmp} {ty : TypeId} (h : fn.results = #[.cell p ty]) (tmps : Array Value) (w : World) (g : Nat) (T : TypeId) (cs : Array Value) (fr : Nat × Nat) (d : TypeDesc)
  (hp : tmps.getD p undef = .pointer (some ⟨g, 0, none⟩)) (hg : w.heap[g]? = some (.cells cs T fr)) (hu : P.underlying ty = some d) (hd : d.isRow = true) (hi : (P.info? ty).map (·.size) = some cs.size) :
  (results fn tmps).run P w = .ok (.agg cs) w :=
 results_cell_row h tmps w g T cs fr d hp hg hu (by cases d <;> simp_all) hi
/-- A call that writes into a block from the bound on, or into none. -/
theorem below_grown {B : Nat} {w0 w w' : World} {b : Nat} (h : Below B w0 w) (hg : w.grownBy w' (some b)) (hb : B ≤ b) (hB : B ≤ w.heap.size) : Below B w0 w' := h.grown hg hB (fun k e => by cases e; exact hb)
open Go.RowKit

theorem setCell_heap {w : World} {b : Nat} {L : List Value} {T : TypeId} {fr : Nat × Nat} (h : w.heap[b]? = some (.cells L.toArray T fr)) (o : Nat) (v : Value) : (w.setCell ⟨b, o, none⟩ v).heap[b]? = some (.cells (L.set o v).toArray T fr) := by
 simp [World.setCell, Array.getElem?_modify, h]
theorem setCells_heap {b : Nat} {T : TypeId} {fr : Nat × Nat} : ∀ (vs : List Value) (o : Nat) (w : World) (L : List Value), w.heap[b]? = some (.cells L.toArray T fr) → o + vs.length ≤ L.length →
  (w.setCells b o vs).heap[b]? = some (.cells (L.take o ++ vs ++ L.drop (o + vs.length)).toArray T fr)
 | [], o, w, L, h, _ => by
  show w.heap[b]? = _
  rw [h]; simp
 | v :: r, o, w, L, h, hn => by
  rw [List.length_cons] at hn
  rw [World.setCells, setCells_heap r (o + 1) _ _ (setCell_heap h o v) (by rw [List.length_set]; omega)]
  have e1 : (L.set o v).take (o + 1) = L.take o ++ [v] := by
   rw [List.take_add_one, List.take_set_of_le (Nat.le_refl _), List.getElem?_set_self (by omega)]
   rfl
  have e2 : (L.set o v).drop (o + 1 + r.length) = L.drop (o + (r.length + 1)) := by
   rw [List.drop_set_of_lt (by omega)]
   congr 1
   omega
  rw [e1, e2, List.length_cons]
  simp
theorem setCells_grown {b : Nat} : ∀ (vs : List Value) (o : Nat) (w : World), w.grownBy (w.setCells b o vs) (some b)
 | [], _, w => World.grownBy.refl w _
 | v :: r, o, w => by
  have h1 : w.grownBy (w.setCell ⟨b, o, none⟩ v) (some b) := grown_set (World.grownBy.refl w _) o v
  exact h1.trans (setCells_grown r (o + 1) _)
theorem run_storeAt_part {P : Program} (w : World) (b i : Nat) (ty : TypeId) (y : Value) (cs : List Value) (hy : y.cells = cs.toArray) (L : List Value) (T : TypeId) (hb : w.heap[b]? = some (.cells L.toArray T (0, 0))) (hn : i + cs.length ≤ L.length)
  (hi : (P.info? ty).map (·.size) = some cs.length) (h1 : cs.all (·.oneCell') = true) : (Instr.storeAt ty (.pointer (some ⟨b, i, none⟩)) y).run P w = .ok () (w.setCells b i cs) := by
 have hc : ∀ j, j < cs.length → (w.cell? ⟨b, i + 0 + j, none⟩).isSome = true := by
  intro j hj
  rw [cell_of_row w b (i + 0 + j) _ T (0, 0) hb]
  simp; omega
 have hf : ∀ j, j < cs.length → w.frozen? ⟨b, i + 0 + j, none⟩ = false := by
  intro j hj
  simp [World.frozen?, hb]
 have := run_storeCells_cells (P := P) b i cs 0 w hc hf (fun v hv => List.all_eq_true.1 h1 v hv)
 simp only [Nat.add_zero] at this
 cases hq : P.info? ty with
 | none => simp [hq] at hi
 | some x =>
  have hs : x.size = cs.length := by simpa [hq] using hi
  simp [Instr.storeAt, Instr.sureAddr, Sem.run_bind, Sem.run_pure, storeVar, sizeOf, typeInfo, hq, hy, hs, this]
theorem wp_store_part {P : Program} {o : Oper} {a : Act} {w : World} {K : Act → World → Prop} {Q : Exit → Act → World → Prop} (ty : TypeId) (x y : Operand) (ho : o.op = .store ty x y)
  (b i : Nat) (hx : a.eval x = .pointer (some ⟨b, i, none⟩)) (cs : List Value) (hy : (a.eval y).cells = cs.toArray) (L : List Value) (T : TypeId) (hb : w.heap[b]? = some (.cells L.toArray T (0, 0))) (hn : i + cs.length ≤ L.length)
  (L' : List Value) (hL : L.take i ++ cs ++ L.drop (i + cs.length) = L') (hi : (P.info? ty).map (·.size) = some cs.length) (h1 : cs.all (·.oneCell') = true)
  (h : ∀ w', w'.heap[b]? = some (.cells L'.toArray T (0, 0)) → w.grownBy w' (some b) → K (a.put o.dst undef) w') : Oper.wp P o a w K Q := by
 have hr := run_storeAt_part (P := P) w b i ty _ cs hy L T hb hn hi h1
 unfold Oper.wp execOp
 simp only [ho, hx, Sem.run_bind, Sem.run_pure, Result.andThen_ok, hr]
 exact h _ (hL ▸ setCells_heap cs i w L hb hn) (setCells_grown cs i w)
theorem wpList_store_part {P : Program} {ops : Array Oper} {rest : List Oper} {o : Oper} {a : Act} {w : World} {Q : Exit → Act → World → Prop} (hgd : o.guard = none) (ty : TypeId) (x y : Operand) (ho : o.op = .store ty x y)
  (b i : Nat) (hx : a.eval x = .pointer (some ⟨b, i, none⟩)) (cs : List Value) (hy : (a.eval y).cells = cs.toArray) (L : List Value) (T : TypeId) (hb : w.heap[b]? = some (.cells L.toArray T (0, 0))) (hn : i + cs.length ≤ L.length)
  (L' : List Value) (hL : L.take i ++ cs ++ L.drop (i + cs.length) = L') (hi : (P.info? ty).map (·.size) = some cs.length) (h1 : cs.all (·.oneCell') = true)
  (h : ∀ w', w'.heap[b]? = some (.cells L'.toArray T (0, 0)) → w.grownBy w' (some b) → wpList P ops Q rest (a.put o.dst undef) w') : wpList P ops Q (o :: rest) a w :=
 wpList_plain hgd fun _ hK => wp_store_part ty x y ho b i hx cs hy L T hb hn L' hL hi h1 (fun w' h1 h2 => hK _ _ (h w' h1 h2))
open Go.RowKit

theorem below_new (w : World) (o : Obj) : Below w.heap.size w (w.alloc o) := (Below.refl _ _).alloc (Nat.le_refl _) o
theorem size_new (w : World) (o : Obj) : w.heap.size < (w.alloc o).heap.size := by simp
theorem wp_box_n {P : Program} {o : Oper} {a : Act} {w : World} {K : Act → World → Prop} {Q : Exit → Act → World → Prop} (e : TypeId) (x : Operand) (ho : o.op = .box e x) (cs : Array Value) (hx : (a.eval x).cells = cs)
  (h : ∀ g w', w.heap.size ≤ g → g < w'.heap.size → w'.heap[g]? = some (.cells cs e (0, 0)) → Below w.heap.size w w' → K (a.put o.dst (.pointer (some ⟨g, 0, none⟩))) w') : Oper.wp P o a w K Q := by
 have hr : (Instr.box e (a.eval x)).run P w = .ok (.pointer (some ⟨w.heap.size, 0, none⟩)) (w.alloc (.cells cs e)) := by
  simp [Instr.box, newVar, newRow, hx]
 unfold Oper.wp execOp
 simp only [ho, Sem.run_bind, hr, Result.andThen_ok]
 exact h _ _ (Nat.le_refl _) (size_new w _) (heap_alloc_new w _) (below_new w _)
theorem wpList_box_n {P : Program} {ops : Array Oper} {rest : List Oper} {o : Oper} {a : Act} {w : World} {Q : Exit → Act → World → Prop} (hgd : o.guard = none) (e : TypeId) (x : Operand) (ho : o.op = .box e x) (cs : Array Value) (hx : (a.eval x).cells = cs)
  (h : ∀ g w', w.heap.size ≤ g → g < w'.heap.size → w'.heap[g]? = some (.cells cs e (0, 0)) → Below w.heap.size w w' → wpList P ops Q rest (a.put o.dst (.pointer (some ⟨g, 0, none⟩))) w') : wpList P ops Q (o :: rest) a w :=
 wpList_plain hgd fun _ hK => wp_box_n e x ho cs hx fun g w' h1 h2 h3 h4 => hK _ _ (h g w' h1 h2 h3 h4)
theorem wp_new_i {P : Program} {o : Oper} {a : Act} {w : World} {K : Act → World → Prop} {Q : Exit → Act → World → Prop} (e : TypeId) (ho : o.op = .alloc e) (i : TypeInfo) (z : Value) (hi : P.info? e = some i) (hz : i.zero = some z) (cs : Array Value) (hx : z.cells = cs)
  (h : ∀ g w', w.heap.size ≤ g → g < w'.heap.size → w'.heap[g]? = some (.cells cs e (0, 0)) → Below w.heap.size w w' → K (a.put o.dst (.pointer (some ⟨g, 0, none⟩))) w') : Oper.wp P o a w K Q := by
 have hr : (Instr.alloc e true (.tuple #[])).run P w = .ok (.pointer (some ⟨w.heap.size, 0, none⟩)) (w.alloc (.cells cs e)) := by
  simp [Instr.alloc, newVar, newRow, zeroValue, typeInfo, hi, hz, hx]
 unfold Oper.wp execOp
 simp only [ho, Sem.run_bind, hr, Result.andThen_ok]
 exact h _ _ (Nat.le_refl _) (size_new w _) (heap_alloc_new w _) (below_new w _)
theorem info_zero {P : Program} {e : TypeId} {z : Value} (h : (P.info? e).bind (·.zero) = some z) : ∃ i, P.info? e = some i ∧ i.zero = some z := by
 cases hi : P.info? e with
 | none => simp [hi] at h
 | some i => exact ⟨i, rfl, by simpa [hi] using h⟩
theorem wp_new_n {P : Program} {o : Oper} {a : Act} {w : World} {K : Act → World → Prop} {Q : Exit → Act → World → Prop} (e : TypeId) (ho : o.op = .alloc e) (z : Value) (hi : (P.info? e).bind (·.zero) = some z) (cs : Array Value) (hx : z.cells = cs)
  (h : ∀ g w', w.heap.size ≤ g → g < w'.heap.size → w'.heap[g]? = some (.cells cs e (0, 0)) → Below w.heap.size w w' → K (a.put o.dst (.pointer (some ⟨g, 0, none⟩))) w') : Oper.wp P o a w K Q := by
 obtain ⟨i, h1, h2⟩ := info_zero hi
 exact wp_new_i e ho i z h1 h2 cs hx h
theorem wpList_new_n {P : Program} {ops : Array Oper} {rest : List Oper} {o : Oper} {a : Act} {w : World} {Q : Exit → Act → World → Prop} (hgd : o.guard = none) (e : TypeId) (ho : o.op = .alloc e) (z : Value) (hi : (P.info? e).bind (·.zero) = some z) (cs : Array Value) (hx : z.cells = cs)
  (h : ∀ g w', w.heap.size ≤ g → g < w'.heap.size → w'.heap[g]? = some (.cells cs e (0, 0)) → Below w.heap.size w w' → wpList P ops Q rest (a.put o.dst (.pointer (some ⟨g, 0, none⟩))) w') : wpList P ops Q (o :: rest) a w := by
 obtain ⟨i, h1, h2⟩ := info_zero hi
 exact wpList_plain hgd fun _ hK => wp_new_i e ho i z h1 h2 cs hx fun g w' h1 h2 h3 h4 => hK _ _ (h g w' h1 h2 h3 h4)
theorem run_lit_n {P : Program} (w : World) (t e : TypeId) (len : Nat) (parts : Array (Nat × Value))
  (cells : Array Value) (ie : TypeInfo) (z : Value) (hu : P.underlying t = some (.slice e)) (hie : P.info? e = some ie) (hz : ie.zero = some z) (hsmall : ¬ len * ie.size > 2 ^ 24)
  (hf : Instr.fill (fun i => some (i * ie.size, ie.size)) ((Array.range (len * ie.size)).map (z.cells[· % z.cells.size]!)) parts.toList = some cells) :
  (Instr.buildSlice t len parts).run P w = .ok (.slice (some ⟨w.heap.size, 0, none⟩) len len) (w.alloc (.cells cells e)) := by
 by_cases h0 : len * ie.size = 0
 ·rw [h0] at hf
  have e0 : ∀ f : Nat → Value, (Array.range 0).map f = (#[] : Array Value) := fun f => by simp
  rw [e0] at hf
  simp [Instr.buildSlice, run_underlying hu, sizeOf, typeInfo, hie, h0, newRow]
  rw [e0, hf]
  simp
 ·simp [Instr.buildSlice, run_underlying hu, sizeOf, typeInfo, zeroValue, hie, hz, hsmall, h0, hf, newRow]
theorem wp_lit_n {P : Program} {o : Oper} {a : Act} {w : World} {K : Act → World → Prop} {Q : Exit → Act → World → Prop} (t e : TypeId) (len : Nat) (parts : Array (Nat × Operand)) (ho : o.op = .buildSlice t len parts)
  (cells : Array Value) (z : Value) (hu : P.underlying t = some (.slice e)) (hz : (P.info? e).bind (·.zero) = some z) (n : Nat) (hn : (P.info? e).map (·.size) = some n) (hsmall : ¬ len * n > 2 ^ 24)
  (hf : Instr.fill (fun i => some (i * n, n)) ((Array.range (len * n)).map (z.cells[· % z.cells.size]!)) (parts.map fun (i, x) => (i, a.eval x)).toList = some cells)
  (h : ∀ g w', w.heap.size ≤ g → g < w'.heap.size → w'.heap[g]? = some (.cells cells e (0, 0)) → Below w.heap.size w w' → K (a.put o.dst (.slice (some ⟨g, 0, none⟩) len len)) w') : Oper.wp P o a w K Q := by
 obtain ⟨ie, hie, hz⟩ := info_zero hz
 have hn' : ie.size = n := by simpa [hie] using hn
 subst hn'
 unfold Oper.wp execOp
 simp only [ho, Sem.run_bind, run_lit_n w t e len _ cells ie z hu hie hz hsmall hf, Result.andThen_ok]
 exact h _ _ (Nat.le_refl _) (size_new w _) (heap_alloc_new w _) (below_new w _)
theorem wpList_lit_n {P : Program} {ops : Array Oper} {rest : List Oper} {o : Oper} {a : Act} {w : World} {Q : Exit → Act → World → Prop} (hgd : o.guard = none) (t e : TypeId) (len : Nat) (parts : Array (Nat × Operand)) (ho : o.op = .buildSlice t len parts)
  (cells : Array Value) (z : Value) (hu : P.underlying t = some (.slice e)) (hz : (P.info? e).bind (·.zero) = some z) (n : Nat) (hn : (P.info? e).map (·.size) = some n) (hsmall : ¬ len * n > 2 ^ 24)
  (hf : Instr.fill (fun i => some (i * n, n)) ((Array.range (len * n)).map (z.cells[· % z.cells.size]!)) (parts.map fun (i, x) => (i, a.eval x)).toList = some cells)
  (h : ∀ g w', w.heap.size ≤ g → g < w'.heap.size → w'.heap[g]? = some (.cells cells e (0, 0)) → Below w.heap.size w w' → wpList P ops Q rest (a.put o.dst (.slice (some ⟨g, 0, none⟩) len len)) w') : wpList P ops Q (o :: rest) a w :=
 wpList_plain hgd fun _ hK => wp_lit_n t e len parts ho cells z hu hz n hn hsmall hf fun g w' h1 h2 h3 h4 => hK _ _ (h g w' h1 h2 h3 h4)
/-- A new block of bytes, and one of ints, as a slice. -/
theorem sl_lit {w : World} {g n : Nat} {T : TypeId} {fr : Nat × Nat} (l : List UInt8) (h : w.heap[g]? = some (.cells (l.map u8v).toArray T fr)) (hn : l.length = n) (hm : n ≤ maxLen) : Sl w (some ⟨g, 0, none⟩) n n l :=
 ⟨hn, Nat.le_refl _, hm, fun _ => ⟨_, _, rfl, fun j b hj => by simp [World.cell?, h, hj]⟩⟩
theorem own_lit {w : World} {g B : Nat} {T : TypeId} (l : List UInt8) (h : w.heap[g]? = some (.cells (l.map u8v).toArray T (0, 0))) (hB : B ≤ g) (n : Nat) (hn : l.length = n) (hm : n ≤ maxLen) : w.ownsRow B T 1 (.slice (some ⟨g, 0, none⟩) n n) n (l.map u8v) := by
 subst hn
 exact ⟨by simp, .inr ⟨g, _, _, rfl, hB, h, Nat.le_refl _, hm, by simp, by rw [Nat.mul_one]; simpa using List.take_of_length_le (Nat.le_of_eq (List.length_map u8v))⟩⟩
/-- '[]byte("..")' of a constant: behind the literal its row is marked. -/
theorem freeze_heap (w : World) (g k : Nat) (C : Array Value) (e : TypeId) (hg : w.heap[g]? = some (.cells C e (0, 0))) :
  (w.freeze ⟨g, k, none⟩ 1).heap[g]? = some (.cells C e (k, k + 1)) ∧ w.grownBy (w.freeze ⟨g, k, none⟩ 1) (some g) := by
 unfold World.freeze
 rw [if_neg (by decide)]
 refine ⟨?_, rfl, rfl, rfl, by simp, fun i _ hne => ?_⟩
 ·simp [Array.getElem?_modify, hg]
 ·simp only [Array.getElem?_modify]
  rw [if_neg (fun e => hne (by rw [e]))]
theorem run_mark_n {P : Program} (w : World) (t e : TypeId) (g : Nat) (C : Array Value) (n c : Nat) (ht : P.underlying t = some (.slice e)) (he : P.underlying e = some (.int .u8)) (hg : w.heap[g]? = some (.cells C e (0, 0))) :
  (convert t t (.slice (some ⟨g, 0, none⟩) n c)).run P w = .ok (.slice (some ⟨g, 0, none⟩) n c) (w.freeze ⟨g, C.size, none⟩ 1) := by
 have hsh : w.shape? g = some (e, C.size) := by
  unfold World.shape?
  rw [hg]
 simp [convert, run_underlying ht, run_underlying he, markStringish, hsh]
theorem wp_mark_n {P : Program} {o : Oper} {a : Act} {w : World} {K : Act → World → Prop} {Q : Exit → Act → World → Prop} (t e : TypeId) (x : Operand) (ho : o.op = .convert t t x) (ht : P.underlying t = some (.slice e)) (he : P.underlying e = some (.int .u8))
  (g : Nat) (C : Array Value) (n c : Nat) (hx : a.eval x = .slice (some ⟨g, 0, none⟩) n c) (hg : w.heap[g]? = some (.cells C e (0, 0)))
  (h : ∀ w', w'.heap[g]? = some (.cells C e (C.size, C.size + 1)) → w.grownBy w' (some g) → K (a.put o.dst (.slice (some ⟨g, 0, none⟩) n c)) w') : Oper.wp P o a w K Q := by
 have hr := run_mark_n (P := P) w t e g C n c ht he hg
 have hf := freeze_heap w g C.size C e hg
 unfold Oper.wp execOp
 simp only [ho, hx, Sem.run_bind, hr, Result.andThen_ok]
 exact h _ hf.1 hf.2
theorem wpList_mark_n {P : Program} {ops : Array Oper} {rest : List Oper} {o : Oper} {a : Act} {w : World} {Q : Exit → Act → World → Prop} (hgd : o.guard = none) (t e : TypeId) (x : Operand) (ho : o.op = .convert t t x) (ht : P.underlying t = some (.slice e)) (he : P.underlying e = some (.int .u8))
  (g : Nat) (C : Array Value) (n c : Nat) (hx : a.eval x = .slice (some ⟨g, 0, none⟩) n c) (hg : w.heap[g]? = some (.cells C e (0, 0)))
  (h : ∀ w', w'.heap[g]? = some (.cells C e (C.size, C.size + 1)) → w.grownBy w' (some g) → wpList P ops Q rest (a.put o.dst (.slice (some ⟨g, 0, none⟩) n c)) w') : wpList P ops Q (o :: rest) a w :=
 wpList_plain hgd fun _ hK => wp_mark_n t e x ho ht he g C n c hx hg fun w' h1 h2 => hK _ _ (h w' h1 h2)
open Go.RowKit

/-- No byte of the slice lies in block g; all of them lie below lo; the one slice lies where the other does. -/
def Av (A : Option Addr) (n g : Nat) : Prop := 0 < n → ∀ a o p, A = some ⟨a, o, p⟩ → a ≠ g
def Bl (A : Option Addr) (n lo : Nat) : Prop := 0 < n → ∀ a o p, A = some ⟨a, o, p⟩ → a < lo
def Sub (A' : Option Addr) (k : Nat) (A : Option Addr) (n : Nat) : Prop := 0 < k → 0 < n ∧ ∀ a o p, A' = some ⟨a, o, p⟩ → ∃ o' p', A = some ⟨a, o', p'⟩
theorem Sl.away {w w' : World} {A : Option Addr} {n c g : Nat} {l : List UInt8} (h : Sl w A n c l) (v : Av A n g) (hg : w.grownBy w' (some g)) : Sl w' A n c l := by
 refine ⟨h.1, h.2.1, h.2.2.1, fun hn => ?_⟩
 obtain ⟨a, o, e, hc⟩ := h.2.2.2 hn
 have hne := v hn a o none e
 exact ⟨a, o, e, fun j b hj => (World.cell?_of_block (w := w) (hg.block a (cell_lt (hc j b hj)) (fun e2 => hne (by injection e2)))).trans (hc j b hj)⟩
theorem Sl.under {w w' : World} {A : Option Addr} {n c lo : Nat} {l : List UInt8} (h : Sl w A n c l) (v : Bl A n lo) (hb : Below lo w w') : Sl w' A n c l := by
 refine ⟨h.1, h.2.1, h.2.2.1, fun hn => ?_⟩
 obtain ⟨a, o, e, hc⟩ := h.2.2.2 hn
 exact ⟨a, o, e, fun j b hj => (hb.cell (p := ⟨a, o + j, none⟩) (v hn a o none e)).trans (hc j b hj)⟩
theorem Sl.at0 {w : World} {A : Option Addr} {n c : Nat} {l : List UInt8} (h : Sl w A n c l) (hn : 0 < n) {a o : Nat} {p : Option Nat} (e : A = some ⟨a, o, p⟩) : a < w.heap.size := by
 obtain ⟨a', o', e', hc⟩ := h.2.2.2 hn
 rw [e] at e'
 injection e' with e'
 injection e' with e1 e2
 subst e1
 have hl : 0 < l.length := by have := h.1; omega
 exact cell_lt (hc 0 _ (List.getElem?_eq_getElem hl))
theorem Sl.av_new {w : World} {A : Option Addr} {n c g : Nat} {l : List UInt8} (h : Sl w A n c l) (hg : w.heap.size ≤ g) : Av A n g := fun hn _ _ _ e => Nat.ne_of_lt (Nat.lt_of_lt_of_le (h.at0 hn e) hg)
theorem Sl.bl_new {w : World} {A : Option Addr} {n c : Nat} {l : List UInt8} (h : Sl w A n c l) : Bl A n w.heap.size := fun hn _ _ _ e => h.at0 hn e
theorem Bl.mono {A : Option Addr} {n lo lo' : Nat} (h : Bl A n lo) (hl : lo ≤ lo') : Bl A n lo' := fun hn a o p e => Nat.lt_of_lt_of_le (h hn a o p e) hl
theorem Bl.av {A : Option Addr} {n lo g : Nat} (h : Bl A n lo) (hl : lo ≤ g) : Av A n g := fun hn a o p e => Nat.ne_of_lt (Nat.lt_of_lt_of_le (h hn a o p e) hl)
theorem Fr.av {B : Nat} {A : Option Addr} {n g : Nat} (f : Fr B A n) (hg : g < B) : Av A n g := fun hn a o p e => by
 obtain ⟨a', o', e', h⟩ := f hn
 rw [e] at e'
 injection e' with e'
 injection e' with e1 e2
 omega
theorem Av.sub {A A' : Option Addr} {n k g : Nat} (h : Av A n g) (hs : Sub A' k A n) : Av A' k g := fun hk a o p e => by
 obtain ⟨hn, h2⟩ := hs hk
 obtain ⟨o', p', e'⟩ := h2 a o p e
 exact h hn a o' p' e'
theorem Bl.sub {A A' : Option Addr} {n k lo : Nat} (h : Bl A n lo) (hs : Sub A' k A n) : Bl A' k lo := fun hk a o p e => by
 obtain ⟨hn, h2⟩ := hs hk
 obtain ⟨o', p', e'⟩ := h2 a o p e
 exact h hn a o' p' e'
theorem own_away {w w' : World} {B q : Nat} {e : TypeId} {v : Value} {n : Nat} {xs : List Value} (h : w.ownsRow B e 1 v n xs) (hq : q < B) (hg : w.grownBy w' (some q)) : w'.ownsRow B e 1 v n xs := by
 refine ⟨h.1, ?_⟩
 rcases h.2 with h | ⟨g, cap, cur, e, hb, hh, h⟩
 ·exact .inl h
 ·exact .inr ⟨g, cap, cur, e, hb, (hg.block g (Array.getElem?_eq_some_iff.1 hh).1 (fun e2 => by injection e2; omega)).trans hh, h⟩
/-- A row of the call's own lies not in block q. -/
def Ofs (v : Value) (q : Nat) : Prop := ∀ g, v.ownBlock = some g → g ≠ q
theorem own_new {w : World} {B q : Nat} {e : TypeId} {v : Value} {n : Nat} {xs : List Value} (h : w.ownsRow B e 1 v n xs) (hq : w.heap.size ≤ q) : Ofs v q := fun g hg => by
 rcases h.2 with ⟨h, _⟩ | ⟨g', cap, cur, e, hb, hh, h⟩
 ·rw [h] at hg; simp [Value.ownBlock] at hg
 ·have hl := (Array.getElem?_eq_some_iff.1 hh).1
  rw [e] at hg
  simp only [Value.ownBlock, Option.some.injEq] at hg
  omega
theorem own_under {w w' : World} {B : Nat} {e : TypeId} {v : Value} {n : Nat} {xs : List Value} (h : w.ownsRow B e 1 v n xs) (hb : Below w.heap.size w w') : w'.ownsRow B e 1 v n xs := by
 refine ⟨h.1, ?_⟩
 rcases h.2 with h | ⟨g, cap, cur, e, hg, hh, h⟩
 ·exact .inl h
 ·exact .inr ⟨g, cap, cur, e, hg, (hb.block g (Array.getElem?_eq_some_iff.1 hh).1).trans hh, h⟩
/-- Blocks. -/
theorem blk_under {w w' : World} {g B : Nat} {x : Option Obj} (h : w.heap[g]? = x) (hb : Below B w w') (hg : g < B) : w'.heap[g]? = x := (hb.block g hg).trans h
theorem ne_new {g q n : Nat} (hz : g < n) (hq : n ≤ q) : Hid (g ≠ q) := Lib.hid (Nat.ne_of_lt (Nat.lt_of_lt_of_le hz hq))
theorem ne_symm {g q : Nat} (h : Hid (g ≠ q)) : Hid (q ≠ g) := Lib.hid (Ne.symm h.out)
/-- Rows of bytes of the call's own: where they lie, a store into them. -/
theorem own_at {w : World} {B : Nat} {T : TypeId} {v : Value} {n : Nat} {l : List UInt8} (h : w.ownsRow B T 1 v n (l.map u8v)) (hn : 0 < n) : ∃ g c, v = .slice (some ⟨g, 0, none⟩) n c ∧ B ≤ g ∧ g < w.heap.size ∧ n ≤ c ∧ c ≤ maxLen := by
 rcases h.2 with ⟨_, rfl⟩ | ⟨g, cap, cur, rfl, hb, hh, hnc, hm, _⟩
 ·omega
 ·exact ⟨g, cap, rfl, hb, (Array.getElem?_eq_some_iff.1 hh).1, hnc, hm⟩
theorem own_sl {w : World} {B : Nat} {T : TypeId} {A : Option Addr} {n m c : Nat} {l : List UInt8} (h : w.ownsRow B T 1 (.slice A m c) n (l.map u8v)) : Sl w A n c l ∧ Fr B A n := by
 obtain ⟨A', c', e, h1, h2⟩ := Sl.of_own_f h
 injection e with e1 e2 e3
 subst e1
 subst e3
 exact ⟨h1, h2⟩
theorem own_val {w : World} {B : Nat} {T : TypeId} {v : Value} {n : Nat} {l : List UInt8} (h : w.ownsRow B T 1 v n (l.map u8v)) : ∃ A c, v = .slice A n c := by
 obtain ⟨A', c', e, _, _⟩ := Sl.of_own_f h
 exact ⟨A', c', e⟩
/-- Pieces of a slice, with where they lie. -/
theorem sub_of {A A' : Option Addr} {n k : Nat} (h : 0 < k → 0 < n ∧ ∃ a o o', A = some ⟨a, o, none⟩ ∧ A' = some ⟨a, o', none⟩) : Sub A' k A n := fun hk => by
 obtain ⟨hn, a, o, o', e, e'⟩ := h hk
 refine ⟨hn, fun b q p hb => ?_⟩
 rw [e'] at hb
 injection hb with hb
 injection hb with h1 h2 h3
 subst h1
 exact ⟨o, none, e⟩
theorem Sl.sub_drop {w : World} {A : Option Addr} {n c : Nat} {l : List UInt8} (h : Sl w A n c l) {p k : Nat} (hk : p + k ≤ n) : Sub (if c = p then A else A.map (·.add (p * 1))) k A n := sub_of fun h0 => by
 refine ⟨by omega, ?_⟩
 obtain ⟨a, o, rfl, _⟩ := h.2.2.2 (by omega)
 have := h.2.1
 rw [if_neg (by omega)]
 refine ⟨a, o, o + p, rfl, ?_⟩
 by_cases h0 : p = 0
 ·subst h0; simp [Addr.add]
 ·simp [Addr.add, h0]
theorem piece_front {w : World} {A : Option Addr} {n c : Nat} {l : List UInt8} (h : Sl w A n c l) {k : Nat} (hk : k ≤ n) :
  ∃ A' c', (∀ W, (Instr.slice 36 (.slice A n c) none (some (.int .i64 (k : Int))) none).run Tryz.prog W = .ok (.slice A' k c') W) ∧ (∀ W, Sl W A n c l → Sl W A' k c' (l.take k)) ∧ Sub A' k A n := by
 have h2 := h.2.1
 refine ⟨_, _, fun W => ?_, fun W hW => by have ht := (hW.drop (k := 0) (by omega)).take (k := k) (by omega); rw [List.drop_zero] at ht; exact ht, h.sub_drop (p := 0) (by omega)⟩
 have hz : ∀ w, (Go.sizeOf 5).run Tryz.prog w = .ok 1 w := fun w => by kernel_rfl
 have hu : Tryz.prog.underlying 36 = some (.slice (Tryz.prog.elem 36)) := by kernel_rfl
 have he : Tryz.prog.elem 36 = 5 := by kernel_rfl
 rw [run_slice_h W 36 A n c hu .i64 _ (by omega) (by omega), he, hz]
 simp [Result.andThen, sliced]
theorem piece_back {w : World} {A : Option Addr} {n c : Nat} {l : List UInt8} (h : Sl w A n c l) {k : Nat} (hk : k ≤ n) :
  ∃ A' c', (∀ W, (Instr.slice 36 (.slice A n c) (some (.int .i64 (k : Int))) none none).run Tryz.prog W = .ok (.slice A' (n - k) c') W) ∧ (∀ W, Sl W A n c l → Sl W A' (n - k) c' (l.drop k)) ∧ Sub A' (n - k) A n := by
 have h2 := h.2.1
 refine ⟨_, _, fun W => ?_, fun W hW => hW.drop hk, h.sub_drop (by omega)⟩
 have hz : ∀ w, (Go.sizeOf 5).run Tryz.prog w = .ok 1 w := fun w => by kernel_rfl
 have hu : Tryz.prog.underlying 36 = some (.slice (Tryz.prog.elem 36)) := by kernel_rfl
 have he : Tryz.prog.elem 36 = 5 := by kernel_rfl
 rw [run_slice_l W 36 A n c hu .i64 _ (by omega) (by omega), he, hz]
 simp [Result.andThen, sliced]
theorem piece_mid {w : World} {A : Option Addr} {n c : Nat} {l : List UInt8} (h : Sl w A n c l) {p k : Nat} (hk : p + k ≤ n) :
  ∃ A' c', (∀ W, (Instr.slice 36 (.slice A n c) (some (.int .i64 (p : Int))) (some (.int .i64 ((p : Int) + k))) none).run Tryz.prog W = .ok (.slice A' k c') W) ∧ (∀ W, Sl W A n c l → Sl W A' k c' ((l.drop p).take k)) ∧ Sub A' k A n := by
 have h2 := h.2.1
 refine ⟨_, _, fun W => ?_, fun W hW => (hW.drop (k := p) (by omega)).take (k := k) (by omega), h.sub_drop hk⟩
 have hz : ∀ w, (Go.sizeOf 5).run Tryz.prog w = .ok 1 w := fun w => by kernel_rfl
 have hu : Tryz.prog.underlying 36 = some (.slice (Tryz.prog.elem 36)) := by kernel_rfl
 have he : Tryz.prog.elem 36 = 5 := by kernel_rfl
 rw [run_slice_lh W 36 A n c hu .i64 .i64 _ _ (by omega) (by omega) (by omega), he, hz]
 have e1 : ((p : Int) + k).toNat = p + k := by omega
 simp [Result.andThen, sliced, e1]
open Go.RowKit

theorem hlt {w : World} {g : Nat} {x : Obj} (h : w.heap[g]? = some x) : g < w.heap.size := (Array.getElem?_eq_some_iff.1 h).1
theorem blk_u {w w' : World} {g : Nat} {x : Obj} (h : w.heap[g]? = some x) (hb : Below w.heap.size w w') : w'.heap[g]? = some x := (hb.block g (hlt h)).trans h
theorem blk_a {w w' : World} {g q : Nat} {x : Obj} (h : w.heap[g]? = some x) (hg : w.grownBy w' (some q)) (d : Hid (g ≠ q)) : w'.heap[g]? = some x := (hg.block g (hlt h) (fun e => d.out (by injection e))).trans h
theorem wp_new_a {P : Program} {o : Oper} {a : Act} {w : World} {K : Act → World → Prop} {Q : Exit → Act → World → Prop} (e : TypeId) (ho : o.op = .alloc e) (cs : Array Value) (hi : (P.info? e).bind (·.zero) = some (.agg cs))
  (h : ∀ g w', w.heap.size ≤ g → w'.heap[g]? = some (.cells cs e (0, 0)) → Below w.heap.size w w' → K (a.put o.dst (.pointer (some ⟨g, 0, none⟩))) w') : Oper.wp P o a w K Q :=
 wp_new_n e ho (.agg cs) hi cs rfl fun g w' h1 _ h3 h4 => h g w' h1 h3 h4
theorem wpList_new_a {P : Program} {ops : Array Oper} {rest : List Oper} {o : Oper} {a : Act} {w : World} {Q : Exit → Act → World → Prop} (hgd : o.guard = none) (e : TypeId) (ho : o.op = .alloc e) (cs : Array Value) (hi : (P.info? e).bind (·.zero) = some (.agg cs))
  (h : ∀ g w', w.heap.size ≤ g → w'.heap[g]? = some (.cells cs e (0, 0)) → Below w.heap.size w w' → wpList P ops Q rest (a.put o.dst (.pointer (some ⟨g, 0, none⟩))) w') : wpList P ops Q (o :: rest) a w :=
 wpList_new_n hgd e ho (.agg cs) hi cs rfl fun g w' h1 _ h3 h4 => h g w' h1 h3 h4
open Go.RowKit

theorem blk_own {w w' : World} {g : Nat} {x : Obj} {v : Value} (h : w.heap[g]? = some x) (hg : w.grownBy w' v.ownBlock) (o : Ofs v g) : w'.heap[g]? = some x := (hg.block g (hlt h) (fun e => o g e.symm rfl)).trans h
theorem ofs_of {v v' : Value} {n : Nat} (h : v'.ownBlock = v.ownBlock ∨ v'.ownBlock = some n) : ∀ g, g < n → Ofs v g → Ofs v' g := fun g hg o g' e => by
 rcases h with h | h
 ·exact o g' (h ▸ e)
 ·rw [h] at e
  injection e with e
  omega
open Go.RowKit

def Sle {α : Type} (f : α → List Value) (k : Nat) (w : World) (A : Option Addr) (n c : Nat) (l : List α) : Prop :=
 l.length = n ∧ n ≤ c ∧ c ≤ maxLen ∧ (0 < n → ∃ g o, A = some ⟨g, o, none⟩ ∧ ∀ j v, (l.flatMap f)[j]? = some v → w.cell? ⟨g, o + j, none⟩ = some v) ∧ 0 < k ∧ ∀ x, (f x).length = k
section
variable {α : Type} {f : α → List Value} {k : Nat} {w w' : World} {A : Option Addr} {n c : Nat} {l : List α}
theorem flat_len (hf : ∀ x, (f x).length = k) (l : List α) : (l.flatMap f).length = l.length * k := by
 induction l with
 | nil => simp
 | cons x l ih => rw [List.flatMap_cons, List.length_append, ih, hf, List.length_cons, Nat.succ_mul]; omega
theorem flat_at (hf : ∀ x, (f x).length = k) : ∀ (l : List α) (i j : Nat) (x : α), l[i]? = some x → j < k → (l.flatMap f)[i * k + j]? = (f x)[j]?
 | [], i, j, x, h, _ => by simp at h
 | y :: l, 0, j, x, h, hj => by
  obtain rfl : y = x := by simpa using h
  rw [List.flatMap_cons, List.getElem?_append_left (by rw [hf]; omega), Nat.zero_mul, Nat.zero_add]
 | y :: l, i + 1, j, x, h, hj => by
  rw [List.flatMap_cons, List.getElem?_append_right (by rw [hf, Nat.succ_mul]; omega), hf, show (i + 1) * k + j - k = i * k + j by rw [Nat.succ_mul]; omega]
  exact flat_at hf l i j x (by simpa using h) hj
theorem Sle.nil (hk : 0 < k) (hf : ∀ x, (f x).length = k) (w : World) : Sle f k w none 0 0 [] := ⟨rfl, Nat.le_refl _, Nat.zero_le _, fun h => absurd h (by omega), hk, hf⟩
theorem Sle.keep (h : Sle f k w A n c l) (hk : ∀ g o v, w.cell? ⟨g, o, none⟩ = some v → A = some ⟨g, o, none⟩ ∨ True → (∃ o', A = some ⟨g, o', none⟩) → w'.cell? ⟨g, o, none⟩ = some v) : Sle f k w' A n c l :=
 ⟨h.1, h.2.1, h.2.2.1, fun hn => by
  obtain ⟨g, o, e, hc⟩ := h.2.2.2.1 hn
  exact ⟨g, o, e, fun j b hj => hk _ _ _ (hc j b hj) (.inr trivial) ⟨o, e⟩⟩, h.2.2.2.2⟩
theorem Sle.below (h : Sle f k w A n c l) (hb : Below w.heap.size w w') : Sle f k w' A n c l :=
 h.keep fun _ _ _ hc _ _ => (hb.cell (cell_lt hc)).trans hc
theorem Sle.drew (h : Sle f k w A n c l) : Sle f k w.drew A n c l := h.keep fun _ _ _ hc _ _ => hc
theorem Sle.away {g : Nat} (h : Sle f k w A n c l) (v : Av A n g) (hg : w.grownBy w' (some g)) : Sle f k w' A n c l := by
 refine ⟨h.1, h.2.1, h.2.2.1, fun hn => ?_, h.2.2.2.2⟩
 obtain ⟨a, o, e, hc⟩ := h.2.2.2.1 hn
 have hne := v hn a o none e
 exact ⟨a, o, e, fun j b hj => (World.cell?_of_block (w := w) (hg.block a (cell_lt (hc j b hj)) (fun e2 => hne (by injection e2)))).trans (hc j b hj)⟩
theorem Sle.under {lo : Nat} (h : Sle f k w A n c l) (v : Bl A n lo) (hb : Below lo w w') : Sle f k w' A n c l := by
 refine ⟨h.1, h.2.1, h.2.2.1, fun hn => ?_, h.2.2.2.2⟩
 obtain ⟨a, o, e, hc⟩ := h.2.2.2.1 hn
 exact ⟨a, o, e, fun j b hj => (hb.cell (p := ⟨a, o + j, none⟩) (v hn a o none e)).trans (hc j b hj)⟩
theorem Sle.pos (h : Sle f k w A n c l) (hn : 0 < n) : ∃ v, (l.flatMap f)[0]? = some v := by
 have hl := flat_len h.2.2.2.2.2 l
 have : 0 < (l.flatMap f).length := by rw [hl, h.1]; exact Nat.mul_pos hn h.2.2.2.2.1
 exact ⟨_, List.getElem?_eq_getElem this⟩
theorem Sle.at0 (h : Sle f k w A n c l) (hn : 0 < n) {a o : Nat} {p : Option Nat} (e : A = some ⟨a, o, p⟩) : a < w.heap.size := by
 obtain ⟨a', o', e', hc⟩ := h.2.2.2.1 hn
 rw [e] at e'
 injection e' with e'
 injection e' with e1 e2
 subst e1
 obtain ⟨v, hv⟩ := h.pos hn
 exact cell_lt (hc 0 v hv)
theorem Sle.av_new {g : Nat} (h : Sle f k w A n c l) (hg : w.heap.size ≤ g) : Av A n g := fun hn _ _ _ e => Nat.ne_of_lt (Nat.lt_of_lt_of_le (h.at0 hn e) hg)
theorem Sle.bl_new (h : Sle f k w A n c l) : Bl A n w.heap.size := fun hn _ _ _ e => h.at0 hn e
theorem Sle.place (h : Sle f k w A n c l) (hn : 0 < n) : ∃ g o, A = some ⟨g, o, none⟩ := by
 obtain ⟨g, o, e, _⟩ := h.2.2.2.1 hn
 exact ⟨g, o, e⟩
/-- A cell of an element. -/
theorem Sle.cell {g o i j : Nat} {x : α} {v : Value} (h : Sle f k w (some ⟨g, o, none⟩) n c l) (hx : l[i]? = some x) (hv : (f x)[j]? = some v) : w.cell? ⟨g, o + (i * k + j), none⟩ = some v := by
 obtain ⟨_, _, _, h4, h5, h6⟩ := h
 have hi : i < l.length := (List.getElem?_eq_some_iff.1 hx).1
 have hj : j < k := by rw [← h6 x]; exact (List.getElem?_eq_some_iff.1 hv).1
 obtain ⟨g', o', e, hc⟩ := h4 (by omega)
 injection e with e
 injection e with e1 e2
 subst e1
 subst e2
 exact hc _ _ ((flat_at h6 l i j x hx hj).trans hv)
/-- Pieces. -/
theorem Sle.take {m : Nat} (h : Sle f k w A n c l) (hm : m ≤ n) : Sle f k w A m c (l.take m) := by
 obtain ⟨h1, h2, h3, h4, h5, h6⟩ := h
 refine ⟨by rw [List.length_take]; omega, by omega, h3, fun hn => ?_, h5, h6⟩
 obtain ⟨g, o, e, hc⟩ := h4 (by omega)
 refine ⟨g, o, e, fun j b hj => hc j b ?_⟩
 have e2 : l.flatMap f = (l.take m).flatMap f ++ (l.drop m).flatMap f := by rw [← List.flatMap_append, List.take_append_drop]
 rw [e2, List.getElem?_append_left (List.getElem?_eq_some_iff.1 hj).1]
 exact hj
/-- A new block of elements. -/
theorem sle_lit {g : Nat} {T : TypeId} {fr : Nat × Nat} (l : List α) (hk : 0 < k) (hf : ∀ x, (f x).length = k) (h : w.heap[g]? = some (.cells (l.flatMap f).toArray T fr)) (hn : l.length = n) (hm : n ≤ maxLen) : Sle f k w (some ⟨g, 0, none⟩) n n l :=
 ⟨hn, Nat.le_refl _, hm, fun _ => ⟨_, _, rfl, fun j b hj => by simp only [World.cell?, h]; simpa using hj⟩, hk, hf⟩
/-- What is owned. -/
theorem owk_sle {B : Nat} {T : TypeId} {m : Nat} (hk : 0 < k) (hf : ∀ x, (f x).length = k) (h : w.ownsRow B T k (.slice A m c) n (l.flatMap f)) : Sle f k w A n c l ∧ Fr B A n := by
 have hl : l.length = n := by
  have h1 := h.1
  rw [flat_len hf] at h1
  exact Nat.eq_of_mul_eq_mul_right hk h1
 rcases h.2 with ⟨e, rfl⟩ | ⟨g, cap, cur, e, hb, hh, hn, hm, hs, ht⟩
 ·injection e with e1 e2 e3
  subst e1
  subst e3
  exact ⟨⟨hl, Nat.le_refl _, Nat.zero_le _, fun h => absurd h (by omega), hk, hf⟩, fun h => absurd h (by omega)⟩
 ·injection e with e1 e2 e3
  subst e1
  subst e3
  refine ⟨⟨hl, hn, hm, fun _ => ⟨g, 0, rfl, fun j b hj => ?_⟩, hk, hf⟩, fun _ => ⟨g, 0, rfl, hb⟩⟩
  have e1 : cur.toList[j]? = some b := by
   have : (cur.toList.take (n * k))[j]? = some b := by rw [ht]; exact hj
   rw [List.getElem?_take] at this
   split at this
   ·exact this
   ·cases this
  simp only [World.cell?, hh]
  simpa using e1
theorem owk_val {B : Nat} {T : TypeId} {v : Value} {xs : List Value} (h : w.ownsRow B T k v n xs) : ∃ A c, v = .slice A n c := by
 rcases h.2 with ⟨e, rfl⟩ | ⟨g, cap, cur, e, _⟩
 ·exact ⟨none, 0, e⟩
 ·exact ⟨_, _, e⟩
theorem owk_under {B : Nat} {e : TypeId} {v : Value} {xs : List Value} (h : w.ownsRow B e k v n xs) (hb : Below w.heap.size w w') : w'.ownsRow B e k v n xs := by
 refine ⟨h.1, ?_⟩
 rcases h.2 with h | ⟨g, cap, cur, e, hg, hh, h⟩
 ·exact .inl h
 ·exact .inr ⟨g, cap, cur, e, hg, (hb.block g (Array.getElem?_eq_some_iff.1 hh).1).trans hh, h⟩
theorem owk_off {B q : Nat} {e : TypeId} {v : Value} {xs : List Value} (h : w.ownsRow B e k v n xs) (hv : Ofs v q) (hg : w.grownBy w' (some q)) : w'.ownsRow B e k v n xs := by
 refine ⟨h.1, ?_⟩
 rcases h.2 with h | ⟨g, cap, cur, e, hb, hh, h⟩
 ·exact .inl h
 ·have hne := hv g (by rw [e]; rfl)
  exact .inr ⟨g, cap, cur, e, hb, (hg.block g (Array.getElem?_eq_some_iff.1 hh).1 (fun e2 => hne (by injection e2))).trans hh, h⟩
theorem owk_new {B q : Nat} {e : TypeId} {v : Value} {xs : List Value} (h : w.ownsRow B e k v n xs) (hq : w.heap.size ≤ q) : Ofs v q := fun g hg => by
 rcases h.2 with ⟨h, _⟩ | ⟨g', cap, cur, e, hb, hh, h⟩
 ·rw [h] at hg; simp [Value.ownBlock] at hg
 ·have hl := (Array.getElem?_eq_some_iff.1 hh).1
  rw [e] at hg
  simp only [Value.ownBlock, Option.some.injEq] at hg
  omega
theorem Sle.cells (h : Sle f k w A n c l) : ∀ ad, A = some ad → ∀ j u, (l.flatMap f)[j]? = some u → w.cell? (ad.add j) = some u := by
 intro ad hA j u hu
 have hj := (List.getElem?_eq_some_iff.1 hu).1
 rw [flat_len h.2.2.2.2.2, h.1] at hj
 have hn : 0 < n := by
  rcases Nat.eq_zero_or_pos n with h0 | h0
  ·subst h0; omega
  ·exact h0
 obtain ⟨g, o, e, hc⟩ := h.2.2.2.1 hn
 rw [hA] at e
 obtain rfl := Option.some.inj e
 rw [Addr.add_lit]
 exact hc j u hu
end
/-- append onto a row of the call's own, whatever the source. -/
theorem run_append_sle {P : Program} {α : Type} {f : α → List Value} {k : Nat} (w : World) (base : Nat) (t ty e : TypeId) (i : TypeInfo) (z : Value) (bytes : Nat) (ht : P.underlying t = some (.slice e)) (hi : P.info? e = some i) (hz : i.zero = some z)
  (hsize : i.size = k) (hby : i.bytes = bytes) (hzs : z.cells.size = k) (h1 : ∀ x, ∀ u ∈ f x, u.oneCell' = true)
  (v : Value) (n : Nat) (l : List α) (hown : w.ownsRow base e k v n (l.flatMap f))
  (A : Option Addr) (m c : Nat) (l2 : List α) (hr : Sle f k w A m c l2)
  (h63 : n + m ≤ maxLen) (hb47 : (n + m) * bytes ≤ 140737488355328) (hbase : base ≤ w.heap.size) :
  ∃ v' w', (Builtin.append_ #[t, t] ty #[v, .slice A m c]).run P w = .ok v' w' ∧ w'.ownsRow base e k v' (n + m) ((l ++ l2).flatMap f) ∧ w.grownBy w' v.ownBlock ∧
   (v'.ownBlock = v.ownBlock ∨ v'.ownBlock = some w.heap.size) := by
 have hlen : (l2.flatMap f).length = m * k := by rw [flat_len hr.2.2.2.2.2, hr.1]
 rw [List.flatMap_append]
 rcases A with _ | ad
 ·have hm : m = 0 := by
   rcases Nat.eq_zero_or_pos m with h0 | h0
   ·exact h0
   ·obtain ⟨g, o, h, _⟩ := hr.2.2.2.1 h0
    cases h
  subst hm
  have hn : l2 = [] := List.eq_nil_of_length_eq_zero hr.1
  subst hn
  refine ⟨v, w, ?_, by simpa using hown, World.grownBy.refl w _, .inl rfl⟩
  rcases hown.2 with ⟨rfl, rfl⟩ | ⟨g, cap, cur, rfl, _, _, hnc, _⟩
  ·simp [Builtin.append_, run_underlying ht, sizeOf, typeInfo, hi, Builtin.lenOf, Builtin.firstCells]
  ·simp [Builtin.append_, run_underlying ht, sizeOf, typeInfo, hi, Builtin.lenOf, Builtin.firstCells, hnc, storeCells]
 ·obtain ⟨v', w', h1, h2, h3, _, h5⟩ := run_append_own_at (P := P) w base t ty e i z k bytes ht hi hz hsize hby hzs hr.2.2.2.2.1 v n (l.flatMap f) hown ad m c (l2.flatMap f) hlen (hr.cells ad rfl) (fun u hu => by obtain ⟨x, _, hx⟩ := List.mem_flatMap.1 hu; exact h1 x u hx)
   h63 hb47 hbase
  exact ⟨v', w', h1, h2, h3, h5⟩
theorem wp_append_sle {P : Program} {α : Type} {f : α → List Value} {k : Nat} {o : Oper} {a : Act} {w : World} {K : Act → World → Prop} {Q : Exit → Act → World → Prop} (s x : Operand) (t : TypeId)
  (ho : o.op = .call { callee := .builtin .append, args := #[s, x], argTypes := #[t, t] })
  (base : Nat) (e : TypeId) (i : TypeInfo) (z : Value) (bytes : Nat) (ht : P.underlying t = some (.slice e)) (hi : P.info? e = some i) (hz : i.zero = some z)
  (hsize : i.size = k) (hby : i.bytes = bytes) (hzs : z.cells.size = k) (h1 : ∀ x, ∀ u ∈ f x, u.oneCell' = true)
  (v : Value) (n : Nat) (l : List α) (hs : a.eval s = v) (hown : w.ownsRow base e k v n (l.flatMap f))
  (A : Option Addr) (m c : Nat) (l2 : List α) (hx : a.eval x = .slice A m c) (hr : Sle f k w A m c l2)
  (h63 : n + m ≤ maxLen) (hb47 : (n + m) * bytes ≤ 140737488355328) (hbase : base ≤ w.heap.size)
  (h : ∀ v' w', w'.ownsRow base e k v' (n + m) ((l ++ l2).flatMap f) → Below base w w' → w.grownBy w' v.ownBlock → (∀ g, g < w.heap.size → Ofs v g → Ofs v' g) → K (a.put o.dst v') w') : Oper.wp P o a w K Q := by
 obtain ⟨v', w', hr, h2, h3, h5⟩ := run_append_sle (P := P) w base t o.type e i z bytes ht hi hz hsize hby hzs h1 v n l hown A m c l2 hr h63 hb47 hbase
 unfold Oper.wp execOp
 simp only [ho, resolve, invoke, builtin, Sem.run_bind, Sem.run_pure, Result.andThen_ok, List.map_toArray, List.map_cons, List.map_nil, hs, hx, hr]
 exact h v' w' h2 ((Below.refl base w).grown h3 hbase (fun k hk => (hown.lt k hk).1)) h3 (ofs_of h5)
theorem wpList_append_sle {P : Program} {α : Type} {f : α → List Value} {k : Nat} {ops : Array Oper} {rest : List Oper} {o : Oper} {a : Act} {w : World} {Q : Exit → Act → World → Prop} (hgd : o.guard = none) (s x : Operand) (t : TypeId)
  (ho : o.op = .call { callee := .builtin .append, args := #[s, x], argTypes := #[t, t] })
  (base : Nat) (e : TypeId) (i : TypeInfo) (z : Value) (bytes : Nat) (ht : P.underlying t = some (.slice e)) (hi : P.info? e = some i) (hz : i.zero = some z)
  (hsize : i.size = k) (hby : i.bytes = bytes) (hzs : z.cells.size = k) (h1 : ∀ x, ∀ u ∈ f x, u.oneCell' = true)
  (v : Value) (n : Nat) (l : List α) (hs : a.eval s = v) (hown : w.ownsRow base e k v n (l.flatMap f))
  (A : Option Addr) (m c : Nat) (l2 : List α) (hx : a.eval x = .slice A m c) (hr : Sle f k w A m c l2)
  (h63 : n + m ≤ maxLen) (hb47 : (n + m) * bytes ≤ 140737488355328) (hbase : base ≤ w.heap.size)
  (h : ∀ v' w', w'.ownsRow base e k v' (n + m) ((l ++ l2).flatMap f) → Below base w w' → w.grownBy w' v.ownBlock → (∀ g, g < w.heap.size → Ofs v g → Ofs v' g) → wpList P ops Q rest (a.put o.dst v') w') : wpList P ops Q (o :: rest) a w :=
 wpList_plain hgd fun _ hK => wp_append_sle s x t ho base e i z bytes ht hi hz hsize hby hzs h1 v n l hs hown A m c l2 hx hr h63 hb47 hbase fun v' w' h1 h2 h3 h4 => hK _ _ (h v' w' h1 h2 h3 h4)
theorem owk_av {w : World} {B k : Nat} {e : TypeId} {A : Option Addr} {m c n g : Nat} {xs : List Value} (h : w.ownsRow B e k (.slice A m c) n xs) (o : Ofs (.slice A m c) g) : Av A n g := fun hn a p q e1 => by
 rcases h.2 with ⟨_, rfl⟩ | ⟨g', cap, cur, e2, _⟩
 ·omega
 ·injection e2 with e3 e4 e5
  rw [e3] at e1
  injection e1 with e1
  injection e1 with e6 e7 e8
  subst e6
  exact o g' (by rw [e3]; rfl)
/-- A piece of an element. -/
theorem Sle.range {α : Type} {f : α → List Value} {k : Nat} {w : World} {g o n c i : Nat} {l : List α} {x : α} (h : Sle f k w (some ⟨g, o, none⟩) n c l) (hx : l[i]? = some x) (a m : Nat) (cs : List Value) (hcs : ((f x).drop a).take m = cs) : w.rangeAt g (o + i * k + a) cs := by
 intro j v hv
 rw [← hcs, List.getElem?_take] at hv
 split at hv
 ·rw [List.getElem?_drop] at hv
  have := h.cell hx hv
  rw [show o + i * k + a + j = o + (i * k + (a + j)) by omega]
  exact this
 ·cases hv
theorem Sle.cellk {α : Type} {f : α → List Value} {k : Nat} {w : World} {g o n c i : Nat} {l : List α} {x : α} (h : Sle f k w (some ⟨g, o, none⟩) n c l) (hx : l[i]? = some x) (a : Nat) (v : Value) (hv : (f x)[a]? = some v) : w.cell? ⟨g, o + i * k + a, none⟩ = some v := by
 have := h.cell hx hv
 rw [← Nat.add_assoc] at this
 exact this
theorem Sle.range0 {α : Type} {f : α → List Value} {k : Nat} {w : World} {g o n c i : Nat} {l : List α} {x : α} (h : Sle f k w (some ⟨g, o, none⟩) n c l) (hx : l[i]? = some x) (m : Nat) (cs : List Value) (hcs : (f x).take m = cs) : w.rangeAt g (o + i * k) cs := h.range hx 0 m cs hcs
theorem Sle.off {α : Type} {f : α → List Value} {k : Nat} {w w' : World} {g o n c : Nat} {l : List α} {v : Value} (h : Sle f k w (some ⟨g, o, none⟩) n c l) (hv : Ofs v g) (gw : w.grownBy w' v.ownBlock) : Sle f k w' (some ⟨g, o, none⟩) n c l :=
 h.keep fun a p u hc _ he => by
  obtain ⟨o', e⟩ := he
  injection e with e
  injection e with e1 e2
  subst e1
  exact (World.cell?_of_block (w := w) (gw.block g (cell_lt hc) (fun e3 => hv g e3.symm rfl))).trans hc
open Go.RowKit

section
variable {P : Program} {ops : Array Oper} {Q : Exit → Act → World → Prop} {md : Region.Mode} {S : World → Prop} {z : Nat}

/-- Number 'z' waits for number 'i', by a way over what has not come up yet. -/
def waitsFor (md : Region.Mode) (ops : Array Oper) (listed : Array Bool) (i : Nat) : Nat → Nat → Bool
 | 0, _ => false
 | f + 1, z => match ops[z]? with
  | none => false
  | some o => o.after.toList.any fun e => Region.binds md e && (!(listed.getD e.on false) && (e.on == i || waitsFor md ops listed i f e.on))

theorem waitsFor_spec {listed : Array Bool} {i : Nat} : ∀ {f z : Nat}, waitsFor md ops listed i f z = true → ∃ o, ops[z]? = some o ∧ ∃ e ∈ o.after, Region.binds md e = true ∧ listed.getD e.on false = false ∧ (e.on = i ∨ ∃ f', f = f' + 1 ∧ waitsFor md ops listed i f' e.on = true)
 | 0, _, h => by cases h
 | f + 1, z, h => by
  unfold waitsFor at h
  cases ho : ops[z]? with
  | none => rw [ho] at h; cases h
  | some o =>
   rw [ho] at h
   simp only [List.any_eq_true, Bool.and_eq_true, Bool.not_eq_true', Bool.or_eq_true, beq_iff_eq] at h
   obtain ⟨e, he, hb, hl, hr⟩ := h
   exact ⟨o, rfl, e, Array.mem_toList_iff.1 he, hb, hl, hr.imp id fun h => ⟨f, rfl, h⟩⟩

theorem waitsFor_ready {listed : Array Bool} {i f z : Nat} (h : waitsFor md ops listed i f z = true) : z ∉ Region.ready md ops listed := fun hz => by
 obtain ⟨o, ho, e, he, hb, hl, _⟩ := waitsFor_spec h
 obtain ⟨_, o', ho', hall⟩ := mem_ready.1 hz
 rw [ho] at ho'
 cases ho'
 rw [hall e he hb] at hl
 cases hl

theorem waitsFor_step {listed : Array Bool} {i j : Nat} (hj : j ∈ Region.ready md ops listed) (hne : j ≠ i) : ∀ {f z : Nat}, waitsFor md ops listed i f z = true → waitsFor md ops (listed.setIfInBounds j true) i f z = true
 | 0, _, h => by cases h
 | f + 1, z, h => by
  obtain ⟨o, ho, e, he, hb, hl, hr⟩ := waitsFor_spec h
  unfold waitsFor
  rw [ho]
  simp only [List.any_eq_true, Bool.and_eq_true, Bool.not_eq_true', Bool.or_eq_true, beq_iff_eq]
  have hk : j ≠ e.on := by
   rcases hr with h | ⟨f', _, h⟩
   ·rw [h]; exact hne
   ·exact fun hh => waitsFor_ready h (hh ▸ hj)
  refine ⟨e, Array.mem_toList_iff.2 he, hb, by rw [getD_set_ne false hk]; exact hl, ?_⟩
  rcases hr with h | ⟨f', hf, h⟩
  ·exact .inl h
  ·cases hf; exact .inr (waitsFor_step hj hne h)

/-- Whatever order is picked from here on, and S holds behind every operation that is carried out, but for number 'z'. -/
def wpAnyZ (P : Program) (md : Region.Mode) (ops : Array Oper) (Q : Exit → Act → World → Prop) (S : World → Prop) (z : Nat) : Nat → Array Bool → Act → World → Prop
 | 0, listed, a, w => Region.ready md ops listed = [] ∧ Q .normal a w
 | fuel + 1, listed, a, w =>
  (Region.ready md ops listed = [] → Q .normal a w) ∧
  ∀ i ∈ Region.ready md ops listed, wpOp P ops Q i (fun a' w' => (i ≠ z → S w') ∧ wpAnyZ P md ops Q S z fuel (listed.setIfInBounds i true) a' w') a w

theorem wpAny_of_heldZ : ∀ (fuel : Nat) (listed : Array Bool) (a : Act) (w : World), wpAnyZ P md ops Q S z fuel listed a w → wpAny P md ops Q fuel listed a w
 | 0, _, _, _, h => h
 | fuel + 1, _, _, _, h => ⟨h.1, fun i hi => wpOp_mono (fun a' w' h' => wpAny_of_heldZ fuel _ a' w' h'.2) (h.2 i hi)⟩

theorem wpAnyZ_first {i : Nat} {oi : Oper} {v : Value} (hi : ops[i]? = some oi) (hsel : ∀ (j : Nat) (o : Oper) cs b, ops[j]? = some o → o.op ≠ .select cs b)
  (hQ : ∀ c a w, Q (.panic c) (a.put oi.dst v) w → Q (.panic c) a w) {F : Nat} :
  ∀ (fuel : Nat) (listed : Array Bool) (a : Act) (w : World),
   (∀ j oj, ops[j]? = some oj → j ≠ i → listed.getD j true = false → (∀ e ∈ oj.after, Region.binds md e = true → e.on ≠ i) → oi.apart ops oj = true) →
   i ∈ Region.ready md ops listed → waitsFor md ops listed i F z = true → YieldsIf P ops S oi v a → S w →
   wpAnyZ P md ops Q S z fuel (listed.setIfInBounds i true) (a.put oi.dst v) w → wpAnyZ P md ops Q S z (fuel + 1) listed a w := by
 intro fuel
 induction fuel with
 | zero =>
  intro listed a w _ hr _ hy hS H
  refine ⟨fun h => (by rw [h] at hr; cases hr), fun j hj => ?_⟩
  by_cases hji : j = i
  ·subst hji; exact hy.wpOp hi hS ⟨fun _ => hS, H⟩
  ·have := ready_mono hj hji
   rw [H.1] at this
   cases this
 | succ fuel ih =>
  intro listed a w hfree hr hw hy hS H
  refine ⟨fun h => (by rw [h] at hr; cases hr), fun j hj => ?_⟩
  by_cases hji : j = i
  ·subst hji; exact hy.wpOp hi hS ⟨fun _ => hS, H⟩
  ·have hjz : j ≠ z := fun hh => waitsFor_ready hw (hh ▸ hj)
   have h1 := H.2 j (ready_mono hj hji)
   obtain ⟨hjun, oj, hoj, hall⟩ := mem_ready.1 hj
   have hnot : ∀ e ∈ oj.after, Region.binds md e = true → e.on ≠ i := fun e he hb heq => by
    have h1 := hall e he hb
    have h0 := (mem_ready.1 hr).1
    rw [heq] at h1
    rcases Nat.lt_or_ge i listed.size with h' | h'
    ·simp [h'] at h0 h1; rw [h0] at h1; cases h1
    ·simp [Array.getElem?_eq_none h'] at h1
   have h2 := wpOp_putIf hoj (hfree j oj hoj hji hjun hnot) (fun cs b => hsel i oi cs b hi) (fun cs b => hsel j oj cs b hoj) hQ hy h1
   have hfree' : ∀ k ok, ops[k]? = some ok → k ≠ i → (listed.setIfInBounds j true).getD k true = false →
     (∀ e ∈ ok.after, Region.binds md e = true → e.on ≠ i) → oi.apart ops ok = true := fun k ok hk hki hun hno => by
    refine hfree k ok hk hki ?_ hno
    by_cases hjk : j = k
    ·subst hjk; exact hjun
    ·rw [getD_set_ne true hjk] at hun; exact hun
   refine wpOp_mono (fun a' w' h3 => ⟨fun _ => h3.2.1 hjz, ih (listed.setIfInBounds j true) a' w' hfree' (ready_mono hr (Ne.symm hji)) (waitsFor_step hj hji hw) h3.1 (h3.2.1 hjz) ?_⟩) h2
   rw [Array.setIfInBounds_comm _ _ hji]
   exact h3.2.2

theorem wpAnyZ_take {i : Nat} {oi : Oper} {v : Value} {fuel : Nat} {listed : Array Bool} {a : Act} {w : World} (hi : ops[i]? = some oi)
  (hs : Region.noSelect ops = true) (hf : Region.free md ops listed i = true) (hr : (Region.ready md ops listed).contains i = true)
  (hQ : ∀ c a w, Q (.panic c) (a.put oi.dst v) w → Q (.panic c) a w) (hy : YieldsIf P ops S oi v a) (hS : S w)
  (h : wpAnyZ P md ops Q S z fuel (listed.setIfInBounds i true) (a.put oi.dst v) w) (hz : waitsFor md ops listed i 16 z = true := by kernel_rfl) : wpAnyZ P md ops Q S z (fuel + 1) listed a w :=
 wpAnyZ_first hi (Region.noSelect_spec hs) hQ fuel listed a w (Region.free_spec hi hf) (by simpa using hr) hz hy hS h

theorem wpAnyZ_done {listed : Array Bool} {a : Act} {w : World} (hr : Region.ready md ops listed = []) (h : Q .normal a w) :
  ∀ fuel, wpAnyZ P md ops Q S z fuel listed a w
 | 0 => ⟨hr, h⟩
 | _ + 1 => ⟨fun _ => h, by rw [hr]; simp⟩

def AllReadyZ (P : Program) (md : Region.Mode) (ops : Array Oper) (Q : Exit → Act → World → Prop) (S : World → Prop) (z : Nat) (fuel : Nat) (listed : Array Bool) (a : Act) (w : World) (rs : List Nat) : Prop :=
 ∀ i ∈ rs, wpOp P ops Q i (fun a' w' => (i ≠ z → S w') ∧ wpAnyZ P md ops Q S z fuel (listed.setIfInBounds i true) a' w') a w

theorem AllReadyZ.nil {fuel : Nat} {listed : Array Bool} {a : Act} {w : World} : AllReadyZ P md ops Q S z fuel listed a w [] := fun _ h => by cases h
theorem AllReadyZ.cons {fuel : Nat} {listed : Array Bool} {a : Act} {w : World} {i : Nat} {o : Oper} {rs : List Nat} (ho : ops[i]? = some o)
  (h : ∀ K' : Act → World → Prop, Shut (∀ a w, S w → (S w → wpAnyZ P md ops Q S z fuel (listed.setIfInBounds i true) a w) → K' a w) → if Region.wanted o (yielded ops a.tmps) = true then Oper.wp P o a w K' Q else K' (a.put o.dst undef) w)
  (hs : AllReadyZ P md ops Q S z fuel listed a w rs) : AllReadyZ P md ops Q S z fuel listed a w (i :: rs) := fun j hj => by
 rcases List.mem_cons.1 hj with rfl | hj
 ·exact wpOp_step ho (fun K' hK => h K' (fun a w hS hW => hK a w ⟨fun _ => hS, hW hS⟩))
 ·exact hs j hj
theorem AllReadyZ.last {fuel : Nat} {listed : Array Bool} {a : Act} {w : World} {o : Oper} (ho : ops[z]? = some o)
  (h : ∀ K' : Act → World → Prop, Shut (∀ a w, True → (True → wpAnyZ P md ops Q S z fuel (listed.setIfInBounds z true) a w) → K' a w) → if Region.wanted o (yielded ops a.tmps) = true then Oper.wp P o a w K' Q else K' (a.put o.dst undef) w) : AllReadyZ P md ops Q S z fuel listed a w [z] := fun j hj => by
 rw [List.mem_singleton] at hj
 subst hj
 exact wpOp_step ho (fun K' hK => h K' (fun a w _ hW => hK a w ⟨fun e => absurd rfl e, hW trivial⟩))

theorem wpAnyZ_ready {rs : List Nat} {fuel : Nat} {listed : Array Bool} {a : Act} {w : World} (hr : Region.ready md ops listed = rs) (hne : rs ≠ [])
  (h : AllReadyZ P md ops Q S z fuel listed a w rs) : wpAnyZ P md ops Q S z (fuel + 1) listed a w := ⟨fun h0 => absurd (hr ▸ h0) hne, hr ▸ h⟩

theorem wp_region_z (z : Nat) {id : Nat} {a : Act} {w : World} (hm : P.follows .mixedOrders = true) (hS : S w.drew)
  (h : S w.drew → wpAnyZ P .any ops Q S z ops.size (Array.replicate ops.size false) a w.drew) : (Code.region id ops true).wp P Q a w :=
 wp_region_any hm (wpAny_of_heldZ _ _ _ _ (h hS))
end
open Go.RowKit

/-- What is in blocks of other types than S's stays as it was. -/
def Kt (S : List TypeId) (w w' : World) : Prop := ∀ (k : Nat) (c : Array Value) (T : TypeId) (fz : Nat × Nat), w.heap[k]? = some (.cells c T fz) → T ∉ S → w'.heap[k]? = some (.cells c T fz)
theorem Kt.refl (S : List TypeId) (w : World) : Kt S w w := fun _ _ _ _ h _ => h
theorem Kt.trans {S : List TypeId} {a b c : World} (h : Kt S a b) (h' : Kt S b c) : Kt S a c := fun k x T fz hx hT => h' k x T fz (h k x T fz hx hT) hT
theorem Kt.mono {S S' : List TypeId} {a b : World} (h : Kt S a b) (hS : ∀ T ∈ S, T ∈ S') : Kt S' a b := fun k x T fz hx hT => h k x T fz hx (fun hn => hT (hS T hn))
theorem kt_grown {S : List TypeId} {w w' : World} {q : Nat} {c : Array Value} {T : TypeId} {fz : Nat × Nat} (g : w.grownBy w' (some q)) (h : w.heap[q]? = some (.cells c T fz)) (hT : T ∈ S) : Kt S w w' := fun k x T' fz' hx hT' => by
 by_cases e : k = q
 ·subst e; rw [h] at hx; cases hx; exact absurd hT hT'
 ·exact (g.block k (hlt hx) (fun e' => e (by injection e'))).trans hx
/-- Of two worlds behind each other, the second behind a store into a block that the first one does not hold. -/
theorem Kt.newer {S : List TypeId} {w0 w w' : World} {q : Nat} (h : Kt S w0 w) (g : w.grownBy w' (some q)) (hq : w0.heap.size ≤ q) (hs : w0.heap.size ≤ w.heap.size) : Kt S w0 w' := fun k x T fz hx hT =>
 (g.block k (Nat.lt_of_lt_of_le (hlt hx) hs) (fun e => by have := hlt hx; injection e; omega)).trans (h k x T fz hx hT)
theorem Kt.blk {S : List TypeId} {w w' : World} {k : Nat} {c : Array Value} {T : TypeId} {fz : Nat × Nat} (h : Kt S w w') (hk : w.heap[k]? = some (.cells c T fz)) (hT : T ∉ S) : w'.heap[k]? = some (.cells c T fz) := h k c T fz hk hT
theorem Kt.own {S : List TypeId} {w w' : World} {B k n : Nat} {T : TypeId} {v : Value} {xs : List Value} (h : Kt S w w') (ho : w.ownsRow B T k v n xs) (hT : T ∉ S) : w'.ownsRow B T k v n xs := by
 refine ⟨ho.1, ?_⟩
 rcases ho.2 with h2 | ⟨g, cap, cur, e, hb, hh, h2⟩
 ·exact .inl h2
 ·exact .inr ⟨g, cap, cur, e, hb, h g _ _ _ hh hT, h2⟩

/-- All is as it was but in block g and in the block of v. -/
structure Gr2 (w w' : World) (g : Nat) (v : Value) : Prop where
 os : w'.os = w.os
 tape : w'.tape = w.tape
 output : w'.output = w.output
 size : w.heap.size ≤ w'.heap.size
 block : ∀ k, k < w.heap.size → k ≠ g → v.ownBlock ≠ some k → w'.heap[k]? = w.heap[k]?
theorem Gr2.refl (w : World) (g : Nat) (v : Value) : Gr2 w w g v := ⟨rfl, rfl, rfl, Nat.le_refl _, fun _ _ _ _ => rfl⟩
/-- Two steps, the row's place in between new or where it was. -/
theorem Gr2.trans {a b c : World} {g : Nat} {v v' : Value} (h : Gr2 a b g v) (h' : Gr2 b c g v') (hv : ∀ q, q < a.heap.size → Ofs v q → Ofs v' q) : Gr2 a c g v :=
 ⟨h'.os.trans h.os, h'.tape.trans h.tape, h'.output.trans h.output, Nat.le_trans h.size h'.size, fun k hk h1 h2 =>
  (h'.block k (Nat.lt_of_lt_of_le hk h.size) h1 (fun e => hv k hk (fun q hq hqk => h2 (by rw [hq, hqk])) k e rfl)).trans (h.block k hk h1 h2)⟩
/-- A store into a block of the call's own that was not there at first. -/
theorem Gr2.newer {a b c : World} {g q : Nat} {v : Value} (h : Gr2 a b g v) (h' : b.grownBy c (some q)) (hq : a.heap.size ≤ q) : Gr2 a c g v :=
 ⟨h'.os.trans h.os, h'.tape.trans h.tape, h'.output.trans h.output, Nat.le_trans h.size h'.size, fun k hk h1 h2 =>
  (h'.block k (Nat.lt_of_lt_of_le hk h.size) (fun e => by injection e; omega)).trans (h.block k hk h1 h2)⟩
theorem Gr2.blk {w w' : World} {g q : Nat} {v : Value} {x : Obj} (h : Gr2 w w' g v) (hq : w.heap[q]? = some x) (d : Hid (q ≠ g)) (o : Ofs v q) : w'.heap[q]? = some x :=
 (h.block q (hlt hq) d.out (fun e => o q e rfl)).trans hq
theorem Gr2.bel {B : Nat} {w w' : World} {g : Nat} {v : Value} {k n : Nat} {T : TypeId} {xs : List Value} (h : Gr2 w w' g v) (hg : B ≤ g) (ho : w.ownsRow B T k v n xs) (hs : B ≤ w.heap.size) : Below B w w' :=
 ⟨h.os, h.tape, h.output, h.size, fun i hi => h.block i (Nat.lt_of_lt_of_le hi hs) (by omega) (fun e => by have := (ho.lt i e).1; omega)⟩
theorem row_bel {B : Nat} {w w' : World} {v : Value} {k n : Nat} {T : TypeId} {xs : List Value} (h : w.grownBy w' v.ownBlock) (ho : w.ownsRow B T k v n xs) (hs : B ≤ w.heap.size) : Below B w w' :=
 (Below.refl B w).grown h hs (fun i hi => (ho.lt i hi).1)
/-- A row and a block of another type lie apart. -/
theorem ofs_type {w : World} {B k n q : Nat} {T T2 : TypeId} {fz : Nat × Nat} {c : Array Value} {v : Value} {xs : List Value} (ho : w.ownsRow B T k v n xs) (hq : w.heap[q]? = some (.cells c T2 fz)) (hne : T2 ≠ T) : Ofs v q := fun g hg e => by
 subst e
 rcases ho.2 with ⟨h2, _⟩ | ⟨g', cap, cur, e2, hb, hh, h2⟩
 ·rw [h2] at hg; simp [Value.ownBlock] at hg
 ·rw [e2] at hg
  simp only [Value.ownBlock, Option.some.injEq] at hg
  subst hg
  rw [hh] at hq; cases hq; exact hne rfl

section
variable {α : Type} {f : α → List Value} {k : Nat} {w w' : World} {B n c g : Nat} {T : TypeId} {l : List α}
/-- Where a row that is not empty lies. -/
theorem row_at {A : Option Addr} {xs : List Value} (h : w.ownsRow B T k (.slice A n c) n xs) (hn : 0 < n) : ∃ g, A = some ⟨g, 0, none⟩ ∧ B ≤ g ∧ g < w.heap.size ∧ n ≤ c ∧ c ≤ maxLen := by
 rcases h.2 with ⟨_, rfl⟩ | ⟨g, cap, cur, e, hb, hh, hn, hm, _⟩
 ·omega
 ·injection e with e1 e2 e3
  subst e1
  subst e3
  exact ⟨g, rfl, hb, hlt hh, hn, hm⟩
theorem row_cap {A : Option Addr} {xs : List Value} (h : w.ownsRow B T k (.slice A n c) n xs) : n ≤ c ∧ c ≤ maxLen := by
 rcases h.2 with ⟨e, rfl⟩ | ⟨g, cap, cur, e, hb, hh, hn, hm, _⟩
 ·injection e with e1 e2 e3
  subst e3
  exact ⟨Nat.le_refl _, Nat.zero_le _⟩
 ·injection e with e1 e2 e3
  subst e3
  exact ⟨hn, hm⟩
theorem row_len {v : Value} (hk : 0 < k) (hf : ∀ x, (f x).length = k) (h : w.ownsRow B T k v n (l.flatMap f)) : l.length = n := by
 have h1 := h.1
 rw [flat_len hf] at h1
 exact Nat.eq_of_mul_eq_mul_right hk h1
theorem flat_set (hf : ∀ x, (f x).length = k) : ∀ (l : List α) (i : Nat) (x y : α) (a : Nat) (cs : List Value), l[i]? = some x → a + cs.length ≤ k → (f x).take a ++ cs ++ (f x).drop (a + cs.length) = f y →
  (l.flatMap f).take (i * k + a) ++ cs ++ (l.flatMap f).drop (i * k + a + cs.length) = (l.set i y).flatMap f
 | [], i, x, y, a, cs, h, _, _ => by simp at h
 | z :: l, 0, x, y, a, cs, h, hm, he => by
  obtain rfl : z = x := by simpa using h
  have hl := hf z
  rw [List.flatMap_cons, Nat.zero_mul, Nat.zero_add, List.take_append_of_le_length (by omega), List.drop_append_of_le_length (by omega), List.set_cons_zero, List.flatMap_cons, ← List.append_assoc, he]
 | z :: l, i + 1, x, y, a, cs, h, hm, he => by
  have hl := hf z
  have e1 : (i + 1) * k + a = (f z).length + (i * k + a) := by rw [hl, Nat.succ_mul]; omega
  rw [List.flatMap_cons, List.set_cons_succ, List.flatMap_cons, e1, List.take_length_add_append, Nat.add_assoc, List.drop_length_add_append, List.append_assoc, List.append_assoc, ← List.append_assoc (List.take _ _), flat_set hf l i x y a cs (by simpa using h) hm he]
/-- An element, or a piece of one, written. -/
theorem el_stored {i a : Nat} {x y : α} {cs : List Value} (hk : 0 < k) (hf : ∀ x, (f x).length = k) (h : w.ownsRow B T k (.slice (some ⟨g, 0, none⟩) n c) n (l.flatMap f)) (hx : l[i]? = some x) (hm : a + cs.length ≤ k) (hy : (f x).take a ++ cs ++ (f x).drop (a + cs.length) = f y) :
  (w.setCells g (i * k + a) cs).ownsRow B T k (.slice (some ⟨g, 0, none⟩) n c) n ((l.set i y).flatMap f) ∧ w.grownBy (w.setCells g (i * k + a) cs) (some g) := by
 refine ⟨?_, setCells_grown cs _ w⟩
 have hl := row_len hk hf h
 have hi := (List.getElem?_eq_some_iff.1 hx).1
 refine ⟨by rw [flat_len hf, List.length_set, hl], ?_⟩
 rcases h.2 with ⟨e, _⟩ | ⟨g', cap, cur, e, hb, hh, hn, hc, hs, ht⟩
 ·cases e
 ·injection e with e1 e2 e3
  injection e1 with e1
  injection e1 with e1
  subst e1
  subst e3
  have hcl : cur.toList.length = c * k := by simpa using hs
  have hik : i * k + k ≤ n * k := by rw [← Nat.succ_mul]; exact Nat.mul_le_mul_right k (by omega)
  have hnk : n * k ≤ c * k := Nat.mul_le_mul_right k hn
  have h2 := setCells_heap (T := T) (fr := (0, 0)) cs (i * k + a) w cur.toList (by simpa using hh) (by omega)
  have hcur : cur.toList = l.flatMap f ++ cur.toList.drop (n * k) := by rw [← ht, List.take_append_drop]
  have hfl : (l.flatMap f).length = n * k := by rw [flat_len hf, hl]
  have e4 : cur.toList.take (i * k + a) ++ cs ++ cur.toList.drop (i * k + a + cs.length) = (l.set i y).flatMap f ++ cur.toList.drop (n * k) := by
   conv => lhs; rw [hcur]
   rw [List.take_append_of_le_length (by omega), List.drop_append_of_le_length (by omega), ← List.append_assoc, flat_set hf l i x y a cs hx hm hy]
  rw [e4] at h2
  refine .inr ⟨g, c, _, rfl, hb, h2, hn, hc, ?_, ?_⟩
  ·simp [flat_len hf, hl]; omega
  ·show ((l.set i y).flatMap f ++ cur.toList.drop (n * k)).take (n * k) = _
   rw [List.take_append_of_le_length (by rw [flat_len hf, List.length_set, hl]; omega), List.take_of_length_le (by rw [flat_len hf, List.length_set, hl]; omega)]
end
/-- The same of a slice at a block's head. -/
theorem Sle.zrange {α : Type} {f : α → List Value} {k : Nat} {w : World} {g n c i : Nat} {l : List α} {x : α} (h : Sle f k w (some ⟨g, 0, none⟩) n c l) (hx : l[i]? = some x) (a m : Nat) (cs : List Value) (hcs : ((f x).drop a).take m = cs) : w.rangeAt g (i * k + a) cs := by
 have := h.range hx a m cs hcs
 rwa [Nat.zero_add] at this
theorem Sle.zrange0 {α : Type} {f : α → List Value} {k : Nat} {w : World} {g n c i : Nat} {l : List α} {x : α} (h : Sle f k w (some ⟨g, 0, none⟩) n c l) (hx : l[i]? = some x) (m : Nat) (cs : List Value) (hcs : (f x).take m = cs) : w.rangeAt g (i * k) cs := h.zrange hx 0 m cs hcs
theorem Sle.zcell {α : Type} {f : α → List Value} {k : Nat} {w : World} {g n c i : Nat} {l : List α} {x : α} (h : Sle f k w (some ⟨g, 0, none⟩) n c l) (hx : l[i]? = some x) (a : Nat) (v : Value) (hv : (f x)[a]? = some v) : w.cell? ⟨g, i * k + a, none⟩ = some v := by
 have := h.cellk hx a v hv
 rwa [Nat.zero_add] at this
theorem run_store_el {P : Program} {α : Type} {f : α → List Value} {k : Nat} (w : World) {B n c g i a : Nat} {T : TypeId} {l : List α} {x : α} (ty : TypeId) (v : Value) (cs : List Value) (hv : v.cells = cs.toArray) (hk : 0 < k) (hf : ∀ x, (f x).length = k)
  (h : w.ownsRow B T k (.slice (some ⟨g, 0, none⟩) n c) n (l.flatMap f)) (hx : l[i]? = some x) (hm : a + cs.length ≤ k) (hi : (P.info? ty).map (·.size) = some cs.length) (h1 : cs.all (·.oneCell') = true) :
  (Instr.storeAt ty (.pointer (some ⟨g, i * k + a, none⟩)) v).run P w = .ok () (w.setCells g (i * k + a) cs) := by
 have hl := row_len hk hf h
 have hil := (List.getElem?_eq_some_iff.1 hx).1
 have hik : i * k + k ≤ n * k := by rw [← Nat.succ_mul]; exact Nat.mul_le_mul_right k (by omega)
 have hc : ∀ j, j < cs.length → (w.cell? ⟨g, i * k + a + 0 + j, none⟩).isSome = true := by
  intro j hj
  rw [h.cellAt (i * k + a + 0 + j) (by omega)]
  have : i * k + a + 0 + j < (l.flatMap f).length := by rw [flat_len hf, hl]; omega
  rw [List.getElem?_eq_getElem this]; rfl
 have hfz : ∀ j, j < cs.length → w.frozen? ⟨g, i * k + a + 0 + j, none⟩ = false := fun j _ => h.frozenAt _
 have := run_storeCells_cells (P := P) g (i * k + a) cs 0 w hc hfz (fun v hv => List.all_eq_true.1 h1 v hv)
 simp only [Nat.add_zero] at this
 cases hq : P.info? ty with
 | none => simp [hq] at hi
 | some z =>
  have hs : z.size = cs.length := by simpa [hq] using hi
  simp [Instr.storeAt, Instr.sureAddr, Sem.run_bind, Sem.run_pure, storeVar, sizeOf, typeInfo, hq, hv, hs, this]
theorem wp_store_el {P : Program} {α : Type} {f : α → List Value} {k : Nat} {o : Oper} {ac : Act} {w : World} {K : Act → World → Prop} {Q : Exit → Act → World → Prop} (ty : TypeId) (px py : Operand) (ho : o.op = .store ty px py)
  {B n c : Nat} {T : TypeId} {l : List α} (g i a : Nat) (x y : α) (hp : ac.eval px = .pointer (some ⟨g, i * k + a, none⟩)) (cs : List Value) (hv : (ac.eval py).cells = cs.toArray) (hk : 0 < k) (hf : ∀ x, (f x).length = k)
  (h : w.ownsRow B T k (.slice (some ⟨g, 0, none⟩) n c) n (l.flatMap f)) (hx : l[i]? = some x) (hm : a + cs.length ≤ k) (hy : (f x).take a ++ cs ++ (f x).drop (a + cs.length) = f y) (hi : (P.info? ty).map (·.size) = some cs.length) (h1 : cs.all (·.oneCell') = true)
  (hK : ∀ w', w'.ownsRow B T k (.slice (some ⟨g, 0, none⟩) n c) n ((l.set i y).flatMap f) → w.grownBy w' (some g) → K (ac.put o.dst undef) w') : Oper.wp P o ac w K Q := by
 have hr := run_store_el (P := P) w ty _ cs hv hk hf h hx hm hi h1
 have hs := el_stored hk hf h hx hm hy
 unfold Oper.wp execOp
 simp only [ho, hp, Sem.run_bind, Sem.run_pure, Result.andThen_ok, hr]
 exact hK _ hs.1 hs.2
theorem wpList_store_el {P : Program} {α : Type} {f : α → List Value} {k : Nat} {ops : Array Oper} {rest : List Oper} {o : Oper} {ac : Act} {w : World} {Q : Exit → Act → World → Prop} (hgd : o.guard = none) (ty : TypeId) (px py : Operand) (ho : o.op = .store ty px py)
  {B n c : Nat} {T : TypeId} {l : List α} (g i a : Nat) (x y : α) (hp : ac.eval px = .pointer (some ⟨g, i * k + a, none⟩)) (cs : List Value) (hv : (ac.eval py).cells = cs.toArray) (hk : 0 < k) (hf : ∀ x, (f x).length = k)
  (h : w.ownsRow B T k (.slice (some ⟨g, 0, none⟩) n c) n (l.flatMap f)) (hx : l[i]? = some x) (hm : a + cs.length ≤ k) (hy : (f x).take a ++ cs ++ (f x).drop (a + cs.length) = f y) (hi : (P.info? ty).map (·.size) = some cs.length) (h1 : cs.all (·.oneCell') = true)
  (hK : ∀ w', w'.ownsRow B T k (.slice (some ⟨g, 0, none⟩) n c) n ((l.set i y).flatMap f) → w.grownBy w' (some g) → wpList P ops Q rest (ac.put o.dst undef) w') : wpList P ops Q (o :: rest) ac w :=
 wpList_plain hgd fun _ hK' => wp_store_el ty px py ho g i a x y hp cs hv hk hf h hx hm hy hi h1 (fun w' h1 h2 => hK' _ _ (hK w' h1 h2))
open Go.RowKit

structure Ad4 where
 (a b c d : UInt8)
structure Mc6 where
 (a b c d e f : UInt8)
def Ad4.num (x : Ad4) : Nat := be [x.a, x.b, x.c, x.d]
theorem Ad4.lt (x : Ad4) : x.num < 4294967296 := be_lt 4 _ rfl
def Mc6.l (m : Mc6) : List UInt8 := [m.a, m.b, m.c, m.d, m.e, m.f]
def Mc6.zero : Mc6 := ⟨0, 0, 0, 0, 0, 0⟩
open Go.RowKit

def Ad4.zero : Ad4 := ⟨0, 0, 0, 0⟩
def Ad4.l (x : Ad4) : List UInt8 := [x.a, x.b, x.c, x.d]
def Ad4.eqB (x y : Ad4) : Bool := x.l == y.l
theorem Ad4.eqB_iff {x y : Ad4} : x.eqB y = true ↔ x = y := by
 obtain ⟨a, b, c, d⟩ := x
 obtain ⟨a', b', c', d'⟩ := y
 simp [Ad4.eqB, Ad4.l]
theorem Ad4.eqB_self (x : Ad4) : x.eqB x = true := Ad4.eqB_iff.2 rfl
end Go.Proofs.YtbdaejodbcjmfaaGreat
