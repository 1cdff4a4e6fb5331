/- Options that are read and lie apart from the client's block; the client at a block. -/
import Derived.Test.YtjfboofnffghjaaDht
import Derived.Test.YtjfboofnffghjaaOpf
import Derived.Deep.Cut
import Derived.Deep.CutRange
namespace Go.Proofs.Ytjfboofnffghjaa
open Go.RowKit

theorem Try.info_opt : (Try.prog.info? 59).map (fun i => (i.zero, i.size, i.bytes)) = some (some (.agg #[.int .i64 0, .slice none 0 0]), 2, 32) := by kernel_rfl
/-- What lies in no block of the client's. -/
def Nt (w : World) (A : Option Addr) (n : Nat) : Prop := 0 < n → ∀ g o p, A = some ⟨g, o, p⟩ → ∃ (c : Array Value) (T : TypeId) (fz : Nat × Nat), w.heap[g]? = some (.cells c T fz) ∧ T ∉ [51]
section
variable {w w' : World} {A : Option Addr} {n c : Nat}
theorem Nt.below (h : Nt w A n) (b : Below w.heap.size w w') : Nt w' A n := fun hn g o p e => by
  obtain ⟨c, T, fz, h1, h2⟩ := h hn g o p e
  exact ⟨c, T, fz, blk_u h1 b, h2⟩
theorem Nt.drew (h : Nt w A n) : Nt w.drew A n := h
theorem Nt.kt (h : Nt w A n) (k : Kt [51] w w') : Nt w' A n := fun hn g o p e => by
  obtain ⟨c, T, fz, h1, h2⟩ := h hn g o p e
  exact ⟨c, T, fz, k.blk h1 h2, h2⟩
theorem Nt.away {q : Nat} (h : Nt w A n) (v : Av A n q) (g : w.grownBy w' (some q)) : Nt w' A n := fun hn b o p e => by
  obtain ⟨c, T, fz, h1, h2⟩ := h hn b o p e
  exact ⟨c, T, fz, blk_a h1 g (Lib.hid (v hn b o p e)), h2⟩
theorem Nt.av {q : Nat} (h : Nt w A n) (hq : w.heap.size ≤ q) : Av A n q := fun hn b o p e => by
  obtain ⟨c, T, fz, h1, h2⟩ := h hn b o p e
  exact Nat.ne_of_lt (Nat.lt_of_lt_of_le (hlt h1) hq)
theorem Nt.of {g : Nat} {o : Nat} {p : Option Nat} {x : Array Value} {T : TypeId} {fz : Nat × Nat} (h : w.heap[g]? = some (.cells x T fz)) (hT : T ∉ [51]) : Nt w (some ⟨g, o, p⟩) n := fun _ g' o' p' e => by
  injection e with e
  injection e with e1
  subst e1
  exact ⟨x, T, fz, h, hT⟩
theorem Nt.row {lo k : Nat} {T : TypeId} {xs : List Value} (h : w.ownsRow lo T k (.slice A n c) n xs) (hT : T ∉ [51]) : Nt w A n := fun hn g o p e => by
  rcases h.2 with ⟨h1, _⟩ | ⟨g2, cap, cur, e2, hb, hh, h2⟩
  · injection h1 with h1
    rw [h1] at e; cases e
  · injection e2 with e2
    rw [e2] at e
    injection e with e
    injection e with e1
    subst e1
    exact ⟨_, _, _, hh, hT⟩
theorem Sl.kt {l : List UInt8} (h : Sl w A n c l) (t : Nt w A n) (k : Kt [51] w w') : Sl w' A n c l :=
  ⟨h.1, h.2.1, h.2.2.1, fun hn => by
    obtain ⟨g, o, e, hc⟩ := h.2.2.2 hn
    obtain ⟨x, T, fz, h1, h2⟩ := t hn g o none e
    exact ⟨g, o, e, fun j b hj => (World.cell?_of_block (w := w) (a := ⟨g, o + j, none⟩) ((k.blk h1 h2).trans h1.symm)).trans (hc j b hj)⟩⟩
theorem Sle.kt {α : Type} {f : α → List Value} {k : Nat} {l : List α} (h : Sle f k w A n c l) (t : Nt w A n) (q : Kt [51] w w') : Sle f k w' A n c l :=
  ⟨h.1, h.2.1, h.2.2.1, fun hn => by
    obtain ⟨g, o, e, hc⟩ := h.2.2.2.1 hn
    obtain ⟨x, T, fz, h1, h2⟩ := t hn g o none e
    exact ⟨g, o, e, fun j b hj => (World.cell?_of_block (w := w) (a := ⟨g, o + j, none⟩) ((q.blk h1 h2).trans h1.symm)).trans (hc j b hj)⟩, h.2.2.2.2⟩
end
/-- An option reads so, apart from the client's blocks. -/
def Ob (w : World) (x : Oh) (p : Int × List UInt8) : Prop := x.c = p.1 ∧ Sl w x.A x.n x.cp p.2 ∧ Nt w x.A x.n ∧ x.n ≤ 100000
def Obs (w : World) : List Oh → OptL → Prop
  | [], [] => True
  | x :: hs, p :: L => Ob w x p ∧ Obs w hs L
  | _, _ => False
def Opv (w : World) (A : Option Addr) (n c : Nat) (hs : List Oh) (L : OptL) : Prop := Sle opE 2 w A n c hs ∧ Nt w A n ∧ n ≤ 100000 ∧ Obs w hs L
/-- The options lie apart from block q. -/
def Oa (A : Option Addr) (n : Nat) (hs : List Oh) (q : Nat) : Prop := Av A n q ∧ ∀ x ∈ hs, Av x.A x.n q
theorem obs_all {w w' : World} : ∀ {hs : List Oh} {L : OptL}, Obs w hs L → (∀ x ∈ hs, ∀ p, Ob w x p → Ob w' x p) → Obs w' hs L
  | [], [], _, _ => trivial
  | x :: hs, p :: L, h, f => ⟨f x (by simp) p h.1, obs_all h.2 (fun y hy => f y (List.mem_cons_of_mem _ hy))⟩
  | [], _ :: _, h, _ => h.elim
  | _ :: _, [], h, _ => h.elim
theorem obs_bd {w : World} : ∀ {hs : List Oh} {L : OptL}, Obs w hs L → Bd w hs L ∧ ∀ x ∈ hs, x.n ≤ 100000
  | [], [], _ => ⟨Bd.nil w, fun x hx => by simp at hx⟩
  | x :: hs, p :: L, h => by
    obtain ⟨h1, h2⟩ := obs_bd h.2
    refine ⟨⟨by simp [h1.1], fun i y q hy hq => ?_⟩, fun y hy => ?_⟩
    · cases i with
      | zero =>
        simp only [List.getElem?_cons_zero, Option.some.injEq] at hy hq
        subst hy; subst hq
        exact ⟨h.1.1, h.1.2.1⟩
      | succ i =>
        simp only [List.getElem?_cons_succ] at hy hq
        exact h1.2 i y q hy hq
    · rcases List.mem_cons.1 hy with rfl | hy
      · exact h.1.2.2.2
      · exact h2 y hy
  | [], _ :: _, h => h.elim
  | _ :: _, [], h => h.elim
section
variable {w w' : World} {A : Option Addr} {n c : Nat} {hs : List Oh} {L : OptL}
theorem Ob.below {x : Oh} {p : Int × List UInt8} (h : Ob w x p) (b : Below w.heap.size w w') : Ob w' x p := ⟨h.1, h.2.1.below b, h.2.2.1.below b, h.2.2.2⟩
theorem Opv.below (h : Opv w A n c hs L) (b : Below w.heap.size w w') : Opv w' A n c hs L := ⟨h.1.below b, h.2.1.below b, h.2.2.1, obs_all h.2.2.2 fun _ _ _ o => o.below b⟩
theorem Opv.drew (h : Opv w A n c hs L) : Opv w.drew A n c hs L := ⟨h.1.drew, h.2.1, h.2.2.1, obs_all h.2.2.2 fun _ _ _ o => o⟩
theorem Opv.kt (h : Opv w A n c hs L) (k : Kt [51] w w') : Opv w' A n c hs L := ⟨h.1.kt h.2.1 k, h.2.1.kt k, h.2.2.1, obs_all h.2.2.2 fun _ _ _ o => ⟨o.1, o.2.1.kt o.2.2.1 k, o.2.2.1.kt k, o.2.2.2⟩⟩
theorem Opv.away {q : Nat} (h : Opv w A n c hs L) (v : Oa A n hs q) (g : w.grownBy w' (some q)) : Opv w' A n c hs L := ⟨h.1.away v.1 g, h.2.1.away v.1 g, h.2.2.1, obs_all h.2.2.2 fun x hx _ o => ⟨o.1, o.2.1.away (v.2 x hx) g, o.2.2.1.away (v.2 x hx) g, o.2.2.2⟩⟩
theorem Opv.oa {q : Nat} (h : Opv w A n c hs L) (hq : w.heap.size ≤ q) : Oa A n hs q := ⟨h.2.1.av hq, fun x hx => by
  have hb := obs_bd h.2.2.2
  obtain ⟨i, hi⟩ := List.getElem?_of_mem hx
  obtain ⟨l, _, hl⟩ := hb.1.at hi
  exact hl.av_new hq⟩
end
/-- Options out of the blocks that hold their bodies. -/
theorem ob_one {w : World} {g : Nat} {v : Value} {x : UInt8} {T : TypeId} (cd : Int) (h : w.heap[g]? = some (.cells #[v] T (0, 0))) (hv : v = u8v x) (hT : T ∉ [51]) : Ob w ⟨cd, some ⟨g, 0, none⟩, 1, 1⟩ (cd, [x]) :=
  ⟨rfl, sl_block h rfl (Nat.le_of_ble_eq_true rfl) (fun j b hj => by
    cases j with
    | zero => simp only [List.getElem?_cons_zero, Option.some.injEq] at hj; subst hj; subst hv; rfl
    | succ j => simp at hj), Nt.of h hT, (Nat.le_of_ble_eq_true rfl : _ ≤ 100000)⟩
theorem ob_four {w : World} {g : Nat} {v0 v1 v2 v3 : Value} {x0 x1 x2 x3 : UInt8} {T : TypeId} (cd : Int) (h : w.heap[g]? = some (.cells #[v0, v1, v2, v3] T (0, 0))) (h0 : v0 = u8v x0) (h1 : v1 = u8v x1) (h2 : v2 = u8v x2) (h3 : v3 = u8v x3) (hT : T ∉ [51]) : Ob w ⟨cd, some ⟨g, 0, none⟩, 4, 4⟩ (cd, [x0, x1, x2, x3]) := by
  subst h0; subst h1; subst h2; subst h3
  exact ⟨rfl, sl_four x0 x1 x2 x3 h rfl rfl rfl rfl, Nt.of h hT, (Nat.le_of_ble_eq_true rfl : _ ≤ 100000)⟩
theorem ob_three {w : World} {g : Nat} {v0 v1 v2 : Value} {x0 x1 x2 : UInt8} {T : TypeId} (cd : Int) (h : w.heap[g]? = some (.cells #[v0, v1, v2] T (0, 0))) (h0 : v0 = u8v x0) (h1 : v1 = u8v x1) (h2 : v2 = u8v x2) (hT : T ∉ [51]) : Ob w ⟨cd, some ⟨g, 0, none⟩, 3, 3⟩ (cd, [x0, x1, x2]) := by
  subst h0; subst h1; subst h2
  exact ⟨rfl, sl_block h rfl (Nat.le_of_ble_eq_true rfl) (fun j b hj => by
    match j, hj with
    | 0, hj => simp only [List.getElem?_cons_zero, Option.some.injEq] at hj; subst hj; rfl
    | 1, hj => simp only [List.getElem?_cons_zero, List.getElem?_cons_succ, Option.some.injEq] at hj; subst hj; rfl
    | 2, hj => simp only [List.getElem?_cons_zero, List.getElem?_cons_succ, Option.some.injEq] at hj; subst hj; rfl
    | _ + 3, hj => simp at hj), Nt.of h hT, (Nat.le_of_ble_eq_true rfl : _ ≤ 100000)⟩
/-- Options out of a block of them. -/
theorem os_one {w : World} {gr : Nat} {x : Oh} {p0 : Int × List UInt8} (h : w.heap[gr]? = some (.cells (opE x).toArray 59 (0, 0))) (hx : Ob w x p0) : Opv w (some ⟨gr, 0, none⟩) 1 1 [x] [p0] :=
  ⟨sle_lit [x] (by decide) opE_len (by simpa using h) rfl (by simp [maxLen]), Nt.of h (by decide), Nat.le_of_ble_eq_true rfl, hx, trivial⟩
theorem os_two {w : World} {gr : Nat} {x y : Oh} {p0 p1 : Int × List UInt8} (h : w.heap[gr]? = some (.cells (opE x ++ opE y).toArray 59 (0, 0))) (hx : Ob w x p0) (hy : Ob w y p1) : Opv w (some ⟨gr, 0, none⟩) 2 2 [x, y] [p0, p1] :=
  ⟨sle_lit [x, y] (by decide) opE_len (by simpa using h) rfl (by simp [maxLen]), Nt.of h (by decide), Nat.le_of_ble_eq_true rfl, hx, hy, trivial⟩
theorem os_four {w : World} {gr : Nat} {x y z u : Oh} {p0 p1 p2 p3 : Int × List UInt8} (h : w.heap[gr]? = some (.cells (opE x ++ opE y ++ opE z ++ opE u).toArray 59 (0, 0))) (hx : Ob w x p0) (hy : Ob w y p1) (hz : Ob w z p2) (hu : Ob w u p3) : Opv w (some ⟨gr, 0, none⟩) 4 4 [x, y, z, u] [p0, p1, p2, p3] :=
  ⟨sle_lit [x, y, z, u] (by decide) opE_len (by simpa using h) rfl (by simp [maxLen]), Nt.of h (by decide), Nat.le_of_ble_eq_true rfl, hx, hy, hz, hu, trivial⟩
theorem os_five {w : World} {gr : Nat} {x y z u v : Oh} {p0 p1 p2 p3 p4 : Int × List UInt8} (h : w.heap[gr]? = some (.cells (opE x ++ opE y ++ opE z ++ opE u ++ opE v).toArray 59 (0, 0))) (hx : Ob w x p0) (hy : Ob w y p1) (hz : Ob w z p2) (hu : Ob w u p3) (hv : Ob w v p4) : Opv w (some ⟨gr, 0, none⟩) 5 5 [x, y, z, u, v] [p0, p1, p2, p3, p4] :=
  ⟨sle_lit [x, y, z, u, v] (by decide) opE_len (by simpa using h) rfl (by simp [maxLen]), Nt.of h (by decide), Nat.le_of_ble_eq_true rfl, hx, hy, hz, hu, hv, trivial⟩
theorem kt_drew {S : List TypeId} {w w' : World} (h : Kt S w w') : Kt S w w'.drew := h
/-- Four cells read as bytes. -/
structure By4 (a0 a1 a2 a3 : Int) : Prop where
  ex : ∃ b0 b1 b2 b3 : UInt8, (.int .u8 a0 : Value) = u8v b0 ∧ (.int .u8 a1 : Value) = u8v b1 ∧ (.int .u8 a2 : Value) = u8v b2 ∧ (.int .u8 a3 : Value) = u8v b3
/-- Four bytes as numbers, and whether there are four. -/
def I4 (o : Option (List UInt8)) (x0 x1 x2 x3 : Int) (b : Bool) : Prop := (fourL o).1.map (fun y => (y.toNat : Int)) = [x0, x1, x2, x3] ∧ (fourL o).2 = b
theorem I4.by4 {o : Option (List UInt8)} {x0 x1 x2 x3 : Int} {b : Bool} (h : I4 o x0 x1 x2 x3 b) : By4 x0 x1 x2 x3 := by
  obtain ⟨b0, b1, b2, b3, e⟩ := list_four (fourL_len o)
  have h1 := h.1
  rw [e] at h1
  simp only [List.map_cons, List.map_nil, List.cons.injEq, and_true] at h1
  obtain ⟨h1, h2, h3, h4⟩ := h1
  subst h1; subst h2; subst h3; subst h4
  exact ⟨b0, b1, b2, b3, rfl, rfl, rfl, rfl⟩
theorem ofind_i {A : Option Addr} {n c : Nat} {hs : List Oh} {L : OptL} {code : Int} (w : World) (hO : Opv w A n c hs L) : Calls Try.prog 32 #[.slice A n c, .int .i64 code] w fun e w' => ∃ A' n' c', e = .returned (.tuple #[.slice A' n' c', .bool (findL L code).isSome]) ∧ Sl w' A' n' c' ((findL L code).getD []) ∧ Below w.heap.size w w' := ofind_any w hO.1 (obs_bd hO.2.2.2).1 hO.2.2.1 (obs_bd hO.2.2.2).2
theorem oaddr_i {A : Option Addr} {n c : Nat} {hs : List Oh} {L : OptL} {code x0 x1 x2 x3 : Int} {b : Bool} (w : World) (hO : Opv w A n c hs L) (hf : I4 (findL L code) x0 x1 x2 x3 b) : Calls Try.prog 34 #[.slice A n c, .int .i64 code] w fun e w' => e = .returned (.tuple #[.agg #[.int .u8 x0, .int .u8 x1, .int .u8 x2, .int .u8 x3], .bool b]) ∧ Below w.heap.size w w' := by
  refine (oaddr_any w hO.1 (obs_bd hO.2.2.2).1 hO.2.2.1 (obs_bd hO.2.2.2).2).mono ?_
  rintro e w' ⟨x, y, z, u, h1, rfl, h2⟩
  have h3 := hf.1
  rw [h1] at h3
  simp only [List.map_cons, List.map_nil, List.cons.injEq, and_true] at h3
  obtain ⟨h3, h4, h5, h6⟩ := h3
  subst h3; subst h4; subst h5; subst h6
  exact ⟨by rw [hf.2], h2⟩
/-- What option tells how many seconds, and whether it does. -/
def I1 (o : Option (List UInt8)) (x : Int) (b : Bool) : Prop := ((be (fourL o).1 : Nat) : Int) = x ∧ (fourL o).2 = b
theorem osecs_i {A : Option Addr} {n c : Nat} {hs : List Oh} {L : OptL} {code x : Int} {b : Bool} (w : World) (hO : Opv w A n c hs L) (hf : I1 (findL L code) x b) : Calls Try.prog 36 #[.slice A n c, .int .i64 code] w fun e w' => e = .returned (.tuple #[.int .u32 x, .bool b]) ∧ Below w.heap.size w w' := by
  have h1 := hf.1
  subst h1
  refine (osecs_any w hO.1 (obs_bd hO.2.2.2).1 hO.2.2.1 (obs_bd hO.2.2.2).2).mono ?_
  rintro e w' ⟨rfl, h2⟩
  exact ⟨by rw [hf.2], h2⟩
/-- The client at block g. -/
def Cl (lo g : Nat) (w : World) (c : Array Value) : Prop := w.heap[g]? = some (.cells c 51 (0, 0)) ∧ lo ≤ g
section
variable {lo g : Nat} {w w' : World} {c : Array Value}
theorem cl_of (h : w.heap[g]? = some (.cells c 51 (0, 0))) : Cl 0 g w c := ⟨h, Nat.zero_le _⟩
theorem Cl.below (h : Cl lo g w c) (b : Below w.heap.size w w') : Cl lo g w' c := ⟨blk_u h.1 b, h.2⟩
theorem cl_drew (h : Cl lo g w c) : Cl lo g w.drew c := h
theorem Cl.grown {q : Nat} {d : Array Value} {T : TypeId} {fz : Nat × Nat} (h : Cl lo g w c) (gr : w.grownBy w' (some q)) (hq : w.heap[q]? = some (.cells d T fz)) (h1 : T ≠ 51) : Cl lo g w' c := by
  have kk : Kt [T] w w' := kt_grown gr hq (by simp)
  exact ⟨kk.blk h.1 (by simpa using fun e => h1 e.symm), h.2⟩
theorem Cl.lo_mono {lo' : Nat} (h : Cl lo g w c) (hl : lo' ≤ lo) : Cl lo' g w c := ⟨h.1, Nat.le_trans hl h.2⟩
theorem Cl.lo_le (h : Cl lo g w c) : lo ≤ w.heap.size := Nat.le_trans h.2 (Nat.le_of_lt (hlt h.1))
end
/-- A message at a block, the type that its options tell. -/
def Ms (w : World) (g : Nat) (cs : List Value) (k : Nat) : Prop := ∃ A n c hs L, w.heap[g]? = some (.cells (cs ++ [Value.slice A n c]).toArray 37 (0, 0)) ∧ Opv w A n c hs L ∧ typeL L = k
section
variable {g k : Nat} {w w' : World} {cs : List Value}
theorem Ms.below (h : Ms w g cs k) (b : Below w.heap.size w w') : Ms w' g cs k := by
  obtain ⟨A, n, c, hs, L, h1, h2, h3⟩ := h
  exact ⟨A, n, c, hs, L, blk_u h1 b, h2.below b, h3⟩
theorem ms_drew (h : Ms w g cs k) : Ms w.drew g cs k := by
  obtain ⟨A, n, c, hs, L, h1, h2, h3⟩ := h
  exact ⟨A, n, c, hs, L, h1, h2.drew, h3⟩
theorem Ms.kt (h : Ms w g cs k) (q : Kt [51] w w') : Ms w' g cs k := by
  obtain ⟨A, n, c, hs, L, h1, h2, h3⟩ := h
  exact ⟨A, n, c, hs, L, q.blk h1 (by decide), h2.kt q, h3⟩
end
end Go.Proofs.Ytjfboofnffghjaa
