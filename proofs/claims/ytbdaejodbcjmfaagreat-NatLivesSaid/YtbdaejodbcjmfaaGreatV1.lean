/- Texts put together: Mem, Walks, Sle, Tr0, Tr1, Tr2, Tr3, Tr4, Tr5, Na0, Ptl, Ipr2, Rdo, Rd2, Tcl, Rd3. -/
import Derived.Test.YtbdaejodbcjmfaaGreatQ1
import Derived.Test.YtbdaejodbcjmfaaGreatQ2
import Derived.Test.YtbdaejodbcjmfaaGreatQ3
import Derived.Test.YtbdaejodbcjmfaaGreatQ4
import Derived.Test.YtbdaejodbcjmfaaGreatQ5
import Derived.Test.YtbdaejodbcjmfaaGreatQ6
import Derived.Test.YtbdaejodbcjmfaaGreatQ7
import Derived.Test.YtbdaejodbcjmfaaGreatQ8
import Derived.Test.YtbdaejodbcjmfaaGreatQ9
import Derived.Test.YtbdaejodbcjmfaaGreatQ10
import Derived.Test.YtbdaejodbcjmfaaGreatQ11
import Derived.Test.YtbdaejodbcjmfaaGreatQ12
import Derived.Test.YtbdaejodbcjmfaaGreatQ13
import Derived.Deep.RegionHeld3
import Derived.Deep.CutRange
namespace Go.Proofs.YtbdaejodbcjmfaaGreat
open Go.RowKit
open Go.RowKit

theorem byteOf_mod (v : Int) (m : Int) (h : m % 256 = 0) : byteOf (v % m) = byteOf v := by
  unfold byteOf
  rw [Int.emod_emod_of_dvd v (Int.dvd_of_emod_eq_zero h)]
theorem four_two (v : Int) : two (v / 65536) ++ two (v % 65536) = four v := by
  have e1 : v / 65536 / 256 = v / 16777216 := by omega
  have e2 : byteOf (v % 65536 / 256) = byteOf (v / 256) := by
    unfold byteOf
    have : v % 65536 / 256 % 256 = v / 256 % 256 := by omega
    rw [this]
  simp [two, four, e1, e2, byteOf_mod]

theorem be_from (t : List UInt8) : ∀ a : Nat, t.foldl (fun v b => v * 256 + b.toNat) a = a * 256 ^ t.length + be t := by
  unfold be
  induction t with
  | nil => intro a; simp
  | cons b t ih =>
    intro a
    rw [List.foldl_cons, ih, List.foldl_cons, ih (0 * 256 + b.toNat), List.length_cons, Nat.pow_succ, Nat.add_mul, Nat.zero_mul, Nat.zero_add, Nat.mul_assoc, Nat.mul_comm 256, Nat.add_assoc]
theorem be_append (l t : List UInt8) : be (l ++ t) = be l * 256 ^ t.length + be t := by
  show (l ++ t).foldl _ 0 = _
  rw [List.foldl_append, be_from]
  rfl
theorem be_four (v : Int) : (be (four v) : Int) = v % 4294967296 := by
  rw [← four_two, be_append, Int.natCast_add, Int.natCast_mul, be_byteOf, be_byteOf]
  show v / 65536 % 65536 * (((256 : Nat) ^ 2 : Nat) : Int) + v % 65536 % 65536 = _
  omega

open Go.RowKit

/-- Left, Short. -/
theorem left_any (g : Nat) (l : List UInt8) (s : Bool) (w : World) (hr : Rd w 134 g l s) :
    Calls Tryz.prog 48 #[.pointer (some ⟨g, 0, none⟩)] w fun e w' => e = .returned (.int .i64 l.length) ∧ w = w' := by
  obtain ⟨A, n, c, hb, hsl⟩ := hr
  obtain ⟨hc0, hc1⟩ := cell_of_rd hb
  obtain rfl := hsl.1
  clear hsl hb
  go_enter Tryz.func48, Tryz.ntmps48
  go_wp2
  go_ret
  exact ⟨rfl, rfl⟩
open Go.RowKit

section
variable {α : Type} {f : α → List Value} {k : Nat} {w w' : World} {A : Option Addr} {n c : Nat} {l : List α}
theorem owk_lit {B g : Nat} {T : TypeId} (l : List α) (hf : ∀ x, (f x).length = k) (h : w.heap[g]? = some (.cells (l.flatMap f).toArray T (0, 0))) (hB : B ≤ g) (n : Nat) (hn : l.length = n) (hm : n ≤ maxLen) : w.ownsRow B T k (.slice (some ⟨g, 0, none⟩) n n) n (l.flatMap f) := by
  subst hn
  exact ⟨flat_len hf l, .inr ⟨g, _, _, rfl, hB, h, Nat.le_refl _, hm, by simp [flat_len hf], by simpa using List.take_of_length_le (Nat.le_of_eq (flat_len hf l))⟩⟩
end
/-- Texts as elements. -/
def stf (l : List UInt8) : List Value := [.string ⟨l.toArray⟩]
/-- A text out of a row of texts. -/
theorem Sle.st {w : World} {g o n c i : Nat} {l : List (List UInt8)} {x : List UInt8} (h : Sle stf 1 w (some ⟨g, o, none⟩) n c l) (hx : l[i]? = some x) : w.cell? ⟨g, o + i, none⟩ = some (.string ⟨x.toArray⟩) := by
  have := Sle.cell (j := 0) h hx rfl
  rw [Nat.mul_one, Nat.add_zero] at this
  exact this
open Go.RowKit

theorem cnE_len (e : Cn) : (cnE e).length = 8 := rfl
theorem cnE_one (e : Cn) : ∀ u ∈ cnE e, u.oneCell' = true := by
  intro u hu
  simp only [cnE, List.mem_cons, List.not_mem_nil, or_false] at hu
  rcases hu with h | h | h | h | h | h | h | h <;> rw [h] <;> rfl
/-- Is it the one of these ends? -/
def isB (o : Int) (ad : Ad4) (p : Int) (e : Cn) : Bool := (e.o == o) && (e.ad.eqB ad && (e.p == p))
/-- Where a segment leads. -/
def fol (x : Cn) (b : Bool) (f : Int) : Cn :=
  if x.s = 0 ∨ x.s = 6 then (if (fl f 2 && !fl f 20) = true then { x with s := 1, d := b } else x)
  else if fl f 4 = true then { x with s := 6 }
  else if (fl f 1 && decide (x.s ≤ 3)) = true then { x with s := 4, d := b }
  else if ((x.s == 1) && (fl f 2 && (b != x.d))) = true then { x with s := 2 }
  else if ((x.s == 2) && (fl f 16 && !fl f 2)) = true then { x with s := 3 }
  else if ((x.s == 4) && (fl f 1 && (b != x.d))) = true then { x with s := 5 }
  else x
theorem fol_okp {x : Cn} (h : x.okp) (b : Bool) (f : Int) : (fol x b f).okp := by
  obtain ⟨h1, h2⟩ := h
  unfold fol
  unfold Cn.okp
  repeat' split
  all_goals ((try dsimp only); omega)
theorem idx_some {l : List Cn} {P : Cn → Bool} {i : Nat} (h : l.findIdx P = i) (hi : i < l.length) : ∃ x, l[i]? = some x ∧ P x = true ∧ ∀ (j : Nat) (e : Cn), j < i → l[j]? = some e → P e = false := by
  subst h
  refine ⟨l[l.findIdx P], List.getElem?_eq_getElem hi, List.findIdx_getElem, fun j e hj he => ?_⟩
  have h1 := List.not_of_lt_findIdx hj
  obtain ⟨h2, h3⟩ := List.getElem?_eq_some_iff.1 he
  rw [h3] at h1
  simpa using h1
theorem idx_none {l : List Cn} {P : Cn → Bool} (h : l.findIdx P = l.length) : ∀ e ∈ l, P e = false := by
  intro e he
  have h1 := List.findIdx_eq_length.1 h e he
  simpa using h1
open Go.RowKit

theorem wpList_min {P : Program} {w : World} {ops : Array Oper} {rest : List Oper} {o : Oper} {a : Act} {Q : Exit → Act → World → Prop} (hgd : o.guard = none) (s x : Operand) (t tn : TypeId)
    (ho : o.op = .call { callee := .builtin .min, args := #[s, x], argTypes := #[t, tn] }) (k : IntKind) (i j m : Int) (hs : a.eval s = .int k i) (hx : a.eval x = .int k j) (hm : (if j < i then j else i) = m)
    (h : wpList P ops Q rest (a.put o.dst (.int k m)) w) : wpList P ops Q (o :: rest) a w := by
  subst hm
  refine wpList_wanted (by simp [Region.wanted, hgd]) fun K hK => ?_
  have hr : (Builtin.min_ #[t, tn] o.type #[.int k i, .int k j]).run P w = .ok (.int k (if j < i then j else i)) w := by
    simp [Builtin.min_, Builtin.min2]
  unfold Oper.wp execOp
  simp only [ho, resolve, invoke, builtin, Sem.run_bind, Sem.run_pure, Result.andThen_ok, List.map_toArray, List.map_cons, List.map_nil, hs, hx, hr]
  exact hK _ _ h
theorem eqa_in (x y : Ad4) (W : World) : (Op.equalIn 9999 35 (.agg #[.int .u8 (x.a.toNat : Int), .int .u8 (x.b.toNat : Int), .int .u8 (x.c.toNat : Int), .int .u8 (x.d.toNat : Int)]) (.agg #[.int .u8 (y.a.toNat : Int), .int .u8 (y.b.toNat : Int), .int .u8 (y.c.toNat : Int), .int .u8 (y.d.toNat : Int)])).run Tryz.prog W = .ok (x.eqB y) W :=
  run_equalIn_bytes (P := Tryz.prog) W 9997 35 5 4 (by kernel_rfl) (by kernel_rfl) (fun w => by kernel_rfl) x.l y.l rfl rfl
theorem eqe_b (o p q r : Int) (x y : Ad4) (W : World) : (binOp .eql 150 (.agg #[.int .i64 o, .int .u8 (x.a.toNat : Int), .int .u8 (x.b.toNat : Int), .int .u8 (x.c.toNat : Int), .int .u8 (x.d.toNat : Int), .int .i64 p]) (.agg #[.int .i64 q, .int .u8 (y.a.toNat : Int), .int .u8 (y.b.toNat : Int), .int .u8 (y.c.toNat : Int), .int .u8 (y.d.toNat : Int), .int .i64 r])).run Tryz.prog W = .ok (.bool ((o == q) && (x.eqB y && (p == r)))) W := by
  have h4 := eqa_in x y
  rw [run_eql_struct, run_equalIn_agg W 9999 150 _ _ (by kernel_rfl) (by kernel_rfl)]
  rcases h1 : (o == q) with _ | _ <;> rcases h2 : x.eqB y with _ | _ <;> rcases h3 : (p == r) with _ | _ <;> rw [h2] at h4 <;> simp [go_sem, h4, h1, h3]
set_option linter.unusedVariables false in
set_option linter.unusedSimpArgs false in
set_option maxRecDepth 100000 in
set_option maxHeartbeats 16000000 in
theorem kfindf_any {ge_ : Nat} {o p : Int} {ad : Ad4} (x : Cn) (w : World) (heb : w.heap[ge_]? = some (.cells #[.int .i64 o, .int .u8 (ad.a.toNat : Int), .int .u8 (ad.b.toNat : Int), .int .u8 (ad.c.toNat : Int), .int .u8 (ad.d.toNat : Int), .int .i64 p] 150 (0, 0))) : Calls Tryz.prog 125 #[.agg #[.int .i64 x.o, .int .u8 (x.ad.a.toNat : Int), .int .u8 (x.ad.b.toNat : Int), .int .u8 (x.ad.c.toNat : Int), .int .u8 (x.ad.d.toNat : Int), .int .i64 x.p, .int .i64 x.s, .bool x.d], .pointer (some ⟨ge_, 0, none⟩)] w fun e w' => e = .returned (.bool (isB o ad p x)) ∧ Below w.heap.size w w' := by
  have q := eqe_b x.o x.p o p x.ad ad
  have bel := Below.refl w.heap.size w
  go_enter Tryz.func125, Tryz.ntmps125
  go_wp2_with (first | ((with_reducible show wpList _ _ _ (⟨some 2, _, _, _, _, _⟩ :: _) _ _); refine wpList_box_n rfl 154 (.tmp 0) rfl #[.int .i64 x.o, .int .u8 (x.ad.a.toNat : Int), .int .u8 (x.ad.b.toNat : Int), .int .u8 (x.ad.c.toNat : Int), .int .u8 (x.ad.d.toNat : Int), .int .i64 x.p, .int .i64 x.s, .bool x.d] rfl ?_; intro g2 w1 ge lt hh bb; have d_eb_xb := ne_new (hlt heb) ge; have oxb := Nat.le_trans bel.size ge; replace heb := blk_u heb bb; replace bel := bel.trans (bb.mono bel.size); have hxb := hh; clear hh lt ge bb; have R5 := Lib.hid (range_lit hxb 0 6 [.int .i64 x.o, .int .u8 (x.ad.a.toNat : Int), .int .u8 (x.ad.b.toNat : Int), .int .u8 (x.ad.c.toNat : Int), .int .u8 (x.ad.d.toNat : Int), .int .i64 x.p] rfl)) | ((with_reducible show wpList _ _ _ (⟨some 5, _, _, _, _, _⟩ :: _) _ _); refine wpList_load_rng 150 (.tmp 4) rfl (by kernel_rfl) _ _ rfl _ R5.out _ Tryz.underlying150 rfl (by kernel_rfl) ?_; have R6 := Lib.hid (range_lit heb 0 6 [.int .i64 o, .int .u8 (ad.a.toNat : Int), .int .u8 (ad.b.toNat : Int), .int .u8 (ad.c.toNat : Int), .int .u8 (ad.d.toNat : Int), .int .i64 p] rfl)) | ((with_reducible show wpList _ _ _ (⟨some 6, _, _, _, _, _⟩ :: _) _ _); refine wpList_load_rng 150 (.tmp 1) rfl (by kernel_rfl) _ _ rfl _ R6.out _ Tryz.underlying150 rfl (by kernel_rfl) ?_))
  try clear R5
  try clear R6
  go_ret
  exact ⟨rfl, bel⟩
open Go.RowKit

theorem Tryz.info_cn : (Tryz.prog.info? 154).map (fun i => (i.zero, i.size, i.bytes)) = some (some (.agg #[.int .i64 0, .int .u8 0, .int .u8 0, .int .u8 0, .int .u8 0, .int .i64 0, .int .i64 0, .bool false]), 8, 40) := by kernel_rfl
set_option linter.unusedVariables false in
set_option linter.unusedSimpArgs false in
set_option maxRecDepth 100000 in
set_option maxHeartbeats 16000000 in
theorem idxf_none_pos {n c gE oE : Nat} {ge_ : Nat} {o p : Int} {ad : Ad4} {l : List Cn} (w : World) (heb : w.heap[ge_]? = some (.cells #[.int .i64 o, .int .u8 (ad.a.toNat : Int), .int .u8 (ad.b.toNat : Int), .int .u8 (ad.c.toNat : Int), .int .u8 (ad.d.toNat : Int), .int .i64 p] 150 (0, 0))) (en : Sle cnE 8 w (some ⟨gE, oE, none⟩) n c l) (hn : n ≤ 1000) (hN : ∀ e ∈ l, isB o ad p e = false) : Calls Tryz.prog 124 #[.slice (some ⟨gE, oE, none⟩) n c, .func (.func 125) #[] #[.pointer (some ⟨ge_, 0, none⟩)]] w fun e w' => e = .returned (.int .i64 (-1)) ∧ Below w.heap.size w w' := by
  have HL := Lib.hid en.1
  have hn0 : (n : Int) ≤ 1000 := by omega
  have HN := Lib.hid hN
  clear hN
  have bel := Below.refl w.heap.size w
  go_enter Tryz.func124, Tryz.ntmps124
  go_wp2_with fail
  go_loopg [8] (n) (fun gk s8 wr => ∃ k : Nat, gk = n - k ∧ k ≤ n ∧ s8 = .int .i64 (k : Int) ∧ wr.heap[ge_]? = some (.cells #[.int .i64 o, .int .u8 (ad.a.toNat : Int), .int .u8 (ad.b.toNat : Int), .int .u8 (ad.c.toNat : Int), .int .u8 (ad.d.toNat : Int), .int .i64 p] 150 (0, 0)) ∧ Sle cnE 8 wr (some ⟨gE, oE, none⟩) (n) (c) (l) ∧ Below w.heap.size w wr)
  case atStart => exact ⟨0, Nat.sub_zero _, Nat.zero_le _, rfl, heb, en, bel⟩
  case round =>
    clear heb en bel
    obtain ⟨k, HGK, hkn, rfl, heb, en, bel⟩ := hrel
    have HGK_ := Lib.hid HGK
    clear HGK
    by_cases h : k < n
    rotate_left
    · obtain rfl : k = n := by omega
      replace h : decide (k < k) = false := decide_eq_false (by omega)
      go_wp2_with fail
      go_ret
      exact ⟨rfl, bel⟩
    obtain ⟨e, hx⟩ : ∃ e, l[k]? = some e := ⟨_, List.getElem?_eq_getElem (by have := HL.out; omega)⟩
    have k0 : (0 : Int) ≤ k := by omega
    have k1 : (k : Int) < n := by omega
    have HX := Lib.hid hx
    clear hx
    have HG : Hid (isB o ad p e = false) := Lib.hid (HN.out e (List.mem_of_getElem? HX.out))
    have R15 := Lib.hid (Sle.range0 en HX.out 8 [.int .i64 e.o, .int .u8 (e.ad.a.toNat : Int), .int .u8 (e.ad.b.toNat : Int), .int .u8 (e.ad.c.toNat : Int), .int .u8 (e.ad.d.toNat : Int), .int .i64 e.p, .int .i64 e.s, .bool e.d] rfl)
    go_wp2_with (first | ((with_reducible show wpList _ _ _ (⟨some 15, _, _, _, _, _⟩ :: _) _ _); refine wpList_load_rng 154 (.tmp 14) rfl (by kernel_rfl) _ _ rfl _ R15.out _ Tryz.underlying154 rfl (by kernel_rfl) ?_))
    try clear R15
    with_reducible refine (kfindf_any e _ heb).mono ?_
    rintro e w1 ⟨rfl, b1⟩
    replace heb := blk_u heb b1
    replace en := en.below b1
    replace bel := bel.trans (b1.mono bel.size)
    clear b1
    rw [HG.out]
    go_wp2_with fail
    go_roundg (n - (k + 1))
    case measure => have := HGK_.out; omega
    case rel => exact ⟨k + 1, rfl, by omega, by go_num, heb, en, bel⟩
set_option linter.unusedVariables false in
set_option linter.unusedSimpArgs false in
set_option maxRecDepth 100000 in
set_option maxHeartbeats 16000000 in
theorem idxf_some {n c gE oE : Nat} {ge_ : Nat} {o p : Int} {ad : Ad4} {l : List Cn} (w : World) (heb : w.heap[ge_]? = some (.cells #[.int .i64 o, .int .u8 (ad.a.toNat : Int), .int .u8 (ad.b.toNat : Int), .int .u8 (ad.c.toNat : Int), .int .u8 (ad.d.toNat : Int), .int .i64 p] 150 (0, 0))) (en : Sle cnE 8 w (some ⟨gE, oE, none⟩) n c l) (hn : n ≤ 1000) {i : Nat} {x : Cn} (hx : l[i]? = some x) (hg : isB o ad p x = true) (hN : ∀ j e, j < i → l[j]? = some e → isB o ad p e = false) : Calls Tryz.prog 124 #[.slice (some ⟨gE, oE, none⟩) n c, .func (.func 125) #[] #[.pointer (some ⟨ge_, 0, none⟩)]] w fun e w' => e = .returned (.int .i64 (i : Int)) ∧ Below w.heap.size w w' := by
  have HL := Lib.hid en.1
  have hn0 : (n : Int) ≤ 1000 := by omega
  have HIN : Hid (i < n) := Lib.hid (by have := (List.getElem?_eq_some_iff.1 hx).1; have h_ := en.1; omega)
  have HN := Lib.hid hN
  have HXI := Lib.hid hx
  have HGI := Lib.hid hg
  clear hN hx hg
  have bel := Below.refl w.heap.size w
  go_enter Tryz.func124, Tryz.ntmps124
  go_wp2_with fail
  go_loopg [8] (n) (fun gk s8 wr => ∃ k : Nat, gk = n - k ∧ k ≤ i ∧ s8 = .int .i64 (k : Int) ∧ wr.heap[ge_]? = some (.cells #[.int .i64 o, .int .u8 (ad.a.toNat : Int), .int .u8 (ad.b.toNat : Int), .int .u8 (ad.c.toNat : Int), .int .u8 (ad.d.toNat : Int), .int .i64 p] 150 (0, 0)) ∧ Sle cnE 8 wr (some ⟨gE, oE, none⟩) (n) (c) (l) ∧ Below w.heap.size w wr)
  case atStart => exact ⟨0, Nat.sub_zero _, Nat.zero_le _, rfl, heb, en, bel⟩
  case round =>
    clear heb en bel
    obtain ⟨k, HGK, hkn, rfl, heb, en, bel⟩ := hrel
    have HGK_ := Lib.hid HGK
    clear HGK
    by_cases h : k < n
    rotate_left
    · exfalso
      have := HIN.out
      omega
    obtain ⟨e, hx⟩ : ∃ e, l[k]? = some e := ⟨_, List.getElem?_eq_getElem (by have := HL.out; omega)⟩
    have k0 : (0 : Int) ≤ k := by omega
    have k1 : (k : Int) < n := by omega
    have HX := Lib.hid hx
    clear hx
    by_cases h2 : k < i
    rotate_left
    · obtain rfl : k = i := by omega
      obtain rfl : e = x := Option.some.inj (HX.out.symm.trans HXI.out)
      have HG := HGI
      have R15 := Lib.hid (Sle.range0 en HX.out 8 [.int .i64 e.o, .int .u8 (e.ad.a.toNat : Int), .int .u8 (e.ad.b.toNat : Int), .int .u8 (e.ad.c.toNat : Int), .int .u8 (e.ad.d.toNat : Int), .int .i64 e.p, .int .i64 e.s, .bool e.d] rfl)
      go_wp2_with (first | ((with_reducible show wpList _ _ _ (⟨some 15, _, _, _, _, _⟩ :: _) _ _); refine wpList_load_rng 154 (.tmp 14) rfl (by kernel_rfl) _ _ rfl _ R15.out _ Tryz.underlying154 rfl (by kernel_rfl) ?_))
      try clear R15
      with_reducible refine (kfindf_any e _ heb).mono ?_
      rintro e w1 ⟨rfl, b1⟩
      replace heb := blk_u heb b1
      replace en := en.below b1
      replace bel := bel.trans (b1.mono bel.size)
      clear b1
      rw [HG.out]
      go_wp2_with fail
      go_ret
      exact ⟨rfl, bel⟩
    have HG : Hid (isB o ad p e = false) := Lib.hid (HN.out k e h2 HX.out)
    have R15 := Lib.hid (Sle.range0 en HX.out 8 [.int .i64 e.o, .int .u8 (e.ad.a.toNat : Int), .int .u8 (e.ad.b.toNat : Int), .int .u8 (e.ad.c.toNat : Int), .int .u8 (e.ad.d.toNat : Int), .int .i64 e.p, .int .i64 e.s, .bool e.d] rfl)
    go_wp2_with (first | ((with_reducible show wpList _ _ _ (⟨some 15, _, _, _, _, _⟩ :: _) _ _); refine wpList_load_rng 154 (.tmp 14) rfl (by kernel_rfl) _ _ rfl _ R15.out _ Tryz.underlying154 rfl (by kernel_rfl) ?_))
    try clear R15
    with_reducible refine (kfindf_any e _ heb).mono ?_
    rintro e w1 ⟨rfl, b1⟩
    replace heb := blk_u heb b1
    replace en := en.below b1
    replace bel := bel.trans (b1.mono bel.size)
    clear b1
    rw [HG.out]
    go_wp2_with fail
    go_roundg (n - (k + 1))
    case measure => have := HGK_.out; omega
    case rel => exact ⟨k + 1, rfl, by omega, by go_num, heb, en, bel⟩
set_option linter.unusedVariables false in
set_option linter.unusedSimpArgs false in
set_option maxRecDepth 100000 in
set_option maxHeartbeats 16000000 in
theorem idxf_nil {ge_ : Nat} {n c : Nat} {A2 : Option Addr} (w : World) (hn : n = 0) : Calls Tryz.prog 124 #[.slice A2 n c, .func (.func 125) #[] #[.pointer (some ⟨ge_, 0, none⟩)]] w fun e w' => e = .returned (.int .i64 (-1)) ∧ w = w' := by
  subst hn
  skip
  go_enter Tryz.func124, Tryz.ntmps124
  go_wp2_with fail
  refine wp_loop_rounds 1 ?_
  rw [rounds_succ]
  go_wp2_with fail
  go_ret
  exact ⟨rfl, rfl⟩
theorem idxf_no {n c : Nat} {A2 : Option Addr} {ge_ : Nat} {o p : Int} {ad : Ad4} {l : List Cn} (w : World) (heb : w.heap[ge_]? = some (.cells #[.int .i64 o, .int .u8 (ad.a.toNat : Int), .int .u8 (ad.b.toNat : Int), .int .u8 (ad.c.toNat : Int), .int .u8 (ad.d.toNat : Int), .int .i64 p] 150 (0, 0))) (en : Sle cnE 8 w A2 n c l) (hn : n ≤ 1000) (hN : l.findIdx (isB o ad p) = l.length) : Calls Tryz.prog 124 #[.slice A2 n c, .func (.func 125) #[] #[.pointer (some ⟨ge_, 0, none⟩)]] w fun e w' => e = .returned (.int .i64 (-1)) ∧ Below w.heap.size w w' := by
  rcases Nat.eq_zero_or_pos n with h | h
  · refine (idxf_nil w h).mono ?_
    rintro e w' ⟨rfl, rfl⟩
    exact ⟨rfl, Below.refl _ _⟩
  · obtain ⟨g, o, rfl⟩ := en.place h
    exact idxf_none_pos w heb en hn (idx_none hN)
theorem idxf_yes {n c i : Nat} {A2 : Option Addr} {ge_ : Nat} {o p : Int} {ad : Ad4} {l : List Cn} (w : World) (heb : w.heap[ge_]? = some (.cells #[.int .i64 o, .int .u8 (ad.a.toNat : Int), .int .u8 (ad.b.toNat : Int), .int .u8 (ad.c.toNat : Int), .int .u8 (ad.d.toNat : Int), .int .i64 p] 150 (0, 0))) (en : Sle cnE 8 w A2 n c l) (hn : n ≤ 1000) (hI : l.findIdx (isB o ad p) = i) (hi : i < l.length) : Calls Tryz.prog 124 #[.slice A2 n c, .func (.func 125) #[] #[.pointer (some ⟨ge_, 0, none⟩)]] w fun e w' => e = .returned (.int .i64 (i : Int)) ∧ Below w.heap.size w w' := by
  obtain ⟨g, o, rfl⟩ := en.place (by have := en.1; omega)
  obtain ⟨x, h1, h2, h3⟩ := idx_some hI hi
  exact idxf_some w heb en hn h1 h2 h3
set_option linter.unusedVariables false in
set_option linter.unusedSimpArgs false in
set_option maxRecDepth 100000 in
set_option maxHeartbeats 16000000 in
theorem find_no {gt n c : Nat} {rm : Int} {l : List Cn} {A : Option Addr} {o p : Int} {ad : Ad4} (w : World) (htb : w.heap[gt]? = some (.cells #[.int .i64 rm, .slice A n c] 110 (0, 0))) (en : Sle cnE 8 w A n c l) (h32 : n ≤ 1000) (hN : l.findIdx (isB o ad p) = l.length) : Calls Tryz.prog 101 #[.pointer (some ⟨gt, 0, none⟩), .agg #[.int .i64 o, .int .u8 (ad.a.toNat : Int), .int .u8 (ad.b.toNat : Int), .int .u8 (ad.c.toNat : Int), .int .u8 (ad.d.toNat : Int), .int .i64 p]] w fun e w' => e = .returned (.int .i64 (-1)) ∧ Below w.heap.size w w' := by
  have HN := Lib.hid hN
  clear hN
  have bel := Below.refl w.heap.size w
  go_enter Tryz.func101, Tryz.ntmps101
  go_wp2_with (first | ((with_reducible show wpList _ _ _ (⟨some 3, _, _, _, _, _⟩ :: _) _ _); refine wpList_box_n rfl 150 (.tmp 1) rfl #[.int .i64 o, .int .u8 (ad.a.toNat : Int), .int .u8 (ad.b.toNat : Int), .int .u8 (ad.c.toNat : Int), .int .u8 (ad.d.toNat : Int), .int .i64 p] rfl ?_; intro g3 w1 ge lt hh bb; have d_tb_eb := ne_new (hlt htb) ge; have av_en_eb := en.av_new ge; have oeb := Nat.le_trans bel.size ge; replace htb := blk_u htb bb; replace en := en.below bb; replace bel := bel.trans (bb.mono bel.size); have heb := hh; clear hh lt ge bb; have R8 := cell_lit htb 1 _ rfl))
  try clear R8
  with_reducible refine (idxf_no _ heb en h32 HN.out).mono ?_
  rintro e w2 ⟨rfl, b2⟩
  replace htb := blk_u htb b2
  replace heb := blk_u heb b2
  replace en := en.below b2
  replace bel := bel.trans (b2.mono bel.size)
  clear b2
  go_wp2_with fail
  go_ret
  exact ⟨rfl, bel⟩
set_option linter.unusedVariables false in
set_option linter.unusedSimpArgs false in
set_option maxRecDepth 100000 in
set_option maxHeartbeats 16000000 in
theorem find_yes {gt n c : Nat} {rm : Int} {l : List Cn} {A : Option Addr} {i : Nat} {o p : Int} {ad : Ad4} (w : World) (htb : w.heap[gt]? = some (.cells #[.int .i64 rm, .slice A n c] 110 (0, 0))) (en : Sle cnE 8 w A n c l) (h32 : n ≤ 1000) (hN : l.findIdx (isB o ad p) = i) (hi : i < l.length) : Calls Tryz.prog 101 #[.pointer (some ⟨gt, 0, none⟩), .agg #[.int .i64 o, .int .u8 (ad.a.toNat : Int), .int .u8 (ad.b.toNat : Int), .int .u8 (ad.c.toNat : Int), .int .u8 (ad.d.toNat : Int), .int .i64 p]] w fun e w' => e = .returned (.int .i64 (i : Int)) ∧ Below w.heap.size w w' := by
  have HN := Lib.hid hN
  have HI := Lib.hid hi
  clear hN hi
  have bel := Below.refl w.heap.size w
  go_enter Tryz.func101, Tryz.ntmps101
  go_wp2_with (first | ((with_reducible show wpList _ _ _ (⟨some 3, _, _, _, _, _⟩ :: _) _ _); refine wpList_box_n rfl 150 (.tmp 1) rfl #[.int .i64 o, .int .u8 (ad.a.toNat : Int), .int .u8 (ad.b.toNat : Int), .int .u8 (ad.c.toNat : Int), .int .u8 (ad.d.toNat : Int), .int .i64 p] rfl ?_; intro g3 w1 ge lt hh bb; have d_tb_eb := ne_new (hlt htb) ge; have av_en_eb := en.av_new ge; have oeb := Nat.le_trans bel.size ge; replace htb := blk_u htb bb; replace en := en.below bb; replace bel := bel.trans (bb.mono bel.size); have heb := hh; clear hh lt ge bb; have R8 := cell_lit htb 1 _ rfl))
  try clear R8
  with_reducible refine (idxf_yes _ heb en h32 HN.out HI.out).mono ?_
  rintro e w2 ⟨rfl, b2⟩
  replace htb := blk_u htb b2
  replace heb := blk_u heb b2
  replace en := en.below b2
  replace bel := bel.trans (b2.mono bel.size)
  clear b2
  go_wp2_with fail
  go_ret
  exact ⟨rfl, bel⟩
open Go.RowKit

theorem fl_t {f m : Int} (h : fl f m = true) : (bits .and .i64 f m == 0) = false ∧ (bits .and .i64 f m != 0) = true := by
  unfold fl at h
  rw [Bool.not_eq_true'] at h
  exact ⟨h, by rw [bne, h]; rfl⟩
theorem fl_f {f m : Int} (h : fl f m = false) : (bits .and .i64 f m == 0) = true ∧ (bits .and .i64 f m != 0) = false := by
  unfold fl at h
  rw [Bool.not_eq_false'] at h
  exact ⟨h, by rw [bne, h]; rfl⟩
theorem set_at {l : List Cn} {i : Nat} {x y : Cn} (h : l[i]? = some x) : (l.set i y)[i]? = some y := List.getElem?_set_self (List.getElem?_eq_some_iff.1 h).1
theorem box_row {lo g : Nat} {w : World} {x : Cn} (h : w.heap[g]? = some (.cells #[.int .i64 x.o, .int .u8 (x.ad.a.toNat : Int), .int .u8 (x.ad.b.toNat : Int), .int .u8 (x.ad.c.toNat : Int), .int .u8 (x.ad.d.toNat : Int), .int .i64 x.p, .int .i64 x.s, .bool x.d] 154 (0, 0))) (hg : lo ≤ g) : w.ownsRow lo 154 8 (.slice (some ⟨g, 0, none⟩) 1 1) 1 ([x].flatMap cnE) := owk_lit [x] cnE_len (show w.heap[g]? = some (.cells (([x] : List Cn).flatMap cnE).toArray 154 (0, 0)) from h) hg 1 rfl (by simp [maxLen])
theorem row_box {lo g : Nat} {w : World} {x : Cn} (h : w.ownsRow lo 154 8 (.slice (some ⟨g, 0, none⟩) 1 1) 1 ([x].flatMap cnE)) : w.heap[g]? = some (.cells #[.int .i64 x.o, .int .u8 (x.ad.a.toNat : Int), .int .u8 (x.ad.b.toNat : Int), .int .u8 (x.ad.c.toNat : Int), .int .u8 (x.ad.d.toNat : Int), .int .i64 x.p, .int .i64 x.s, .bool x.d] 154 (0, 0)) := by
  obtain ⟨_, cur, hb, hh, hn, hc, hs, ht⟩ := row_of h
  have e : cur = ([x] : List Cn).flatMap cnE := by
    rw [← List.take_of_length_le (l := cur) (i := 1 * 8) (by omega), ht]
  rw [hh, e]
  rfl
theorem set_self {l : List Cn} {i : Nat} {x : Cn} (h : l[i]? = some x) : l.set i x = l := by
  obtain ⟨h1, h2⟩ := List.getElem?_eq_some_iff.1 h
  rw [← h2]; exact List.set_getElem_self h1
set_option linter.unusedVariables false in
set_option linter.unusedSimpArgs false in
set_option maxRecDepth 100000 in
set_option maxHeartbeats 16000000 in
theorem enter_any {lo gE n c i : Nat} {l : List Cn} {x : Cn} (s : Int) (b : Bool) (w : World) (hlo : lo ≤ w.heap.size) (hown : w.ownsRow lo 154 8 (.slice (some ⟨gE, 0, none⟩) n c) n (l.flatMap cnE)) (hx : l[i]? = some x)  : Calls Tryz.prog 126 #[.pointer (some ⟨gE, i * 8, none⟩), .int .i64 s, .bool b] w fun e w' => e = .returned (.tuple #[]) ∧ w'.ownsRow lo 154 8 (.slice (some ⟨gE, 0, none⟩) n c) n ((l.set i ⟨x.o, x.ad, x.p, s, b⟩).flatMap cnE) ∧ w.grownBy w' (some gE) := by
  have own := hown
  clear hown
  have HLO := Lib.hid hlo
  have HLL := Lib.hid (row_len (by decide) cnE_len own)
  have en := (owk_sle (by decide) cnE_len own).1
  have HX := Lib.hid hx
  have hin_ : i < n := by have h1_ := (List.getElem?_eq_some_iff.1 hx).1; have h2_ := HLL.out; omega
  have i0 : (0 : Int) ≤ i := by omega
  have i1 : (i : Int) < n := by omega
  have grw := World.grownBy.refl w (some gE)
  clear hx hin_
  have bel := Below.refl lo w
  go_enter Tryz.func126, Tryz.ntmps126
  go_wp2_with (first | ((with_reducible show wpList _ _ _ (⟨none, Op.store _ (.tmp 9) _, _, _, _, _⟩ :: _) _ _); refine wpList_store_el rfl 3 (.tmp 9) (.tmp 7) rfl gE i 6 x (⟨x.o, x.ad, x.p, s, x.d⟩) rfl [.int .i64 s] rfl (by decide) cnE_len own HX.out (Nat.le_of_ble_eq_true rfl) rfl (by kernel_rfl) (by rfl) ?_; intro w1 own_ gw; replace bel := bel.trans (row_bel gw own (Nat.le_trans hlo bel.size)); replace grw := grw.trans gw; clear own; have own := own_; clear own_ gw; replace en := (owk_sle (by decide) cnE_len own).1; have HX2 := Lib.hid (set_at (y := (⟨x.o, x.ad, x.p, s, x.d⟩ : Cn)) HX.out)) | ((with_reducible show wpList _ _ _ (⟨none, Op.store _ (.tmp 13) _, _, _, _, _⟩ :: _) _ _); refine wpList_store_el rfl 4 (.tmp 13) (.tmp 11) rfl gE i 7 (⟨x.o, x.ad, x.p, s, x.d⟩) (⟨x.o, x.ad, x.p, s, b⟩) rfl [.bool b] rfl (by decide) cnE_len own HX2.out (Nat.le_of_ble_eq_true rfl) rfl (by kernel_rfl) (by rfl) ?_; intro w2 own_ gw; replace bel := bel.trans (row_bel gw own (Nat.le_trans hlo bel.size)); replace grw := grw.trans gw; clear own; have own := own_; clear own_ gw; replace en := (owk_sle (by decide) cnE_len own).1))
  exact bodyPost_end (results_none rfl _ _ _) rfl ⟨rfl, (by first | exact own | (have h_ := own; rw [List.set_set] at h_; exact h_) | (rw [set_self HX.out]; exact own)), grw⟩
set_option linter.unusedVariables false in
set_option linter.unusedSimpArgs false in
set_option maxRecDepth 100000 in
set_option maxHeartbeats 16000000 in
theorem fol0_1 {lo gE n c i : Nat} {l : List Cn} {o p f : Int} {ad : Ad4} {b d : Bool} (w : World) (hlo : lo ≤ w.heap.size) (hown : w.ownsRow lo 154 8 (.slice (some ⟨gE, 0, none⟩) n c) n (l.flatMap cnE)) (hx : l[i]? = some ⟨o, ad, p, 0, d⟩) (h2 : fl f 2 = true) (h20 : fl f 20 = false)  : Calls Tryz.prog 102 #[.pointer (some ⟨gE, i * 8, none⟩), .bool b, .int .i64 f] w fun e w' => e = .returned (.tuple #[]) ∧ w'.ownsRow lo 154 8 (.slice (some ⟨gE, 0, none⟩) n c) n ((l.set i ⟨o, ad, p, 1, b⟩).flatMap cnE) ∧ w.grownBy w' (some gE) := by
  have own := hown
  clear hown
  have HLO := Lib.hid hlo
  have HLL := Lib.hid (row_len (by decide) cnE_len own)
  have en := (owk_sle (by decide) cnE_len own).1
  have HX := Lib.hid hx
  have hin_ : i < n := by have h1_ := (List.getElem?_eq_some_iff.1 hx).1; have h2_ := HLL.out; omega
  have i0 : (0 : Int) ≤ i := by omega
  have i1 : (i : Int) < n := by omega
  have grw := World.grownBy.refl w (some gE)
  clear hx hin_
  obtain ⟨p2, q2⟩ := fl_t h2
  obtain ⟨a2, ha2⟩ : ∃ a, bits .and .i64 f 2 = a := ⟨_, rfl⟩
  rw [ha2] at p2 q2
  clear h2
  obtain ⟨p20, q20⟩ := fl_f h20
  obtain ⟨a20, ha20⟩ : ∃ a, bits .and .i64 f 20 = a := ⟨_, rfl⟩
  rw [ha20] at p20 q20
  clear h20
  have bel := Below.refl lo w
  go_enter Tryz.func102, Tryz.ntmps102
  have R10 := Sle.zcell en HX.out 6 _ rfl
  go_wp2_with fail
  clear R10
  have HLO_ := Nat.le_trans HLO.out bel.size
  with_reducible refine (enter_any (x := ⟨o, ad, p, 0, d⟩) 1 b _ HLO_ own HX.out).mono ?_
  rintro e w1 ⟨rfl, own_, gw⟩
  replace bel := bel.trans (row_bel gw own (Nat.le_trans hlo bel.size))
  replace grw := grw.trans gw
  clear own
  have own := own_
  clear own_ gw
  replace en := (owk_sle (by decide) cnE_len own).1
  clear HLO_
  go_wp2_with fail
  exact bodyPost_end (results_none rfl _ _ _) rfl ⟨rfl, (by first | exact own | (have h_ := own; rw [List.set_set] at h_; exact h_) | (rw [set_self HX.out]; exact own)), grw⟩
set_option linter.unusedVariables false in
set_option linter.unusedSimpArgs false in
set_option maxRecDepth 100000 in
set_option maxHeartbeats 16000000 in
theorem fol0_2 {lo gE n c i : Nat} {l : List Cn} {o p f : Int} {ad : Ad4} {b d : Bool} (w : World) (hlo : lo ≤ w.heap.size) (hown : w.ownsRow lo 154 8 (.slice (some ⟨gE, 0, none⟩) n c) n (l.flatMap cnE)) (hx : l[i]? = some ⟨o, ad, p, 0, d⟩) (h2 : fl f 2 = true) (h20 : fl f 20 = true)  : Calls Tryz.prog 102 #[.pointer (some ⟨gE, i * 8, none⟩), .bool b, .int .i64 f] w fun e w' => e = .returned (.tuple #[]) ∧ w'.ownsRow lo 154 8 (.slice (some ⟨gE, 0, none⟩) n c) n ((l.set i ⟨o, ad, p, 0, d⟩).flatMap cnE) ∧ w.grownBy w' (some gE) := by
  have own := hown
  clear hown
  have HLO := Lib.hid hlo
  have HLL := Lib.hid (row_len (by decide) cnE_len own)
  have en := (owk_sle (by decide) cnE_len own).1
  have HX := Lib.hid hx
  have hin_ : i < n := by have h1_ := (List.getElem?_eq_some_iff.1 hx).1; have h2_ := HLL.out; omega
  have i0 : (0 : Int) ≤ i := by omega
  have i1 : (i : Int) < n := by omega
  have grw := World.grownBy.refl w (some gE)
  clear hx hin_
  obtain ⟨p2, q2⟩ := fl_t h2
  obtain ⟨a2, ha2⟩ : ∃ a, bits .and .i64 f 2 = a := ⟨_, rfl⟩
  rw [ha2] at p2 q2
  clear h2
  obtain ⟨p20, q20⟩ := fl_t h20
  obtain ⟨a20, ha20⟩ : ∃ a, bits .and .i64 f 20 = a := ⟨_, rfl⟩
  rw [ha20] at p20 q20
  clear h20
  have bel := Below.refl lo w
  go_enter Tryz.func102, Tryz.ntmps102
  have R10 := Sle.zcell en HX.out 6 _ rfl
  go_wp2_with fail
  clear R10
  exact bodyPost_end (results_none rfl _ _ _) rfl ⟨rfl, (by first | exact own | (have h_ := own; rw [List.set_set] at h_; exact h_) | (rw [set_self HX.out]; exact own)), grw⟩
set_option linter.unusedVariables false in
set_option linter.unusedSimpArgs false in
set_option maxRecDepth 100000 in
set_option maxHeartbeats 16000000 in
theorem fol0_3 {lo gE n c i : Nat} {l : List Cn} {o p f : Int} {ad : Ad4} {b d : Bool} (w : World) (hlo : lo ≤ w.heap.size) (hown : w.ownsRow lo 154 8 (.slice (some ⟨gE, 0, none⟩) n c) n (l.flatMap cnE)) (hx : l[i]? = some ⟨o, ad, p, 0, d⟩) (h2 : fl f 2 = false)  : Calls Tryz.prog 102 #[.pointer (some ⟨gE, i * 8, none⟩), .bool b, .int .i64 f] w fun e w' => e = .returned (.tuple #[]) ∧ w'.ownsRow lo 154 8 (.slice (some ⟨gE, 0, none⟩) n c) n ((l.set i ⟨o, ad, p, 0, d⟩).flatMap cnE) ∧ w.grownBy w' (some gE) := by
  have own := hown
  clear hown
  have HLO := Lib.hid hlo
  have HLL := Lib.hid (row_len (by decide) cnE_len own)
  have en := (owk_sle (by decide) cnE_len own).1
  have HX := Lib.hid hx
  have hin_ : i < n := by have h1_ := (List.getElem?_eq_some_iff.1 hx).1; have h2_ := HLL.out; omega
  have i0 : (0 : Int) ≤ i := by omega
  have i1 : (i : Int) < n := by omega
  have grw := World.grownBy.refl w (some gE)
  clear hx hin_
  obtain ⟨p2, q2⟩ := fl_f h2
  obtain ⟨a2, ha2⟩ : ∃ a, bits .and .i64 f 2 = a := ⟨_, rfl⟩
  rw [ha2] at p2 q2
  clear h2
  have bel := Below.refl lo w
  go_enter Tryz.func102, Tryz.ntmps102
  have R10 := Sle.zcell en HX.out 6 _ rfl
  go_wp2_with fail
  clear R10
  exact bodyPost_end (results_none rfl _ _ _) rfl ⟨rfl, (by first | exact own | (have h_ := own; rw [List.set_set] at h_; exact h_) | (rw [set_self HX.out]; exact own)), grw⟩
set_option linter.unusedVariables false in
set_option linter.unusedSimpArgs false in
set_option maxRecDepth 100000 in
set_option maxHeartbeats 16000000 in
theorem fol1_r {lo gE n c i : Nat} {l : List Cn} {o p f : Int} {ad : Ad4} {b d : Bool} (w : World) (hlo : lo ≤ w.heap.size) (hown : w.ownsRow lo 154 8 (.slice (some ⟨gE, 0, none⟩) n c) n (l.flatMap cnE)) (hx : l[i]? = some ⟨o, ad, p, 1, d⟩) (h4 : fl f 4 = true)  : Calls Tryz.prog 102 #[.pointer (some ⟨gE, i * 8, none⟩), .bool b, .int .i64 f] w fun e w' => e = .returned (.tuple #[]) ∧ w'.ownsRow lo 154 8 (.slice (some ⟨gE, 0, none⟩) n c) n ((l.set i ⟨o, ad, p, 6, d⟩).flatMap cnE) ∧ w.grownBy w' (some gE) := by
  have own := hown
  clear hown
  have HLO := Lib.hid hlo
  have HLL := Lib.hid (row_len (by decide) cnE_len own)
  have en := (owk_sle (by decide) cnE_len own).1
  have HX := Lib.hid hx
  have hin_ : i < n := by have h1_ := (List.getElem?_eq_some_iff.1 hx).1; have h2_ := HLL.out; omega
  have i0 : (0 : Int) ≤ i := by omega
  have i1 : (i : Int) < n := by omega
  have grw := World.grownBy.refl w (some gE)
  clear hx hin_
  obtain ⟨p4, q4⟩ := fl_t h4
  obtain ⟨a4, ha4⟩ : ∃ a, bits .and .i64 f 4 = a := ⟨_, rfl⟩
  rw [ha4] at p4 q4
  clear h4
  have bel := Below.refl lo w
  go_enter Tryz.func102, Tryz.ntmps102
  have R10 := Sle.zcell en HX.out 6 _ rfl
  have R16 := Sle.zcell en HX.out 6 _ rfl
  go_wp2_with (first | ((with_reducible show wpList _ _ _ (⟨none, Op.store _ (.tmp 36) _, _, _, _, _⟩ :: _) _ _); refine wpList_store_el rfl 3 (.tmp 36) (.const (.int .i64 6)) rfl gE i 6 (⟨o, ad, p, 1, d⟩) (⟨o, ad, p, 6, d⟩) rfl [.int .i64 6] rfl (by decide) cnE_len own HX.out (Nat.le_of_ble_eq_true rfl) rfl (by kernel_rfl) (by rfl) ?_; intro w1 own_ gw; replace bel := bel.trans (row_bel gw own (Nat.le_trans hlo bel.size)); replace grw := grw.trans gw; clear own; have own := own_; clear own_ gw; replace en := (owk_sle (by decide) cnE_len own).1))
  try clear R10
  try clear R16
  exact bodyPost_end (results_none rfl _ _ _) rfl ⟨rfl, (by first | exact own | (have h_ := own; rw [List.set_set] at h_; exact h_) | (rw [set_self HX.out]; exact own)), grw⟩
set_option linter.unusedVariables false in
set_option linter.unusedSimpArgs false in
set_option maxRecDepth 100000 in
set_option maxHeartbeats 16000000 in
theorem fol1_f {lo gE n c i : Nat} {l : List Cn} {o p f : Int} {ad : Ad4} {b d : Bool} (w : World) (hlo : lo ≤ w.heap.size) (hown : w.ownsRow lo 154 8 (.slice (some ⟨gE, 0, none⟩) n c) n (l.flatMap cnE)) (hx : l[i]? = some ⟨o, ad, p, 1, d⟩) (h4 : fl f 4 = false) (h1 : fl f 1 = true)  : Calls Tryz.prog 102 #[.pointer (some ⟨gE, i * 8, none⟩), .bool b, .int .i64 f] w fun e w' => e = .returned (.tuple #[]) ∧ w'.ownsRow lo 154 8 (.slice (some ⟨gE, 0, none⟩) n c) n ((l.set i ⟨o, ad, p, 4, b⟩).flatMap cnE) ∧ w.grownBy w' (some gE) := by
  have own := hown
  clear hown
  have HLO := Lib.hid hlo
  have HLL := Lib.hid (row_len (by decide) cnE_len own)
  have en := (owk_sle (by decide) cnE_len own).1
  have HX := Lib.hid hx
  have hin_ : i < n := by have h1_ := (List.getElem?_eq_some_iff.1 hx).1; have h2_ := HLL.out; omega
  have i0 : (0 : Int) ≤ i := by omega
  have i1 : (i : Int) < n := by omega
  have grw := World.grownBy.refl w (some gE)
  clear hx hin_
  obtain ⟨p4, q4⟩ := fl_f h4
  obtain ⟨a4, ha4⟩ : ∃ a, bits .and .i64 f 4 = a := ⟨_, rfl⟩
  rw [ha4] at p4 q4
  clear h4
  obtain ⟨p1, q1⟩ := fl_t h1
  obtain ⟨a1, ha1⟩ : ∃ a, bits .and .i64 f 1 = a := ⟨_, rfl⟩
  rw [ha1] at p1 q1
  clear h1
  have bel := Below.refl lo w
  go_enter Tryz.func102, Tryz.ntmps102
  have R10 := Sle.zcell en HX.out 6 _ rfl
  have R16 := Sle.zcell en HX.out 6 _ rfl
  have R45 := Sle.zcell en HX.out 6 _ rfl
  go_wp2_with fail
  clear R10 R16 R45
  have HLO_ := Nat.le_trans HLO.out bel.size
  with_reducible refine (enter_any (x := ⟨o, ad, p, 1, d⟩) 4 b _ HLO_ own HX.out).mono ?_
  rintro e w1 ⟨rfl, own_, gw⟩
  replace bel := bel.trans (row_bel gw own (Nat.le_trans hlo bel.size))
  replace grw := grw.trans gw
  clear own
  have own := own_
  clear own_ gw
  replace en := (owk_sle (by decide) cnE_len own).1
  clear HLO_
  go_wp2_with fail
  exact bodyPost_end (results_none rfl _ _ _) rfl ⟨rfl, (by first | exact own | (have h_ := own; rw [List.set_set] at h_; exact h_) | (rw [set_self HX.out]; exact own)), grw⟩
set_option linter.unusedVariables false in
set_option linter.unusedSimpArgs false in
set_option maxRecDepth 100000 in
set_option maxHeartbeats 16000000 in
theorem fol1_y {lo gE n c i : Nat} {l : List Cn} {o p f : Int} {ad : Ad4} {b d : Bool} (w : World) (hlo : lo ≤ w.heap.size) (hown : w.ownsRow lo 154 8 (.slice (some ⟨gE, 0, none⟩) n c) n (l.flatMap cnE)) (hx : l[i]? = some ⟨o, ad, p, 1, d⟩) (h2 : fl f 2 = true) (h4 : fl f 4 = false) (h1 : fl f 1 = false) (hbd : (b != d) = true)  : Calls Tryz.prog 102 #[.pointer (some ⟨gE, i * 8, none⟩), .bool b, .int .i64 f] w fun e w' => e = .returned (.tuple #[]) ∧ w'.ownsRow lo 154 8 (.slice (some ⟨gE, 0, none⟩) n c) n ((l.set i ⟨o, ad, p, 2, d⟩).flatMap cnE) ∧ w.grownBy w' (some gE) := by
  have own := hown
  clear hown
  have HLO := Lib.hid hlo
  have HLL := Lib.hid (row_len (by decide) cnE_len own)
  have en := (owk_sle (by decide) cnE_len own).1
  have HX := Lib.hid hx
  have hin_ : i < n := by have h1_ := (List.getElem?_eq_some_iff.1 hx).1; have h2_ := HLL.out; omega
  have i0 : (0 : Int) ≤ i := by omega
  have i1 : (i : Int) < n := by omega
  have grw := World.grownBy.refl w (some gE)
  clear hx hin_
  obtain ⟨p2, q2⟩ := fl_t h2
  obtain ⟨a2, ha2⟩ : ∃ a, bits .and .i64 f 2 = a := ⟨_, rfl⟩
  rw [ha2] at p2 q2
  clear h2
  obtain ⟨p4, q4⟩ := fl_f h4
  obtain ⟨a4, ha4⟩ : ∃ a, bits .and .i64 f 4 = a := ⟨_, rfl⟩
  rw [ha4] at p4 q4
  clear h4
  obtain ⟨p1, q1⟩ := fl_f h1
  obtain ⟨a1, ha1⟩ : ∃ a, bits .and .i64 f 1 = a := ⟨_, rfl⟩
  rw [ha1] at p1 q1
  clear h1
  have hbe : (b == d) = false := by cases b <;> cases d <;> first | rfl | cases hbd
  have bel := Below.refl lo w
  go_enter Tryz.func102, Tryz.ntmps102
  have R10 := Sle.zcell en HX.out 6 _ rfl
  have R16 := Sle.zcell en HX.out 6 _ rfl
  have R55 := Sle.zcell en HX.out 6 _ rfl
  have R67 := Sle.zcell en HX.out 7 _ rfl
  go_wp2_with (first | ((with_reducible show wpList _ _ _ (⟨none, Op.store _ (.tmp 72) _, _, _, _, _⟩ :: _) _ _); refine wpList_store_el rfl 3 (.tmp 72) (.const (.int .i64 2)) rfl gE i 6 (⟨o, ad, p, 1, d⟩) (⟨o, ad, p, 2, d⟩) rfl [.int .i64 2] rfl (by decide) cnE_len own HX.out (Nat.le_of_ble_eq_true rfl) rfl (by kernel_rfl) (by rfl) ?_; intro w1 own_ gw; replace bel := bel.trans (row_bel gw own (Nat.le_trans hlo bel.size)); replace grw := grw.trans gw; clear own; have own := own_; clear own_ gw; replace en := (owk_sle (by decide) cnE_len own).1))
  try clear R10
  try clear R16
  try clear R55
  try clear R67
  exact bodyPost_end (results_none rfl _ _ _) rfl ⟨rfl, (by first | exact own | (have h_ := own; rw [List.set_set] at h_; exact h_) | (rw [set_self HX.out]; exact own)), grw⟩
set_option linter.unusedVariables false in
set_option linter.unusedSimpArgs false in
set_option maxRecDepth 100000 in
set_option maxHeartbeats 16000000 in
theorem fol1_d {lo gE n c i : Nat} {l : List Cn} {o p f : Int} {ad : Ad4} {b d : Bool} (w : World) (hlo : lo ≤ w.heap.size) (hown : w.ownsRow lo 154 8 (.slice (some ⟨gE, 0, none⟩) n c) n (l.flatMap cnE)) (hx : l[i]? = some ⟨o, ad, p, 1, d⟩) (h2 : fl f 2 = true) (h4 : fl f 4 = false) (h1 : fl f 1 = false) (hbd : (b != d) = false)  : Calls Tryz.prog 102 #[.pointer (some ⟨gE, i * 8, none⟩), .bool b, .int .i64 f] w fun e w' => e = .returned (.tuple #[]) ∧ w'.ownsRow lo 154 8 (.slice (some ⟨gE, 0, none⟩) n c) n ((l.set i ⟨o, ad, p, 1, d⟩).flatMap cnE) ∧ w.grownBy w' (some gE) := by
  have own := hown
  clear hown
  have HLO := Lib.hid hlo
  have HLL := Lib.hid (row_len (by decide) cnE_len own)
  have en := (owk_sle (by decide) cnE_len own).1
  have HX := Lib.hid hx
  have hin_ : i < n := by have h1_ := (List.getElem?_eq_some_iff.1 hx).1; have h2_ := HLL.out; omega
  have i0 : (0 : Int) ≤ i := by omega
  have i1 : (i : Int) < n := by omega
  have grw := World.grownBy.refl w (some gE)
  clear hx hin_
  obtain ⟨p2, q2⟩ := fl_t h2
  obtain ⟨a2, ha2⟩ : ∃ a, bits .and .i64 f 2 = a := ⟨_, rfl⟩
  rw [ha2] at p2 q2
  clear h2
  obtain ⟨p4, q4⟩ := fl_f h4
  obtain ⟨a4, ha4⟩ : ∃ a, bits .and .i64 f 4 = a := ⟨_, rfl⟩
  rw [ha4] at p4 q4
  clear h4
  obtain ⟨p1, q1⟩ := fl_f h1
  obtain ⟨a1, ha1⟩ : ∃ a, bits .and .i64 f 1 = a := ⟨_, rfl⟩
  rw [ha1] at p1 q1
  clear h1
  have hbe : (b == d) = true := by cases b <;> cases d <;> first | rfl | cases hbd
  have bel := Below.refl lo w
  go_enter Tryz.func102, Tryz.ntmps102
  have R10 := Sle.zcell en HX.out 6 _ rfl
  have R16 := Sle.zcell en HX.out 6 _ rfl
  have R55 := Sle.zcell en HX.out 6 _ rfl
  have R67 := Sle.zcell en HX.out 7 _ rfl
  have R77 := Sle.zcell en HX.out 6 _ rfl
  have R96 := Sle.zcell en HX.out 6 _ rfl
  go_wp2_with fail
  clear R10 R16 R55 R67 R77 R96
  exact bodyPost_end (results_none rfl _ _ _) rfl ⟨rfl, (by first | exact own | (have h_ := own; rw [List.set_set] at h_; exact h_) | (rw [set_self HX.out]; exact own)), grw⟩
set_option linter.unusedVariables false in
set_option linter.unusedSimpArgs false in
set_option maxRecDepth 100000 in
set_option maxHeartbeats 16000000 in
theorem fol1_n {lo gE n c i : Nat} {l : List Cn} {o p f : Int} {ad : Ad4} {b d : Bool} (w : World) (hlo : lo ≤ w.heap.size) (hown : w.ownsRow lo 154 8 (.slice (some ⟨gE, 0, none⟩) n c) n (l.flatMap cnE)) (hx : l[i]? = some ⟨o, ad, p, 1, d⟩) (h2 : fl f 2 = false) (h4 : fl f 4 = false) (h1 : fl f 1 = false)  : Calls Tryz.prog 102 #[.pointer (some ⟨gE, i * 8, none⟩), .bool b, .int .i64 f] w fun e w' => e = .returned (.tuple #[]) ∧ w'.ownsRow lo 154 8 (.slice (some ⟨gE, 0, none⟩) n c) n ((l.set i ⟨o, ad, p, 1, d⟩).flatMap cnE) ∧ w.grownBy w' (some gE) := by
  have own := hown
  clear hown
  have HLO := Lib.hid hlo
  have HLL := Lib.hid (row_len (by decide) cnE_len own)
  have en := (owk_sle (by decide) cnE_len own).1
  have HX := Lib.hid hx
  have hin_ : i < n := by have h1_ := (List.getElem?_eq_some_iff.1 hx).1; have h2_ := HLL.out; omega
  have i0 : (0 : Int) ≤ i := by omega
  have i1 : (i : Int) < n := by omega
  have grw := World.grownBy.refl w (some gE)
  clear hx hin_
  obtain ⟨p2, q2⟩ := fl_f h2
  obtain ⟨a2, ha2⟩ : ∃ a, bits .and .i64 f 2 = a := ⟨_, rfl⟩
  rw [ha2] at p2 q2
  clear h2
  obtain ⟨p4, q4⟩ := fl_f h4
  obtain ⟨a4, ha4⟩ : ∃ a, bits .and .i64 f 4 = a := ⟨_, rfl⟩
  rw [ha4] at p4 q4
  clear h4
  obtain ⟨p1, q1⟩ := fl_f h1
  obtain ⟨a1, ha1⟩ : ∃ a, bits .and .i64 f 1 = a := ⟨_, rfl⟩
  rw [ha1] at p1 q1
  clear h1
  have bel := Below.refl lo w
  go_enter Tryz.func102, Tryz.ntmps102
  have R10 := Sle.zcell en HX.out 6 _ rfl
  have R16 := Sle.zcell en HX.out 6 _ rfl
  have R55 := Sle.zcell en HX.out 6 _ rfl
  have R77 := Sle.zcell en HX.out 6 _ rfl
  have R96 := Sle.zcell en HX.out 6 _ rfl
  go_wp2_with fail
  clear R10 R16 R55 R77 R96
  exact bodyPost_end (results_none rfl _ _ _) rfl ⟨rfl, (by first | exact own | (have h_ := own; rw [List.set_set] at h_; exact h_) | (rw [set_self HX.out]; exact own)), grw⟩
set_option linter.unusedVariables false in
set_option linter.unusedSimpArgs false in
set_option maxRecDepth 100000 in
set_option maxHeartbeats 16000000 in
theorem fol2_r {lo gE n c i : Nat} {l : List Cn} {o p f : Int} {ad : Ad4} {b d : Bool} (w : World) (hlo : lo ≤ w.heap.size) (hown : w.ownsRow lo 154 8 (.slice (some ⟨gE, 0, none⟩) n c) n (l.flatMap cnE)) (hx : l[i]? = some ⟨o, ad, p, 2, d⟩) (h4 : fl f 4 = true)  : Calls Tryz.prog 102 #[.pointer (some ⟨gE, i * 8, none⟩), .bool b, .int .i64 f] w fun e w' => e = .returned (.tuple #[]) ∧ w'.ownsRow lo 154 8 (.slice (some ⟨gE, 0, none⟩) n c) n ((l.set i ⟨o, ad, p, 6, d⟩).flatMap cnE) ∧ w.grownBy w' (some gE) := by
  have own := hown
  clear hown
  have HLO := Lib.hid hlo
  have HLL := Lib.hid (row_len (by decide) cnE_len own)
  have en := (owk_sle (by decide) cnE_len own).1
  have HX := Lib.hid hx
  have hin_ : i < n := by have h1_ := (List.getElem?_eq_some_iff.1 hx).1; have h2_ := HLL.out; omega
  have i0 : (0 : Int) ≤ i := by omega
  have i1 : (i : Int) < n := by omega
  have grw := World.grownBy.refl w (some gE)
  clear hx hin_
  obtain ⟨p4, q4⟩ := fl_t h4
  obtain ⟨a4, ha4⟩ : ∃ a, bits .and .i64 f 4 = a := ⟨_, rfl⟩
  rw [ha4] at p4 q4
  clear h4
  have bel := Below.refl lo w
  go_enter Tryz.func102, Tryz.ntmps102
  have R10 := Sle.zcell en HX.out 6 _ rfl
  have R16 := Sle.zcell en HX.out 6 _ rfl
  go_wp2_with (first | ((with_reducible show wpList _ _ _ (⟨none, Op.store _ (.tmp 36) _, _, _, _, _⟩ :: _) _ _); refine wpList_store_el rfl 3 (.tmp 36) (.const (.int .i64 6)) rfl gE i 6 (⟨o, ad, p, 2, d⟩) (⟨o, ad, p, 6, d⟩) rfl [.int .i64 6] rfl (by decide) cnE_len own HX.out (Nat.le_of_ble_eq_true rfl) rfl (by kernel_rfl) (by rfl) ?_; intro w1 own_ gw; replace bel := bel.trans (row_bel gw own (Nat.le_trans hlo bel.size)); replace grw := grw.trans gw; clear own; have own := own_; clear own_ gw; replace en := (owk_sle (by decide) cnE_len own).1))
  try clear R10
  try clear R16
  exact bodyPost_end (results_none rfl _ _ _) rfl ⟨rfl, (by first | exact own | (have h_ := own; rw [List.set_set] at h_; exact h_) | (rw [set_self HX.out]; exact own)), grw⟩
set_option linter.unusedVariables false in
set_option linter.unusedSimpArgs false in
set_option maxRecDepth 100000 in
set_option maxHeartbeats 16000000 in
theorem fol2_f {lo gE n c i : Nat} {l : List Cn} {o p f : Int} {ad : Ad4} {b d : Bool} (w : World) (hlo : lo ≤ w.heap.size) (hown : w.ownsRow lo 154 8 (.slice (some ⟨gE, 0, none⟩) n c) n (l.flatMap cnE)) (hx : l[i]? = some ⟨o, ad, p, 2, d⟩) (h4 : fl f 4 = false) (h1 : fl f 1 = true)  : Calls Tryz.prog 102 #[.pointer (some ⟨gE, i * 8, none⟩), .bool b, .int .i64 f] w fun e w' => e = .returned (.tuple #[]) ∧ w'.ownsRow lo 154 8 (.slice (some ⟨gE, 0, none⟩) n c) n ((l.set i ⟨o, ad, p, 4, b⟩).flatMap cnE) ∧ w.grownBy w' (some gE) := by
  have own := hown
  clear hown
  have HLO := Lib.hid hlo
  have HLL := Lib.hid (row_len (by decide) cnE_len own)
  have en := (owk_sle (by decide) cnE_len own).1
  have HX := Lib.hid hx
  have hin_ : i < n := by have h1_ := (List.getElem?_eq_some_iff.1 hx).1; have h2_ := HLL.out; omega
  have i0 : (0 : Int) ≤ i := by omega
  have i1 : (i : Int) < n := by omega
  have grw := World.grownBy.refl w (some gE)
  clear hx hin_
  obtain ⟨p4, q4⟩ := fl_f h4
  obtain ⟨a4, ha4⟩ : ∃ a, bits .and .i64 f 4 = a := ⟨_, rfl⟩
  rw [ha4] at p4 q4
  clear h4
  obtain ⟨p1, q1⟩ := fl_t h1
  obtain ⟨a1, ha1⟩ : ∃ a, bits .and .i64 f 1 = a := ⟨_, rfl⟩
  rw [ha1] at p1 q1
  clear h1
  have bel := Below.refl lo w
  go_enter Tryz.func102, Tryz.ntmps102
  have R10 := Sle.zcell en HX.out 6 _ rfl
  have R16 := Sle.zcell en HX.out 6 _ rfl
  have R45 := Sle.zcell en HX.out 6 _ rfl
  go_wp2_with fail
  clear R10 R16 R45
  have HLO_ := Nat.le_trans HLO.out bel.size
  with_reducible refine (enter_any (x := ⟨o, ad, p, 2, d⟩) 4 b _ HLO_ own HX.out).mono ?_
  rintro e w1 ⟨rfl, own_, gw⟩
  replace bel := bel.trans (row_bel gw own (Nat.le_trans hlo bel.size))
  replace grw := grw.trans gw
  clear own
  have own := own_
  clear own_ gw
  replace en := (owk_sle (by decide) cnE_len own).1
  clear HLO_
  go_wp2_with fail
  exact bodyPost_end (results_none rfl _ _ _) rfl ⟨rfl, (by first | exact own | (have h_ := own; rw [List.set_set] at h_; exact h_) | (rw [set_self HX.out]; exact own)), grw⟩
set_option linter.unusedVariables false in
set_option linter.unusedSimpArgs false in
set_option maxRecDepth 100000 in
set_option maxHeartbeats 16000000 in
theorem fol2_y {lo gE n c i : Nat} {l : List Cn} {o p f : Int} {ad : Ad4} {b d : Bool} (w : World) (hlo : lo ≤ w.heap.size) (hown : w.ownsRow lo 154 8 (.slice (some ⟨gE, 0, none⟩) n c) n (l.flatMap cnE)) (hx : l[i]? = some ⟨o, ad, p, 2, d⟩) (h16 : fl f 16 = true) (h2 : fl f 2 = false) (h4 : fl f 4 = false) (h1 : fl f 1 = false)  : Calls Tryz.prog 102 #[.pointer (some ⟨gE, i * 8, none⟩), .bool b, .int .i64 f] w fun e w' => e = .returned (.tuple #[]) ∧ w'.ownsRow lo 154 8 (.slice (some ⟨gE, 0, none⟩) n c) n ((l.set i ⟨o, ad, p, 3, d⟩).flatMap cnE) ∧ w.grownBy w' (some gE) := by
  have own := hown
  clear hown
  have HLO := Lib.hid hlo
  have HLL := Lib.hid (row_len (by decide) cnE_len own)
  have en := (owk_sle (by decide) cnE_len own).1
  have HX := Lib.hid hx
  have hin_ : i < n := by have h1_ := (List.getElem?_eq_some_iff.1 hx).1; have h2_ := HLL.out; omega
  have i0 : (0 : Int) ≤ i := by omega
  have i1 : (i : Int) < n := by omega
  have grw := World.grownBy.refl w (some gE)
  clear hx hin_
  obtain ⟨p16, q16⟩ := fl_t h16
  obtain ⟨a16, ha16⟩ : ∃ a, bits .and .i64 f 16 = a := ⟨_, rfl⟩
  rw [ha16] at p16 q16
  clear h16
  obtain ⟨p2, q2⟩ := fl_f h2
  obtain ⟨a2, ha2⟩ : ∃ a, bits .and .i64 f 2 = a := ⟨_, rfl⟩
  rw [ha2] at p2 q2
  clear h2
  obtain ⟨p4, q4⟩ := fl_f h4
  obtain ⟨a4, ha4⟩ : ∃ a, bits .and .i64 f 4 = a := ⟨_, rfl⟩
  rw [ha4] at p4 q4
  clear h4
  obtain ⟨p1, q1⟩ := fl_f h1
  obtain ⟨a1, ha1⟩ : ∃ a, bits .and .i64 f 1 = a := ⟨_, rfl⟩
  rw [ha1] at p1 q1
  clear h1
  have bel := Below.refl lo w
  go_enter Tryz.func102, Tryz.ntmps102
  have R10 := Sle.zcell en HX.out 6 _ rfl
  have R16 := Sle.zcell en HX.out 6 _ rfl
  have R55 := Sle.zcell en HX.out 6 _ rfl
  have R77 := Sle.zcell en HX.out 6 _ rfl
  go_wp2_with (first | ((with_reducible show wpList _ _ _ (⟨none, Op.store _ (.tmp 91) _, _, _, _, _⟩ :: _) _ _); refine wpList_store_el rfl 3 (.tmp 91) (.const (.int .i64 3)) rfl gE i 6 (⟨o, ad, p, 2, d⟩) (⟨o, ad, p, 3, d⟩) rfl [.int .i64 3] rfl (by decide) cnE_len own HX.out (Nat.le_of_ble_eq_true rfl) rfl (by kernel_rfl) (by rfl) ?_; intro w1 own_ gw; replace bel := bel.trans (row_bel gw own (Nat.le_trans hlo bel.size)); replace grw := grw.trans gw; clear own; have own := own_; clear own_ gw; replace en := (owk_sle (by decide) cnE_len own).1))
  try clear R10
  try clear R16
  try clear R55
  try clear R77
  exact bodyPost_end (results_none rfl _ _ _) rfl ⟨rfl, (by first | exact own | (have h_ := own; rw [List.set_set] at h_; exact h_) | (rw [set_self HX.out]; exact own)), grw⟩
set_option linter.unusedVariables false in
set_option linter.unusedSimpArgs false in
set_option maxRecDepth 100000 in
set_option maxHeartbeats 16000000 in
theorem fol2_s {lo gE n c i : Nat} {l : List Cn} {o p f : Int} {ad : Ad4} {b d : Bool} (w : World) (hlo : lo ≤ w.heap.size) (hown : w.ownsRow lo 154 8 (.slice (some ⟨gE, 0, none⟩) n c) n (l.flatMap cnE)) (hx : l[i]? = some ⟨o, ad, p, 2, d⟩) (h16 : fl f 16 = true) (h2 : fl f 2 = true) (h4 : fl f 4 = false) (h1 : fl f 1 = false)  : Calls Tryz.prog 102 #[.pointer (some ⟨gE, i * 8, none⟩), .bool b, .int .i64 f] w fun e w' => e = .returned (.tuple #[]) ∧ w'.ownsRow lo 154 8 (.slice (some ⟨gE, 0, none⟩) n c) n ((l.set i ⟨o, ad, p, 2, d⟩).flatMap cnE) ∧ w.grownBy w' (some gE) := by
  have own := hown
  clear hown
  have HLO := Lib.hid hlo
  have HLL := Lib.hid (row_len (by decide) cnE_len own)
  have en := (owk_sle (by decide) cnE_len own).1
  have HX := Lib.hid hx
  have hin_ : i < n := by have h1_ := (List.getElem?_eq_some_iff.1 hx).1; have h2_ := HLL.out; omega
  have i0 : (0 : Int) ≤ i := by omega
  have i1 : (i : Int) < n := by omega
  have grw := World.grownBy.refl w (some gE)
  clear hx hin_
  obtain ⟨p16, q16⟩ := fl_t h16
  obtain ⟨a16, ha16⟩ : ∃ a, bits .and .i64 f 16 = a := ⟨_, rfl⟩
  rw [ha16] at p16 q16
  clear h16
  obtain ⟨p2, q2⟩ := fl_t h2
  obtain ⟨a2, ha2⟩ : ∃ a, bits .and .i64 f 2 = a := ⟨_, rfl⟩
  rw [ha2] at p2 q2
  clear h2
  obtain ⟨p4, q4⟩ := fl_f h4
  obtain ⟨a4, ha4⟩ : ∃ a, bits .and .i64 f 4 = a := ⟨_, rfl⟩
  rw [ha4] at p4 q4
  clear h4
  obtain ⟨p1, q1⟩ := fl_f h1
  obtain ⟨a1, ha1⟩ : ∃ a, bits .and .i64 f 1 = a := ⟨_, rfl⟩
  rw [ha1] at p1 q1
  clear h1
  have bel := Below.refl lo w
  go_enter Tryz.func102, Tryz.ntmps102
  have R10 := Sle.zcell en HX.out 6 _ rfl
  have R16 := Sle.zcell en HX.out 6 _ rfl
  have R55 := Sle.zcell en HX.out 6 _ rfl
  have R77 := Sle.zcell en HX.out 6 _ rfl
  have R96 := Sle.zcell en HX.out 6 _ rfl
  go_wp2_with fail
  clear R10 R16 R55 R77 R96
  exact bodyPost_end (results_none rfl _ _ _) rfl ⟨rfl, (by first | exact own | (have h_ := own; rw [List.set_set] at h_; exact h_) | (rw [set_self HX.out]; exact own)), grw⟩
set_option linter.unusedVariables false in
set_option linter.unusedSimpArgs false in
set_option maxRecDepth 100000 in
set_option maxHeartbeats 16000000 in
theorem fol2_n {lo gE n c i : Nat} {l : List Cn} {o p f : Int} {ad : Ad4} {b d : Bool} (w : World) (hlo : lo ≤ w.heap.size) (hown : w.ownsRow lo 154 8 (.slice (some ⟨gE, 0, none⟩) n c) n (l.flatMap cnE)) (hx : l[i]? = some ⟨o, ad, p, 2, d⟩) (h16 : fl f 16 = false) (h4 : fl f 4 = false) (h1 : fl f 1 = false)  : Calls Tryz.prog 102 #[.pointer (some ⟨gE, i * 8, none⟩), .bool b, .int .i64 f] w fun e w' => e = .returned (.tuple #[]) ∧ w'.ownsRow lo 154 8 (.slice (some ⟨gE, 0, none⟩) n c) n ((l.set i ⟨o, ad, p, 2, d⟩).flatMap cnE) ∧ w.grownBy w' (some gE) := by
  have own := hown
  clear hown
  have HLO := Lib.hid hlo
  have HLL := Lib.hid (row_len (by decide) cnE_len own)
  have en := (owk_sle (by decide) cnE_len own).1
  have HX := Lib.hid hx
  have hin_ : i < n := by have h1_ := (List.getElem?_eq_some_iff.1 hx).1; have h2_ := HLL.out; omega
  have i0 : (0 : Int) ≤ i := by omega
  have i1 : (i : Int) < n := by omega
  have grw := World.grownBy.refl w (some gE)
  clear hx hin_
  obtain ⟨p16, q16⟩ := fl_f h16
  obtain ⟨a16, ha16⟩ : ∃ a, bits .and .i64 f 16 = a := ⟨_, rfl⟩
  rw [ha16] at p16 q16
  clear h16
  obtain ⟨p4, q4⟩ := fl_f h4
  obtain ⟨a4, ha4⟩ : ∃ a, bits .and .i64 f 4 = a := ⟨_, rfl⟩
  rw [ha4] at p4 q4
  clear h4
  obtain ⟨p1, q1⟩ := fl_f h1
  obtain ⟨a1, ha1⟩ : ∃ a, bits .and .i64 f 1 = a := ⟨_, rfl⟩
  rw [ha1] at p1 q1
  clear h1
  have bel := Below.refl lo w
  go_enter Tryz.func102, Tryz.ntmps102
  have R10 := Sle.zcell en HX.out 6 _ rfl
  have R16 := Sle.zcell en HX.out 6 _ rfl
  have R55 := Sle.zcell en HX.out 6 _ rfl
  have R77 := Sle.zcell en HX.out 6 _ rfl
  have R96 := Sle.zcell en HX.out 6 _ rfl
  go_wp2_with fail
  clear R10 R16 R55 R77 R96
  exact bodyPost_end (results_none rfl _ _ _) rfl ⟨rfl, (by first | exact own | (have h_ := own; rw [List.set_set] at h_; exact h_) | (rw [set_self HX.out]; exact own)), grw⟩
set_option linter.unusedVariables false in
set_option linter.unusedSimpArgs false in
set_option maxRecDepth 100000 in
set_option maxHeartbeats 16000000 in
theorem fol3_r {lo gE n c i : Nat} {l : List Cn} {o p f : Int} {ad : Ad4} {b d : Bool} (w : World) (hlo : lo ≤ w.heap.size) (hown : w.ownsRow lo 154 8 (.slice (some ⟨gE, 0, none⟩) n c) n (l.flatMap cnE)) (hx : l[i]? = some ⟨o, ad, p, 3, d⟩) (h4 : fl f 4 = true)  : Calls Tryz.prog 102 #[.pointer (some ⟨gE, i * 8, none⟩), .bool b, .int .i64 f] w fun e w' => e = .returned (.tuple #[]) ∧ w'.ownsRow lo 154 8 (.slice (some ⟨gE, 0, none⟩) n c) n ((l.set i ⟨o, ad, p, 6, d⟩).flatMap cnE) ∧ w.grownBy w' (some gE) := by
  have own := hown
  clear hown
  have HLO := Lib.hid hlo
  have HLL := Lib.hid (row_len (by decide) cnE_len own)
  have en := (owk_sle (by decide) cnE_len own).1
  have HX := Lib.hid hx
  have hin_ : i < n := by have h1_ := (List.getElem?_eq_some_iff.1 hx).1; have h2_ := HLL.out; omega
  have i0 : (0 : Int) ≤ i := by omega
  have i1 : (i : Int) < n := by omega
  have grw := World.grownBy.refl w (some gE)
  clear hx hin_
  obtain ⟨p4, q4⟩ := fl_t h4
  obtain ⟨a4, ha4⟩ : ∃ a, bits .and .i64 f 4 = a := ⟨_, rfl⟩
  rw [ha4] at p4 q4
  clear h4
  have bel := Below.refl lo w
  go_enter Tryz.func102, Tryz.ntmps102
  have R10 := Sle.zcell en HX.out 6 _ rfl
  have R16 := Sle.zcell en HX.out 6 _ rfl
  go_wp2_with (first | ((with_reducible show wpList _ _ _ (⟨none, Op.store _ (.tmp 36) _, _, _, _, _⟩ :: _) _ _); refine wpList_store_el rfl 3 (.tmp 36) (.const (.int .i64 6)) rfl gE i 6 (⟨o, ad, p, 3, d⟩) (⟨o, ad, p, 6, d⟩) rfl [.int .i64 6] rfl (by decide) cnE_len own HX.out (Nat.le_of_ble_eq_true rfl) rfl (by kernel_rfl) (by rfl) ?_; intro w1 own_ gw; replace bel := bel.trans (row_bel gw own (Nat.le_trans hlo bel.size)); replace grw := grw.trans gw; clear own; have own := own_; clear own_ gw; replace en := (owk_sle (by decide) cnE_len own).1))
  try clear R10
  try clear R16
  exact bodyPost_end (results_none rfl _ _ _) rfl ⟨rfl, (by first | exact own | (have h_ := own; rw [List.set_set] at h_; exact h_) | (rw [set_self HX.out]; exact own)), grw⟩
set_option linter.unusedVariables false in
set_option linter.unusedSimpArgs false in
set_option maxRecDepth 100000 in
set_option maxHeartbeats 16000000 in
theorem fol3_f {lo gE n c i : Nat} {l : List Cn} {o p f : Int} {ad : Ad4} {b d : Bool} (w : World) (hlo : lo ≤ w.heap.size) (hown : w.ownsRow lo 154 8 (.slice (some ⟨gE, 0, none⟩) n c) n (l.flatMap cnE)) (hx : l[i]? = some ⟨o, ad, p, 3, d⟩) (h4 : fl f 4 = false) (h1 : fl f 1 = true)  : Calls Tryz.prog 102 #[.pointer (some ⟨gE, i * 8, none⟩), .bool b, .int .i64 f] w fun e w' => e = .returned (.tuple #[]) ∧ w'.ownsRow lo 154 8 (.slice (some ⟨gE, 0, none⟩) n c) n ((l.set i ⟨o, ad, p, 4, b⟩).flatMap cnE) ∧ w.grownBy w' (some gE) := by
  have own := hown
  clear hown
  have HLO := Lib.hid hlo
  have HLL := Lib.hid (row_len (by decide) cnE_len own)
  have en := (owk_sle (by decide) cnE_len own).1
  have HX := Lib.hid hx
  have hin_ : i < n := by have h1_ := (List.getElem?_eq_some_iff.1 hx).1; have h2_ := HLL.out; omega
  have i0 : (0 : Int) ≤ i := by omega
  have i1 : (i : Int) < n := by omega
  have grw := World.grownBy.refl w (some gE)
  clear hx hin_
  obtain ⟨p4, q4⟩ := fl_f h4
  obtain ⟨a4, ha4⟩ : ∃ a, bits .and .i64 f 4 = a := ⟨_, rfl⟩
  rw [ha4] at p4 q4
  clear h4
  obtain ⟨p1, q1⟩ := fl_t h1
  obtain ⟨a1, ha1⟩ : ∃ a, bits .and .i64 f 1 = a := ⟨_, rfl⟩
  rw [ha1] at p1 q1
  clear h1
  have bel := Below.refl lo w
  go_enter Tryz.func102, Tryz.ntmps102
  have R10 := Sle.zcell en HX.out 6 _ rfl
  have R16 := Sle.zcell en HX.out 6 _ rfl
  have R45 := Sle.zcell en HX.out 6 _ rfl
  go_wp2_with fail
  clear R10 R16 R45
  have HLO_ := Nat.le_trans HLO.out bel.size
  with_reducible refine (enter_any (x := ⟨o, ad, p, 3, d⟩) 4 b _ HLO_ own HX.out).mono ?_
  rintro e w1 ⟨rfl, own_, gw⟩
  replace bel := bel.trans (row_bel gw own (Nat.le_trans hlo bel.size))
  replace grw := grw.trans gw
  clear own
  have own := own_
  clear own_ gw
  replace en := (owk_sle (by decide) cnE_len own).1
  clear HLO_
  go_wp2_with fail
  exact bodyPost_end (results_none rfl _ _ _) rfl ⟨rfl, (by first | exact own | (have h_ := own; rw [List.set_set] at h_; exact h_) | (rw [set_self HX.out]; exact own)), grw⟩
set_option linter.unusedVariables false in
set_option linter.unusedSimpArgs false in
set_option maxRecDepth 100000 in
set_option maxHeartbeats 16000000 in
theorem fol3_n {lo gE n c i : Nat} {l : List Cn} {o p f : Int} {ad : Ad4} {b d : Bool} (w : World) (hlo : lo ≤ w.heap.size) (hown : w.ownsRow lo 154 8 (.slice (some ⟨gE, 0, none⟩) n c) n (l.flatMap cnE)) (hx : l[i]? = some ⟨o, ad, p, 3, d⟩) (h4 : fl f 4 = false) (h1 : fl f 1 = false)  : Calls Tryz.prog 102 #[.pointer (some ⟨gE, i * 8, none⟩), .bool b, .int .i64 f] w fun e w' => e = .returned (.tuple #[]) ∧ w'.ownsRow lo 154 8 (.slice (some ⟨gE, 0, none⟩) n c) n ((l.set i ⟨o, ad, p, 3, d⟩).flatMap cnE) ∧ w.grownBy w' (some gE) := by
  have own := hown
  clear hown
  have HLO := Lib.hid hlo
  have HLL := Lib.hid (row_len (by decide) cnE_len own)
  have en := (owk_sle (by decide) cnE_len own).1
  have HX := Lib.hid hx
  have hin_ : i < n := by have h1_ := (List.getElem?_eq_some_iff.1 hx).1; have h2_ := HLL.out; omega
  have i0 : (0 : Int) ≤ i := by omega
  have i1 : (i : Int) < n := by omega
  have grw := World.grownBy.refl w (some gE)
  clear hx hin_
  obtain ⟨p4, q4⟩ := fl_f h4
  obtain ⟨a4, ha4⟩ : ∃ a, bits .and .i64 f 4 = a := ⟨_, rfl⟩
  rw [ha4] at p4 q4
  clear h4
  obtain ⟨p1, q1⟩ := fl_f h1
  obtain ⟨a1, ha1⟩ : ∃ a, bits .and .i64 f 1 = a := ⟨_, rfl⟩
  rw [ha1] at p1 q1
  clear h1
  have bel := Below.refl lo w
  go_enter Tryz.func102, Tryz.ntmps102
  have R10 := Sle.zcell en HX.out 6 _ rfl
  have R16 := Sle.zcell en HX.out 6 _ rfl
  have R55 := Sle.zcell en HX.out 6 _ rfl
  have R77 := Sle.zcell en HX.out 6 _ rfl
  have R96 := Sle.zcell en HX.out 6 _ rfl
  go_wp2_with fail
  clear R10 R16 R55 R77 R96
  exact bodyPost_end (results_none rfl _ _ _) rfl ⟨rfl, (by first | exact own | (have h_ := own; rw [List.set_set] at h_; exact h_) | (rw [set_self HX.out]; exact own)), grw⟩
set_option linter.unusedVariables false in
set_option linter.unusedSimpArgs false in
set_option maxRecDepth 100000 in
set_option maxHeartbeats 16000000 in
theorem fol4_r {lo gE n c i : Nat} {l : List Cn} {o p f : Int} {ad : Ad4} {b d : Bool} (w : World) (hlo : lo ≤ w.heap.size) (hown : w.ownsRow lo 154 8 (.slice (some ⟨gE, 0, none⟩) n c) n (l.flatMap cnE)) (hx : l[i]? = some ⟨o, ad, p, 4, d⟩) (h4 : fl f 4 = true)  : Calls Tryz.prog 102 #[.pointer (some ⟨gE, i * 8, none⟩), .bool b, .int .i64 f] w fun e w' => e = .returned (.tuple #[]) ∧ w'.ownsRow lo 154 8 (.slice (some ⟨gE, 0, none⟩) n c) n ((l.set i ⟨o, ad, p, 6, d⟩).flatMap cnE) ∧ w.grownBy w' (some gE) := by
  have own := hown
  clear hown
  have HLO := Lib.hid hlo
  have HLL := Lib.hid (row_len (by decide) cnE_len own)
  have en := (owk_sle (by decide) cnE_len own).1
  have HX := Lib.hid hx
  have hin_ : i < n := by have h1_ := (List.getElem?_eq_some_iff.1 hx).1; have h2_ := HLL.out; omega
  have i0 : (0 : Int) ≤ i := by omega
  have i1 : (i : Int) < n := by omega
  have grw := World.grownBy.refl w (some gE)
  clear hx hin_
  obtain ⟨p4, q4⟩ := fl_t h4
  obtain ⟨a4, ha4⟩ : ∃ a, bits .and .i64 f 4 = a := ⟨_, rfl⟩
  rw [ha4] at p4 q4
  clear h4
  have bel := Below.refl lo w
  go_enter Tryz.func102, Tryz.ntmps102
  have R10 := Sle.zcell en HX.out 6 _ rfl
  have R16 := Sle.zcell en HX.out 6 _ rfl
  go_wp2_with (first | ((with_reducible show wpList _ _ _ (⟨none, Op.store _ (.tmp 36) _, _, _, _, _⟩ :: _) _ _); refine wpList_store_el rfl 3 (.tmp 36) (.const (.int .i64 6)) rfl gE i 6 (⟨o, ad, p, 4, d⟩) (⟨o, ad, p, 6, d⟩) rfl [.int .i64 6] rfl (by decide) cnE_len own HX.out (Nat.le_of_ble_eq_true rfl) rfl (by kernel_rfl) (by rfl) ?_; intro w1 own_ gw; replace bel := bel.trans (row_bel gw own (Nat.le_trans hlo bel.size)); replace grw := grw.trans gw; clear own; have own := own_; clear own_ gw; replace en := (owk_sle (by decide) cnE_len own).1))
  try clear R10
  try clear R16
  exact bodyPost_end (results_none rfl _ _ _) rfl ⟨rfl, (by first | exact own | (have h_ := own; rw [List.set_set] at h_; exact h_) | (rw [set_self HX.out]; exact own)), grw⟩
set_option linter.unusedVariables false in
set_option linter.unusedSimpArgs false in
set_option maxRecDepth 100000 in
set_option maxHeartbeats 16000000 in
theorem fol4_y {lo gE n c i : Nat} {l : List Cn} {o p f : Int} {ad : Ad4} {b d : Bool} (w : World) (hlo : lo ≤ w.heap.size) (hown : w.ownsRow lo 154 8 (.slice (some ⟨gE, 0, none⟩) n c) n (l.flatMap cnE)) (hx : l[i]? = some ⟨o, ad, p, 4, d⟩) (h4 : fl f 4 = false) (h1 : fl f 1 = true) (hbd : (b != d) = true)  : Calls Tryz.prog 102 #[.pointer (some ⟨gE, i * 8, none⟩), .bool b, .int .i64 f] w fun e w' => e = .returned (.tuple #[]) ∧ w'.ownsRow lo 154 8 (.slice (some ⟨gE, 0, none⟩) n c) n ((l.set i ⟨o, ad, p, 5, d⟩).flatMap cnE) ∧ w.grownBy w' (some gE) := by
  have own := hown
  clear hown
  have HLO := Lib.hid hlo
  have HLL := Lib.hid (row_len (by decide) cnE_len own)
  have en := (owk_sle (by decide) cnE_len own).1
  have HX := Lib.hid hx
  have hin_ : i < n := by have h1_ := (List.getElem?_eq_some_iff.1 hx).1; have h2_ := HLL.out; omega
  have i0 : (0 : Int) ≤ i := by omega
  have i1 : (i : Int) < n := by omega
  have grw := World.grownBy.refl w (some gE)
  clear hx hin_
  obtain ⟨p4, q4⟩ := fl_f h4
  obtain ⟨a4, ha4⟩ : ∃ a, bits .and .i64 f 4 = a := ⟨_, rfl⟩
  rw [ha4] at p4 q4
  clear h4
  obtain ⟨p1, q1⟩ := fl_t h1
  obtain ⟨a1, ha1⟩ : ∃ a, bits .and .i64 f 1 = a := ⟨_, rfl⟩
  rw [ha1] at p1 q1
  clear h1
  have hbe : (b == d) = false := by cases b <;> cases d <;> first | rfl | cases hbd
  have bel := Below.refl lo w
  go_enter Tryz.func102, Tryz.ntmps102
  have R10 := Sle.zcell en HX.out 6 _ rfl
  have R16 := Sle.zcell en HX.out 6 _ rfl
  have R45 := Sle.zcell en HX.out 6 _ rfl
  have R55 := Sle.zcell en HX.out 6 _ rfl
  have R77 := Sle.zcell en HX.out 6 _ rfl
  have R96 := Sle.zcell en HX.out 6 _ rfl
  have R108 := Sle.zcell en HX.out 7 _ rfl
  go_wp2_with (first | ((with_reducible show wpList _ _ _ (⟨none, Op.store _ (.tmp 113) _, _, _, _, _⟩ :: _) _ _); refine wpList_store_el rfl 3 (.tmp 113) (.const (.int .i64 5)) rfl gE i 6 (⟨o, ad, p, 4, d⟩) (⟨o, ad, p, 5, d⟩) rfl [.int .i64 5] rfl (by decide) cnE_len own HX.out (Nat.le_of_ble_eq_true rfl) rfl (by kernel_rfl) (by rfl) ?_; intro w1 own_ gw; replace bel := bel.trans (row_bel gw own (Nat.le_trans hlo bel.size)); replace grw := grw.trans gw; clear own; have own := own_; clear own_ gw; replace en := (owk_sle (by decide) cnE_len own).1))
  try clear R10
  try clear R16
  try clear R45
  try clear R55
  try clear R77
  try clear R96
  try clear R108
  exact bodyPost_end (results_none rfl _ _ _) rfl ⟨rfl, (by first | exact own | (have h_ := own; rw [List.set_set] at h_; exact h_) | (rw [set_self HX.out]; exact own)), grw⟩
set_option linter.unusedVariables false in
set_option linter.unusedSimpArgs false in
set_option maxRecDepth 100000 in
set_option maxHeartbeats 16000000 in
theorem fol4_d {lo gE n c i : Nat} {l : List Cn} {o p f : Int} {ad : Ad4} {b d : Bool} (w : World) (hlo : lo ≤ w.heap.size) (hown : w.ownsRow lo 154 8 (.slice (some ⟨gE, 0, none⟩) n c) n (l.flatMap cnE)) (hx : l[i]? = some ⟨o, ad, p, 4, d⟩) (h4 : fl f 4 = false) (h1 : fl f 1 = true) (hbd : (b != d) = false)  : Calls Tryz.prog 102 #[.pointer (some ⟨gE, i * 8, none⟩), .bool b, .int .i64 f] w fun e w' => e = .returned (.tuple #[]) ∧ w'.ownsRow lo 154 8 (.slice (some ⟨gE, 0, none⟩) n c) n ((l.set i ⟨o, ad, p, 4, d⟩).flatMap cnE) ∧ w.grownBy w' (some gE) := by
  have own := hown
  clear hown
  have HLO := Lib.hid hlo
  have HLL := Lib.hid (row_len (by decide) cnE_len own)
  have en := (owk_sle (by decide) cnE_len own).1
  have HX := Lib.hid hx
  have hin_ : i < n := by have h1_ := (List.getElem?_eq_some_iff.1 hx).1; have h2_ := HLL.out; omega
  have i0 : (0 : Int) ≤ i := by omega
  have i1 : (i : Int) < n := by omega
  have grw := World.grownBy.refl w (some gE)
  clear hx hin_
  obtain ⟨p4, q4⟩ := fl_f h4
  obtain ⟨a4, ha4⟩ : ∃ a, bits .and .i64 f 4 = a := ⟨_, rfl⟩
  rw [ha4] at p4 q4
  clear h4
  obtain ⟨p1, q1⟩ := fl_t h1
  obtain ⟨a1, ha1⟩ : ∃ a, bits .and .i64 f 1 = a := ⟨_, rfl⟩
  rw [ha1] at p1 q1
  clear h1
  have hbe : (b == d) = true := by cases b <;> cases d <;> first | rfl | cases hbd
  have bel := Below.refl lo w
  go_enter Tryz.func102, Tryz.ntmps102
  have R10 := Sle.zcell en HX.out 6 _ rfl
  have R16 := Sle.zcell en HX.out 6 _ rfl
  have R45 := Sle.zcell en HX.out 6 _ rfl
  have R55 := Sle.zcell en HX.out 6 _ rfl
  have R77 := Sle.zcell en HX.out 6 _ rfl
  have R96 := Sle.zcell en HX.out 6 _ rfl
  have R108 := Sle.zcell en HX.out 7 _ rfl
  go_wp2_with fail
  clear R10 R16 R45 R55 R77 R96 R108
  exact bodyPost_end (results_none rfl _ _ _) rfl ⟨rfl, (by first | exact own | (have h_ := own; rw [List.set_set] at h_; exact h_) | (rw [set_self HX.out]; exact own)), grw⟩
set_option linter.unusedVariables false in
set_option linter.unusedSimpArgs false in
set_option maxRecDepth 100000 in
set_option maxHeartbeats 16000000 in
theorem fol4_n {lo gE n c i : Nat} {l : List Cn} {o p f : Int} {ad : Ad4} {b d : Bool} (w : World) (hlo : lo ≤ w.heap.size) (hown : w.ownsRow lo 154 8 (.slice (some ⟨gE, 0, none⟩) n c) n (l.flatMap cnE)) (hx : l[i]? = some ⟨o, ad, p, 4, d⟩) (h4 : fl f 4 = false) (h1 : fl f 1 = false)  : Calls Tryz.prog 102 #[.pointer (some ⟨gE, i * 8, none⟩), .bool b, .int .i64 f] w fun e w' => e = .returned (.tuple #[]) ∧ w'.ownsRow lo 154 8 (.slice (some ⟨gE, 0, none⟩) n c) n ((l.set i ⟨o, ad, p, 4, d⟩).flatMap cnE) ∧ w.grownBy w' (some gE) := by
  have own := hown
  clear hown
  have HLO := Lib.hid hlo
  have HLL := Lib.hid (row_len (by decide) cnE_len own)
  have en := (owk_sle (by decide) cnE_len own).1
  have HX := Lib.hid hx
  have hin_ : i < n := by have h1_ := (List.getElem?_eq_some_iff.1 hx).1; have h2_ := HLL.out; omega
  have i0 : (0 : Int) ≤ i := by omega
  have i1 : (i : Int) < n := by omega
  have grw := World.grownBy.refl w (some gE)
  clear hx hin_
  obtain ⟨p4, q4⟩ := fl_f h4
  obtain ⟨a4, ha4⟩ : ∃ a, bits .and .i64 f 4 = a := ⟨_, rfl⟩
  rw [ha4] at p4 q4
  clear h4
  obtain ⟨p1, q1⟩ := fl_f h1
  obtain ⟨a1, ha1⟩ : ∃ a, bits .and .i64 f 1 = a := ⟨_, rfl⟩
  rw [ha1] at p1 q1
  clear h1
  have bel := Below.refl lo w
  go_enter Tryz.func102, Tryz.ntmps102
  have R10 := Sle.zcell en HX.out 6 _ rfl
  have R16 := Sle.zcell en HX.out 6 _ rfl
  have R55 := Sle.zcell en HX.out 6 _ rfl
  have R77 := Sle.zcell en HX.out 6 _ rfl
  have R96 := Sle.zcell en HX.out 6 _ rfl
  go_wp2_with fail
  clear R10 R16 R55 R77 R96
  exact bodyPost_end (results_none rfl _ _ _) rfl ⟨rfl, (by first | exact own | (have h_ := own; rw [List.set_set] at h_; exact h_) | (rw [set_self HX.out]; exact own)), grw⟩
set_option linter.unusedVariables false in
set_option linter.unusedSimpArgs false in
set_option maxRecDepth 100000 in
set_option maxHeartbeats 16000000 in
theorem fol5_r {lo gE n c i : Nat} {l : List Cn} {o p f : Int} {ad : Ad4} {b d : Bool} (w : World) (hlo : lo ≤ w.heap.size) (hown : w.ownsRow lo 154 8 (.slice (some ⟨gE, 0, none⟩) n c) n (l.flatMap cnE)) (hx : l[i]? = some ⟨o, ad, p, 5, d⟩) (h4 : fl f 4 = true)  : Calls Tryz.prog 102 #[.pointer (some ⟨gE, i * 8, none⟩), .bool b, .int .i64 f] w fun e w' => e = .returned (.tuple #[]) ∧ w'.ownsRow lo 154 8 (.slice (some ⟨gE, 0, none⟩) n c) n ((l.set i ⟨o, ad, p, 6, d⟩).flatMap cnE) ∧ w.grownBy w' (some gE) := by
  have own := hown
  clear hown
  have HLO := Lib.hid hlo
  have HLL := Lib.hid (row_len (by decide) cnE_len own)
  have en := (owk_sle (by decide) cnE_len own).1
  have HX := Lib.hid hx
  have hin_ : i < n := by have h1_ := (List.getElem?_eq_some_iff.1 hx).1; have h2_ := HLL.out; omega
  have i0 : (0 : Int) ≤ i := by omega
  have i1 : (i : Int) < n := by omega
  have grw := World.grownBy.refl w (some gE)
  clear hx hin_
  obtain ⟨p4, q4⟩ := fl_t h4
  obtain ⟨a4, ha4⟩ : ∃ a, bits .and .i64 f 4 = a := ⟨_, rfl⟩
  rw [ha4] at p4 q4
  clear h4
  have bel := Below.refl lo w
  go_enter Tryz.func102, Tryz.ntmps102
  have R10 := Sle.zcell en HX.out 6 _ rfl
  have R16 := Sle.zcell en HX.out 6 _ rfl
  go_wp2_with (first | ((with_reducible show wpList _ _ _ (⟨none, Op.store _ (.tmp 36) _, _, _, _, _⟩ :: _) _ _); refine wpList_store_el rfl 3 (.tmp 36) (.const (.int .i64 6)) rfl gE i 6 (⟨o, ad, p, 5, d⟩) (⟨o, ad, p, 6, d⟩) rfl [.int .i64 6] rfl (by decide) cnE_len own HX.out (Nat.le_of_ble_eq_true rfl) rfl (by kernel_rfl) (by rfl) ?_; intro w1 own_ gw; replace bel := bel.trans (row_bel gw own (Nat.le_trans hlo bel.size)); replace grw := grw.trans gw; clear own; have own := own_; clear own_ gw; replace en := (owk_sle (by decide) cnE_len own).1))
  try clear R10
  try clear R16
  exact bodyPost_end (results_none rfl _ _ _) rfl ⟨rfl, (by first | exact own | (have h_ := own; rw [List.set_set] at h_; exact h_) | (rw [set_self HX.out]; exact own)), grw⟩
set_option linter.unusedVariables false in
set_option linter.unusedSimpArgs false in
set_option maxRecDepth 100000 in
set_option maxHeartbeats 16000000 in
theorem fol5_1 {lo gE n c i : Nat} {l : List Cn} {o p f : Int} {ad : Ad4} {b d : Bool} (w : World) (hlo : lo ≤ w.heap.size) (hown : w.ownsRow lo 154 8 (.slice (some ⟨gE, 0, none⟩) n c) n (l.flatMap cnE)) (hx : l[i]? = some ⟨o, ad, p, 5, d⟩) (h4 : fl f 4 = false) (h1 : fl f 1 = true)  : Calls Tryz.prog 102 #[.pointer (some ⟨gE, i * 8, none⟩), .bool b, .int .i64 f] w fun e w' => e = .returned (.tuple #[]) ∧ w'.ownsRow lo 154 8 (.slice (some ⟨gE, 0, none⟩) n c) n ((l.set i ⟨o, ad, p, 5, d⟩).flatMap cnE) ∧ w.grownBy w' (some gE) := by
  have own := hown
  clear hown
  have HLO := Lib.hid hlo
  have HLL := Lib.hid (row_len (by decide) cnE_len own)
  have en := (owk_sle (by decide) cnE_len own).1
  have HX := Lib.hid hx
  have hin_ : i < n := by have h1_ := (List.getElem?_eq_some_iff.1 hx).1; have h2_ := HLL.out; omega
  have i0 : (0 : Int) ≤ i := by omega
  have i1 : (i : Int) < n := by omega
  have grw := World.grownBy.refl w (some gE)
  clear hx hin_
  obtain ⟨p4, q4⟩ := fl_f h4
  obtain ⟨a4, ha4⟩ : ∃ a, bits .and .i64 f 4 = a := ⟨_, rfl⟩
  rw [ha4] at p4 q4
  clear h4
  obtain ⟨p1, q1⟩ := fl_t h1
  obtain ⟨a1, ha1⟩ : ∃ a, bits .and .i64 f 1 = a := ⟨_, rfl⟩
  rw [ha1] at p1 q1
  clear h1
  have bel := Below.refl lo w
  go_enter Tryz.func102, Tryz.ntmps102
  have R10 := Sle.zcell en HX.out 6 _ rfl
  have R16 := Sle.zcell en HX.out 6 _ rfl
  have R45 := Sle.zcell en HX.out 6 _ rfl
  have R55 := Sle.zcell en HX.out 6 _ rfl
  have R77 := Sle.zcell en HX.out 6 _ rfl
  have R96 := Sle.zcell en HX.out 6 _ rfl
  go_wp2_with fail
  clear R10 R16 R45 R55 R77 R96
  exact bodyPost_end (results_none rfl _ _ _) rfl ⟨rfl, (by first | exact own | (have h_ := own; rw [List.set_set] at h_; exact h_) | (rw [set_self HX.out]; exact own)), grw⟩
set_option linter.unusedVariables false in
set_option linter.unusedSimpArgs false in
set_option maxRecDepth 100000 in
set_option maxHeartbeats 16000000 in
theorem fol5_0 {lo gE n c i : Nat} {l : List Cn} {o p f : Int} {ad : Ad4} {b d : Bool} (w : World) (hlo : lo ≤ w.heap.size) (hown : w.ownsRow lo 154 8 (.slice (some ⟨gE, 0, none⟩) n c) n (l.flatMap cnE)) (hx : l[i]? = some ⟨o, ad, p, 5, d⟩) (h4 : fl f 4 = false) (h1 : fl f 1 = false)  : Calls Tryz.prog 102 #[.pointer (some ⟨gE, i * 8, none⟩), .bool b, .int .i64 f] w fun e w' => e = .returned (.tuple #[]) ∧ w'.ownsRow lo 154 8 (.slice (some ⟨gE, 0, none⟩) n c) n ((l.set i ⟨o, ad, p, 5, d⟩).flatMap cnE) ∧ w.grownBy w' (some gE) := by
  have own := hown
  clear hown
  have HLO := Lib.hid hlo
  have HLL := Lib.hid (row_len (by decide) cnE_len own)
  have en := (owk_sle (by decide) cnE_len own).1
  have HX := Lib.hid hx
  have hin_ : i < n := by have h1_ := (List.getElem?_eq_some_iff.1 hx).1; have h2_ := HLL.out; omega
  have i0 : (0 : Int) ≤ i := by omega
  have i1 : (i : Int) < n := by omega
  have grw := World.grownBy.refl w (some gE)
  clear hx hin_
  obtain ⟨p4, q4⟩ := fl_f h4
  obtain ⟨a4, ha4⟩ : ∃ a, bits .and .i64 f 4 = a := ⟨_, rfl⟩
  rw [ha4] at p4 q4
  clear h4
  obtain ⟨p1, q1⟩ := fl_f h1
  obtain ⟨a1, ha1⟩ : ∃ a, bits .and .i64 f 1 = a := ⟨_, rfl⟩
  rw [ha1] at p1 q1
  clear h1
  have bel := Below.refl lo w
  go_enter Tryz.func102, Tryz.ntmps102
  have R10 := Sle.zcell en HX.out 6 _ rfl
  have R16 := Sle.zcell en HX.out 6 _ rfl
  have R55 := Sle.zcell en HX.out 6 _ rfl
  have R77 := Sle.zcell en HX.out 6 _ rfl
  have R96 := Sle.zcell en HX.out 6 _ rfl
  go_wp2_with fail
  clear R10 R16 R55 R77 R96
  exact bodyPost_end (results_none rfl _ _ _) rfl ⟨rfl, (by first | exact own | (have h_ := own; rw [List.set_set] at h_; exact h_) | (rw [set_self HX.out]; exact own)), grw⟩
set_option linter.unusedVariables false in
set_option linter.unusedSimpArgs false in
set_option maxRecDepth 100000 in
set_option maxHeartbeats 16000000 in
theorem fol6_1 {lo gE n c i : Nat} {l : List Cn} {o p f : Int} {ad : Ad4} {b d : Bool} (w : World) (hlo : lo ≤ w.heap.size) (hown : w.ownsRow lo 154 8 (.slice (some ⟨gE, 0, none⟩) n c) n (l.flatMap cnE)) (hx : l[i]? = some ⟨o, ad, p, 6, d⟩) (h2 : fl f 2 = true) (h20 : fl f 20 = false)  : Calls Tryz.prog 102 #[.pointer (some ⟨gE, i * 8, none⟩), .bool b, .int .i64 f] w fun e w' => e = .returned (.tuple #[]) ∧ w'.ownsRow lo 154 8 (.slice (some ⟨gE, 0, none⟩) n c) n ((l.set i ⟨o, ad, p, 1, b⟩).flatMap cnE) ∧ w.grownBy w' (some gE) := by
  have own := hown
  clear hown
  have HLO := Lib.hid hlo
  have HLL := Lib.hid (row_len (by decide) cnE_len own)
  have en := (owk_sle (by decide) cnE_len own).1
  have HX := Lib.hid hx
  have hin_ : i < n := by have h1_ := (List.getElem?_eq_some_iff.1 hx).1; have h2_ := HLL.out; omega
  have i0 : (0 : Int) ≤ i := by omega
  have i1 : (i : Int) < n := by omega
  have grw := World.grownBy.refl w (some gE)
  clear hx hin_
  obtain ⟨p2, q2⟩ := fl_t h2
  obtain ⟨a2, ha2⟩ : ∃ a, bits .and .i64 f 2 = a := ⟨_, rfl⟩
  rw [ha2] at p2 q2
  clear h2
  obtain ⟨p20, q20⟩ := fl_f h20
  obtain ⟨a20, ha20⟩ : ∃ a, bits .and .i64 f 20 = a := ⟨_, rfl⟩
  rw [ha20] at p20 q20
  clear h20
  have bel := Below.refl lo w
  go_enter Tryz.func102, Tryz.ntmps102
  have R10 := Sle.zcell en HX.out 6 _ rfl
  have R16 := Sle.zcell en HX.out 6 _ rfl
  go_wp2_with fail
  clear R10 R16
  have HLO_ := Nat.le_trans HLO.out bel.size
  with_reducible refine (enter_any (x := ⟨o, ad, p, 6, d⟩) 1 b _ HLO_ own HX.out).mono ?_
  rintro e w1 ⟨rfl, own_, gw⟩
  replace bel := bel.trans (row_bel gw own (Nat.le_trans hlo bel.size))
  replace grw := grw.trans gw
  clear own
  have own := own_
  clear own_ gw
  replace en := (owk_sle (by decide) cnE_len own).1
  clear HLO_
  go_wp2_with fail
  exact bodyPost_end (results_none rfl _ _ _) rfl ⟨rfl, (by first | exact own | (have h_ := own; rw [List.set_set] at h_; exact h_) | (rw [set_self HX.out]; exact own)), grw⟩
set_option linter.unusedVariables false in
set_option linter.unusedSimpArgs false in
set_option maxRecDepth 100000 in
set_option maxHeartbeats 16000000 in
theorem fol6_2 {lo gE n c i : Nat} {l : List Cn} {o p f : Int} {ad : Ad4} {b d : Bool} (w : World) (hlo : lo ≤ w.heap.size) (hown : w.ownsRow lo 154 8 (.slice (some ⟨gE, 0, none⟩) n c) n (l.flatMap cnE)) (hx : l[i]? = some ⟨o, ad, p, 6, d⟩) (h2 : fl f 2 = true) (h20 : fl f 20 = true)  : Calls Tryz.prog 102 #[.pointer (some ⟨gE, i * 8, none⟩), .bool b, .int .i64 f] w fun e w' => e = .returned (.tuple #[]) ∧ w'.ownsRow lo 154 8 (.slice (some ⟨gE, 0, none⟩) n c) n ((l.set i ⟨o, ad, p, 6, d⟩).flatMap cnE) ∧ w.grownBy w' (some gE) := by
  have own := hown
  clear hown
  have HLO := Lib.hid hlo
  have HLL := Lib.hid (row_len (by decide) cnE_len own)
  have en := (owk_sle (by decide) cnE_len own).1
  have HX := Lib.hid hx
  have hin_ : i < n := by have h1_ := (List.getElem?_eq_some_iff.1 hx).1; have h2_ := HLL.out; omega
  have i0 : (0 : Int) ≤ i := by omega
  have i1 : (i : Int) < n := by omega
  have grw := World.grownBy.refl w (some gE)
  clear hx hin_
  obtain ⟨p2, q2⟩ := fl_t h2
  obtain ⟨a2, ha2⟩ : ∃ a, bits .and .i64 f 2 = a := ⟨_, rfl⟩
  rw [ha2] at p2 q2
  clear h2
  obtain ⟨p20, q20⟩ := fl_t h20
  obtain ⟨a20, ha20⟩ : ∃ a, bits .and .i64 f 20 = a := ⟨_, rfl⟩
  rw [ha20] at p20 q20
  clear h20
  have bel := Below.refl lo w
  go_enter Tryz.func102, Tryz.ntmps102
  have R10 := Sle.zcell en HX.out 6 _ rfl
  have R16 := Sle.zcell en HX.out 6 _ rfl
  go_wp2_with fail
  clear R10 R16
  exact bodyPost_end (results_none rfl _ _ _) rfl ⟨rfl, (by first | exact own | (have h_ := own; rw [List.set_set] at h_; exact h_) | (rw [set_self HX.out]; exact own)), grw⟩
set_option linter.unusedVariables false in
set_option linter.unusedSimpArgs false in
set_option maxRecDepth 100000 in
set_option maxHeartbeats 16000000 in
theorem fol6_3 {lo gE n c i : Nat} {l : List Cn} {o p f : Int} {ad : Ad4} {b d : Bool} (w : World) (hlo : lo ≤ w.heap.size) (hown : w.ownsRow lo 154 8 (.slice (some ⟨gE, 0, none⟩) n c) n (l.flatMap cnE)) (hx : l[i]? = some ⟨o, ad, p, 6, d⟩) (h2 : fl f 2 = false)  : Calls Tryz.prog 102 #[.pointer (some ⟨gE, i * 8, none⟩), .bool b, .int .i64 f] w fun e w' => e = .returned (.tuple #[]) ∧ w'.ownsRow lo 154 8 (.slice (some ⟨gE, 0, none⟩) n c) n ((l.set i ⟨o, ad, p, 6, d⟩).flatMap cnE) ∧ w.grownBy w' (some gE) := by
  have own := hown
  clear hown
  have HLO := Lib.hid hlo
  have HLL := Lib.hid (row_len (by decide) cnE_len own)
  have en := (owk_sle (by decide) cnE_len own).1
  have HX := Lib.hid hx
  have hin_ : i < n := by have h1_ := (List.getElem?_eq_some_iff.1 hx).1; have h2_ := HLL.out; omega
  have i0 : (0 : Int) ≤ i := by omega
  have i1 : (i : Int) < n := by omega
  have grw := World.grownBy.refl w (some gE)
  clear hx hin_
  obtain ⟨p2, q2⟩ := fl_f h2
  obtain ⟨a2, ha2⟩ : ∃ a, bits .and .i64 f 2 = a := ⟨_, rfl⟩
  rw [ha2] at p2 q2
  clear h2
  have bel := Below.refl lo w
  go_enter Tryz.func102, Tryz.ntmps102
  have R10 := Sle.zcell en HX.out 6 _ rfl
  have R16 := Sle.zcell en HX.out 6 _ rfl
  go_wp2_with fail
  clear R10 R16
  exact bodyPost_end (results_none rfl _ _ _) rfl ⟨rfl, (by first | exact own | (have h_ := own; rw [List.set_set] at h_; exact h_) | (rw [set_self HX.out]; exact own)), grw⟩
theorem follow_el {lo gE n c i : Nat} {l : List Cn} {x y : Cn} (b : Bool) (f : Int) (w : World) (hlo : lo ≤ w.heap.size) (hown : w.ownsRow lo 154 8 (.slice (some ⟨gE, 0, none⟩) n c) n (l.flatMap cnE)) (hx : l[i]? = some x) (hs : x.okp) (hy : fol x b f = y) : Calls Tryz.prog 102 #[.pointer (some ⟨gE, i * 8, none⟩), .bool b, .int .i64 f] w fun e w' => e = .returned (.tuple #[]) ∧ w'.ownsRow lo 154 8 (.slice (some ⟨gE, 0, none⟩) n c) n ((l.set i y).flatMap cnE) ∧ w.grownBy w' (some gE) := by
  subst hy
  obtain ⟨o, ad, p, s, d⟩ := x
  obtain ⟨s0, s6⟩ := hs
  dsimp only at s0 s6
  have hc : s = 0 ∨ s = 1 ∨ s = 2 ∨ s = 3 ∨ s = 4 ∨ s = 5 ∨ s = 6 := by omega
  clear s0 s6
  rcases hc with rfl | rfl | rfl | rfl | rfl | rfl | rfl
  · rcases h2 : fl f 2 with _ | _
    · rw [show fol ⟨o, ad, p, 0, d⟩ b f = ⟨o, ad, p, 0, d⟩ by simp [fol, h2]]
      exact fol0_3 w hlo hown hx h2
    · rcases h20 : fl f 20 with _ | _
      · rw [show fol ⟨o, ad, p, 0, d⟩ b f = ⟨o, ad, p, 1, b⟩ by simp [fol, h2, h20]]
        exact fol0_1 w hlo hown hx h2 h20
      · rw [show fol ⟨o, ad, p, 0, d⟩ b f = ⟨o, ad, p, 0, d⟩ by simp [fol, h2, h20]]
        exact fol0_2 w hlo hown hx h2 h20
  · rcases h4 : fl f 4 with _ | _
    · rcases h1 : fl f 1 with _ | _
      · rcases h2 : fl f 2 with _ | _
        · rw [show fol ⟨o, ad, p, 1, d⟩ b f = ⟨o, ad, p, 1, d⟩ by simp [fol, h4, h1, h2]]
          exact fol1_n w hlo hown hx h2 h4 h1
        · rcases hbd : (b != d) with _ | _
          · rw [show fol ⟨o, ad, p, 1, d⟩ b f = ⟨o, ad, p, 1, d⟩ by simp [fol, h4, h1, h2, hbd]]
            exact fol1_d w hlo hown hx h2 h4 h1 hbd
          · rw [show fol ⟨o, ad, p, 1, d⟩ b f = ⟨o, ad, p, 2, d⟩ by simp [fol, h4, h1, h2, hbd]]
            exact fol1_y w hlo hown hx h2 h4 h1 hbd
      · rw [show fol ⟨o, ad, p, 1, d⟩ b f = ⟨o, ad, p, 4, b⟩ by simp [fol, h4, h1]]
        exact fol1_f w hlo hown hx h4 h1
    · rw [show fol ⟨o, ad, p, 1, d⟩ b f = ⟨o, ad, p, 6, d⟩ by simp [fol, h4]]
      exact fol1_r w hlo hown hx h4
  · rcases h4 : fl f 4 with _ | _
    · rcases h1 : fl f 1 with _ | _
      · rcases h16 : fl f 16 with _ | _
        · rw [show fol ⟨o, ad, p, 2, d⟩ b f = ⟨o, ad, p, 2, d⟩ by simp [fol, h4, h1, h16]]
          exact fol2_n w hlo hown hx h16 h4 h1
        · rcases h2 : fl f 2 with _ | _
          · rw [show fol ⟨o, ad, p, 2, d⟩ b f = ⟨o, ad, p, 3, d⟩ by simp [fol, h4, h1, h16, h2]]
            exact fol2_y w hlo hown hx h16 h2 h4 h1
          · rw [show fol ⟨o, ad, p, 2, d⟩ b f = ⟨o, ad, p, 2, d⟩ by simp [fol, h4, h1, h16, h2]]
            exact fol2_s w hlo hown hx h16 h2 h4 h1
      · rw [show fol ⟨o, ad, p, 2, d⟩ b f = ⟨o, ad, p, 4, b⟩ by simp [fol, h4, h1]]
        exact fol2_f w hlo hown hx h4 h1
    · rw [show fol ⟨o, ad, p, 2, d⟩ b f = ⟨o, ad, p, 6, d⟩ by simp [fol, h4]]
      exact fol2_r w hlo hown hx h4
  · rcases h4 : fl f 4 with _ | _
    · rcases h1 : fl f 1 with _ | _
      · rw [show fol ⟨o, ad, p, 3, d⟩ b f = ⟨o, ad, p, 3, d⟩ by simp [fol, h4, h1]]
        exact fol3_n w hlo hown hx h4 h1
      · rw [show fol ⟨o, ad, p, 3, d⟩ b f = ⟨o, ad, p, 4, b⟩ by simp [fol, h4, h1]]
        exact fol3_f w hlo hown hx h4 h1
    · rw [show fol ⟨o, ad, p, 3, d⟩ b f = ⟨o, ad, p, 6, d⟩ by simp [fol, h4]]
      exact fol3_r w hlo hown hx h4
  · rcases h4 : fl f 4 with _ | _
    · rcases h1 : fl f 1 with _ | _
      · rw [show fol ⟨o, ad, p, 4, d⟩ b f = ⟨o, ad, p, 4, d⟩ by simp [fol, h4, h1]]
        exact fol4_n w hlo hown hx h4 h1
      · rcases hbd : (b != d) with _ | _
        · rw [show fol ⟨o, ad, p, 4, d⟩ b f = ⟨o, ad, p, 4, d⟩ by simp [fol, h4, h1, hbd]]
          exact fol4_d w hlo hown hx h4 h1 hbd
        · rw [show fol ⟨o, ad, p, 4, d⟩ b f = ⟨o, ad, p, 5, d⟩ by simp [fol, h4, h1, hbd]]
          exact fol4_y w hlo hown hx h4 h1 hbd
    · rw [show fol ⟨o, ad, p, 4, d⟩ b f = ⟨o, ad, p, 6, d⟩ by simp [fol, h4]]
      exact fol4_r w hlo hown hx h4
  · rcases h4 : fl f 4 with _ | _
    · rcases h1 : fl f 1 with _ | _
      · rw [show fol ⟨o, ad, p, 5, d⟩ b f = ⟨o, ad, p, 5, d⟩ by simp [fol, h4, h1]]
        exact fol5_0 w hlo hown hx h4 h1
      · rw [show fol ⟨o, ad, p, 5, d⟩ b f = ⟨o, ad, p, 5, d⟩ by simp [fol, h4, h1]]
        exact fol5_1 w hlo hown hx h4 h1
    · rw [show fol ⟨o, ad, p, 5, d⟩ b f = ⟨o, ad, p, 6, d⟩ by simp [fol, h4]]
      exact fol5_r w hlo hown hx h4
  · rcases h2 : fl f 2 with _ | _
    · rw [show fol ⟨o, ad, p, 6, d⟩ b f = ⟨o, ad, p, 6, d⟩ by simp [fol, h2]]
      exact fol6_3 w hlo hown hx h2
    · rcases h20 : fl f 20 with _ | _
      · rw [show fol ⟨o, ad, p, 6, d⟩ b f = ⟨o, ad, p, 1, b⟩ by simp [fol, h2, h20]]
        exact fol6_1 w hlo hown hx h2 h20
      · rw [show fol ⟨o, ad, p, 6, d⟩ b f = ⟨o, ad, p, 6, d⟩ by simp [fol, h2, h20]]
        exact fol6_2 w hlo hown hx h2 h20
theorem follow_box {g : Nat} {x y : Cn} (b : Bool) (f : Int) (w : World) (h : w.heap[g]? = some (.cells #[.int .i64 x.o, .int .u8 (x.ad.a.toNat : Int), .int .u8 (x.ad.b.toNat : Int), .int .u8 (x.ad.c.toNat : Int), .int .u8 (x.ad.d.toNat : Int), .int .i64 x.p, .int .i64 x.s, .bool x.d] 154 (0, 0))) (hs : x.okp) (hy : fol x b f = y) : Calls Tryz.prog 102 #[.pointer (some ⟨g, 0, none⟩), .bool b, .int .i64 f] w fun e w' => e = .returned (.tuple #[]) ∧ w'.heap[g]? = some (.cells #[.int .i64 y.o, .int .u8 (y.ad.a.toNat : Int), .int .u8 (y.ad.b.toNat : Int), .int .u8 (y.ad.c.toNat : Int), .int .u8 (y.ad.d.toNat : Int), .int .i64 y.p, .int .i64 y.s, .bool y.d] 154 (0, 0)) ∧ w.grownBy w' (some g) := by
  have hg := hlt h
  refine (follow_el (lo := 0) (i := 0) b f w (Nat.zero_le _) (box_row h (Nat.zero_le _)) rfl hs hy).mono ?_
  rintro e w' ⟨rfl, h1, h2⟩
  exact ⟨rfl, row_box h1, h2⟩
open Go.RowKit

theorem ko_drew {gt : Nat} {w W : World} {v : Value} (h : Ko gt w W v) : Ko gt w W.drew v := h
theorem x0_okp (o : Int) (ad : Ad4) (p : Int) : (⟨o, ad, p, 0, false⟩ : Cn).okp := ⟨Int.le_refl 0, by show (0 : Int) ≤ 6; decide⟩
set_option linter.unusedVariables false in
set_option linter.unusedSimpArgs false in
set_option maxRecDepth 100000 in
set_option maxHeartbeats 16000000 in
theorem tadd_new {lo gt : Nat} {rm : Int} {l : List Cn} {x : Cn} (w : World) (hT : Tk lo gt w ⟨rm, l⟩) (hx : x.okp) (hr : (l.length : Int) < rm) : Calls Tryz.prog 103 #[.pointer (some ⟨gt, 0, none⟩), .agg #[.int .i64 x.o, .int .u8 (x.ad.a.toNat : Int), .int .u8 (x.ad.b.toNat : Int), .int .u8 (x.ad.c.toNat : Int), .int .u8 (x.ad.d.toNat : Int), .int .i64 x.p, .int .i64 x.s, .bool x.d]] w fun e w' => e = .returned (.tuple #[]) ∧ Tk lo gt w' ⟨rm, l ++ [x]⟩ ∧ Kap gt w w' ∧ Below lo w w' := by
  have hlo : lo ≤ w.heap.size := hT.lo_le
  have HLO := Lib.hid hlo
  obtain ⟨A, n, c, htb, otb, own, hok⟩ := hT
  dsimp only at htb own
  have off_tb := ofs_type own htb (by decide)
  have hl := row_len (by decide) cnE_len own
  have HLL := Lib.hid hl
  have HOK := Lib.hid hok
  have H32 : Hid (n ≤ 1000) := Lib.hid (by have h1_ := hok.len; have h2_ := hok.r1; simp only at h1_ h2_; omega)
  clear hl hok
  have fo := Ko.refl htb
  obtain ⟨ie, hie, hie0, hie1, hie2⟩ := info_parts Tryz.info_cn
  have HM32 := H32
  have hr2 : decide ((n : Int) ≥ rm) = false := decide_eq_false (by have := HLL.out; omega)
  have hr3 : decide (rm ≤ (n : Int)) = false := decide_eq_false (by have := HLL.out; omega)
  have HOK2 : Hid (Ks.ok ⟨rm, l ++ [x]⟩) := Lib.hid (HOK.out.put hx hr)
  clear hr hx
  have bel := Below.refl lo w
  go_enter Tryz.func103, Tryz.ntmps103
  go_wp2_with (first | ((with_reducible show wpList _ _ _ (⟨some 3, _, _, _, _, _⟩ :: _) _ _); refine wpList_box_n rfl 154 (.tmp 1) rfl #[.int .i64 x.o, .int .u8 (x.ad.a.toNat : Int), .int .u8 (x.ad.b.toNat : Int), .int .u8 (x.ad.c.toNat : Int), .int .u8 (x.ad.d.toNat : Int), .int .i64 x.p, .int .i64 x.s, .bool x.d] rfl ?_; intro g3 w1 ge lt hh bb; have d_tb_cb := ne_new (hlt htb) ge; have ocb := Nat.le_trans (Nat.le_trans hlo bel.size) ge; have off_cb := owk_new own ge; have pn_cb := Nat.le_trans bel.size ge; replace htb := blk_u htb bb; replace own := owk_under own bb; replace fo := fo.below bb; replace bel := bel.trans (bb.mono (Nat.le_trans hlo bel.size)); have hcb := hh; clear hh lt ge bb))
  replace bel := bel.drew
  replace htb : w1.drew.heap[gt]? = _ := htb
  replace hcb : w1.drew.heap[g3]? = _ := hcb
  replace own := World.ownsRow.drew own
  replace fo := ko_drew fo
  refine wp_region_held_drew (S := fun W => W.heap[gt]? = some (.cells #[.int .i64 rm, .slice A n c] 110 (0, 0))) (by kernel_rfl) htb (fun hH => ?_)
  generalize w1.drew = w2 at bel htb hcb own fo hH ⊢
  refine wpAnyH_take (i := 0) (v := ?_) rfl (by kernel_rfl) (by kernel_rfl) (by kernel_rfl) (fun _ _ _ h => h) (Or.inl ⟨by rfl, ?_⟩) hH ?_
  rotate_left
  · ((intro W hW; clear hW; go_simp) <;> with_reducible rfl)
  simp only [Act.put, List.getElem_toArray, List.getElem_cons_zero, List.setIfInBounds_toArray, List.set_cons_zero, List.set_cons_succ]
  refine wpAnyH_take (i := 1) (v := ?_) rfl (by kernel_rfl) (by kernel_rfl) (by kernel_rfl) (fun _ _ _ h => h) (Or.inl ⟨by rfl, ?_⟩) hH ?_
  rotate_left
  · ((intro W hW; clear hW; go_simp) <;> with_reducible rfl)
  simp only [sq3, sq4]
  refine wpAnyH_take (i := 2) (v := ?_) rfl (by kernel_rfl) (by kernel_rfl) (by kernel_rfl) (fun _ _ _ h => h) (Or.inl ⟨by rfl, ?_⟩) hH ?_
  rotate_left
  · ((intro W hW; clear hW; go_simp) <;> with_reducible rfl)
  simp only [sq3, sq4]
  refine wpAnyH_take (i := 3) (v := ?_) rfl (by kernel_rfl) (by kernel_rfl) (by kernel_rfl) (fun _ _ _ h => h) (Or.inl ⟨by rfl, ?_⟩) hH ?_
  rotate_left
  · ((intro W hW; have hk := cell_lit (hW) 1 _ rfl; clear hW; go_simp) <;> with_reducible rfl)
  simp only [sq3, sq4]
  refine wpAnyH_take (i := 4) (v := ?_) rfl (by kernel_rfl) (by kernel_rfl) (by kernel_rfl) (fun _ _ _ h => h) (Or.inl ⟨by rfl, ?_⟩) hH ?_
  rotate_left
  · ((intro W hW; clear hW; go_simp) <;> with_reducible rfl)
  simp only [sq3, sq4]
  refine wpAnyH_take (i := 5) (v := ?_) rfl (by kernel_rfl) (by kernel_rfl) (by kernel_rfl) (fun _ _ _ h => h) (Or.inl ⟨by rfl, ?_⟩) hH ?_
  rotate_left
  · ((intro W hW; clear hW; go_simp) <;> with_reducible rfl)
  simp only [sq3, sq4]
  refine wpAnyH_take (i := 6) (v := ?_) rfl (by kernel_rfl) (by kernel_rfl) (by kernel_rfl) (fun _ _ _ h => h) (Or.inl ⟨by rfl, ?_⟩) hH ?_
  rotate_left
  · ((intro W hW; clear hW; go_simp) <;> with_reducible rfl)
  simp only [sq3, sq4]
  refine wpAnyH_take (i := 7) (v := ?_) rfl (by kernel_rfl) (by kernel_rfl) (by kernel_rfl) (fun _ _ _ h => h) (Or.inl ⟨by rfl, ?_⟩) hH ?_
  rotate_left
  · ((intro W hW; clear hW; go_simp) <;> with_reducible rfl)
  simp only [sq3, sq4]
  refine wpAnyH_take (i := 8) (v := ?_) rfl (by kernel_rfl) (by kernel_rfl) (by kernel_rfl) (fun _ _ _ h => h) (Or.inl ⟨by rfl, ?_⟩) hH ?_
  rotate_left
  · ((intro W hW; have hk := cell_lit (hW) 0 _ rfl; clear hW; go_simp) <;> with_reducible rfl)
  simp only [sq3, sq4]
  refine wpAnyH_take (i := 9) (v := ?_) rfl (by kernel_rfl) (by kernel_rfl) (by kernel_rfl) (fun _ _ _ h => h) (Or.inl ⟨by rfl, ?_⟩) hH ?_
  rotate_left
  · ((intro W hW; clear hW; go_simp) <;> with_reducible rfl)
  simp only [sq3, sq4]
  refine wpAnyH_done (by kernel_rfl) ?_ _
  go_wp2_with fail
  replace bel := bel.drew
  replace htb : w2.drew.heap[gt]? = _ := htb
  replace hcb : w2.drew.heap[g3]? = _ := hcb
  replace own := World.ownsRow.drew own
  replace fo := ko_drew fo
  refine wp_region_z 10 (S := fun W => W.heap[gt]? = some (.cells #[.int .i64 rm, .slice A n c] 110 (0, 0)) ∧ W.heap[g3]? = some (.cells #[.int .i64 x.o, .int .u8 (x.ad.a.toNat : Int), .int .u8 (x.ad.b.toNat : Int), .int .u8 (x.ad.c.toNat : Int), .int .u8 (x.ad.d.toNat : Int), .int .i64 x.p, .int .i64 x.s, .bool x.d] 154 (0, 0))) (by kernel_rfl) ⟨htb, hcb⟩ (fun hH => ?_)
  generalize w2.drew = w3 at bel htb hcb own fo hH ⊢
  refine wpAnyZ_take (i := 0) (v := ?_) rfl (by kernel_rfl) (by kernel_rfl) (by kernel_rfl) (fun _ _ _ h => h) (Or.inl ⟨by rfl, ?_⟩) hH ?_
  rotate_left
  · ((intro W hW; clear hW; go_simp) <;> with_reducible rfl)
  simp only [Act.put, List.getElem_toArray, List.getElem_cons_zero, List.setIfInBounds_toArray, List.set_cons_zero, List.set_cons_succ]
  refine wpAnyZ_take (i := 1) (v := ?_) rfl (by kernel_rfl) (by kernel_rfl) (by kernel_rfl) (fun _ _ _ h => h) (Or.inl ⟨by rfl, ?_⟩) hH ?_
  rotate_left
  · ((intro W hW; clear hW; go_simp) <;> with_reducible rfl)
  simp only [sq3, sq4]
  refine wpAnyZ_take (i := 2) (v := ?_) rfl (by kernel_rfl) (by kernel_rfl) (by kernel_rfl) (fun _ _ _ h => h) (Or.inl ⟨by rfl, ?_⟩) hH ?_
  rotate_left
  · ((intro W hW; clear hW; go_simp) <;> with_reducible rfl)
  simp only [sq3, sq4]
  refine wpAnyZ_take (i := 3) (v := ?_) rfl (by kernel_rfl) (by kernel_rfl) (by kernel_rfl) (fun _ _ _ h => h) (Or.inl ⟨by rfl, ?_⟩) hH ?_
  rotate_left
  · ((intro W hW; clear hW; go_simp) <;> with_reducible rfl)
  simp only [sq3, sq4]
  refine wpAnyZ_take (i := 4) (v := ?_) rfl (by kernel_rfl) (by kernel_rfl) (by kernel_rfl) (fun _ _ _ h => h) (Or.inl ⟨by rfl, ?_⟩) hH ?_
  rotate_left
  · ((intro W hW; have hk := cell_lit (hW.1) 1 _ rfl; clear hW; go_simp) <;> with_reducible rfl)
  simp only [sq3, sq4]
  refine wpAnyZ_take (i := 5) (v := .agg #[.int .i64 x.o, .int .u8 (x.ad.a.toNat : Int), .int .u8 (x.ad.b.toNat : Int), .int .u8 (x.ad.c.toNat : Int), .int .u8 (x.ad.d.toNat : Int), .int .i64 x.p, .int .i64 x.s, .bool x.d]) rfl (by kernel_rfl) (by kernel_rfl) (by kernel_rfl) (fun _ _ _ h => h) (yieldsIf_load_part (by kernel_rfl) 154 _ rfl g3 0 8 rfl _ 154 (0, 0) (fun W hW => hW.2) _ rfl _ Tryz.underlying154 rfl (by kernel_rfl)) hH ?_
  simp only [sq3, sq4]
  refine wpAnyZ_ready (rs := [6]) (by kernel_rfl) (by simp) ?_
  refine AllReadyZ.cons (o := _) rfl (fun K hK => ?_) AllReadyZ.nil
  simp only [sq3]
  rw [if_pos (by rfl)]
  refine wp_lit_n 108 154 1 _ rfl #[.int .i64 x.o, .int .u8 (x.ad.a.toNat : Int), .int .u8 (x.ad.b.toNat : Int), .int .u8 (x.ad.c.toNat : Int), .int .u8 (x.ad.d.toNat : Int), .int .i64 x.p, .int .i64 x.s, .bool x.d] (.agg #[.int .i64 0, .int .u8 0, .int .u8 0, .int .u8 0, .int .u8 0, .int .i64 0, .int .i64 0, .bool false]) Tryz.underlying108 (by kernel_rfl) 8 (by kernel_rfl) (by decide) (by kernel_rfl) ?_
  intro g34 w4 ge lt hh bb
  have d_tb_b34 := ne_new (hlt htb) ge
  have d_cb_b34 := ne_new (hlt hcb) ge
  have ob34 := Nat.le_trans (Nat.le_trans hlo bel.size) ge
  have off_b34 := owk_new own ge
  have pn_b34 := Nat.le_trans bel.size ge
  replace htb := blk_u htb bb
  replace hcb := blk_u hcb bb
  replace own := owk_under own bb
  replace fo := fo.below bb
  replace bel := bel.trans (bb.mono (Nat.le_trans hlo bel.size))
  have hb34 := hh
  clear hh lt ge bb
  have vv : Sle cnE 8 w4 (some ⟨g34, 0, none⟩) (1) (1) ([x]) := sle_lit ([x]) (by decide) cnE_len hb34 rfl (by simp [maxLen])
  refine hK.out _ _ ⟨htb, hcb⟩ (fun hH5 => ?_)
  clear hK K
  simp only [sq4]
  refine wpAnyZ_ready (rs := [7]) (by kernel_rfl) (by simp) ?_
  refine AllReadyZ.cons (o := _) rfl (fun K hK => ?_) AllReadyZ.nil
  simp only [sq3]
  rw [if_pos (by rfl)]
  refine wp_append_sle (.tmp 32) (.tmp 34) 108 rfl lo 154 ie (.agg #[.int .i64 0, .int .u8 0, .int .u8 0, .int .u8 0, .int .u8 0, .int .i64 0, .int .i64 0, .bool false]) 40 Tryz.underlying108 hie hie0 hie1 hie2 rfl cnE_one _ n l rfl own (some ⟨g34, 0, none⟩) 1 1 [x] rfl vv (by unfold maxLen; have := HM32.out; omega) (by have := HM32.out; omega) (Nat.le_trans HLO.out bel.size) ?_
  intro v35 w90 own_ bb gw ofw
  obtain ⟨A35, c35, rfl⟩ := owk_val own_
  clear bb
  clear vv
  replace bel := bel.trans (row_bel gw own (Nat.le_trans hlo bel.size))
  have off_tb_ := ofw _ (hlt htb) off_tb
  replace htb := blk_own (v := .slice A n c) htb gw off_tb
  clear off_tb
  have off_tb := off_tb_
  clear off_tb_
  have off_cb_ := ofw _ (hlt hcb) off_cb
  replace hcb := blk_own (v := .slice A n c) hcb gw off_cb
  clear off_cb
  have off_cb := off_cb_
  clear off_cb_
  have off_b34_ := ofw _ (hlt hb34) off_b34
  replace hb34 := blk_own (v := .slice A n c) hb34 gw off_b34
  clear off_b34
  have off_b34 := off_b34_
  clear off_b34_
  replace fo := fo.row gw ofw
  clear own
  have own := own_
  clear own_ gw ofw
  refine hK.out _ _ ⟨htb, hcb⟩ (fun hH6 => ?_)
  clear hK K
  simp only [sq4]
  refine wpAnyZ_take (i := 8) (v := ?_) rfl (by kernel_rfl) (by kernel_rfl) (by kernel_rfl) (fun _ _ _ h => h) (Or.inl ⟨by rfl, ?_⟩) hH6 ?_
  rotate_left
  · ((intro W hW; clear hW; go_simp) <;> with_reducible rfl)
  simp only [sq3, sq4]
  refine wpAnyZ_take (i := 9) (v := ?_) rfl (by kernel_rfl) (by kernel_rfl) (by kernel_rfl) (fun _ _ _ h => h) (Or.inl ⟨by rfl, ?_⟩) hH6 ?_
  rotate_left
  · ((intro W hW; clear hW; go_simp) <;> with_reducible rfl)
  simp only [sq3, sq4]
  refine wpAnyZ_ready (rs := [10]) (by kernel_rfl) (by simp) ?_
  refine AllReadyZ.last (o := _) rfl (fun K hK => ?_)
  simp only [sq3]
  rw [if_pos (by rfl)]
  refine wp_store_part 108 (.tmp 37) (.tmp 35) rfl gt 1 rfl [.slice A35 (n + 1) c35] rfl [.int .i64 rm, .slice A n c] 110 htb (by simp) [.int .i64 rm, .slice A35 (n + 1) c35] rfl (by kernel_rfl) (by rfl) ?_
  intro w7 hq gr
  replace hcb := blk_a hcb gr (ne_symm d_tb_cb)
  replace hb34 := blk_a hb34 gr (ne_symm d_tb_b34)
  replace own := owk_off own off_tb gr
  replace fo := fo.tb gr
  replace bel := below_grown bel gr otb (Nat.le_trans hlo bel.size)
  clear htb
  have htb := hq
  clear hq gr
  refine hK.out _ _ trivial (fun hH8 => ?_)
  clear hK K
  simp only [Act.put]
  refine wpAnyZ_done (by kernel_rfl) ?_ _
  go_wp2_with fail
  exact bodyPost_end (results_none rfl _ _ _) rfl ⟨rfl, ⟨A35, n + 1, c35, htb, otb, own, HOK2.out⟩, fo.fr htb, bel⟩
set_option linter.unusedVariables false in
set_option linter.unusedSimpArgs false in
set_option maxRecDepth 100000 in
set_option maxHeartbeats 16000000 in
theorem tsee_old {lo gt : Nat} {z0 z1 z2 z3 z4 z5 : Int} {Z6 Z7 : Option Addr} {z6 y6 z7 y7 : Nat} {rm : Int} {l : List Cn} {i : Nat} {x : Cn} {o p : Int} {ad : Ad4} {b : Bool} {f : Int} {y : Cn} (w : World) (hT : Tk lo gt w ⟨rm, l⟩) (hN : l.findIdx (isB o ad p) = i) (hx : l[i]? = some x) (hy : fol x b f = y) : Calls Tryz.prog 69 #[.pointer (some ⟨gt, 0, none⟩), .int .i64 o, .agg #[.int .u8 (ad.a.toNat : Int), .int .u8 (ad.b.toNat : Int), .int .u8 (ad.c.toNat : Int), .int .u8 (ad.d.toNat : Int)], .int .i64 p, .bool b, .agg #[.int .i64 z0, .int .i64 z1, .int .u32 z2, .int .u32 z3, .int .i64 f, .int .i64 z4, .int .i64 z5, .slice Z6 z6 y6, .slice Z7 z7 y7]] w fun e w' => e = .returned (.int .i64 y.s) ∧ Tk lo gt w' ⟨rm, l.set i y⟩ ∧ Kap gt w w' ∧ Below lo w w' := by
  have hlo : lo ≤ w.heap.size := hT.lo_le
  have HLO := Lib.hid hlo
  obtain ⟨A, n, c, htb, otb, own, hok⟩ := hT
  dsimp only at htb own
  have off_tb := ofs_type own htb (by decide)
  have hl := row_len (by decide) cnE_len own
  have HLL := Lib.hid hl
  have HOK := Lib.hid hok
  have H32 : Hid (n ≤ 1000) := Lib.hid (by have h1_ := hok.len; have h2_ := hok.r1; simp only at h1_ h2_; omega)
  clear hl hok
  have fo := Ko.refl htb
  have HXO : Hid x.okp := Lib.hid (HOK.out.okp x (List.mem_of_getElem? hx))
  have HY := Lib.hid hy
  have HOK2 : Hid (Ks.ok ⟨rm, l.set i y⟩) := Lib.hid (HOK.out.set i (hy ▸ fol_okp HXO.out b f))
  clear hy
  have HN := Lib.hid hN
  have HX := Lib.hid hx
  have HIL : Hid (i < l.length) := Lib.hid (List.getElem?_eq_some_iff.1 hx).1
  have hin_ : i < n := by have h1_ := (List.getElem?_eq_some_iff.1 hx).1; have h2_ := HLL.out; omega
  have i0 : (0 : Int) ≤ i := by omega
  have i1 : (i : Int) < n := by omega
  obtain ⟨gE, rfl, _⟩ := row_at own (by omega)
  have en := (owk_sle (by decide) cnE_len own).1
  have av_en_tb := owk_av own off_tb
  clear hin_
  clear hN hx
  have bel := Below.refl lo w
  go_enter Tryz.func69, Tryz.ntmps69
  go_wp2_with (first | ((with_reducible show wpList _ _ _ (⟨some 8, _, _, _, _, _⟩ :: _) _ _); refine wpList_box_n rfl 35 (.tmp 2) rfl #[.int .u8 (ad.a.toNat : Int), .int .u8 (ad.b.toNat : Int), .int .u8 (ad.c.toNat : Int), .int .u8 (ad.d.toNat : Int)] rfl ?_; intro g8 w1 ge lt hh bb; have d_tb_ab := ne_new (hlt htb) ge; have av_en_ab := en.av_new ge; have oab := Nat.le_trans (Nat.le_trans hlo bel.size) ge; have off_ab := owk_new own ge; have pn_ab := Nat.le_trans bel.size ge; replace htb := blk_u htb bb; replace en := en.below bb; replace own := owk_under own bb; replace fo := fo.below bb; replace bel := bel.trans (bb.mono (Nat.le_trans hlo bel.size)); have hab := hh; clear hh lt ge bb) | ((with_reducible show wpList _ _ _ (⟨some 11, _, _, _, _, _⟩ :: _) _ _); refine wpList_box_n rfl 105 (.tmp 5) rfl #[.int .i64 z0, .int .i64 z1, .int .u32 z2, .int .u32 z3, .int .i64 f, .int .i64 z4, .int .i64 z5, .slice Z6 z6 y6, .slice Z7 z7 y7] rfl ?_; intro g11 w2 ge lt hh bb; have d_tb_sb := ne_new (hlt htb) ge; have d_ab_sb := ne_new (hlt hab) ge; have av_en_sb := en.av_new ge; have osb := Nat.le_trans (Nat.le_trans hlo bel.size) ge; have off_sb := owk_new own ge; have pn_sb := Nat.le_trans bel.size ge; replace htb := blk_u htb bb; replace hab := blk_u hab bb; replace en := en.below bb; replace own := owk_under own bb; replace fo := fo.below bb; replace bel := bel.trans (bb.mono (Nat.le_trans hlo bel.size)); have hsb := hh; clear hh lt ge bb; have R18 := Lib.hid (range_lit hab 0 4 [.int .u8 (ad.a.toNat : Int), .int .u8 (ad.b.toNat : Int), .int .u8 (ad.c.toNat : Int), .int .u8 (ad.d.toNat : Int)] rfl)) | ((with_reducible show wpList _ _ _ (⟨some 18, _, _, _, _, _⟩ :: _) _ _); refine wpList_load_rng 35 (.tmp 8) rfl (by kernel_rfl) _ _ rfl _ R18.out _ Tryz.underlying35 rfl (by kernel_rfl) ?_) | ((with_reducible show wpList _ _ _ (⟨some 13, _, _, _, _, _⟩ :: _) _ _); refine wpList_new_a rfl 150 rfl #[.int .i64 0, .int .u8 0, .int .u8 0, .int .u8 0, .int .u8 0, .int .i64 0] (by kernel_rfl) ?_; intro g13 w3 ge hh bb; have d_tb_eb := ne_new (hlt htb) ge; have d_ab_eb := ne_new (hlt hab) ge; have d_sb_eb := ne_new (hlt hsb) ge; have av_en_eb := en.av_new ge; have oeb := Nat.le_trans (Nat.le_trans hlo bel.size) ge; have off_eb := owk_new own ge; have pn_eb := Nat.le_trans bel.size ge; replace htb := blk_u htb bb; replace hab := blk_u hab bb; replace hsb := blk_u hsb bb; replace en := en.below bb; replace own := owk_under own bb; replace fo := fo.below bb; replace bel := bel.trans (bb.mono (Nat.le_trans hlo bel.size)); have heb := hh; clear hh ge bb) | ((with_reducible show wpList _ _ _ (⟨none, Op.store _ (.tmp 13) _, _, _, _, _⟩ :: _) _ _); refine wpList_store_blk rfl 150 (.tmp 13) (.tmp 20) rfl g13 rfl _ rfl _ 150 heb (by rfl) (by kernel_rfl) (by kernel_rfl) ?_; intro w4 hq gr; replace en := en.away av_en_eb gr; replace htb := blk_a htb gr d_tb_eb; replace hab := blk_a hab gr d_ab_eb; replace hsb := blk_a hsb gr d_sb_eb; replace own := owk_off own off_eb gr; replace fo := fo.newer gr pn_eb; replace bel := below_grown bel gr oeb (Nat.le_trans hlo bel.size); clear heb; have heb := hq; clear hq gr; have R22 := Lib.hid (range_lit heb 0 6 [.int .i64 o, .int .u8 (ad.a.toNat : Int), .int .u8 (ad.b.toNat : Int), .int .u8 (ad.c.toNat : Int), .int .u8 (ad.d.toNat : Int), .int .i64 p] rfl)) | ((with_reducible show wpList _ _ _ (⟨some 22, _, _, _, _, _⟩ :: _) _ _); refine wpList_load_rng 150 (.tmp 13) rfl (by kernel_rfl) _ _ rfl _ R22.out _ Tryz.underlying150 rfl (by kernel_rfl) ?_))
  try clear R18
  try clear R22
  with_reducible refine (find_yes _ htb (owk_sle (by decide) cnE_len own).1 H32.out HN.out HIL.out).mono ?_
  rintro e w5 ⟨rfl, b5⟩
  replace htb := blk_u htb b5
  replace hab := blk_u hab b5
  replace hsb := blk_u hsb b5
  replace heb := blk_u heb b5
  replace en := en.below b5
  replace own := owk_under own b5
  replace fo := fo.below b5
  replace bel := bel.trans (b5.mono (Nat.le_trans hlo bel.size))
  clear b5
  have R29 := cell_lit htb 1 _ rfl
  have R35 := cell_lit hsb 4 _ rfl
  go_wp2_with fail
  clear R29 R35
  have HLO_ := Nat.le_trans HLO.out bel.size
  with_reducible refine (follow_el (x := x) (y := y) b f _ HLO_ own HX.out HXO.out HY.out).mono ?_
  rintro e w6 ⟨rfl, own_, gw⟩
  replace bel := bel.trans (row_bel gw own (Nat.le_trans hlo bel.size))
  replace htb := blk_own (v := .slice (some ⟨gE, 0, none⟩) n c) htb gw off_tb
  replace hab := blk_own (v := .slice (some ⟨gE, 0, none⟩) n c) hab gw off_ab
  replace hsb := blk_own (v := .slice (some ⟨gE, 0, none⟩) n c) hsb gw off_sb
  replace heb := blk_own (v := .slice (some ⟨gE, 0, none⟩) n c) heb gw off_eb
  replace fo := fo.row gw (fun _ _ h => h)
  clear own
  have own := own_
  clear own_ gw
  replace en := (owk_sle (by decide) cnE_len own).1
  clear HLO_
  have HX2 := Lib.hid (set_at (y := y) HX.out)
  have R40 := Sle.zcell en HX2.out 6 _ rfl
  go_wp2_with fail
  clear R40
  go_ret
  exact ⟨rfl, ⟨(some ⟨gE, 0, none⟩), n, c, htb, otb, own, HOK2.out⟩, fo.fr htb, bel⟩
set_option linter.unusedVariables false in
set_option linter.unusedSimpArgs false in
set_option maxRecDepth 100000 in
set_option maxHeartbeats 16000000 in
theorem tsee_new {lo gt : Nat} {z0 z1 z2 z3 z4 z5 : Int} {Z6 Z7 : Option Addr} {z6 y6 z7 y7 : Nat} {rm : Int} {l : List Cn} {o p : Int} {ad : Ad4} {b : Bool} {f : Int} {y : Cn} (w : World) (hT : Tk lo gt w ⟨rm, l⟩) (hN : l.findIdx (isB o ad p) = l.length) (hy : fol ⟨o, ad, p, 0, false⟩ b f = y) (h0 : y.s ≠ 0) (hr : (l.length : Int) < rm) : Calls Tryz.prog 69 #[.pointer (some ⟨gt, 0, none⟩), .int .i64 o, .agg #[.int .u8 (ad.a.toNat : Int), .int .u8 (ad.b.toNat : Int), .int .u8 (ad.c.toNat : Int), .int .u8 (ad.d.toNat : Int)], .int .i64 p, .bool b, .agg #[.int .i64 z0, .int .i64 z1, .int .u32 z2, .int .u32 z3, .int .i64 f, .int .i64 z4, .int .i64 z5, .slice Z6 z6 y6, .slice Z7 z7 y7]] w fun e w' => e = .returned (.int .i64 y.s) ∧ Tk lo gt w' ⟨rm, l ++ [y]⟩ ∧ Kap gt w w' ∧ Below lo w w' := by
  have hlo : lo ≤ w.heap.size := hT.lo_le
  have HLO := Lib.hid hlo
  obtain ⟨A, n, c, htb, otb, own, hok⟩ := hT
  dsimp only at htb own
  have off_tb := ofs_type own htb (by decide)
  have hl := row_len (by decide) cnE_len own
  have HLL := Lib.hid hl
  have HOK := Lib.hid hok
  have H32 : Hid (n ≤ 1000) := Lib.hid (by have h1_ := hok.len; have h2_ := hok.r1; simp only at h1_ h2_; omega)
  clear hl hok
  have fo := Ko.refl htb
  have HY := Lib.hid hy
  clear hy
  have hy1 : (y.s == 0) = false := by simpa using h0
  have hy0 : (y.s != 0) = true := by simpa using h0
  have HYO : Hid y.okp := Lib.hid (HY.out ▸ fol_okp (x0_okp o ad p) b f)
  have HR := Lib.hid hr
  clear h0 hr
  have HN := Lib.hid hN
  clear hN
  have bel := Below.refl lo w
  go_enter Tryz.func69, Tryz.ntmps69
  go_wp2_with (first | ((with_reducible show wpList _ _ _ (⟨some 8, _, _, _, _, _⟩ :: _) _ _); refine wpList_box_n rfl 35 (.tmp 2) rfl #[.int .u8 (ad.a.toNat : Int), .int .u8 (ad.b.toNat : Int), .int .u8 (ad.c.toNat : Int), .int .u8 (ad.d.toNat : Int)] rfl ?_; intro g8 w1 ge lt hh bb; have d_tb_ab := ne_new (hlt htb) ge; have oab := Nat.le_trans (Nat.le_trans hlo bel.size) ge; have off_ab := owk_new own ge; have pn_ab := Nat.le_trans bel.size ge; replace htb := blk_u htb bb; replace own := owk_under own bb; replace fo := fo.below bb; replace bel := bel.trans (bb.mono (Nat.le_trans hlo bel.size)); have hab := hh; clear hh lt ge bb) | ((with_reducible show wpList _ _ _ (⟨some 11, _, _, _, _, _⟩ :: _) _ _); refine wpList_box_n rfl 105 (.tmp 5) rfl #[.int .i64 z0, .int .i64 z1, .int .u32 z2, .int .u32 z3, .int .i64 f, .int .i64 z4, .int .i64 z5, .slice Z6 z6 y6, .slice Z7 z7 y7] rfl ?_; intro g11 w2 ge lt hh bb; have d_tb_sb := ne_new (hlt htb) ge; have d_ab_sb := ne_new (hlt hab) ge; have osb := Nat.le_trans (Nat.le_trans hlo bel.size) ge; have off_sb := owk_new own ge; have pn_sb := Nat.le_trans bel.size ge; replace htb := blk_u htb bb; replace hab := blk_u hab bb; replace own := owk_under own bb; replace fo := fo.below bb; replace bel := bel.trans (bb.mono (Nat.le_trans hlo bel.size)); have hsb := hh; clear hh lt ge bb; have R18 := Lib.hid (range_lit hab 0 4 [.int .u8 (ad.a.toNat : Int), .int .u8 (ad.b.toNat : Int), .int .u8 (ad.c.toNat : Int), .int .u8 (ad.d.toNat : Int)] rfl)) | ((with_reducible show wpList _ _ _ (⟨some 18, _, _, _, _, _⟩ :: _) _ _); refine wpList_load_rng 35 (.tmp 8) rfl (by kernel_rfl) _ _ rfl _ R18.out _ Tryz.underlying35 rfl (by kernel_rfl) ?_) | ((with_reducible show wpList _ _ _ (⟨some 13, _, _, _, _, _⟩ :: _) _ _); refine wpList_new_a rfl 150 rfl #[.int .i64 0, .int .u8 0, .int .u8 0, .int .u8 0, .int .u8 0, .int .i64 0] (by kernel_rfl) ?_; intro g13 w3 ge hh bb; have d_tb_eb := ne_new (hlt htb) ge; have d_ab_eb := ne_new (hlt hab) ge; have d_sb_eb := ne_new (hlt hsb) ge; have oeb := Nat.le_trans (Nat.le_trans hlo bel.size) ge; have off_eb := owk_new own ge; have pn_eb := Nat.le_trans bel.size ge; replace htb := blk_u htb bb; replace hab := blk_u hab bb; replace hsb := blk_u hsb bb; replace own := owk_under own bb; replace fo := fo.below bb; replace bel := bel.trans (bb.mono (Nat.le_trans hlo bel.size)); have heb := hh; clear hh ge bb) | ((with_reducible show wpList _ _ _ (⟨none, Op.store _ (.tmp 13) _, _, _, _, _⟩ :: _) _ _); refine wpList_store_blk rfl 150 (.tmp 13) (.tmp 20) rfl g13 rfl _ rfl _ 150 heb (by rfl) (by kernel_rfl) (by kernel_rfl) ?_; intro w4 hq gr; replace htb := blk_a htb gr d_tb_eb; replace hab := blk_a hab gr d_ab_eb; replace hsb := blk_a hsb gr d_sb_eb; replace own := owk_off own off_eb gr; replace fo := fo.newer gr pn_eb; replace bel := below_grown bel gr oeb (Nat.le_trans hlo bel.size); clear heb; have heb := hq; clear hq gr; have R22 := Lib.hid (range_lit heb 0 6 [.int .i64 o, .int .u8 (ad.a.toNat : Int), .int .u8 (ad.b.toNat : Int), .int .u8 (ad.c.toNat : Int), .int .u8 (ad.d.toNat : Int), .int .i64 p] rfl)) | ((with_reducible show wpList _ _ _ (⟨some 22, _, _, _, _, _⟩ :: _) _ _); refine wpList_load_rng 150 (.tmp 13) rfl (by kernel_rfl) _ _ rfl _ R22.out _ Tryz.underlying150 rfl (by kernel_rfl) ?_))
  try clear R18
  try clear R22
  with_reducible refine (find_no _ htb (owk_sle (by decide) cnE_len own).1 H32.out HN.out).mono ?_
  rintro e w5 ⟨rfl, b5⟩
  replace htb := blk_u htb b5
  replace hab := blk_u hab b5
  replace hsb := blk_u hsb b5
  replace heb := blk_u heb b5
  replace own := owk_under own b5
  replace fo := fo.below b5
  replace bel := bel.trans (b5.mono (Nat.le_trans hlo bel.size))
  clear b5
  have R41 := Lib.hid (range_lit heb 0 6 [.int .i64 o, .int .u8 (ad.a.toNat : Int), .int .u8 (ad.b.toNat : Int), .int .u8 (ad.c.toNat : Int), .int .u8 (ad.d.toNat : Int), .int .i64 p] rfl)
  go_wp2_with (first | ((with_reducible show wpList _ _ _ (⟨some 41, _, _, _, _, _⟩ :: _) _ _); refine wpList_load_rng 150 (.tmp 13) rfl (by kernel_rfl) _ _ rfl _ R41.out _ Tryz.underlying150 rfl (by kernel_rfl) ?_) | ((with_reducible show wpList _ _ _ (⟨some 16, _, _, _, _, _⟩ :: _) _ _); refine wpList_new_a rfl 154 rfl #[.int .i64 0, .int .u8 0, .int .u8 0, .int .u8 0, .int .u8 0, .int .i64 0, .int .i64 0, .bool false] (by kernel_rfl) ?_; intro g16 w6 ge hh bb; have d_tb_cb := ne_new (hlt htb) ge; have d_ab_cb := ne_new (hlt hab) ge; have d_sb_cb := ne_new (hlt hsb) ge; have d_eb_cb := ne_new (hlt heb) ge; have ocb := Nat.le_trans (Nat.le_trans hlo bel.size) ge; have off_cb := owk_new own ge; have pn_cb := Nat.le_trans bel.size ge; replace htb := blk_u htb bb; replace hab := blk_u hab bb; replace hsb := blk_u hsb bb; replace heb := blk_u heb bb; replace own := owk_under own bb; replace fo := fo.below bb; replace bel := bel.trans (bb.mono (Nat.le_trans hlo bel.size)); have hcb := hh; clear hh ge bb) | ((with_reducible show wpList _ _ _ (⟨none, Op.store _ (.tmp 16) _, _, _, _, _⟩ :: _) _ _); refine wpList_store_blk rfl 154 (.tmp 16) (.tmp 42) rfl g16 rfl _ rfl _ 154 hcb (by rfl) (by kernel_rfl) (by kernel_rfl) ?_; intro w7 hq gr; replace htb := blk_a htb gr d_tb_cb; replace hab := blk_a hab gr d_ab_cb; replace hsb := blk_a hsb gr d_sb_cb; replace heb := blk_a heb gr d_eb_cb; replace own := owk_off own off_cb gr; replace fo := fo.newer gr pn_cb; replace bel := below_grown bel gr ocb (Nat.le_trans hlo bel.size); clear hcb; have hcb := hq; clear hq gr; have R45 := cell_lit hsb 4 _ rfl))
  try clear R41
  try clear R45
  with_reducible refine (follow_box (x := ⟨o, ad, p, 0, false⟩) (y := y) b f _ hcb (x0_okp o ad p) HY.out).mono ?_
  rintro e w8 ⟨rfl, hq_, b8⟩
  replace htb := blk_a htb b8 d_tb_cb
  replace hab := blk_a hab b8 d_ab_cb
  replace hsb := blk_a hsb b8 d_sb_cb
  replace heb := blk_a heb b8 d_eb_cb
  replace own := owk_off own off_cb b8
  replace fo := fo.newer b8 pn_cb
  replace bel := below_grown bel b8 ocb (Nat.le_trans hlo bel.size)
  clear b8
  clear hcb
  have hcb := hq_
  clear hq_
  have R48 := cell_lit hcb 6 _ rfl
  have R51 := Lib.hid (range_lit hcb 0 8 [.int .i64 y.o, .int .u8 (y.ad.a.toNat : Int), .int .u8 (y.ad.b.toNat : Int), .int .u8 (y.ad.c.toNat : Int), .int .u8 (y.ad.d.toNat : Int), .int .i64 y.p, .int .i64 y.s, .bool y.d] rfl)
  go_wp2_with (first | ((with_reducible show wpList _ _ _ (⟨some 51, _, _, _, _, _⟩ :: _) _ _); refine wpList_load_rng 154 (.tmp 16) rfl (by kernel_rfl) _ _ rfl _ R51.out _ Tryz.underlying154 rfl (by kernel_rfl) ?_))
  try clear R48
  try clear R51
  have ap_ab := Kp.mk htb off_ab (ne_symm d_tb_ab).out
  have ap_sb := Kp.mk htb off_sb (ne_symm d_tb_sb).out
  have ap_eb := Kp.mk htb off_eb (ne_symm d_tb_eb).out
  have ap_cb := Kp.mk htb off_cb (ne_symm d_tb_cb).out
  have fr := fo.fr htb
  have hT : Tk lo gt w8 ⟨rm, l⟩ := ⟨A, n, c, htb, otb, own, HOK.out⟩
  clear htb own off_tb fo
  with_reducible refine (tadd_new _ hT HYO.out HR.out).mono ?_
  rintro e w9 ⟨rfl, hT_, f_, bb⟩
  have x_ := f_ _ _ hab ap_ab
  replace hab := x_.1
  replace ap_ab := x_.2
  clear x_
  have x_ := f_ _ _ hsb ap_sb
  replace hsb := x_.1
  replace ap_sb := x_.2
  clear x_
  have x_ := f_ _ _ heb ap_eb
  replace heb := x_.1
  replace ap_eb := x_.2
  clear x_
  have x_ := f_ _ _ hcb ap_cb
  replace hcb := x_.1
  replace ap_cb := x_.2
  clear x_
  replace fr := fr.trans f_
  clear hT
  have hT := hT_
  replace bel := bel.trans bb
  clear bb f_ hT_
  have R54 := cell_lit hcb 6 _ rfl
  go_wp2_with fail
  clear R54
  go_ret
  exact ⟨rfl, hT, fr, bel⟩
open Go.RowKit

def lim (s : Int) : Int := if s = 1 ∨ s = 2 ∨ s = 4 then 240 else if s = 5 ∨ s = 6 then 10 else 60
/-- How long, as the chapter says. -/
def secV (s k : Int) : Int := if s = 3 then k else if lim s < k then lim s else k
set_option linter.unusedVariables false in
set_option linter.unusedSimpArgs false in
set_option maxRecDepth 100000 in
set_option maxHeartbeats 16000000 in
theorem ksecs_3 {s k : Int} (w : World) (h3 : (s == 3) = true) : Calls Tryz.prog 104 #[.int .i64 s, .int .i64 k] w fun e w' => e = .returned (.int .i64 k) ∧ w = w' := by
  skip
  skip
  go_enter Tryz.func104, Tryz.ntmps104
  go_wp2_with fail
  go_ret
  exact ⟨rfl, rfl⟩
set_option linter.unusedVariables false in
set_option linter.unusedSimpArgs false in
set_option maxRecDepth 100000 in
set_option maxHeartbeats 16000000 in
theorem ksecs_1 {s k m : Int} (w : World) (h3 : (s == 3) = false) (h1 : (s == 1) = true) (hm : (if (240 : Int) < k then 240 else k) = m) : Calls Tryz.prog 104 #[.int .i64 s, .int .i64 k] w fun e w' => e = .returned (.int .i64 m) ∧ w = w' := by
  have HM := Lib.hid hm
  clear hm
  skip
  go_enter Tryz.func104, Tryz.ntmps104
  go_wp2_with (first | ((with_reducible show wpList _ _ _ (⟨some 14, _, _, _, _, _⟩ :: _) _ _); refine wpList_min rfl (.tmp 13) (.const (.int .i64 240)) 3 3 rfl .i64 k 240 m rfl rfl HM.out ?_))
  go_ret
  exact ⟨rfl, rfl⟩
set_option linter.unusedVariables false in
set_option linter.unusedSimpArgs false in
set_option maxRecDepth 100000 in
set_option maxHeartbeats 16000000 in
theorem ksecs_2 {s k m : Int} (w : World) (h3 : (s == 3) = false) (h1 : (s == 1) = false) (h2 : (s == 2) = true) (hm : (if (240 : Int) < k then 240 else k) = m) : Calls Tryz.prog 104 #[.int .i64 s, .int .i64 k] w fun e w' => e = .returned (.int .i64 m) ∧ w = w' := by
  have HM := Lib.hid hm
  clear hm
  skip
  go_enter Tryz.func104, Tryz.ntmps104
  go_wp2_with (first | ((with_reducible show wpList _ _ _ (⟨some 14, _, _, _, _, _⟩ :: _) _ _); refine wpList_min rfl (.tmp 13) (.const (.int .i64 240)) 3 3 rfl .i64 k 240 m rfl rfl HM.out ?_))
  go_ret
  exact ⟨rfl, rfl⟩
set_option linter.unusedVariables false in
set_option linter.unusedSimpArgs false in
set_option maxRecDepth 100000 in
set_option maxHeartbeats 16000000 in
theorem ksecs_4 {s k m : Int} (w : World) (h3 : (s == 3) = false) (h1 : (s == 1) = false) (h2 : (s == 2) = false) (h4 : (s == 4) = true) (hm : (if (240 : Int) < k then 240 else k) = m) : Calls Tryz.prog 104 #[.int .i64 s, .int .i64 k] w fun e w' => e = .returned (.int .i64 m) ∧ w = w' := by
  have HM := Lib.hid hm
  clear hm
  skip
  go_enter Tryz.func104, Tryz.ntmps104
  go_wp2_with (first | ((with_reducible show wpList _ _ _ (⟨some 14, _, _, _, _, _⟩ :: _) _ _); refine wpList_min rfl (.tmp 13) (.const (.int .i64 240)) 3 3 rfl .i64 k 240 m rfl rfl HM.out ?_))
  go_ret
  exact ⟨rfl, rfl⟩
set_option linter.unusedVariables false in
set_option linter.unusedSimpArgs false in
set_option maxRecDepth 100000 in
set_option maxHeartbeats 16000000 in
theorem ksecs_5 {s k m : Int} (w : World) (h3 : (s == 3) = false) (h1 : (s == 1) = false) (h2 : (s == 2) = false) (h4 : (s == 4) = false) (h5 : (s == 5) = true) (hm : (if (10 : Int) < k then 10 else k) = m) : Calls Tryz.prog 104 #[.int .i64 s, .int .i64 k] w fun e w' => e = .returned (.int .i64 m) ∧ w = w' := by
  have HM := Lib.hid hm
  clear hm
  skip
  go_enter Tryz.func104, Tryz.ntmps104
  go_wp2_with (first | ((with_reducible show wpList _ _ _ (⟨some 19, _, _, _, _, _⟩ :: _) _ _); refine wpList_min rfl (.tmp 18) (.const (.int .i64 10)) 3 3 rfl .i64 k 10 m rfl rfl HM.out ?_))
  go_ret
  exact ⟨rfl, rfl⟩
set_option linter.unusedVariables false in
set_option linter.unusedSimpArgs false in
set_option maxRecDepth 100000 in
set_option maxHeartbeats 16000000 in
theorem ksecs_6 {s k m : Int} (w : World) (h3 : (s == 3) = false) (h1 : (s == 1) = false) (h2 : (s == 2) = false) (h4 : (s == 4) = false) (h5 : (s == 5) = false) (h6 : (s == 6) = true) (hm : (if (10 : Int) < k then 10 else k) = m) : Calls Tryz.prog 104 #[.int .i64 s, .int .i64 k] w fun e w' => e = .returned (.int .i64 m) ∧ w = w' := by
  have HM := Lib.hid hm
  clear hm
  skip
  go_enter Tryz.func104, Tryz.ntmps104
  go_wp2_with (first | ((with_reducible show wpList _ _ _ (⟨some 19, _, _, _, _, _⟩ :: _) _ _); refine wpList_min rfl (.tmp 18) (.const (.int .i64 10)) 3 3 rfl .i64 k 10 m rfl rfl HM.out ?_))
  go_ret
  exact ⟨rfl, rfl⟩
set_option linter.unusedVariables false in
set_option linter.unusedSimpArgs false in
set_option maxRecDepth 100000 in
set_option maxHeartbeats 16000000 in
theorem ksecs_o {s k m : Int} (w : World) (h3 : (s == 3) = false) (h1 : (s == 1) = false) (h2 : (s == 2) = false) (h4 : (s == 4) = false) (h5 : (s == 5) = false) (h6 : (s == 6) = false) (hm : (if (60 : Int) < k then 60 else k) = m) : Calls Tryz.prog 104 #[.int .i64 s, .int .i64 k] w fun e w' => e = .returned (.int .i64 m) ∧ w = w' := by
  have HM := Lib.hid hm
  clear hm
  skip
  go_enter Tryz.func104, Tryz.ntmps104
  go_wp2_with (first | ((with_reducible show wpList _ _ _ (⟨some 21, _, _, _, _, _⟩ :: _) _ _); refine wpList_min rfl (.tmp 20) (.const (.int .i64 60)) 3 3 rfl .i64 k 60 m rfl rfl HM.out ?_))
  go_ret
  exact ⟨rfl, rfl⟩
theorem ksecs_any (s k : Int) (w : World) : Calls Tryz.prog 104 #[.int .i64 s, .int .i64 k] w fun e w' => e = .returned (.int .i64 (secV s k)) ∧ w = w' := by
  have tr : ∀ j : Int, s = j → (s == j) = true := fun j h => beq_iff_eq.2 h
  have fa : ∀ j : Int, ¬ s = j → (s == j) = false := fun j h => beq_eq_false_iff_ne.2 h
  by_cases h : s = 3
  · rw [show secV s k = k by simp [secV, h]]; exact ksecs_3 w (tr 3 h)
  have n3 := h
  clear h
  by_cases h : s = 1
  · rw [show secV s k = if 240 < k then 240 else k by simp [secV, lim, h]]; exact ksecs_1 w (fa 3 n3) (tr 1 h) rfl
  have n1 := h
  clear h
  by_cases h : s = 2
  · rw [show secV s k = if 240 < k then 240 else k by simp [secV, lim, h]]; exact ksecs_2 w (fa 3 n3) (fa 1 n1) (tr 2 h) rfl
  have n2 := h
  clear h
  by_cases h : s = 4
  · rw [show secV s k = if 240 < k then 240 else k by simp [secV, lim, h]]; exact ksecs_4 w (fa 3 n3) (fa 1 n1) (fa 2 n2) (tr 4 h) rfl
  have n4 := h
  clear h
  by_cases h : s = 5
  · rw [show secV s k = if 10 < k then 10 else k by simp [secV, lim, h]]; exact ksecs_5 w (fa 3 n3) (fa 1 n1) (fa 2 n2) (fa 4 n4) (tr 5 h) rfl
  have n5 := h
  clear h
  by_cases h : s = 6
  · rw [show secV s k = if 10 < k then 10 else k by simp [secV, lim, h]]; exact ksecs_6 w (fa 3 n3) (fa 1 n1) (fa 2 n2) (fa 4 n4) (fa 5 n5) (tr 6 h) rfl
  have n6 := h
  clear h
  rw [show secV s k = if 60 < k then 60 else k by simp [secV, lim, n3, n1, n2, n4, n5, n6]]
  exact ksecs_o w (fa 3 n3) (fa 1 n1) (fa 2 n2) (fa 4 n4) (fa 5 n5) (fa 6 n6) rfl
open Go.RowKit

theorem np_k {lo gn gt gk : Nat} {w : World} {s : Ts} {k k' : Ks} {F : FuncId} {args : Array Value} {R : Ending} (h : Np lo gn gt gk w s k) (c : Calls Tryz.prog F args w fun e w' => e = R ∧ Tk lo gk w' k' ∧ Kap gk w w' ∧ Below lo w w') : Calls Tryz.prog F args w fun e w' => e = R ∧ Np lo gn gt gk w' s k' ∧ Fn gn gt gk w w' ∧ Below lo w w' :=
  c.mono fun _ _ x => ⟨x.1, (h.right x.2.1 x.2.2.1).1, (h.right x.2.1 x.2.2.1).2, x.2.2.2⟩
open Go.RowKit

set_option linter.unusedVariables false in
set_option linter.unusedSimpArgs false in
set_option maxRecDepth 100000 in
set_option maxHeartbeats 16000000 in
theorem tlive_old {lo gt : Nat} {s : Ts} {lw rm now : Int} {l os : List Mp} {p o sc un : Int} {i : Nat} {x : Mp} (t : Int) (w : World) (hT : Tp lo gt w s) (ha : s.adv t = ⟨lw, rm, now, l, os⟩) (hpo : okP p o) (hf : mfhas l (kn p o) = true) (hq : mfpos l (kn p o) = i) (hx : l[i]? = some x) (hk : (x.k == 1) = true) (hsc : secsB sc = true) (hu : now + sc = un) (hl : un ≤ x.u) : Calls Tryz.prog 67 #[.pointer (some ⟨gt, 0, none⟩), .int .i64 p, .int .i64 o, .int .i64 t, .int .i64 sc] w fun e w' => e = .returned (.bool false) ∧ Tp lo gt w' ⟨lw, rm, now, l, os⟩ ∧ Fap gt w w' ∧ Below lo w w' := by
  have hlo : lo ≤ w.heap.size := hT.lo_le
  have HLO := Lib.hid hlo
  have fr := Fap.refl gt w
  have HPO := Lib.hid hpo
  have HF := Lib.hid hf
  have HQ := Lib.hid hq
  clear hpo hf hq
  have HSC := Lib.hid hsc
  have HU := Lib.hid hu
  have HSR : Hid (1 ≤ sc ∧ sc ≤ 1000000000) := Lib.hid (by unfold secsB at hsc; simpa using hsc)
  clear hsc hu
  have bel := Below.refl lo w
  go_enter Tryz.func67, Tryz.ntmps67
  go_wp2_with fail
  with_reducible refine (tadv_any _ _ hT ha).mono ?_
  rintro e w1 ⟨rfl, hT_, f_, bb⟩
  replace fr := fr.trans f_
  clear hT
  have hT := hT_
  replace bel := bel.trans bb
  clear bb f_ hT_
  obtain ⟨A, n, c, mb, htb, otb, hM, own, hok⟩ := hT
  dsimp only at htb hM own
  have off_tb := ofs_type own htb (by decide)
  have hl := row_len (by decide) mpE_len own
  have HLL := Lib.hid hl
  have HOK := Lib.hid hok
  have H32 : Hid (n ≤ 1000) := Lib.hid (by have h1_ := hok.len; have h2_ := hok.r1; simp only at h1_ h2_; omega)
  have H128 : Hid (n ≤ 128) := Lib.hid (by have h1_ := hok.len; have h2_ := hok.r1; simp only at h1_ h2_; omega)
  clear hl hok
  have fo := fr.fo htb
  clear fr
  have hin_ : i < n := by have h1_ := (List.getElem?_eq_some_iff.1 hx).1; have h2_ := HLL.out; omega
  have i0 : (0 : Int) ≤ i := by omega
  have i1 : (i : Int) < n := by omega
  obtain ⟨gE, rfl, _⟩ := row_at own (by omega)
  have en := (owk_sle (by decide) mpE_len own).1
  have av_en_tb := owk_av own off_tb
  clear hin_
  have HX := Lib.hid hx
  clear hx
  have hk2 : (x.k != 1) = false := by unfold bne; rw [hk]; rfl
  have hw : IntKind.i64.wrap (now + sc) = un := by rw [← HU.out]; exact IntWalk.i64_in _ (by have h1_ := HOK.out.n0; have h2_ := HOK.out.n1; have h3_ := HSR.out; simp only at h1_ h2_; omega)
  go_wp2_with fail
  with_reducible refine (mat_some p o _ htb en av_en_tb HOK.out.srt HOK.out.okp HPO.out H32.out HQ.out HF.out HX.out).mono ?_
  rintro e w2 ⟨rfl, b2⟩
  replace htb := blk_u htb b2
  replace en := en.below b2
  replace own := owk_under own b2
  replace fo := fo.below b2
  replace hM := hM.below b2
  replace bel := bel.trans (b2.mono (Nat.le_trans hlo bel.size))
  clear b2
  go_wp2_with fail
  replace bel := bel.drew
  replace htb : w2.drew.heap[gt]? = _ := htb
  replace en := en.drew
  replace own := World.ownsRow.drew own
  replace fo := fo_drew fo
  replace hM := om_drew hM
  refine wp_region_held_drew (S := fun W => W.heap[gt]? = some (.cells #[.int .i64 lw, .int .i64 rm, .int .i64 now, .slice (some ⟨gE, 0, none⟩) n c, .map (some mb)] 76 (0, 0)) ∧ Sle mpE 9 W (some ⟨gE, 0, none⟩) (n) (c) (l)) (by kernel_rfl) ⟨htb, en⟩ (fun hH => ?_)
  generalize w2.drew = w3 at bel htb en own fo hM hH ⊢
  refine wpAnyH_take (i := 0) (v := ?_) rfl (by kernel_rfl) (by kernel_rfl) (by kernel_rfl) (fun _ _ _ h => h) (Or.inl ⟨by rfl, ?_⟩) hH ?_
  rotate_left
  · ((intro W hW; clear hW; go_simp) <;> with_reducible rfl)
  simp only [Act.put, List.getElem_toArray, List.getElem_cons_zero, List.setIfInBounds_toArray, List.set_cons_zero, List.set_cons_succ]
  refine wpAnyH_take (i := 1) (v := ?_) rfl (by kernel_rfl) (by kernel_rfl) (by kernel_rfl) (fun _ _ _ h => h) (Or.inl ⟨by rfl, ?_⟩) hH ?_
  rotate_left
  · ((intro W hW; clear hW; go_simp) <;> with_reducible rfl)
  simp only [sq3, sq4]
  refine wpAnyH_take (i := 2) (v := ?_) rfl (by kernel_rfl) (by kernel_rfl) (by kernel_rfl) (fun _ _ _ h => h) (Or.inl ⟨by rfl, ?_⟩) hH ?_
  rotate_left
  · ((intro W hW; clear hW; go_simp) <;> with_reducible rfl)
  simp only [sq3, sq4]
  refine wpAnyH_take (i := 3) (v := ?_) rfl (by kernel_rfl) (by kernel_rfl) (by kernel_rfl) (fun _ _ _ h => h) (Or.inl ⟨by rfl, ?_⟩) hH ?_
  rotate_left
  · ((intro W hW; clear hW; go_simp) <;> with_reducible rfl)
  simp only [sq3, sq4]
  refine wpAnyH_take (i := 4) (v := ?_) rfl (by kernel_rfl) (by kernel_rfl) (by kernel_rfl) (fun _ _ _ h => h) (Or.inl ⟨by rfl, ?_⟩) hH ?_
  rotate_left
  · ((intro W hW; clear hW; go_simp) <;> with_reducible rfl)
  simp only [sq3, sq4]
  refine wpAnyH_take (i := 5) (v := ?_) rfl (by kernel_rfl) (by kernel_rfl) (by kernel_rfl) (fun _ _ _ h => h) (Or.inl ⟨by rfl, ?_⟩) hH ?_
  rotate_left
  · ((intro W hW; clear hW; go_simp) <;> with_reducible rfl)
  simp only [sq3, sq4]
  refine wpAnyH_take (i := 6) (v := ?_) rfl (by kernel_rfl) (by kernel_rfl) (by kernel_rfl) (fun _ _ _ h => h) (Or.inl ⟨by rfl, ?_⟩) hH ?_
  rotate_left
  · ((intro W hW; have hk := Sle.zcell (hW.2) HX.out 7 _ rfl; clear hW; go_simp) <;> with_reducible rfl)
  simp only [sq3, sq4]
  refine wpAnyH_take (i := 7) (v := ?_) rfl (by kernel_rfl) (by kernel_rfl) (by kernel_rfl) (fun _ _ _ h => h) (Or.inl ⟨by rfl, ?_⟩) hH ?_
  rotate_left
  · ((intro W hW; clear hW; go_simp) <;> with_reducible rfl)
  simp only [sq3, sq4]
  refine wpAnyH_take (i := 8) (v := ?_) rfl (by kernel_rfl) (by kernel_rfl) (by kernel_rfl) (fun _ _ _ h => h) (Or.inl ⟨by rfl, ?_⟩) hH ?_
  rotate_left
  · ((intro W hW; clear hW; go_simp) <;> with_reducible rfl)
  simp only [sq3, sq4]
  refine wpAnyH_take (i := 9) (v := ?_) rfl (by kernel_rfl) (by kernel_rfl) (by kernel_rfl) (fun _ _ _ h => h) (Or.inl ⟨by rfl, ?_⟩) hH ?_
  rotate_left
  · ((intro W hW; clear hW; go_simp) <;> with_reducible rfl)
  simp only [sq3, sq4]
  refine wpAnyH_take (i := 10) (v := ?_) rfl (by kernel_rfl) (by kernel_rfl) (by kernel_rfl) (fun _ _ _ h => h) (Or.inl ⟨by rfl, ?_⟩) hH ?_
  rotate_left
  · ((intro W hW; clear hW; go_simp) <;> with_reducible rfl)
  simp only [sq3, sq4]
  refine wpAnyH_ready (rs := [11]) (by kernel_rfl) (by simp) ?_
  refine AllReadyH.cons (o := _) rfl (fun K hK => ?_) AllReadyH.nil
  simp only [sq3]
  go_simp
  with_reducible refine (secs_any _ HSC.out).mono ?_
  rintro e _ ⟨rfl, rfl⟩
  dsimp only
  refine hK.out _ _ ⟨htb, en⟩ (fun hH4 => ?_)
  clear hK K
  refine wpAnyH_take (i := 12) (v := ?_) rfl (by kernel_rfl) (by kernel_rfl) (by kernel_rfl) (fun _ _ _ h => h) (Or.inl ⟨by rfl, ?_⟩) hH4 ?_
  rotate_left
  · ((intro W hW; clear hW; go_simp) <;> with_reducible rfl)
  simp only [sq3, sq4]
  refine wpAnyH_take (i := 13) (v := ?_) rfl (by kernel_rfl) (by kernel_rfl) (by kernel_rfl) (fun _ _ _ h => h) (Or.inl ⟨by rfl, ?_⟩) hH4 ?_
  rotate_left
  · ((intro W hW; clear hW; go_simp) <;> with_reducible rfl)
  simp only [sq3, sq4]
  refine wpAnyH_take (i := 14) (v := ?_) rfl (by kernel_rfl) (by kernel_rfl) (by kernel_rfl) (fun _ _ _ h => h) (Or.inl ⟨by rfl, ?_⟩) hH4 ?_
  rotate_left
  · ((intro W hW; clear hW; go_simp) <;> with_reducible rfl)
  simp only [sq3, sq4]
  refine wpAnyH_take (i := 15) (v := ?_) rfl (by kernel_rfl) (by kernel_rfl) (by kernel_rfl) (fun _ _ _ h => h) (Or.inl ⟨by rfl, ?_⟩) hH4 ?_
  rotate_left
  · ((intro W hW; clear hW; go_simp) <;> with_reducible rfl)
  simp only [sq3, sq4]
  refine wpAnyH_take (i := 16) (v := ?_) rfl (by kernel_rfl) (by kernel_rfl) (by kernel_rfl) (fun _ _ _ h => h) (Or.inl ⟨by rfl, ?_⟩) hH4 ?_
  rotate_left
  · ((intro W hW; clear hW; go_simp) <;> with_reducible rfl)
  simp only [sq3, sq4]
  refine wpAnyH_take (i := 17) (v := ?_) rfl (by kernel_rfl) (by kernel_rfl) (by kernel_rfl) (fun _ _ _ h => h) (Or.inl ⟨by rfl, ?_⟩) hH4 ?_
  rotate_left
  · ((intro W hW; clear hW; go_simp) <;> with_reducible rfl)
  simp only [sq3, sq4]
  refine wpAnyH_take (i := 18) (v := ?_) rfl (by kernel_rfl) (by kernel_rfl) (by kernel_rfl) (fun _ _ _ h => h) (Or.inl ⟨by rfl, ?_⟩) hH4 ?_
  rotate_left
  · ((intro W hW; have hk := cell_lit (hW.1) 2 _ rfl; clear hW; go_simp) <;> with_reducible rfl)
  simp only [sq3, sq4]
  refine wpAnyH_take (i := 19) (v := ?_) rfl (by kernel_rfl) (by kernel_rfl) (by kernel_rfl) (fun _ _ _ h => h) (Or.inl ⟨by rfl, ?_⟩) hH4 ?_
  rotate_left
  · ((intro W hW; clear hW; go_simp) <;> with_reducible rfl)
  simp only [sq3, sq4]
  refine wpAnyH_take (i := 20) (v := ?_) rfl (by kernel_rfl) (by kernel_rfl) (by kernel_rfl) (fun _ _ _ h => h) (Or.inl ⟨by rfl, ?_⟩) hH4 ?_
  rotate_left
  · ((intro W hW; clear hW; go_simp) <;> with_reducible rfl)
  simp only [sq3, sq4]
  refine wpAnyH_take (i := 21) (v := ?_) rfl (by kernel_rfl) (by kernel_rfl) (by kernel_rfl) (fun _ _ _ h => h) (Or.inl ⟨by rfl, ?_⟩) hH4 ?_
  rotate_left
  · ((intro W hW; clear hW; go_simp) <;> with_reducible rfl)
  simp only [sq3, sq4]
  refine wpAnyH_take (i := 22) (v := ?_) rfl (by kernel_rfl) (by kernel_rfl) (by kernel_rfl) (fun _ _ _ h => h) (Or.inl ⟨by rfl, ?_⟩) hH4 ?_
  rotate_left
  · ((intro W hW; clear hW; go_simp) <;> with_reducible rfl)
  simp only [sq3, sq4]
  refine wpAnyH_take (i := 23) (v := ?_) rfl (by kernel_rfl) (by kernel_rfl) (by kernel_rfl) (fun _ _ _ h => h) (Or.inl ⟨by rfl, ?_⟩) hH4 ?_
  rotate_left
  · ((intro W hW; clear hW; go_simp) <;> with_reducible rfl)
  simp only [sq3, sq4]
  refine wpAnyH_take (i := 24) (v := ?_) rfl (by kernel_rfl) (by kernel_rfl) (by kernel_rfl) (fun _ _ _ h => h) (Or.inl ⟨by rfl, ?_⟩) hH4 ?_
  rotate_left
  · ((intro W hW; have hk := Sle.zcell (hW.2) HX.out 8 _ rfl; clear hW; go_simp) <;> with_reducible rfl)
  simp only [sq3, sq4]
  refine wpAnyH_take (i := 25) (v := ?_) rfl (by kernel_rfl) (by kernel_rfl) (by kernel_rfl) (fun _ _ _ h => h) (Or.inl ⟨by rfl, ?_⟩) hH4 ?_
  rotate_left
  · ((intro W hW; clear hW; go_simp) <;> with_reducible rfl)
  simp only [sq3, sq4]
  refine wpAnyH_take (i := 26) (v := ?_) rfl (by kernel_rfl) (by kernel_rfl) (by kernel_rfl) (fun _ _ _ h => h) (Or.inl ⟨by rfl, ?_⟩) hH4 ?_
  rotate_left
  · ((intro W hW; clear hW; go_simp) <;> with_reducible rfl)
  simp only [sq3, sq4]
  refine wpAnyH_done (by kernel_rfl) ?_ _
  go_wp2_with fail
  go_ret
  exact ⟨rfl, ⟨(some ⟨gE, 0, none⟩), n, c, mb, htb, otb, hM, own, HOK.out⟩, fo.fr htb, bel⟩
theorem lv_old {lo gt : Nat} {s s1 : Ts} {p o t sc : Int} {xp xo xi xk xu : Int} {xa : Ad4} {i : Nat} (w : World) (hT : Tp lo gt w s) (ha : s.adv t = s1) (hpo : okP p o) (hf : mfhas s1.l (kn p o) = true) (hq : mfpos s1.l (kn p o) = i) (hx : s1.l[i]? = some ⟨xp, xo, xa, xi, xk, xu⟩) (hk : (xk == 1) = true) (hsc : secsB sc = true) (hl : s1.now + sc ≤ xu) : Calls Tryz.prog 67 #[.pointer (some ⟨gt, 0, none⟩), .int .i64 p, .int .i64 o, .int .i64 t, .int .i64 sc] w fun e w' => e = .returned (.bool false) ∧ Tp lo gt w' s1 ∧ Fap gt w w' ∧ Below lo w w' := by
  obtain ⟨lw, rm, now, l, os⟩ := s1
  exact tlive_old t w hT ha hpo hf hq hx hk hsc rfl hl
open Go.RowKit

theorem list20 (l : List UInt8) (h : 20 ≤ l.length) : ∃ h0 h1 h2 h3 h4 h5 h6 h7 h8 h9 h10 h11 h12 h13 h14 h15 h16 h17 h18 h19 r, l = h0 :: h1 :: h2 :: h3 :: h4 :: h5 :: h6 :: h7 :: h8 :: h9 :: h10 :: h11 :: h12 :: h13 :: h14 :: h15 :: h16 :: h17 :: h18 :: h19 :: r := by
  rcases l with _ | ⟨x0, l⟩
  · simp at h
  rcases l with _ | ⟨x1, l⟩
  · simp at h
  rcases l with _ | ⟨x2, l⟩
  · simp at h
  rcases l with _ | ⟨x3, l⟩
  · simp at h
  rcases l with _ | ⟨x4, l⟩
  · simp at h
  rcases l with _ | ⟨x5, l⟩
  · simp at h
  rcases l with _ | ⟨x6, l⟩
  · simp at h
  rcases l with _ | ⟨x7, l⟩
  · simp at h
  rcases l with _ | ⟨x8, l⟩
  · simp at h
  rcases l with _ | ⟨x9, l⟩
  · simp at h
  rcases l with _ | ⟨x10, l⟩
  · simp at h
  rcases l with _ | ⟨x11, l⟩
  · simp at h
  rcases l with _ | ⟨x12, l⟩
  · simp at h
  rcases l with _ | ⟨x13, l⟩
  · simp at h
  rcases l with _ | ⟨x14, l⟩
  · simp at h
  rcases l with _ | ⟨x15, l⟩
  · simp at h
  rcases l with _ | ⟨x16, l⟩
  · simp at h
  rcases l with _ | ⟨x17, l⟩
  · simp at h
  rcases l with _ | ⟨x18, l⟩
  · simp at h
  rcases l with _ | ⟨x19, l⟩
  · simp at h
  exact ⟨_, _, _, _, _, _, _, _, _, _, _, _, _, _, _, _, _, _, _, _, _, rfl⟩
open Go.RowKit

theorem u8_yes_q (g : Nat) (ok : Nat → Prop) (l : List UInt8) (s : Bool) (w : World) (hr : Ro w 134 g ok l s) (hk : 1 ≤ l.length) :
    Calls Tryz.prog 42 #[.pointer (some ⟨g, 0, none⟩)] w fun e w' => e = .returned (.int .i64 (be (l.take 1))) ∧ Ro w' 134 g ok (l.drop 1) s ∧ w.grownBy w' (some g) := by
  have hlt := be_lt 1 (l.take 1) (by rw [List.length_take]; omega)
  have b1 : (be (l.take 1) : Int) < 256 := by omega
  have b0 : 0 ≤ (be (l.take 1) : Int) := by omega
  go_enter Tryz.func42, Tryz.ntmps42
  go_wp2_with (go_at_call 82; refine (number_yes_q g ok l s 1 _ hr hk (by omega) (by omega)).mono ?_; rintro e w1 ⟨rfl, hr1, hg1⟩)
  go_ret
  exact ⟨rfl, hr1, hg1⟩
theorem u32_yes_q (g : Nat) (ok : Nat → Prop) (l : List UInt8) (s : Bool) (w : World) (hr : Ro w 134 g ok l s) (hk : 4 ≤ l.length) :
    Calls Tryz.prog 44 #[.pointer (some ⟨g, 0, none⟩)] w fun e w' => e = .returned (.int .u32 (be (l.take 4))) ∧ Ro w' 134 g ok (l.drop 4) s ∧ w.grownBy w' (some g) := by
  go_enter Tryz.func44, Tryz.ntmps44
  go_wp2_with (go_at_call 82; refine (number_yes_q g ok l s 4 _ hr hk (by omega) (by omega)).mono ?_; rintro e w1 ⟨rfl, hr1, hg1⟩)
  go_ret
  exact ⟨rfl, hr1, hg1⟩
/-- Numbers at the front of a list. -/
theorem u8_q1 (g : Nat) (ok : Nat → Prop) (x : UInt8) (r : List UInt8) (s : Bool) (w : World) (hr : Ro w 134 g ok (x :: r) s) :
    Calls Tryz.prog 42 #[.pointer (some ⟨g, 0, none⟩)] w fun e w' => e = .returned (.int .i64 (x.toNat : Int)) ∧ Ro w' 134 g ok r s ∧ w.grownBy w' (some g) := by
  refine (u8_yes_q g ok (x :: r) s w hr (by simp)).mono ?_
  rintro e w' ⟨rfl, h1, h2⟩
  exact ⟨by simp [be], h1, h2⟩
theorem u32_q4 (g : Nat) (ok : Nat → Prop) (x y z u : UInt8) (r : List UInt8) (s : Bool) (w : World) (hr : Ro w 134 g ok (x :: y :: z :: u :: r) s) :
    Calls Tryz.prog 44 #[.pointer (some ⟨g, 0, none⟩)] w fun e w' => e = .returned (.int .u32 (be [x, y, z, u] : Nat)) ∧ Ro w' 134 g ok r s ∧ w.grownBy w' (some g) := u32_yes_q g ok (x :: y :: z :: u :: r) s w hr (by simp)
open Go.RowKit

theorem rd_u8c (x : UInt8) (r : List UInt8) (g : Nat) (A : Option Addr) (n c : Nat) (s : Bool) (w : World) (h : w.heap[g]? = some (.cells #[.slice A n c, .bool s] 134 (0, 0))) (hs : Sl w A n c (x :: r)) :
    Calls Tryz.prog 42 #[.pointer (some ⟨g, 0, none⟩)] w fun e w' => ∃ A' n' c', e = .returned (.int .i64 (x.toNat : Int)) ∧ w'.heap[g]? = some (.cells #[.slice A' n' c', .bool s] 134 (0, 0)) ∧ Sl w' A' n' c' r ∧ Sub A' n' A n ∧ w.grownBy w' (some g) := by
  refine (u8_q1 g _ x r s w (ro_in h hs)).mono ?_
  rintro e w' ⟨rfl, h1, h3⟩
  obtain ⟨A', n', c', h4, h5, h6⟩ := ro_out (n := n) (by have := hs.1; simp at this; omega) h1
  exact ⟨A', n', c', rfl, h4, h5, h6, h3⟩
theorem rd_u32c (x y z u : UInt8) (r : List UInt8) (g : Nat) (A : Option Addr) (n c : Nat) (s : Bool) (w : World) (h : w.heap[g]? = some (.cells #[.slice A n c, .bool s] 134 (0, 0))) (hs : Sl w A n c (x :: y :: z :: u :: r)) :
    Calls Tryz.prog 44 #[.pointer (some ⟨g, 0, none⟩)] w fun e w' => ∃ A' n' c', e = .returned (.int .u32 (be [x, y, z, u] : Nat)) ∧ w'.heap[g]? = some (.cells #[.slice A' n' c', .bool s] 134 (0, 0)) ∧ Sl w' A' n' c' r ∧ Sub A' n' A n ∧ w.grownBy w' (some g) := by
  refine (u32_q4 g _ x y z u r s w (ro_in h hs)).mono ?_
  rintro e w' ⟨rfl, h1, h3⟩
  obtain ⟨A', n', c', h4, h5, h6⟩ := ro_out (n := n) (by have := hs.1; simp at this; omega) h1
  exact ⟨A', n', c', rfl, h4, h5, h6, h3⟩
theorem rd_left (g : Nat) (A : Option Addr) (n c : Nat) (l : List UInt8) (s : Bool) (w : World) (h : w.heap[g]? = some (.cells #[.slice A n c, .bool s] 134 (0, 0))) (hs : Sl w A n c l) :
    Calls Tryz.prog 48 #[.pointer (some ⟨g, 0, none⟩)] w fun e w' => e = .returned (.int .i64 l.length) ∧ w = w' := left_any g l s w ⟨A, n, c, h, hs⟩
open Go.RowKit

/-- The length of the header that byte 12 tells. -/
def tcH (b : List UInt8) : Nat := (b.getD 12 0).toNat / 16 * 4
/-- The error of Get. -/
def tcErr (fl pt pr : Int) (a0 a1 a2 a3 a4 a5 a6 a7 : UInt8) (b : List UInt8) : Int :=
  if pr ≠ 6 then 1 else if ¬ (pt = 0 ∧ fl % 2 = 0) then 10 else if b.length < 20 then 3 else if tcH b < 20 then 4 else if b.length < tcH b then 3
  else if ck (l4Ps a0 a1 a2 a3 a4 a5 a6 a7 pr (b.length : Int) ++ b) ≠ 0 then 5 else 0
/-- A segment in lists: its numbers, its options, its body; an error. -/
abbrev SgL := List Int × (List UInt8 × List UInt8) × Int
def sgNone (er : Int) : SgL := ([0, 0, 0, 0, 0, 0, 0], ([], []), er)
def tcGet (fl pt pr : Int) (a0 a1 a2 a3 a4 a5 a6 a7 : UInt8) (b : List UInt8) : SgL :=
  if tcErr fl pt pr a0 a1 a2 a3 a4 a5 a6 a7 b ≠ 0 then sgNone (tcErr fl pt pr a0 a1 a2 a3 a4 a5 a6 a7 b)
  else ([(be (b.take 2) : Nat), (be ((b.drop 2).take 2) : Nat), (be ((b.drop 4).take 4) : Nat), (be ((b.drop 8).take 4) : Nat), ((b.getD 13 0).toNat % 64 : Nat), (be ((b.drop 14).take 2) : Nat), (be ((b.drop 18).take 2) : Nat)], ((b.drop 20).take (tcH b - 20), b.drop (tcH b)), 0)
/-- The bytes of a segment: ahead of the sum, the sum, behind it. -/
def tcA (sf st se ak : Int) (nq : Nat) (fg wn : Int) : List UInt8 := two sf ++ two st ++ four se ++ four ak ++ [byteOf (80 + 4 * (nq : Int)), byteOf fg] ++ two wn
def tcSum (a0 a1 a2 a3 a4 a5 a6 a7 : UInt8) (sf st se ak fg wn ug : Int) (q b : List UInt8) : Int :=
  ck [l4Ps a0 a1 a2 a3 a4 a5 a6 a7 6 (20 + (q.length : Int) + (b.length : Int)), tcA sf st se ak q.length fg wn, two ug ++ q ++ b].flatten
def tcBytes (a0 a1 a2 a3 a4 a5 a6 a7 : UInt8) (sf st se ak fg wn ug : Int) (q b : List UInt8) : List UInt8 :=
  tcA sf st se ak q.length fg wn ++ two (tcSum a0 a1 a2 a3 a4 a5 a6 a7 sf st se ak fg wn ug q b) ++ (two ug ++ q ++ b)
def inOk (m v : Int) : Bool := decide (0 ≤ v) && decide (v ≤ m)
def segOk (sf st fg wn ug : Int) (nq : Nat) : Bool := inOk 65535 sf && inOk 65535 st && inOk 63 fg && inOk 65535 wn && inOk 65535 ug && decide (nq ≤ 40) && decide (nq % 4 = 0)
def tcPut (tos id fl pt ttl : Int) (a0 a1 a2 a3 a4 a5 a6 a7 : UInt8) (lo : List UInt8) (sf st se ak fg wn ug : Int) (q b : List UInt8) : PkL :=
  if segOk sf st fg wn ug q.length = false then pkNone 1 else if 1460 < q.length + b.length then pkNone 2 else (([tos, id, fl, pt, ttl, 6], [a0, a1, a2, a3, a4, a5, a6, a7]), (lo, tcBytes a0 a1 a2 a3 a4 a5 a6 a7 sf st se ak fg wn ug q b), 0)
theorem tcA_len (sf st se ak : Int) (nq : Nat) (fg wn : Int) : (tcA sf st se ak nq fg wn).length = 16 := rfl
theorem tcBytes_len (a0 a1 a2 a3 a4 a5 a6 a7 : UInt8) (sf st se ak fg wn ug : Int) (q b : List UInt8) : (tcBytes a0 a1 a2 a3 a4 a5 a6 a7 sf st se ak fg wn ug q b).length = 20 + q.length + b.length := by
  simp [tcBytes, tcA_len, two]
  omega
/-- What Get answers. -/
def SgPost (R : SgL) (w : World) (e : Ending) (w' : World) : Prop :=
  ∃ (f0 f1 f2 f3 f4 f5 f6 : Int) (lq lb : List UInt8) (Aq Ab : Option Addr) (cq cb : Nat) (er : Int), e = .returned (.tuple #[.agg #[.int .i64 f0, .int .i64 f1, .int .u32 f2, .int .u32 f3, .int .i64 f4, .int .i64 f5, .int .i64 f6, .slice Aq lq.length cq, .slice Ab lb.length cb], .int .i64 er]) ∧ Sl w' Aq lq.length cq lq ∧ Sl w' Ab lb.length cb lb ∧ Fr w.heap.size Aq lq.length ∧ Fr w.heap.size Ab lb.length ∧ Below w.heap.size w w' ∧ ([f0, f1, f2, f3, f4, f5, f6], (lq, lb), er) = R
theorem SgPost.none {er : Int} {R : SgL} {w w' : World} (h : sgNone er = R) (b : Below w.heap.size w w') : SgPost R w (.returned (.tuple #[.agg #[.int .i64 0, .int .i64 0, .int .u32 0, .int .u32 0, .int .i64 0, .int .i64 0, .int .i64 0, .slice Option.none 0 0, .slice Option.none 0 0], .int .i64 er])) w' :=
  ⟨0, 0, 0, 0, 0, 0, 0, [], [], Option.none, Option.none, 0, 0, er, rfl, Sl.nil _, Sl.nil _, fun h => absurd h (by simp), fun h => absurd h (by simp), b, h⟩
theorem tc_at {fl pt : Int} {a0 a1 a2 a3 a4 a5 a6 a7 : UInt8} {h0 h1 h2 h3 h4 h5 h6 h7 h8 h9 h10 h11 h12 h13 h14 h15 h16 h17 h18 h19 : UInt8} {r : List UInt8} {hd : Nat} (hh : h12.toNat / 16 * 4 = hd) (hw : (decide (pt = 0) && decide (fl % 2 = 0)) = true) : tcErr fl pt 6 a0 a1 a2 a3 a4 a5 a6 a7 (h0 :: h1 :: h2 :: h3 :: h4 :: h5 :: h6 :: h7 :: h8 :: h9 :: h10 :: h11 :: h12 :: h13 :: h14 :: h15 :: h16 :: h17 :: h18 :: h19 :: r) =
    if hd < 20 then 4 else if (h0 :: h1 :: h2 :: h3 :: h4 :: h5 :: h6 :: h7 :: h8 :: h9 :: h10 :: h11 :: h12 :: h13 :: h14 :: h15 :: h16 :: h17 :: h18 :: h19 :: r).length < hd then 3 else if ck (l4Ps a0 a1 a2 a3 a4 a5 a6 a7 6 ((h0 :: h1 :: h2 :: h3 :: h4 :: h5 :: h6 :: h7 :: h8 :: h9 :: h10 :: h11 :: h12 :: h13 :: h14 :: h15 :: h16 :: h17 :: h18 :: h19 :: r).length : Int) ++ (h0 :: h1 :: h2 :: h3 :: h4 :: h5 :: h6 :: h7 :: h8 :: h9 :: h10 :: h11 :: h12 :: h13 :: h14 :: h15 :: h16 :: h17 :: h18 :: h19 :: r)) ≠ 0 then 5 else 0 := by
  subst hh
  unfold tcErr
  rw [if_neg (by decide), if_neg (by simpa using hw), if_neg (by simp)]
  rfl
theorem tc_ok {fl pt pr : Int} {a0 a1 a2 a3 a4 a5 a6 a7 : UInt8} {h0 h1 h2 h3 h4 h5 h6 h7 h8 h9 h10 h11 h12 h13 h14 h15 h16 h17 h18 h19 : UInt8} {r : List UInt8} {hd k : Nat} (e : tcErr fl pt pr a0 a1 a2 a3 a4 a5 a6 a7 (h0 :: h1 :: h2 :: h3 :: h4 :: h5 :: h6 :: h7 :: h8 :: h9 :: h10 :: h11 :: h12 :: h13 :: h14 :: h15 :: h16 :: h17 :: h18 :: h19 :: r) = 0) (hh : h12.toNat / 16 * 4 = hd) (hk : hd = k + 20) : tcGet fl pt pr a0 a1 a2 a3 a4 a5 a6 a7 (h0 :: h1 :: h2 :: h3 :: h4 :: h5 :: h6 :: h7 :: h8 :: h9 :: h10 :: h11 :: h12 :: h13 :: h14 :: h15 :: h16 :: h17 :: h18 :: h19 :: r) = ([((be [h0, h1] : Nat) : Int), ((be [h2, h3] : Nat) : Int), ((be [h4, h5, h6, h7] : Nat) : Int), ((be [h8, h9, h10, h11] : Nat) : Int), ((h13.toNat % 64 : Nat) : Int), ((be [h14, h15] : Nat) : Int), ((be [h18, h19] : Nat) : Int)], (r.take k, r.drop k), 0) := by
  unfold tcGet
  rw [if_neg (by rw [e]; decide)]
  have e1 : tcH (h0 :: h1 :: h2 :: h3 :: h4 :: h5 :: h6 :: h7 :: h8 :: h9 :: h10 :: h11 :: h12 :: h13 :: h14 :: h15 :: h16 :: h17 :: h18 :: h19 :: r) - 20 = k := by
    show h12.toNat / 16 * 4 - 20 = k
    omega
  have e2 : tcH (h0 :: h1 :: h2 :: h3 :: h4 :: h5 :: h6 :: h7 :: h8 :: h9 :: h10 :: h11 :: h12 :: h13 :: h14 :: h15 :: h16 :: h17 :: h18 :: h19 :: r) = k + 20 := by
    show h12.toNat / 16 * 4 = k + 20
    omega
  rw [e1, e2]
  have e3 : (h0 :: h1 :: h2 :: h3 :: h4 :: h5 :: h6 :: h7 :: h8 :: h9 :: h10 :: h11 :: h12 :: h13 :: h14 :: h15 :: h16 :: h17 :: h18 :: h19 :: r).drop (k + 20) = r.drop k := rfl
  rw [e3]
  rfl
open Go.RowKit

theorem w32_oto (A : Option Addr) (n m c : Nat) (l : List UInt8) (v0 : Int) (w : World) (h0 : 0 ≤ v0) (h1 : v0 < 4294967296) (hm : n + 4 = m) (hl : Sl w A n c l) (hs : n + 4 ≤ 140737488355328) :
    Calls Tryz.prog 78 #[.slice A n c, .int .u32 v0] w fun e w' => ∃ v, e = .returned v ∧ w'.ownsRow w.heap.size 5 1 v m ((l ++ four v0).map u8v) ∧ Below w.heap.size w w' := by
  subst hm; exact w32_o A n c l v0 w h0 h1 hl hs
theorem i64_and63 (n : Int) : bits .and .i64 n 63 = n % 64 := by
  have hm : (BitVec.ofInt 64 63).toNat = 2 ^ 6 - 1 := by decide
  have key : (BitVec.ofInt 64 n &&& BitVec.ofInt 64 63).toNat = (n % ((2 ^ 64 : Nat) : Int)).toNat % 2 ^ 6 := by
    rw [BitVec.toNat_and, BitVec.toNat_ofInt, hm, Nat.and_two_pow_sub_one_eq_mod]
  show IntKind.i64.wrap ((BitVec.ofInt 64 n &&& BitVec.ofInt 64 63).toNat : Nat) = n % 64
  rw [key, IntKind.wrap_i64]
  omega
end Go.Proofs.YtbdaejodbcjmfaaGreat
