/- Texts put together: Mem, Walks, Vfr, Sum, Udl, Rd2, Ud2, Udf, Na1, Na2, Na3, Opens. -/
import Derived.Test.YtbdaejodbcjmfaaGreatQ1
import Derived.Test.YtbdaejodbcjmfaaGreatQ2
import Derived.Test.YtbdaejodbcjmfaaGreatQ3
import Derived.Test.YtbdaejodbcjmfaaGreatQ4
import Derived.Test.YtbdaejodbcjmfaaGreatQ5
import Derived.Test.YtbdaejodbcjmfaaGreatQ6
import Derived.Test.YtbdaejodbcjmfaaGreatQ7
import Derived.Test.YtbdaejodbcjmfaaGreatQ8
import Derived.Test.YtbdaejodbcjmfaaGreatQ9
import Derived.Test.YtbdaejodbcjmfaaGreatQ10
import Derived.Test.YtbdaejodbcjmfaaGreatQ11
import Derived.Test.YtbdaejodbcjmfaaGreatQ12
import Derived.Test.YtbdaejodbcjmfaaGreatQ13
namespace Go.Proofs.YtbdaejodbcjmfaaGreat
open Go.RowKit
open Go.RowKit

theorem set_second {w : World} {T : TypeId} {g : Nat} {x y u : Value} (h : w.heap[g]? = some (.cells #[x, y] T (0, 0))) : (w.setCell ⟨g, 1, none⟩ u).heap[g]? = some (.cells #[x, u] T (0, 0)) := by
  simp [World.setCell, Array.getElem?_modify, h]
/-- A slice of bytes that came in, as a row's opening tells it. -/
theorem sl_of_row {w : World} {a : Option Addr} {len cap : Nat} {zs : List Int}
    (h : (a = none ∧ len = 0 ∧ cap = 0 ∧ zs = []) ∨ ∃ x, a = some x ∧ len ≤ cap ∧ cap ≤ maxLen ∧ zs.length = cap ∧ (∀ i, i < zs.length → w.cell? (x.add i) = some (.int .u8 (zs.getD i 0))) ∧ ∀ n ∈ zs, (Lit.int .u8 n).wf = true) :
    ∃ l, Sl w a len cap l := by
  rcases h with ⟨rfl, rfl, rfl, rfl⟩ | ⟨x, rfl, hl, hm, hz, hcell, hwz⟩
  · exact ⟨[], Sl.nil w⟩
  · refine ⟨(zs.take len).map byteOf, by simp; omega, hl, hm, fun hn => ?_⟩
    have hb : ∀ n ∈ zs, ((byteOf n).toNat : Int) = n := by
      intro n hn
      have h := hwz n hn
      simp [Lit.wf, IntKind.min, IntKind.max, IntKind.signed, IntKind.bits] at h
      rw [byteOf_val]; omega
    obtain ⟨b, off, spot⟩ := x
    have h0 := hcell 0 (by omega)
    have hspot : spot = none := by simpa [Addr.add] using World.cell?_spot h0
    subst hspot
    refine ⟨b, off, rfl, fun j u hj => ?_⟩
    have hjl : j < zs.length := by
      have := (List.getElem?_eq_some_iff.1 hj).1
      simp at this; omega
    have hc := hcell j hjl
    rw [Addr.add_lit] at hc
    rw [hc]
    rw [List.getElem?_map, List.getElem?_take] at hj
    split at hj
    · rw [List.getElem?_eq_getElem hjl] at hj
      simp only [Option.map_some, Option.some.injEq] at hj
      subst hj
      simp [u8v, hb _ (List.getElem_mem hjl), List.getD, List.getElem?_eq_getElem hjl]
    · simp at hj

open Go.RowKit

theorem take_no (g : Nat) (l : List UInt8) (s : Bool) (k : Int) (w : World) (hr : Rd w 134 g l s) (hk : k < 0 ∨ l.length < k) :
    Calls Tryz.prog 84 #[.pointer (some ⟨g, 0, none⟩), .int .i64 k] w fun e w' => e = .returned (.slice none 0 0) ∧ Rd w' 134 g [] true ∧ w.grownBy w' (some g) := by
  have hr' := hr
  obtain ⟨A, n, c, hb, hsl⟩ := hr'
  have hn := hsl.1
  obtain ⟨hc0, hc1⟩ := cell_of_rd hb
  have hf0 : w.frozen? ⟨g, 0, none⟩ = false := by simp [World.frozen?, hb]
  have hf1 : w.frozen? ⟨g, 1, none⟩ = false := by simp [World.frozen?, hb]
  have hg : w.grownBy ((w.setCell ⟨g, 0, none⟩ (.slice none 0 0)).setCell ⟨g, 1, none⟩ (.bool true)) (some g) := grown_set (grown_set (World.grownBy.refl w _) 0 _) 1 _
  have R : Rd ((w.setCell ⟨g, 0, none⟩ (.slice none 0 0)).setCell ⟨g, 1, none⟩ (.bool true)) 134 g [] true := hr.set hg (set_second (set_first hb)) (Sl.nil w)
  by_cases h0 : k < 0
  · clear hn hb
    go_enter Tryz.func84, Tryz.ntmps84
    go_wp2
    go_ret
    exact ⟨rfl, R, hg⟩
  · have h1 : (n : Int) < k := by omega
    clear hn hb
    go_enter Tryz.func84, Tryz.ntmps84
    go_wp2
    go_ret
    exact ⟨rfl, R, hg⟩

theorem number_no (g : Nat) (l : List UInt8) (s : Bool) (k : Nat) (w : World) (hr : Rd w 134 g l s) (hk : l.length < k) :
    Calls Tryz.prog 82 #[.pointer (some ⟨g, 0, none⟩), .int .i64 k] w fun e w' => e = .returned (.int .u32 0) ∧ Rd w' 134 g [] true ∧ w.grownBy w' (some g) := by
  go_enter Tryz.func82, Tryz.ntmps82
  go_wp2_with (go_at_call 84; refine (take_no g l s k _ hr (by omega)).mono ?_; rintro e w1 ⟨rfl, hr1, hg1⟩)
  refine wp_loop_rounds 1 ?_
  rw [rounds_succ]
  go_wp2
  go_ret
  exact ⟨rfl, hr1, hg1⟩

theorem u16_no (g : Nat) (l : List UInt8) (s : Bool) (w : World) (hr : Rd w 134 g l s) (hk : l.length < 2) :
    Calls Tryz.prog 43 #[.pointer (some ⟨g, 0, none⟩)] w fun e w' => e = .returned (.int .i64 0) ∧ Rd w' 134 g [] true ∧ w.grownBy w' (some g) := by
  go_enter Tryz.func43, Tryz.ntmps43
  go_wp2_with (go_at_call 82; refine (number_no g l s 2 _ hr hk).mono ?_; rintro e w1 ⟨rfl, hr1, hg1⟩)
  go_ret
  exact ⟨rfl, hr1, hg1⟩
open Go.RowKit

/-- Rows of bytes of the call's own: where they lie, a store into them. -/
theorem own_at {w : World} {B : Nat} {T : TypeId} {v : Value} {n : Nat} {l : List UInt8} (h : w.ownsRow B T 1 v n (l.map u8v)) (hn : 0 < n) : ∃ g c, v = .slice (some ⟨g, 0, none⟩) n c ∧ B ≤ g ∧ g < w.heap.size ∧ n ≤ c ∧ c ≤ maxLen := by
  rcases h.2 with ⟨_, rfl⟩ | ⟨g, cap, cur, rfl, hb, hh, hnc, hm, _⟩
  · omega
  · exact ⟨g, cap, rfl, hb, (Array.getElem?_eq_some_iff.1 hh).1, hnc, hm⟩
theorem own_byte {w : World} {B : Nat} {T : TypeId} {g n c j : Nat} {l : List UInt8} {x : UInt8} (h : w.ownsRow B T 1 (.slice (some ⟨g, 0, none⟩) n c) n (l.map u8v)) (hx : l[j]? = some x) : w.cell? ⟨g, j, none⟩ = some (.int .u8 (x.toNat : Int)) := by
  have hl : l.length = n := by simpa using h.1
  have hj : j < l.length := (List.getElem?_eq_some_iff.1 hx).1
  rw [h.cellAt j (by omega), List.getElem?_map, hx]
  rfl
theorem wp_store_byte {P : Program} {o : Oper} {a : Act} {w : World} {K : Act → World → Prop} {Q : Exit → Act → World → Prop} (ty : TypeId) (x y : Operand) (ho : o.op = .store ty x y)
    (B : Nat) (T : TypeId) (g j n c : Nat) (l : List UInt8) (b : UInt8) (hx : a.eval x = .pointer (some ⟨g, j, none⟩)) (hy : a.eval y = .int .u8 (b.toNat : Int)) (hown : w.ownsRow B T 1 (.slice (some ⟨g, 0, none⟩) n c) n (l.map u8v)) (hj : j < n)
    (hi : (P.info? ty).map (·.size) = some 1)
    (h : ∀ w', w'.ownsRow B T 1 (.slice (some ⟨g, 0, none⟩) n c) n ((l.set j b).map u8v) → w.grownBy w' (some g) → K (a.put o.dst undef) w') : Oper.wp P o a w K Q := by
  have hl : l.length = n := by simpa using hown.1
  have hc : w.cell? ⟨g, j, none⟩ = some (u8v l[j]) := by
    rw [hown.cellAt j (by omega)]
    simp [hl, hj]
  have hf : w.frozen? ⟨g, j, none⟩ = false := hown.frozenAt j
  have hs := hown.stored j (u8v b)
  rw [show (l.map u8v).set j (u8v b) = (l.set j b).map u8v by rw [List.map_set]] at hs
  have hr : (Instr.storeAt ty (.pointer (some ⟨g, j, none⟩)) (.int .u8 (b.toNat : Int))).run P w = .ok () (w.setCell ⟨g, j, none⟩ (u8v b)) := by
    have := run_storeCells_cells (P := P) g j [u8v b] 0 w (fun i hi => by
      have : i = 0 := by simp at hi; omega
      subst this
      simp only [Nat.add_zero, hc]; rfl) (fun i hi => by
      have : i = 0 := by simp at hi; omega
      subst this
      simp only [Nat.add_zero, hf]) (fun v hv => by simp at hv; subst hv; rfl)
    simp only [Nat.add_zero] at this
    cases hq : P.info? ty with
    | none => simp [hq] at hi
    | some i =>
      have hs1 : i.size = 1 := by simpa [hq] using hi
      have hcs : (Value.int .u8 (b.toNat : Int)).cells = #[u8v b] := rfl
      simp [Instr.storeAt, Instr.sureAddr, Sem.run_bind, Sem.run_pure, storeVar, sizeOf, typeInfo, hq, hcs, hs1, this, World.setCells]
  unfold Oper.wp execOp
  simp only [ho, hx, hy, Sem.run_bind, Sem.run_pure, Result.andThen_ok, hr]
  exact h _ hs.1 hs.2
theorem wpList_store_byte {P : Program} {ops : Array Oper} {rest : List Oper} {o : Oper} {a : Act} {w : World} {Q : Exit → Act → World → Prop} (hgd : o.guard = none) (ty : TypeId) (x y : Operand) (ho : o.op = .store ty x y)
    (B : Nat) (T : TypeId) (g j n c : Nat) (l : List UInt8) (b : UInt8) (hx : a.eval x = .pointer (some ⟨g, j, none⟩)) (hy : a.eval y = .int .u8 (b.toNat : Int)) (hown : w.ownsRow B T 1 (.slice (some ⟨g, 0, none⟩) n c) n (l.map u8v)) (hj : j < n)
    (hi : (P.info? ty).map (·.size) = some 1)
    (h : ∀ w', w'.ownsRow B T 1 (.slice (some ⟨g, 0, none⟩) n c) n ((l.set j b).map u8v) → w.grownBy w' (some g) → wpList P ops Q rest (a.put o.dst undef) w') : wpList P ops Q (o :: rest) a w :=
  wpList_plain hgd fun _ hK => wp_store_byte ty x y ho B T g j n c l b hx hy hown hj hi (fun w' h1 h2 => hK _ _ (h w' h1 h2))
theorem ws_set : ∀ (l : List UInt8) (j : Nat) (x b : UInt8) (h : Bool), l[j]? = some x → ws h (l.set j b) + (if par h j then 256 else 1) * x.toNat = ws h l + (if par h j then 256 else 1) * b.toNat := by
  intro l
  induction l with
  | nil => intro j x b h hj; simp at hj
  | cons a l ih =>
    intro j x b h hj
    cases j with
    | zero =>
      obtain rfl : a = x := by simpa using hj
      cases h <;> simp [par, ws] <;> omega
    | succ j =>
      have hj' : l[j]? = some x := by simpa using hj
      have e := ih j x b (!h) hj'
      have ep : par h (j + 1) = par (!h) j := by rw [par_succ, par_not]
      rw [ep, List.set_cons_succ]
      cases h
      · rw [ws, ws]; simp only [Bool.not_false] at e ⊢; omega
      · rw [ws, ws]; simp only [Bool.not_true] at e ⊢; omega
/-- With one bit turned they don't. -/
theorem bit_turned : ∀ (x : Fin 256) (r : Fin 8), (x.val ^^^ 2 ^ r.val = x.val + 2 ^ r.val) ∨ (x.val = (x.val ^^^ 2 ^ r.val) + 2 ^ r.val) := by decide +kernel
theorem seal_spoilt (l : List UInt8) (j r : Nat) (x b : UInt8) (h : l[j]? = some x) (hr : r < 8) (hb : b.toNat = x.toNat ^^^ 2 ^ r) (hz : ck l = 0) : ck (l.set j b) ≠ 0 := by
  have e := ws_set l j x b true h
  have ht := bit_turned ⟨x.toNat, x.toNat_lt⟩ ⟨r, hr⟩
  simp only at ht
  rw [← hb] at ht
  rw [ck_zero] at hz
  intro hc
  rw [ck_zero] at hc
  have h2 : (2 : Nat) ^ r = 1 ∨ (2 : Nat) ^ r = 2 ∨ (2 : Nat) ^ r = 4 ∨ (2 : Nat) ^ r = 8 ∨ (2 : Nat) ^ r = 16 ∨ (2 : Nat) ^ r = 32 ∨ (2 : Nat) ^ r = 64 ∨ (2 : Nat) ^ r = 128 := by
    match r, hr with
    | 0, _ => simp
    | 1, _ => simp
    | 2, _ => simp
    | 3, _ => simp
    | 4, _ => simp
    | 5, _ => simp
    | 6, _ => simp
    | 7, _ => simp
  generalize (2 : Nat) ^ r = q at *
  have hx := x.toNat_lt
  have hbl := b.toNat_lt
  cases hp : par true j <;> rw [hp] at e <;> simp only [if_true, Bool.false_eq_true, if_false] at e <;> omega

open Go.RowKit

theorem l4Ps_len (a0 a1 a2 a3 a4 a5 a6 a7 : UInt8) (pr k : Int) : (l4Ps a0 a1 a2 a3 a4 a5 a6 a7 pr k).length = 12 := rfl
theorem ud_err {fl pt pr : Int} {a0 a1 a2 a3 a4 a5 a6 a7 : UInt8} {b : List UInt8} {er : Int} (e : udErr fl pt pr a0 a1 a2 a3 a4 a5 a6 a7 b = er) (h : er ≠ 0) : udGet fl pt pr a0 a1 a2 a3 a4 a5 a6 a7 b = ((0, 0), [], er) := by
  unfold udGet
  rw [if_pos (by rw [e]; exact h), e]
open Go.RowKit

/-- Two bytes, whether there are as many or not. -/
theorem rd_u16 (g : Nat) (A : Option Addr) (n c : Nat) (l : List UInt8) (s : Bool) (w : World) (h : w.heap[g]? = some (.cells #[.slice A n c, .bool s] 134 (0, 0))) (hs : Sl w A n c l) :
    Calls Tryz.prog 43 #[.pointer (some ⟨g, 0, none⟩)] w fun e w' => ∃ A' n' c', e = .returned (.int .i64 (if l.length < 2 then 0 else be (l.take 2) : Nat)) ∧ w'.heap[g]? = some (.cells #[.slice A' n' c', .bool (s || decide (l.length < 2))] 134 (0, 0)) ∧ Sl w' A' n' c' (l.drop 2) ∧ Sub A' n' A n ∧ w.grownBy w' (some g) := by
  by_cases hk : l.length < 2
  · refine (u16_no g l s w ⟨A, n, c, h, hs⟩ hk).mono ?_
    rintro e w' ⟨rfl, ⟨A', n', c', h1, h2⟩, h3⟩
    have hd : l.drop 2 = [] := List.drop_eq_nil_of_le (by omega)
    rw [if_pos hk, decide_eq_true hk, Bool.or_true, hd]
    exact ⟨A', n', c', rfl, h1, h2, fun h0 => absurd h2.1 (by simp; omega), h3⟩
  · refine (u16_yes_q g _ l s w (ro_in h hs) (by omega)).mono ?_
    rintro e w' ⟨rfl, h1, h3⟩
    rw [if_neg hk, decide_eq_false hk, Bool.or_false]
    obtain ⟨A', n', c', h4, h5, h6⟩ := ro_out (n := n) (by rw [List.length_drop]; have := hs.1; omega) h1
    exact ⟨A', n', c', rfl, h4, h5, h6, h3⟩
theorem rd_u16e (g : Nat) (A : Option Addr) (n c : Nat) (l : List UInt8) (s : Bool) (w : World) (h : w.heap[g]? = some (.cells #[.slice A n c, .bool s] 134 (0, 0))) (hs : Sl w A n c l) :
    Calls Tryz.prog 43 #[.pointer (some ⟨g, 0, none⟩)] w fun e w' => ∃ A' n' c', ∃ (x : Nat) (s' : Bool), Hid (s' = (s || decide (l.length < 2))) ∧ e = .returned (.int .i64 x) ∧ w'.heap[g]? = some (.cells #[.slice A' n' c', .bool s'] 134 (0, 0)) ∧ Sl w' A' n' c' (l.drop 2) ∧ Sub A' n' A n ∧ w.grownBy w' (some g) := by
  refine (rd_u16 g A n c l s w h hs).mono ?_
  rintro e w' ⟨A', n', c', rfl, h1, h2, h3, h4⟩
  exact ⟨A', n', c', _, _, Lib.hid rfl, rfl, h1, h2, h3, h4⟩
open Go.RowKit

set_option maxRecDepth 100000 in
set_option maxHeartbeats 16000000 in
theorem udget_1 (tos id fl pt ttl pr : Int) (a0 a1 a2 a3 a4 a5 a6 a7 : UInt8) (So Sb : Option Addr) (no co nb cb : Nat) (lb : List UInt8) (w : World) (hp : pr ≠ 17) : Calls Tryz.prog 24 #[.agg #[.int .i64 tos, .int .i64 id, .int .i64 fl, .int .i64 pt, .int .i64 ttl, .int .i64 pr, .int .u8 (a0.toNat : Int), .int .u8 (a1.toNat : Int), .int .u8 (a2.toNat : Int), .int .u8 (a3.toNat : Int), .int .u8 (a4.toNat : Int), .int .u8 (a5.toNat : Int), .int .u8 (a6.toNat : Int), .int .u8 (a7.toNat : Int), .slice So no co, .slice Sb nb cb]] w (UdPost (udGet fl pt pr a0 a1 a2 a3 a4 a5 a6 a7 (lb)) w) := by
  have HP : Hid (udGet fl pt pr a0 a1 a2 a3 a4 a5 a6 a7 (lb) = ((0, 0), [], 1)) := Lib.hid (ud_err (by exact if_pos hp) (by decide))
  have t0 : (pr == 17) = false := by simpa using hp
  have t1 : (pr != 17) = true := by simpa using hp
  clear hp
  have bel := Below.refl w.heap.size w
  go_enter Tryz.func24, Tryz.ntmps24
  go_wp2_with (first | ((with_reducible show wpList _ _ _ (⟨some 1, _, _, _, _, _⟩ :: _) _ _); refine wpList_box_n rfl 38 (.tmp 0) rfl #[.int .i64 tos, .int .i64 id, .int .i64 fl, .int .i64 pt, .int .i64 ttl, .int .i64 pr, .int .u8 (a0.toNat : Int), .int .u8 (a1.toNat : Int), .int .u8 (a2.toNat : Int), .int .u8 (a3.toNat : Int), .int .u8 (a4.toNat : Int), .int .u8 (a5.toNat : Int), .int .u8 (a6.toNat : Int), .int .u8 (a7.toNat : Int), .slice So no co, .slice Sb nb cb] rfl ?_; intro g1 w1 ge lt hh bb; have op := Nat.le_trans bel.size ge; replace bel := bel.trans (bb.mono bel.size); have hp := hh; clear hh lt ge bb) | ((with_reducible show wpList _ _ _ (⟨some 2, _, _, _, _, _⟩ :: _) _ _); refine wpList_new_a rfl 54 rfl #[.int .i64 0, .int .i64 0, .slice none 0 0] (by kernel_rfl) ?_; intro g2 w2 ge hh bb; have d_p_z := ne_new (hlt hp) ge; have oz := Nat.le_trans bel.size ge; replace hp := blk_u hp bb; replace bel := bel.trans (bb.mono bel.size); have hz := hh; clear hh ge bb; have R9 := cell_lit hp 5 _ rfl) | ((with_reducible show wpList _ _ _ (⟨none, Op.store _ (.tmp 2) _, _, _, _, _⟩ :: _) _ _); refine wpList_store_blk rfl 54 (.tmp 2) (.tmp 11) rfl g2 rfl _ rfl _ 54 hz (by rfl) (by kernel_rfl) (by kernel_rfl) ?_; intro w3 hq gr; replace hp := blk_a hp gr d_p_z; replace bel := below_grown bel gr oz bel.size; clear hz; have hz := hq; clear hq gr))
  try clear R9
  exact bodyPost_ret (results_cell_tmp_row rfl _ _ _ _ _ _ _ rfl hz Tryz.underlying54 rfl (by kernel_rfl) (.int .i64 1) rfl) rfl (UdPost.none HP.out.symm bel)
set_option maxRecDepth 100000 in
set_option maxHeartbeats 16000000 in
theorem udget_2 (tos id fl pt ttl : Int) (a0 a1 a2 a3 a4 a5 a6 a7 : UInt8) (So Sb : Option Addr) (no co nb cb : Nat) (lb : List UInt8) (w : World) (hw : (decide (pt = 0) && decide (fl % 2 = 0)) = false) : Calls Tryz.prog 24 #[.agg #[.int .i64 tos, .int .i64 id, .int .i64 fl, .int .i64 pt, .int .i64 ttl, .int .i64 17, .int .u8 (a0.toNat : Int), .int .u8 (a1.toNat : Int), .int .u8 (a2.toNat : Int), .int .u8 (a3.toNat : Int), .int .u8 (a4.toNat : Int), .int .u8 (a5.toNat : Int), .int .u8 (a6.toNat : Int), .int .u8 (a7.toNat : Int), .slice So no co, .slice Sb nb cb]] w (UdPost (udGet fl pt 17 a0 a1 a2 a3 a4 a5 a6 a7 (lb)) w) := by
  have HP : Hid (udGet fl pt 17 a0 a1 a2 a3 a4 a5 a6 a7 (lb) = ((0, 0), [], 10)) := Lib.hid (ud_err (by unfold udErr; rw [if_neg (by decide), if_pos (by simpa using hw)]) (by decide))
  have HW := Lib.hid hw
  clear hw
  have bel := Below.refl w.heap.size w
  go_enter Tryz.func24, Tryz.ntmps24
  go_wp2_with (first | ((with_reducible show wpList _ _ _ (⟨some 1, _, _, _, _, _⟩ :: _) _ _); refine wpList_box_n rfl 38 (.tmp 0) rfl #[.int .i64 tos, .int .i64 id, .int .i64 fl, .int .i64 pt, .int .i64 ttl, .int .i64 17, .int .u8 (a0.toNat : Int), .int .u8 (a1.toNat : Int), .int .u8 (a2.toNat : Int), .int .u8 (a3.toNat : Int), .int .u8 (a4.toNat : Int), .int .u8 (a5.toNat : Int), .int .u8 (a6.toNat : Int), .int .u8 (a7.toNat : Int), .slice So no co, .slice Sb nb cb] rfl ?_; intro g1 w1 ge lt hh bb; have op := Nat.le_trans bel.size ge; replace bel := bel.trans (bb.mono bel.size); have hp := hh; clear hh lt ge bb) | ((with_reducible show wpList _ _ _ (⟨some 2, _, _, _, _, _⟩ :: _) _ _); refine wpList_new_a rfl 54 rfl #[.int .i64 0, .int .i64 0, .slice none 0 0] (by kernel_rfl) ?_; intro g2 w2 ge hh bb; have d_p_z := ne_new (hlt hp) ge; have oz := Nat.le_trans bel.size ge; replace hp := blk_u hp bb; replace bel := bel.trans (bb.mono bel.size); have hz := hh; clear hh ge bb; have R9 := cell_lit hp 5 _ rfl; have R12 := Lib.hid (range_lit hp 0 16 [.int .i64 tos, .int .i64 id, .int .i64 fl, .int .i64 pt, .int .i64 ttl, .int .i64 17, .int .u8 (a0.toNat : Int), .int .u8 (a1.toNat : Int), .int .u8 (a2.toNat : Int), .int .u8 (a3.toNat : Int), .int .u8 (a4.toNat : Int), .int .u8 (a5.toNat : Int), .int .u8 (a6.toNat : Int), .int .u8 (a7.toNat : Int), .slice So no co, .slice Sb nb cb] rfl)) | ((with_reducible show wpList _ _ _ (⟨some 12, _, _, _, _, _⟩ :: _) _ _); refine wpList_load_rng 38 (.tmp 1) rfl (by kernel_rfl) _ _ rfl _ R12.out _ Tryz.underlying38 rfl (by kernel_rfl) ?_))
  try clear R9
  try clear R12
  with_reducible refine (ipwhole_any _ _ _ _ _ _ _ _ _ _ _ _ _ _ _ _ _ _ _ _ _).mono ?_
  rintro e w3 ⟨rfl, b3⟩
  replace hp := blk_u hp b3
  replace hz := blk_u hz b3
  replace bel := bel.trans (b3.mono bel.size)
  clear b3
  rw [HW.out]
  go_wp2_with (first | ((with_reducible show wpList _ _ _ (⟨none, Op.store _ (.tmp 2) _, _, _, _, _⟩ :: _) _ _); refine wpList_store_blk rfl 54 (.tmp 2) (.tmp 15) rfl g2 rfl _ rfl _ 54 hz (by rfl) (by kernel_rfl) (by kernel_rfl) ?_; intro w4 hq gr; replace hp := blk_a hp gr d_p_z; replace bel := below_grown bel gr oz bel.size; clear hz; have hz := hq; clear hq gr))
  exact bodyPost_ret (results_cell_tmp_row rfl _ _ _ _ _ _ _ rfl hz Tryz.underlying54 rfl (by kernel_rfl) (.int .i64 10) rfl) rfl (UdPost.none HP.out.symm bel)
set_option maxRecDepth 100000 in
set_option maxHeartbeats 16000000 in
theorem udget_3 (tos id fl pt ttl : Int) (a0 a1 a2 a3 a4 a5 a6 a7 : UInt8) (So Sb : Option Addr) (no co nb cb : Nat) (lb : List UInt8) (w : World) (hb : Sl w Sb nb cb lb) (hw : (decide (pt = 0) && decide (fl % 2 = 0)) = true) (hn : nb < 8) : Calls Tryz.prog 24 #[.agg #[.int .i64 tos, .int .i64 id, .int .i64 fl, .int .i64 pt, .int .i64 ttl, .int .i64 17, .int .u8 (a0.toNat : Int), .int .u8 (a1.toNat : Int), .int .u8 (a2.toNat : Int), .int .u8 (a3.toNat : Int), .int .u8 (a4.toNat : Int), .int .u8 (a5.toNat : Int), .int .u8 (a6.toNat : Int), .int .u8 (a7.toNat : Int), .slice So no co, .slice Sb nb cb]] w (UdPost (udGet fl pt 17 a0 a1 a2 a3 a4 a5 a6 a7 (lb)) w) := by
  have HP : Hid (udGet fl pt 17 a0 a1 a2 a3 a4 a5 a6 a7 (lb) = ((0, 0), [], 3)) := Lib.hid (ud_err (by unfold udErr; rw [if_neg (by decide), if_neg (by simpa using hw), if_pos (by rw [hb.1]; exact hn)]) (by decide))
  have HW := Lib.hid hw
  have HN := Lib.hid hn
  have HL := Lib.hid hb.1
  clear hw hn
  have bel := Below.refl w.heap.size w
  go_enter Tryz.func24, Tryz.ntmps24
  go_wp2_with (first | ((with_reducible show wpList _ _ _ (⟨some 1, _, _, _, _, _⟩ :: _) _ _); refine wpList_box_n rfl 38 (.tmp 0) rfl #[.int .i64 tos, .int .i64 id, .int .i64 fl, .int .i64 pt, .int .i64 ttl, .int .i64 17, .int .u8 (a0.toNat : Int), .int .u8 (a1.toNat : Int), .int .u8 (a2.toNat : Int), .int .u8 (a3.toNat : Int), .int .u8 (a4.toNat : Int), .int .u8 (a5.toNat : Int), .int .u8 (a6.toNat : Int), .int .u8 (a7.toNat : Int), .slice So no co, .slice Sb nb cb] rfl ?_; intro g1 w1 ge lt hh bb; have av_hb_p := hb.av_new ge; have op := Nat.le_trans bel.size ge; replace hb := hb.below bb; replace bel := bel.trans (bb.mono bel.size); have hp := hh; clear hh lt ge bb) | ((with_reducible show wpList _ _ _ (⟨some 2, _, _, _, _, _⟩ :: _) _ _); refine wpList_new_a rfl 54 rfl #[.int .i64 0, .int .i64 0, .slice none 0 0] (by kernel_rfl) ?_; intro g2 w2 ge hh bb; have d_p_z := ne_new (hlt hp) ge; have av_hb_z := hb.av_new ge; have oz := Nat.le_trans bel.size ge; replace hp := blk_u hp bb; replace hb := hb.below bb; replace bel := bel.trans (bb.mono bel.size); have hz := hh; clear hh ge bb; have R9 := cell_lit hp 5 _ rfl; have R12 := Lib.hid (range_lit hp 0 16 [.int .i64 tos, .int .i64 id, .int .i64 fl, .int .i64 pt, .int .i64 ttl, .int .i64 17, .int .u8 (a0.toNat : Int), .int .u8 (a1.toNat : Int), .int .u8 (a2.toNat : Int), .int .u8 (a3.toNat : Int), .int .u8 (a4.toNat : Int), .int .u8 (a5.toNat : Int), .int .u8 (a6.toNat : Int), .int .u8 (a7.toNat : Int), .slice So no co, .slice Sb nb cb] rfl)) | ((with_reducible show wpList _ _ _ (⟨some 12, _, _, _, _, _⟩ :: _) _ _); refine wpList_load_rng 38 (.tmp 1) rfl (by kernel_rfl) _ _ rfl _ R12.out _ Tryz.underlying38 rfl (by kernel_rfl) ?_))
  try clear R9
  try clear R12
  with_reducible refine (ipwhole_any _ _ _ _ _ _ _ _ _ _ _ _ _ _ _ _ _ _ _ _ _).mono ?_
  rintro e w3 ⟨rfl, b3⟩
  replace hp := blk_u hp b3
  replace hz := blk_u hz b3
  replace hb := hb.below b3
  replace bel := bel.trans (b3.mono bel.size)
  clear b3
  rw [HW.out]
  have R17 := cell_lit hp 15 _ rfl
  go_wp2_with fail
  clear R17
  with_reducible refine (rd_read _ _ _ _ _ hb (by have := HN.out; omega)).mono ?_
  rintro e w4 ⟨gr, Ar3, cr3, rfl, ge, hh, rest, frr, avr, b4⟩
  have av_rest_p := frr.av (hlt hp)
  have av_rest_z := frr.av (hlt hz)
  have d_p_r := ne_new (hlt hp) ge
  have d_z_r := ne_new (hlt hz) ge
  have av_hb_r := hb.av_new ge
  have or := Nat.le_trans bel.size ge
  replace hp := blk_u hp b4
  replace hz := blk_u hz b4
  replace hb := hb.below b4
  replace bel := bel.trans (b4.mono bel.size)
  have hr := hh
  clear hh ge b4
  replace rest : Sl w4 (Ar3) (nb) (cr3) (lb) := rest
  go_wp2_with fail
  with_reducible refine (rd_u16e _ _ _ _ _ _ _ hr rest).mono ?_
  rintro e w5 ⟨A4, n4, c4, x1, s1, es1, rfl, hq, sq, uq, b5⟩
  replace hb := hb.away av_hb_r b5
  replace hp := blk_a hp b5 d_p_r
  replace hz := blk_a hz b5 d_z_r
  replace bel := below_grown bel b5 or bel.size
  clear b5
  clear hr rest
  have hr := hq
  have rest := sq
  clear hq sq
  have av4_rest_p := av_rest_p.sub uq
  have av4_rest_z := av_rest_z.sub uq
  have av4_rest_r := avr.sub uq
  clear uq
  go_wp2_with fail
  with_reducible refine (rd_u16e _ _ _ _ _ _ _ hr rest).mono ?_
  rintro e w6 ⟨A5, n5, c5, x2, s2, es2, rfl, hq, sq, uq, b6⟩
  replace hb := hb.away av_hb_r b6
  replace hp := blk_a hp b6 d_p_r
  replace hz := blk_a hz b6 d_z_r
  replace bel := below_grown bel b6 or bel.size
  clear b6
  clear hr rest
  have hr := hq
  have rest := sq
  clear hq sq
  have av5_rest_p := av4_rest_p.sub uq
  have av5_rest_z := av4_rest_z.sub uq
  have av5_rest_r := av4_rest_r.sub uq
  clear uq
  go_wp2_with (first | ((with_reducible show wpList _ _ _ (⟨some 5, _, _, _, _, _⟩ :: _) _ _); refine wpList_new_a rfl 54 rfl #[.int .i64 0, .int .i64 0, .slice none 0 0] (by kernel_rfl) ?_; intro g5 w7 ge hh bb; have d_p_d := ne_new (hlt hp) ge; have d_z_d := ne_new (hlt hz) ge; have d_r_d := ne_new (hlt hr) ge; have av_hb_d := hb.av_new ge; have av_rest_d := rest.av_new ge; have od := Nat.le_trans bel.size ge; replace hp := blk_u hp bb; replace hz := blk_u hz bb; replace hr := blk_u hr bb; replace hb := hb.below bb; replace rest := rest.below bb; replace bel := bel.trans (bb.mono bel.size); have hd := hh; clear hh ge bb) | ((with_reducible show wpList _ _ _ (⟨none, Op.store _ (.tmp 5) _, _, _, _, _⟩ :: _) _ _); refine wpList_store_blk rfl 54 (.tmp 5) (.tmp 23) rfl g5 rfl _ rfl _ 54 hd (by rfl) (by kernel_rfl) (by kernel_rfl) ?_; intro w8 hq gr; replace hb := hb.away av_hb_d gr; replace rest := rest.away av_rest_d gr; replace hp := blk_a hp gr d_p_d; replace hz := blk_a hz gr d_z_d; replace hr := blk_a hr gr d_r_d; replace bel := below_grown bel gr od bel.size; clear hd; have hd := hq; clear hq gr))
  with_reducible refine (rd_u16e _ _ _ _ _ _ _ hr rest).mono ?_
  rintro e w9 ⟨A8, n8, c8, x3, s3, es3, rfl, hq, sq, uq, b9⟩
  replace hb := hb.away av_hb_r b9
  replace hp := blk_a hp b9 d_p_r
  replace hz := blk_a hz b9 d_z_r
  replace hd := blk_a hd b9 (ne_symm d_r_d)
  replace bel := below_grown bel b9 or bel.size
  clear b9
  clear hr rest
  have hr := hq
  have rest := sq
  clear hq sq
  have av8_rest_p := av5_rest_p.sub uq
  have av8_rest_z := av5_rest_z.sub uq
  have av8_rest_r := av5_rest_r.sub uq
  have av8_rest_d := av_rest_d.sub uq
  clear uq
  go_wp2_with fail
  with_reducible refine (rd_u16e _ _ _ _ _ _ _ hr rest).mono ?_
  rintro e w10 ⟨A9, n9, c9, x4, s4, es4, rfl, hq, sq, uq, b10⟩
  replace hb := hb.away av_hb_r b10
  replace hp := blk_a hp b10 d_p_r
  replace hz := blk_a hz b10 d_z_r
  replace hd := blk_a hd b10 (ne_symm d_r_d)
  replace bel := below_grown bel b10 or bel.size
  clear b10
  clear hr rest
  have hr := hq
  have rest := sq
  clear hq sq
  have av9_rest_p := av8_rest_p.sub uq
  have av9_rest_z := av8_rest_z.sub uq
  have av9_rest_r := av8_rest_r.sub uq
  have av9_rest_d := av8_rest_d.sub uq
  clear uq
  go_wp2_with fail
  with_reducible refine (rd_short _ _ _ _ _ _ _ hr rest).mono ?_
  rintro e _ ⟨rfl, rfl⟩
  obtain rfl : s4 = true := by rw [es4.out, decide_eq_true (by have := HL.out; have := HN.out; simp only [List.length_drop]; omega), Bool.or_true]
  go_wp2_with (first | ((with_reducible show wpList _ _ _ (⟨none, Op.store _ (.tmp 2) _, _, _, _, _⟩ :: _) _ _); refine wpList_store_blk rfl 54 (.tmp 2) (.tmp 37) rfl g2 rfl _ rfl _ 54 hz (by rfl) (by kernel_rfl) (by kernel_rfl) ?_; intro w11 hq gr; replace hb := hb.away av_hb_z gr; replace rest := rest.away av9_rest_z gr; replace hp := blk_a hp gr d_p_z; replace hr := blk_a hr gr (ne_symm d_z_r); replace hd := blk_a hd gr (ne_symm d_z_d); replace bel := below_grown bel gr oz bel.size; clear hz; have hz := hq; clear hq gr))
  exact bodyPost_ret (results_cell_tmp_row rfl _ _ _ _ _ _ _ rfl hz Tryz.underlying54 rfl (by kernel_rfl) (.int .i64 3) rfl) rfl (UdPost.none HP.out.symm bel)
set_option maxRecDepth 100000 in
set_option maxHeartbeats 16000000 in
theorem udget_4 (tos id fl pt ttl : Int) (a0 a1 a2 a3 a4 a5 a6 a7 : UInt8) (So Sb : Option Addr) (no co nb cb : Nat) (h0 h1 h2 h3 h4 h5 h6 h7 : UInt8) (r : List UInt8) (ln sm : Nat) (w : World) (hb : Sl w Sb nb cb (h0 :: h1 :: h2 :: h3 :: h4 :: h5 :: h6 :: h7 :: r)) (hm : nb ≤ 100000) (hln : be [h4, h5] = ln) (hsm : be [h6, h7] = sm) (hw : (decide (pt = 0) && decide (fl % 2 = 0)) = true) (hx : nb < ln) : Calls Tryz.prog 24 #[.agg #[.int .i64 tos, .int .i64 id, .int .i64 fl, .int .i64 pt, .int .i64 ttl, .int .i64 17, .int .u8 (a0.toNat : Int), .int .u8 (a1.toNat : Int), .int .u8 (a2.toNat : Int), .int .u8 (a3.toNat : Int), .int .u8 (a4.toNat : Int), .int .u8 (a5.toNat : Int), .int .u8 (a6.toNat : Int), .int .u8 (a7.toNat : Int), .slice So no co, .slice Sb nb cb]] w (UdPost (udGet fl pt 17 a0 a1 a2 a3 a4 a5 a6 a7 (h0 :: h1 :: h2 :: h3 :: h4 :: h5 :: h6 :: h7 :: r)) w) := by
  have HP : Hid (udGet fl pt 17 a0 a1 a2 a3 a4 a5 a6 a7 (h0 :: h1 :: h2 :: h3 :: h4 :: h5 :: h6 :: h7 :: r) = ((0, 0), [], 3)) := Lib.hid (ud_err (by rw [ud_at hln hsm hw, if_pos (by rw [hb.1]; exact hx)]) (by decide))
  have HLN := Lib.hid hln
  have HSM := Lib.hid hsm
  have HM := Lib.hid hm
  have HW := Lib.hid hw
  have HL := Lib.hid hb.1
  have t0 : (nb : Int) < ln := by omega
  clear hln hsm hm hw hx
  have bel := Below.refl w.heap.size w
  go_enter Tryz.func24, Tryz.ntmps24
  go_wp2_with (first | ((with_reducible show wpList _ _ _ (⟨some 1, _, _, _, _, _⟩ :: _) _ _); refine wpList_box_n rfl 38 (.tmp 0) rfl #[.int .i64 tos, .int .i64 id, .int .i64 fl, .int .i64 pt, .int .i64 ttl, .int .i64 17, .int .u8 (a0.toNat : Int), .int .u8 (a1.toNat : Int), .int .u8 (a2.toNat : Int), .int .u8 (a3.toNat : Int), .int .u8 (a4.toNat : Int), .int .u8 (a5.toNat : Int), .int .u8 (a6.toNat : Int), .int .u8 (a7.toNat : Int), .slice So no co, .slice Sb nb cb] rfl ?_; intro g1 w1 ge lt hh bb; have av_hb_p := hb.av_new ge; have op := Nat.le_trans bel.size ge; replace hb := hb.below bb; replace bel := bel.trans (bb.mono bel.size); have hp := hh; clear hh lt ge bb) | ((with_reducible show wpList _ _ _ (⟨some 2, _, _, _, _, _⟩ :: _) _ _); refine wpList_new_a rfl 54 rfl #[.int .i64 0, .int .i64 0, .slice none 0 0] (by kernel_rfl) ?_; intro g2 w2 ge hh bb; have d_p_z := ne_new (hlt hp) ge; have av_hb_z := hb.av_new ge; have oz := Nat.le_trans bel.size ge; replace hp := blk_u hp bb; replace hb := hb.below bb; replace bel := bel.trans (bb.mono bel.size); have hz := hh; clear hh ge bb; have R9 := cell_lit hp 5 _ rfl; have R12 := Lib.hid (range_lit hp 0 16 [.int .i64 tos, .int .i64 id, .int .i64 fl, .int .i64 pt, .int .i64 ttl, .int .i64 17, .int .u8 (a0.toNat : Int), .int .u8 (a1.toNat : Int), .int .u8 (a2.toNat : Int), .int .u8 (a3.toNat : Int), .int .u8 (a4.toNat : Int), .int .u8 (a5.toNat : Int), .int .u8 (a6.toNat : Int), .int .u8 (a7.toNat : Int), .slice So no co, .slice Sb nb cb] rfl)) | ((with_reducible show wpList _ _ _ (⟨some 12, _, _, _, _, _⟩ :: _) _ _); refine wpList_load_rng 38 (.tmp 1) rfl (by kernel_rfl) _ _ rfl _ R12.out _ Tryz.underlying38 rfl (by kernel_rfl) ?_))
  try clear R9
  try clear R12
  with_reducible refine (ipwhole_any _ _ _ _ _ _ _ _ _ _ _ _ _ _ _ _ _ _ _ _ _).mono ?_
  rintro e w3 ⟨rfl, b3⟩
  replace hp := blk_u hp b3
  replace hz := blk_u hz b3
  replace hb := hb.below b3
  replace bel := bel.trans (b3.mono bel.size)
  clear b3
  rw [HW.out]
  have R17 := cell_lit hp 15 _ rfl
  go_wp2_with fail
  clear R17
  with_reducible refine (rd_read _ _ _ _ _ hb (by have := HM.out; omega)).mono ?_
  rintro e w4 ⟨gr, Ar3, cr3, rfl, ge, hh, rest, frr, avr, b4⟩
  have av_rest_p := frr.av (hlt hp)
  have av_rest_z := frr.av (hlt hz)
  have d_p_r := ne_new (hlt hp) ge
  have d_z_r := ne_new (hlt hz) ge
  have av_hb_r := hb.av_new ge
  have or := Nat.le_trans bel.size ge
  replace hp := blk_u hp b4
  replace hz := blk_u hz b4
  replace hb := hb.below b4
  replace bel := bel.trans (b4.mono bel.size)
  have hr := hh
  clear hh ge b4
  replace rest : Sl w4 (Ar3) (nb) (cr3) (h0 :: h1 :: h2 :: h3 :: h4 :: h5 :: h6 :: h7 :: r) := rest
  go_wp2_with fail
  with_reducible refine (rd_u16c _ _ _ _ _ _ _ _ _ hr rest).mono ?_
  rintro e w5 ⟨A4, n4, c4, rfl, hq, sq, uq, b5⟩
  replace hb := hb.away av_hb_r b5
  replace hp := blk_a hp b5 d_p_r
  replace hz := blk_a hz b5 d_z_r
  replace bel := below_grown bel b5 or bel.size
  clear b5
  clear hr rest
  have hr := hq
  have rest := sq
  clear hq sq
  have av4_rest_p := av_rest_p.sub uq
  have av4_rest_z := av_rest_z.sub uq
  have av4_rest_r := avr.sub uq
  clear uq
  go_wp2_with fail
  with_reducible refine (rd_u16c _ _ _ _ _ _ _ _ _ hr rest).mono ?_
  rintro e w6 ⟨A5, n5, c5, rfl, hq, sq, uq, b6⟩
  replace hb := hb.away av_hb_r b6
  replace hp := blk_a hp b6 d_p_r
  replace hz := blk_a hz b6 d_z_r
  replace bel := below_grown bel b6 or bel.size
  clear b6
  clear hr rest
  have hr := hq
  have rest := sq
  clear hq sq
  have av5_rest_p := av4_rest_p.sub uq
  have av5_rest_z := av4_rest_z.sub uq
  have av5_rest_r := av4_rest_r.sub uq
  clear uq
  go_wp2_with (first | ((with_reducible show wpList _ _ _ (⟨some 5, _, _, _, _, _⟩ :: _) _ _); refine wpList_new_a rfl 54 rfl #[.int .i64 0, .int .i64 0, .slice none 0 0] (by kernel_rfl) ?_; intro g5 w7 ge hh bb; have d_p_d := ne_new (hlt hp) ge; have d_z_d := ne_new (hlt hz) ge; have d_r_d := ne_new (hlt hr) ge; have av_hb_d := hb.av_new ge; have av_rest_d := rest.av_new ge; have od := Nat.le_trans bel.size ge; replace hp := blk_u hp bb; replace hz := blk_u hz bb; replace hr := blk_u hr bb; replace hb := hb.below bb; replace rest := rest.below bb; replace bel := bel.trans (bb.mono bel.size); have hd := hh; clear hh ge bb) | ((with_reducible show wpList _ _ _ (⟨none, Op.store _ (.tmp 5) _, _, _, _, _⟩ :: _) _ _); refine wpList_store_blk rfl 54 (.tmp 5) (.tmp 23) rfl g5 rfl _ rfl _ 54 hd (by rfl) (by kernel_rfl) (by kernel_rfl) ?_; intro w8 hq gr; replace hb := hb.away av_hb_d gr; replace rest := rest.away av_rest_d gr; replace hp := blk_a hp gr d_p_d; replace hz := blk_a hz gr d_z_d; replace hr := blk_a hr gr d_r_d; replace bel := below_grown bel gr od bel.size; clear hd; have hd := hq; clear hq gr))
  with_reducible refine (rd_u16c _ _ _ _ _ _ _ _ _ hr rest).mono ?_
  rintro e w9 ⟨A8, n8, c8, rfl, hq, sq, uq, b9⟩
  replace hb := hb.away av_hb_r b9
  replace hp := blk_a hp b9 d_p_r
  replace hz := blk_a hz b9 d_z_r
  replace hd := blk_a hd b9 (ne_symm d_r_d)
  replace bel := below_grown bel b9 or bel.size
  clear b9
  clear hr rest
  have hr := hq
  have rest := sq
  clear hq sq
  have av8_rest_p := av5_rest_p.sub uq
  have av8_rest_z := av5_rest_z.sub uq
  have av8_rest_r := av5_rest_r.sub uq
  have av8_rest_d := av_rest_d.sub uq
  clear uq
  rw [HLN.out]
  go_wp2_with fail
  with_reducible refine (rd_u16c _ _ _ _ _ _ _ _ _ hr rest).mono ?_
  rintro e w10 ⟨A9, n9, c9, rfl, hq, sq, uq, b10⟩
  replace hb := hb.away av_hb_r b10
  replace hp := blk_a hp b10 d_p_r
  replace hz := blk_a hz b10 d_z_r
  replace hd := blk_a hd b10 (ne_symm d_r_d)
  replace bel := below_grown bel b10 or bel.size
  clear b10
  clear hr rest
  have hr := hq
  have rest := sq
  clear hq sq
  have av9_rest_p := av8_rest_p.sub uq
  have av9_rest_z := av8_rest_z.sub uq
  have av9_rest_r := av8_rest_r.sub uq
  have av9_rest_d := av8_rest_d.sub uq
  clear uq
  rw [HSM.out]
  go_wp2_with fail
  with_reducible refine (rd_short _ _ _ _ _ _ _ hr rest).mono ?_
  rintro e _ ⟨rfl, rfl⟩
  have R33 := cell_lit hp 15 _ rfl
  go_wp2_with (first | ((with_reducible show wpList _ _ _ (⟨none, Op.store _ (.tmp 2) _, _, _, _, _⟩ :: _) _ _); refine wpList_store_blk rfl 54 (.tmp 2) (.tmp 37) rfl g2 rfl _ rfl _ 54 hz (by rfl) (by kernel_rfl) (by kernel_rfl) ?_; intro w11 hq gr; replace hb := hb.away av_hb_z gr; replace rest := rest.away av9_rest_z gr; replace hp := blk_a hp gr d_p_z; replace hr := blk_a hr gr (ne_symm d_z_r); replace hd := blk_a hd gr (ne_symm d_z_d); replace bel := below_grown bel gr oz bel.size; clear hz; have hz := hq; clear hq gr))
  try clear R33
  exact bodyPost_ret (results_cell_tmp_row rfl _ _ _ _ _ _ _ rfl hz Tryz.underlying54 rfl (by kernel_rfl) (.int .i64 3) rfl) rfl (UdPost.none HP.out.symm bel)
set_option maxRecDepth 100000 in
set_option maxHeartbeats 16000000 in
theorem udget_5 (tos id fl pt ttl : Int) (a0 a1 a2 a3 a4 a5 a6 a7 : UInt8) (So Sb : Option Addr) (no co nb cb : Nat) (h0 h1 h2 h3 h4 h5 h6 h7 : UInt8) (r : List UInt8) (ln sm : Nat) (w : World) (hb : Sl w Sb nb cb (h0 :: h1 :: h2 :: h3 :: h4 :: h5 :: h6 :: h7 :: r)) (hm : nb ≤ 100000) (hln : be [h4, h5] = ln) (hsm : be [h6, h7] = sm) (hw : (decide (pt = 0) && decide (fl % 2 = 0)) = true) (hx : ln ≤ nb) (hy : ln < 8) : Calls Tryz.prog 24 #[.agg #[.int .i64 tos, .int .i64 id, .int .i64 fl, .int .i64 pt, .int .i64 ttl, .int .i64 17, .int .u8 (a0.toNat : Int), .int .u8 (a1.toNat : Int), .int .u8 (a2.toNat : Int), .int .u8 (a3.toNat : Int), .int .u8 (a4.toNat : Int), .int .u8 (a5.toNat : Int), .int .u8 (a6.toNat : Int), .int .u8 (a7.toNat : Int), .slice So no co, .slice Sb nb cb]] w (UdPost (udGet fl pt 17 a0 a1 a2 a3 a4 a5 a6 a7 (h0 :: h1 :: h2 :: h3 :: h4 :: h5 :: h6 :: h7 :: r)) w) := by
  have HP : Hid (udGet fl pt 17 a0 a1 a2 a3 a4 a5 a6 a7 (h0 :: h1 :: h2 :: h3 :: h4 :: h5 :: h6 :: h7 :: r) = ((0, 0), [], 4)) := Lib.hid (ud_err (by rw [ud_at hln hsm hw, if_neg (by rw [hb.1]; omega), if_pos hy]) (by decide))
  have HLN := Lib.hid hln
  have HSM := Lib.hid hsm
  have HM := Lib.hid hm
  have HW := Lib.hid hw
  have HL := Lib.hid hb.1
  have t0 : decide (nb < ln) = false := decide_eq_false (by omega)
  have t1 : (ln : Int) < 8 := by omega
  clear hln hsm hm hw hx hy
  have bel := Below.refl w.heap.size w
  go_enter Tryz.func24, Tryz.ntmps24
  go_wp2_with (first | ((with_reducible show wpList _ _ _ (⟨some 1, _, _, _, _, _⟩ :: _) _ _); refine wpList_box_n rfl 38 (.tmp 0) rfl #[.int .i64 tos, .int .i64 id, .int .i64 fl, .int .i64 pt, .int .i64 ttl, .int .i64 17, .int .u8 (a0.toNat : Int), .int .u8 (a1.toNat : Int), .int .u8 (a2.toNat : Int), .int .u8 (a3.toNat : Int), .int .u8 (a4.toNat : Int), .int .u8 (a5.toNat : Int), .int .u8 (a6.toNat : Int), .int .u8 (a7.toNat : Int), .slice So no co, .slice Sb nb cb] rfl ?_; intro g1 w1 ge lt hh bb; have av_hb_p := hb.av_new ge; have op := Nat.le_trans bel.size ge; replace hb := hb.below bb; replace bel := bel.trans (bb.mono bel.size); have hp := hh; clear hh lt ge bb) | ((with_reducible show wpList _ _ _ (⟨some 2, _, _, _, _, _⟩ :: _) _ _); refine wpList_new_a rfl 54 rfl #[.int .i64 0, .int .i64 0, .slice none 0 0] (by kernel_rfl) ?_; intro g2 w2 ge hh bb; have d_p_z := ne_new (hlt hp) ge; have av_hb_z := hb.av_new ge; have oz := Nat.le_trans bel.size ge; replace hp := blk_u hp bb; replace hb := hb.below bb; replace bel := bel.trans (bb.mono bel.size); have hz := hh; clear hh ge bb; have R9 := cell_lit hp 5 _ rfl; have R12 := Lib.hid (range_lit hp 0 16 [.int .i64 tos, .int .i64 id, .int .i64 fl, .int .i64 pt, .int .i64 ttl, .int .i64 17, .int .u8 (a0.toNat : Int), .int .u8 (a1.toNat : Int), .int .u8 (a2.toNat : Int), .int .u8 (a3.toNat : Int), .int .u8 (a4.toNat : Int), .int .u8 (a5.toNat : Int), .int .u8 (a6.toNat : Int), .int .u8 (a7.toNat : Int), .slice So no co, .slice Sb nb cb] rfl)) | ((with_reducible show wpList _ _ _ (⟨some 12, _, _, _, _, _⟩ :: _) _ _); refine wpList_load_rng 38 (.tmp 1) rfl (by kernel_rfl) _ _ rfl _ R12.out _ Tryz.underlying38 rfl (by kernel_rfl) ?_))
  try clear R9
  try clear R12
  with_reducible refine (ipwhole_any _ _ _ _ _ _ _ _ _ _ _ _ _ _ _ _ _ _ _ _ _).mono ?_
  rintro e w3 ⟨rfl, b3⟩
  replace hp := blk_u hp b3
  replace hz := blk_u hz b3
  replace hb := hb.below b3
  replace bel := bel.trans (b3.mono bel.size)
  clear b3
  rw [HW.out]
  have R17 := cell_lit hp 15 _ rfl
  go_wp2_with fail
  clear R17
  with_reducible refine (rd_read _ _ _ _ _ hb (by have := HM.out; omega)).mono ?_
  rintro e w4 ⟨gr, Ar3, cr3, rfl, ge, hh, rest, frr, avr, b4⟩
  have av_rest_p := frr.av (hlt hp)
  have av_rest_z := frr.av (hlt hz)
  have d_p_r := ne_new (hlt hp) ge
  have d_z_r := ne_new (hlt hz) ge
  have av_hb_r := hb.av_new ge
  have or := Nat.le_trans bel.size ge
  replace hp := blk_u hp b4
  replace hz := blk_u hz b4
  replace hb := hb.below b4
  replace bel := bel.trans (b4.mono bel.size)
  have hr := hh
  clear hh ge b4
  replace rest : Sl w4 (Ar3) (nb) (cr3) (h0 :: h1 :: h2 :: h3 :: h4 :: h5 :: h6 :: h7 :: r) := rest
  go_wp2_with fail
  with_reducible refine (rd_u16c _ _ _ _ _ _ _ _ _ hr rest).mono ?_
  rintro e w5 ⟨A4, n4, c4, rfl, hq, sq, uq, b5⟩
  replace hb := hb.away av_hb_r b5
  replace hp := blk_a hp b5 d_p_r
  replace hz := blk_a hz b5 d_z_r
  replace bel := below_grown bel b5 or bel.size
  clear b5
  clear hr rest
  have hr := hq
  have rest := sq
  clear hq sq
  have av4_rest_p := av_rest_p.sub uq
  have av4_rest_z := av_rest_z.sub uq
  have av4_rest_r := avr.sub uq
  clear uq
  go_wp2_with fail
  with_reducible refine (rd_u16c _ _ _ _ _ _ _ _ _ hr rest).mono ?_
  rintro e w6 ⟨A5, n5, c5, rfl, hq, sq, uq, b6⟩
  replace hb := hb.away av_hb_r b6
  replace hp := blk_a hp b6 d_p_r
  replace hz := blk_a hz b6 d_z_r
  replace bel := below_grown bel b6 or bel.size
  clear b6
  clear hr rest
  have hr := hq
  have rest := sq
  clear hq sq
  have av5_rest_p := av4_rest_p.sub uq
  have av5_rest_z := av4_rest_z.sub uq
  have av5_rest_r := av4_rest_r.sub uq
  clear uq
  go_wp2_with (first | ((with_reducible show wpList _ _ _ (⟨some 5, _, _, _, _, _⟩ :: _) _ _); refine wpList_new_a rfl 54 rfl #[.int .i64 0, .int .i64 0, .slice none 0 0] (by kernel_rfl) ?_; intro g5 w7 ge hh bb; have d_p_d := ne_new (hlt hp) ge; have d_z_d := ne_new (hlt hz) ge; have d_r_d := ne_new (hlt hr) ge; have av_hb_d := hb.av_new ge; have av_rest_d := rest.av_new ge; have od := Nat.le_trans bel.size ge; replace hp := blk_u hp bb; replace hz := blk_u hz bb; replace hr := blk_u hr bb; replace hb := hb.below bb; replace rest := rest.below bb; replace bel := bel.trans (bb.mono bel.size); have hd := hh; clear hh ge bb) | ((with_reducible show wpList _ _ _ (⟨none, Op.store _ (.tmp 5) _, _, _, _, _⟩ :: _) _ _); refine wpList_store_blk rfl 54 (.tmp 5) (.tmp 23) rfl g5 rfl _ rfl _ 54 hd (by rfl) (by kernel_rfl) (by kernel_rfl) ?_; intro w8 hq gr; replace hb := hb.away av_hb_d gr; replace rest := rest.away av_rest_d gr; replace hp := blk_a hp gr d_p_d; replace hz := blk_a hz gr d_z_d; replace hr := blk_a hr gr d_r_d; replace bel := below_grown bel gr od bel.size; clear hd; have hd := hq; clear hq gr))
  with_reducible refine (rd_u16c _ _ _ _ _ _ _ _ _ hr rest).mono ?_
  rintro e w9 ⟨A8, n8, c8, rfl, hq, sq, uq, b9⟩
  replace hb := hb.away av_hb_r b9
  replace hp := blk_a hp b9 d_p_r
  replace hz := blk_a hz b9 d_z_r
  replace hd := blk_a hd b9 (ne_symm d_r_d)
  replace bel := below_grown bel b9 or bel.size
  clear b9
  clear hr rest
  have hr := hq
  have rest := sq
  clear hq sq
  have av8_rest_p := av5_rest_p.sub uq
  have av8_rest_z := av5_rest_z.sub uq
  have av8_rest_r := av5_rest_r.sub uq
  have av8_rest_d := av_rest_d.sub uq
  clear uq
  rw [HLN.out]
  go_wp2_with fail
  with_reducible refine (rd_u16c _ _ _ _ _ _ _ _ _ hr rest).mono ?_
  rintro e w10 ⟨A9, n9, c9, rfl, hq, sq, uq, b10⟩
  replace hb := hb.away av_hb_r b10
  replace hp := blk_a hp b10 d_p_r
  replace hz := blk_a hz b10 d_z_r
  replace hd := blk_a hd b10 (ne_symm d_r_d)
  replace bel := below_grown bel b10 or bel.size
  clear b10
  clear hr rest
  have hr := hq
  have rest := sq
  clear hq sq
  have av9_rest_p := av8_rest_p.sub uq
  have av9_rest_z := av8_rest_z.sub uq
  have av9_rest_r := av8_rest_r.sub uq
  have av9_rest_d := av8_rest_d.sub uq
  clear uq
  rw [HSM.out]
  go_wp2_with fail
  with_reducible refine (rd_short _ _ _ _ _ _ _ hr rest).mono ?_
  rintro e _ ⟨rfl, rfl⟩
  have R33 := cell_lit hp 15 _ rfl
  go_wp2_with (first | ((with_reducible show wpList _ _ _ (⟨none, Op.store _ (.tmp 2) _, _, _, _, _⟩ :: _) _ _); refine wpList_store_blk rfl 54 (.tmp 2) (.tmp 40) rfl g2 rfl _ rfl _ 54 hz (by rfl) (by kernel_rfl) (by kernel_rfl) ?_; intro w11 hq gr; replace hb := hb.away av_hb_z gr; replace rest := rest.away av9_rest_z gr; replace hp := blk_a hp gr d_p_z; replace hr := blk_a hr gr (ne_symm d_z_r); replace hd := blk_a hd gr (ne_symm d_z_d); replace bel := below_grown bel gr oz bel.size; clear hz; have hz := hq; clear hq gr))
  try clear R33
  exact bodyPost_ret (results_cell_tmp_row rfl _ _ _ _ _ _ _ rfl hz Tryz.underlying54 rfl (by kernel_rfl) (.int .i64 4) rfl) rfl (UdPost.none HP.out.symm bel)
set_option maxRecDepth 100000 in
set_option maxHeartbeats 16000000 in
theorem udget_6 (tos id fl pt ttl : Int) (a0 a1 a2 a3 a4 a5 a6 a7 : UInt8) (So Sb : Option Addr) (no co nb cb : Nat) (h0 h1 h2 h3 h4 h5 h6 h7 : UInt8) (r : List UInt8) (ln sm : Nat) (w : World) (hb : Sl w Sb nb cb (h0 :: h1 :: h2 :: h3 :: h4 :: h5 :: h6 :: h7 :: r)) (hm : nb ≤ 100000) (hln : be [h4, h5] = ln) (hsm : be [h6, h7] = sm) (hw : (decide (pt = 0) && decide (fl % 2 = 0)) = true) (hx : ln ≤ nb) (hy : 8 ≤ ln) (hz : sm ≠ 0) (hc : ck (l4Ps a0 a1 a2 a3 a4 a5 a6 a7 17 (ln : Int) ++ (h0 :: h1 :: h2 :: h3 :: h4 :: h5 :: h6 :: h7 :: r).take ln) ≠ 0) : Calls Tryz.prog 24 #[.agg #[.int .i64 tos, .int .i64 id, .int .i64 fl, .int .i64 pt, .int .i64 ttl, .int .i64 17, .int .u8 (a0.toNat : Int), .int .u8 (a1.toNat : Int), .int .u8 (a2.toNat : Int), .int .u8 (a3.toNat : Int), .int .u8 (a4.toNat : Int), .int .u8 (a5.toNat : Int), .int .u8 (a6.toNat : Int), .int .u8 (a7.toNat : Int), .slice So no co, .slice Sb nb cb]] w (UdPost (udGet fl pt 17 a0 a1 a2 a3 a4 a5 a6 a7 (h0 :: h1 :: h2 :: h3 :: h4 :: h5 :: h6 :: h7 :: r)) w) := by
  have HP : Hid (udGet fl pt 17 a0 a1 a2 a3 a4 a5 a6 a7 (h0 :: h1 :: h2 :: h3 :: h4 :: h5 :: h6 :: h7 :: r) = ((0, 0), [], 5)) := Lib.hid (ud_err (by rw [ud_at hln hsm hw, if_neg (by rw [hb.1]; omega), if_neg (by omega), if_pos ⟨hz, hc⟩]) (by decide))
  have HLN := Lib.hid hln
  have HSM := Lib.hid hsm
  have HM := Lib.hid hm
  have HW := Lib.hid hw
  have HL := Lib.hid hb.1
  have t0 : decide (nb < ln) = false := decide_eq_false (by omega)
  have t1 : decide ((ln : Int) < 8) = false := decide_eq_false (by omega)
  have HX := Lib.hid hx
  have HC : Hid (decide (ck (l4Ps a0 a1 a2 a3 a4 a5 a6 a7 17 (ln : Int) ++ (h0 :: h1 :: h2 :: h3 :: h4 :: h5 :: h6 :: h7 :: r).take ln) = 0) = false) := Lib.hid (decide_eq_false hc)
  have t2 : ((sm : Int) == 0) = false := by simpa using hz
  have t3 : ((sm : Int) != 0) = true := by simpa using hz
  clear hln hsm hm hw hx hy hz hc
  have bel := Below.refl w.heap.size w
  go_enter Tryz.func24, Tryz.ntmps24
  go_wp2_with (first | ((with_reducible show wpList _ _ _ (⟨some 1, _, _, _, _, _⟩ :: _) _ _); refine wpList_box_n rfl 38 (.tmp 0) rfl #[.int .i64 tos, .int .i64 id, .int .i64 fl, .int .i64 pt, .int .i64 ttl, .int .i64 17, .int .u8 (a0.toNat : Int), .int .u8 (a1.toNat : Int), .int .u8 (a2.toNat : Int), .int .u8 (a3.toNat : Int), .int .u8 (a4.toNat : Int), .int .u8 (a5.toNat : Int), .int .u8 (a6.toNat : Int), .int .u8 (a7.toNat : Int), .slice So no co, .slice Sb nb cb] rfl ?_; intro g1 w1 ge lt hh bb; have av_hb_p := hb.av_new ge; have op := Nat.le_trans bel.size ge; replace hb := hb.below bb; replace bel := bel.trans (bb.mono bel.size); have hp := hh; clear hh lt ge bb) | ((with_reducible show wpList _ _ _ (⟨some 2, _, _, _, _, _⟩ :: _) _ _); refine wpList_new_a rfl 54 rfl #[.int .i64 0, .int .i64 0, .slice none 0 0] (by kernel_rfl) ?_; intro g2 w2 ge hh bb; have d_p_z := ne_new (hlt hp) ge; have av_hb_z := hb.av_new ge; have oz := Nat.le_trans bel.size ge; replace hp := blk_u hp bb; replace hb := hb.below bb; replace bel := bel.trans (bb.mono bel.size); have hz := hh; clear hh ge bb; have R9 := cell_lit hp 5 _ rfl; have R12 := Lib.hid (range_lit hp 0 16 [.int .i64 tos, .int .i64 id, .int .i64 fl, .int .i64 pt, .int .i64 ttl, .int .i64 17, .int .u8 (a0.toNat : Int), .int .u8 (a1.toNat : Int), .int .u8 (a2.toNat : Int), .int .u8 (a3.toNat : Int), .int .u8 (a4.toNat : Int), .int .u8 (a5.toNat : Int), .int .u8 (a6.toNat : Int), .int .u8 (a7.toNat : Int), .slice So no co, .slice Sb nb cb] rfl)) | ((with_reducible show wpList _ _ _ (⟨some 12, _, _, _, _, _⟩ :: _) _ _); refine wpList_load_rng 38 (.tmp 1) rfl (by kernel_rfl) _ _ rfl _ R12.out _ Tryz.underlying38 rfl (by kernel_rfl) ?_))
  try clear R9
  try clear R12
  with_reducible refine (ipwhole_any _ _ _ _ _ _ _ _ _ _ _ _ _ _ _ _ _ _ _ _ _).mono ?_
  rintro e w3 ⟨rfl, b3⟩
  replace hp := blk_u hp b3
  replace hz := blk_u hz b3
  replace hb := hb.below b3
  replace bel := bel.trans (b3.mono bel.size)
  clear b3
  rw [HW.out]
  have R17 := cell_lit hp 15 _ rfl
  go_wp2_with fail
  clear R17
  with_reducible refine (rd_read _ _ _ _ _ hb (by have := HM.out; omega)).mono ?_
  rintro e w4 ⟨gr, Ar3, cr3, rfl, ge, hh, rest, frr, avr, b4⟩
  have av_rest_p := frr.av (hlt hp)
  have av_rest_z := frr.av (hlt hz)
  have d_p_r := ne_new (hlt hp) ge
  have d_z_r := ne_new (hlt hz) ge
  have av_hb_r := hb.av_new ge
  have or := Nat.le_trans bel.size ge
  replace hp := blk_u hp b4
  replace hz := blk_u hz b4
  replace hb := hb.below b4
  replace bel := bel.trans (b4.mono bel.size)
  have hr := hh
  clear hh ge b4
  replace rest : Sl w4 (Ar3) (nb) (cr3) (h0 :: h1 :: h2 :: h3 :: h4 :: h5 :: h6 :: h7 :: r) := rest
  go_wp2_with fail
  with_reducible refine (rd_u16c _ _ _ _ _ _ _ _ _ hr rest).mono ?_
  rintro e w5 ⟨A4, n4, c4, rfl, hq, sq, uq, b5⟩
  replace hb := hb.away av_hb_r b5
  replace hp := blk_a hp b5 d_p_r
  replace hz := blk_a hz b5 d_z_r
  replace bel := below_grown bel b5 or bel.size
  clear b5
  clear hr rest
  have hr := hq
  have rest := sq
  clear hq sq
  have av4_rest_p := av_rest_p.sub uq
  have av4_rest_z := av_rest_z.sub uq
  have av4_rest_r := avr.sub uq
  clear uq
  go_wp2_with fail
  with_reducible refine (rd_u16c _ _ _ _ _ _ _ _ _ hr rest).mono ?_
  rintro e w6 ⟨A5, n5, c5, rfl, hq, sq, uq, b6⟩
  replace hb := hb.away av_hb_r b6
  replace hp := blk_a hp b6 d_p_r
  replace hz := blk_a hz b6 d_z_r
  replace bel := below_grown bel b6 or bel.size
  clear b6
  clear hr rest
  have hr := hq
  have rest := sq
  clear hq sq
  have av5_rest_p := av4_rest_p.sub uq
  have av5_rest_z := av4_rest_z.sub uq
  have av5_rest_r := av4_rest_r.sub uq
  clear uq
  go_wp2_with (first | ((with_reducible show wpList _ _ _ (⟨some 5, _, _, _, _, _⟩ :: _) _ _); refine wpList_new_a rfl 54 rfl #[.int .i64 0, .int .i64 0, .slice none 0 0] (by kernel_rfl) ?_; intro g5 w7 ge hh bb; have d_p_d := ne_new (hlt hp) ge; have d_z_d := ne_new (hlt hz) ge; have d_r_d := ne_new (hlt hr) ge; have av_hb_d := hb.av_new ge; have av_rest_d := rest.av_new ge; have od := Nat.le_trans bel.size ge; replace hp := blk_u hp bb; replace hz := blk_u hz bb; replace hr := blk_u hr bb; replace hb := hb.below bb; replace rest := rest.below bb; replace bel := bel.trans (bb.mono bel.size); have hd := hh; clear hh ge bb) | ((with_reducible show wpList _ _ _ (⟨none, Op.store _ (.tmp 5) _, _, _, _, _⟩ :: _) _ _); refine wpList_store_blk rfl 54 (.tmp 5) (.tmp 23) rfl g5 rfl _ rfl _ 54 hd (by rfl) (by kernel_rfl) (by kernel_rfl) ?_; intro w8 hq gr; replace hb := hb.away av_hb_d gr; replace rest := rest.away av_rest_d gr; replace hp := blk_a hp gr d_p_d; replace hz := blk_a hz gr d_z_d; replace hr := blk_a hr gr d_r_d; replace bel := below_grown bel gr od bel.size; clear hd; have hd := hq; clear hq gr))
  with_reducible refine (rd_u16c _ _ _ _ _ _ _ _ _ hr rest).mono ?_
  rintro e w9 ⟨A8, n8, c8, rfl, hq, sq, uq, b9⟩
  replace hb := hb.away av_hb_r b9
  replace hp := blk_a hp b9 d_p_r
  replace hz := blk_a hz b9 d_z_r
  replace hd := blk_a hd b9 (ne_symm d_r_d)
  replace bel := below_grown bel b9 or bel.size
  clear b9
  clear hr rest
  have hr := hq
  have rest := sq
  clear hq sq
  have av8_rest_p := av5_rest_p.sub uq
  have av8_rest_z := av5_rest_z.sub uq
  have av8_rest_r := av5_rest_r.sub uq
  have av8_rest_d := av_rest_d.sub uq
  clear uq
  rw [HLN.out]
  go_wp2_with fail
  with_reducible refine (rd_u16c _ _ _ _ _ _ _ _ _ hr rest).mono ?_
  rintro e w10 ⟨A9, n9, c9, rfl, hq, sq, uq, b10⟩
  replace hb := hb.away av_hb_r b10
  replace hp := blk_a hp b10 d_p_r
  replace hz := blk_a hz b10 d_z_r
  replace hd := blk_a hd b10 (ne_symm d_r_d)
  replace bel := below_grown bel b10 or bel.size
  clear b10
  clear hr rest
  have hr := hq
  have rest := sq
  clear hq sq
  have av9_rest_p := av8_rest_p.sub uq
  have av9_rest_z := av8_rest_z.sub uq
  have av9_rest_r := av8_rest_r.sub uq
  have av9_rest_d := av8_rest_d.sub uq
  clear uq
  rw [HSM.out]
  go_wp2_with fail
  with_reducible refine (rd_short _ _ _ _ _ _ _ hr rest).mono ?_
  rintro e _ ⟨rfl, rfl⟩
  have R33 := cell_lit hp 15 _ rfl
  have R44 := Lib.hid (range_lit hp 0 16 [.int .i64 tos, .int .i64 id, .int .i64 fl, .int .i64 pt, .int .i64 ttl, .int .i64 17, .int .u8 (a0.toNat : Int), .int .u8 (a1.toNat : Int), .int .u8 (a2.toNat : Int), .int .u8 (a3.toNat : Int), .int .u8 (a4.toNat : Int), .int .u8 (a5.toNat : Int), .int .u8 (a6.toNat : Int), .int .u8 (a7.toNat : Int), .slice So no co, .slice Sb nb cb] rfl)
  go_wp2_with (first | ((with_reducible show wpList _ _ _ (⟨some 44, _, _, _, _, _⟩ :: _) _ _); refine wpList_load_rng 38 (.tmp 1) rfl (by kernel_rfl) _ _ rfl _ R44.out _ Tryz.underlying38 rfl (by kernel_rfl) ?_))
  try clear R33
  try clear R44
  with_reducible refine (udfits_any _ _ _ _ _ 17 _ _ _ _ _ _ _ _ _ _ _ _ _ _ ln _ _ hb HX.out HM.out).mono ?_
  rintro e w11 ⟨rfl, b11⟩
  replace hp := blk_u hp b11
  replace hz := blk_u hz b11
  replace hr := blk_u hr b11
  replace hd := blk_u hd b11
  replace hb := hb.below b11
  replace rest := rest.below b11
  replace bel := bel.trans (b11.mono bel.size)
  clear b11
  rw [HC.out]
  go_wp2_with (first | ((with_reducible show wpList _ _ _ (⟨none, Op.store _ (.tmp 2) _, _, _, _, _⟩ :: _) _ _); refine wpList_store_blk rfl 54 (.tmp 2) (.tmp 49) rfl g2 rfl _ rfl _ 54 hz (by rfl) (by kernel_rfl) (by kernel_rfl) ?_; intro w12 hq gr; replace hb := hb.away av_hb_z gr; replace rest := rest.away av9_rest_z gr; replace hp := blk_a hp gr d_p_z; replace hr := blk_a hr gr (ne_symm d_z_r); replace hd := blk_a hd gr (ne_symm d_z_d); replace bel := below_grown bel gr oz bel.size; clear hz; have hz := hq; clear hq gr))
  exact bodyPost_ret (results_cell_tmp_row rfl _ _ _ _ _ _ _ rfl hz Tryz.underlying54 rfl (by kernel_rfl) (.int .i64 5) rfl) rfl (UdPost.none HP.out.symm bel)
theorem udget_any (tos id fl pt ttl pr : Int) (a0 a1 a2 a3 a4 a5 a6 a7 : UInt8) (So Sb : Option Addr) (no co nb cb : Nat) (lb : List UInt8) (w : World) (hb : Sl w Sb nb cb lb) (hm : nb ≤ 100000) : Calls Tryz.prog 24 #[.agg #[.int .i64 tos, .int .i64 id, .int .i64 fl, .int .i64 pt, .int .i64 ttl, .int .i64 pr, .int .u8 (a0.toNat : Int), .int .u8 (a1.toNat : Int), .int .u8 (a2.toNat : Int), .int .u8 (a3.toNat : Int), .int .u8 (a4.toNat : Int), .int .u8 (a5.toNat : Int), .int .u8 (a6.toNat : Int), .int .u8 (a7.toNat : Int), .slice So no co, .slice Sb nb cb]] w (UdPost (udGet fl pt pr a0 a1 a2 a3 a4 a5 a6 a7 lb) w) := by
  by_cases hp : pr = 17
  · subst hp
    rcases (by decide : ∀ b : Bool, b = true ∨ b = false) (decide (pt = 0) && decide (fl % 2 = 0)) with hw | hw
    · by_cases hn : nb < 8
      · exact udget_3 tos id fl pt ttl a0 a1 a2 a3 a4 a5 a6 a7 So Sb no co nb cb lb w hb hw hn
      · obtain ⟨h0, h1, h2, h3, h4, h5, h6, h7, r, rfl⟩ := list8 lb (by rw [hb.1]; omega)
        by_cases hx : be [h4, h5] ≤ nb
        · by_cases hy : 8 ≤ be [h4, h5]
          · by_cases hz : be [h6, h7] = 0
            · exact udget_7 tos id fl pt ttl a0 a1 a2 a3 a4 a5 a6 a7 So Sb no co nb cb h0 h1 h2 h3 h4 h5 h6 h7 r _ _ w hb hm rfl rfl hw hx hy hz
            · by_cases hc : ck (l4Ps a0 a1 a2 a3 a4 a5 a6 a7 17 (be [h4, h5] : Nat) ++ (h0 :: h1 :: h2 :: h3 :: h4 :: h5 :: h6 :: h7 :: r).take (be [h4, h5])) = 0
              · exact udget_8 tos id fl pt ttl a0 a1 a2 a3 a4 a5 a6 a7 So Sb no co nb cb h0 h1 h2 h3 h4 h5 h6 h7 r _ _ w hb hm rfl rfl hw hx hy hz hc
              · exact udget_6 tos id fl pt ttl a0 a1 a2 a3 a4 a5 a6 a7 So Sb no co nb cb h0 h1 h2 h3 h4 h5 h6 h7 r _ _ w hb hm rfl rfl hw hx hy hz hc
          · exact udget_5 tos id fl pt ttl a0 a1 a2 a3 a4 a5 a6 a7 So Sb no co nb cb h0 h1 h2 h3 h4 h5 h6 h7 r _ _ w hb hm rfl rfl hw hx (by omega)
        · exact udget_4 tos id fl pt ttl a0 a1 a2 a3 a4 a5 a6 a7 So Sb no co nb cb h0 h1 h2 h3 h4 h5 h6 h7 r _ _ w hb hm rfl rfl hw (by omega)
    · exact udget_2 tos id fl pt ttl a0 a1 a2 a3 a4 a5 a6 a7 So Sb no co nb cb lb w hw
  · exact udget_1 tos id fl pt ttl pr a0 a1 a2 a3 a4 a5 a6 a7 So Sb no co nb cb lb w hp
open Go.RowKit

/-- One bit turned, not of the length. -/
theorem udp_spoilt {fl pt : Int} (hw : (decide (pt = 0) && decide (fl % 2 = 0)) = true) (a0 a1 a2 a3 a4 a5 a6 a7 : UInt8) (df dt : Int) (b : List UInt8) (hn : b.length ≤ 1472) (j r : Nat) (x y : UInt8) (hj : (udBytes a0 a1 a2 a3 a4 a5 a6 a7 df dt b)[j]? = some x) (hr : r < 8) (hy : y.toNat = x.toNat ^^^ 2 ^ r) (h4 : j ≠ 4) (h5 : j ≠ 5) :
    udErr fl pt 17 a0 a1 a2 a3 a4 a5 a6 a7 ((udBytes a0 a1 a2 a3 a4 a5 a6 a7 df dt b).set j y) = 5 ∨ (udErr fl pt 17 a0 a1 a2 a3 a4 a5 a6 a7 ((udBytes a0 a1 a2 a3 a4 a5 a6 a7 df dt b).set j y) = 0 ∧ ((udBytes a0 a1 a2 a3 a4 a5 a6 a7 df dt b).set j y)[6]? = some 0 ∧ ((udBytes a0 a1 a2 a3 a4 a5 a6 a7 df dt b).set j y)[7]? = some 0) := by
  have hsl := udp_sealed a0 a1 a2 a3 a4 a5 a6 a7 df dt b
  have hlen := udBytes_len a0 a1 a2 a3 a4 a5 a6 a7 df dt b
  have hc4 : (udBytes a0 a1 a2 a3 a4 a5 a6 a7 df dt b)[4]? = some (byteOf ((8 + (b.length : Int)) / 256)) := rfl
  have hc5 : (udBytes a0 a1 a2 a3 a4 a5 a6 a7 df dt b)[5]? = some (byteOf (8 + (b.length : Int))) := rfl
  generalize udBytes a0 a1 a2 a3 a4 a5 a6 a7 df dt b = L at *
  have hsp := seal_spoilt (l4Ps a0 a1 a2 a3 a4 a5 a6 a7 17 (8 + (b.length : Int)) ++ L) (12 + j) r x y (by rw [List.getElem?_append_right (by rw [l4Ps_len]; omega), l4Ps_len, show 12 + j - 12 = j by omega]; exact hj) hr hy hsl
  rw [List.set_append_right _ _ (by rw [l4Ps_len]; omega), l4Ps_len, show 12 + j - 12 = j by omega] at hsp
  have hl2 : (L.set j y).length = 8 + b.length := by rw [List.length_set]; exact hlen
  have hd4 : (L.set j y)[4]? = some (byteOf ((8 + (b.length : Int)) / 256)) := by rw [List.getElem?_set_ne h4]; exact hc4
  have hd5 : (L.set j y)[5]? = some (byteOf (8 + (b.length : Int))) := by rw [List.getElem?_set_ne h5]; exact hc5
  generalize L.set j y = M at *
  obtain ⟨m0, m1, m2, m3, m4, m5, m6, m7, q, rfl⟩ := list8 M (by omega)
  obtain rfl : m4 = byteOf ((8 + (b.length : Int)) / 256) := by simpa using hd4
  obtain rfl : m5 = byteOf (8 + (b.length : Int)) := by simpa using hd5
  rw [ud_at (be_len b.length (by omega)) rfl hw, hl2, if_neg (by omega), if_neg (by omega)]
  rw [List.take_of_length_le (by rw [hl2]; exact Nat.le_refl _), show ((8 + b.length : Nat) : Int) = 8 + (b.length : Int) from rfl]
  by_cases hz : be [m6, m7] = 0
  · right
    rw [if_neg fun h => h.1 hz]
    rw [be_two] at hz
    have g6 : m6 = 0 := UInt8.toNat_inj.1 (by simp; omega)
    have g7 : m7 = 0 := UInt8.toNat_inj.1 (by simp; omega)
    exact ⟨rfl, by rw [g6]; rfl, by rw [g7]; rfl⟩
  · left
    rw [if_pos ⟨hz, hsp⟩]
open Go.RowKit

theorem udget_er (tos id fl pt ttl : Int) (a0 a1 a2 a3 b0 b1 b2 b3 : UInt8) (So Sb : Option Addr) (no co nb cb : Nat) {lb : List UInt8} {er : Int} (w : World) (hb : Sl w Sb nb cb lb) (hm : nb ≤ 100000) (hg : udErr fl pt 17 a0 a1 a2 a3 b0 b1 b2 b3 lb = er) : Calls Tryz.prog 24 #[.agg #[.int .i64 tos, .int .i64 id, .int .i64 fl, .int .i64 pt, .int .i64 ttl, .int .i64 17, .int .u8 (a0.toNat : Int), .int .u8 (a1.toNat : Int), .int .u8 (a2.toNat : Int), .int .u8 (a3.toNat : Int), .int .u8 (b0.toNat : Int), .int .u8 (b1.toNat : Int), .int .u8 (b2.toNat : Int), .int .u8 (b3.toNat : Int), .slice So no co, .slice Sb nb cb]] w fun e w' => ∃ df dt A nd c, e = .returned (.tuple #[.agg #[.int .i64 df, .int .i64 dt, .slice A nd c], .int .i64 er]) ∧ Below w.heap.size w w' := by
  refine (udget_any tos id fl pt ttl 17 a0 a1 a2 a3 b0 b1 b2 b3 So Sb no co nb cb lb w hb hm).mono ?_
  rintro e w' ⟨x, y, q, A, c, er', rfl, hs, hf, bel, hq⟩
  have e1 := congrArg (fun z => z.2.2) hq
  simp only [udGet_er] at e1
  rw [hg] at e1
  subst e1
  exact ⟨x, y, A, _, c, rfl, bel⟩
open Go.RowKit

set_option linter.unusedVariables false in
set_option linter.unusedVariables false in
set_option linter.unusedSimpArgs false in
set_option maxRecDepth 100000 in
set_option maxHeartbeats 16000000 in
theorem ndout_er {lo gn gt gk : Nat} {s : Ts} {k : Ks} {tos id fl pt ttl : Int} {a0 a1 a2 a3 b0 b1 b2 b3 : UInt8} {So Sb : Option Addr} {no co nb cb : Nat} {lp lb : List UInt8} {c0 c1 c2 c3 : UInt8} {t : Int} {er : Int} (w : World) (hT : Np lo gn gt gk w s k) (po : Sl w So no co lp) (pb : Sl w Sb nb cb lb) (an_po : An gn gt gk w So no) (hm : nb ≤ 100000) (hno : no ≤ 100000) (hg : udErr fl pt 17 a0 a1 a2 a3 b0 b1 b2 b3 lb = er) (her : er ≠ 0)  : Calls Tryz.prog 36 #[.pointer (some ⟨gn, 0, none⟩), .agg #[.int .i64 tos, .int .i64 id, .int .i64 fl, .int .i64 pt, .int .i64 ttl, .int .i64 17, .int .u8 (a0.toNat : Int), .int .u8 (a1.toNat : Int), .int .u8 (a2.toNat : Int), .int .u8 (a3.toNat : Int), .int .u8 (b0.toNat : Int), .int .u8 (b1.toNat : Int), .int .u8 (b2.toNat : Int), .int .u8 (b3.toNat : Int), .slice So no co, .slice Sb nb cb], .agg #[.int .u8 (c0.toNat : Int), .int .u8 (c1.toNat : Int), .int .u8 (c2.toNat : Int), .int .u8 (c3.toNat : Int)], .int .i64 t] w fun e w' => e = .returned (.tuple #[.agg #[.int .i64 0, .int .i64 0, .int .i64 0, .int .i64 0, .int .i64 0, .int .i64 0, .int .u8 0, .int .u8 0, .int .u8 0, .int .u8 0, .int .u8 0, .int .u8 0, .int .u8 0, .int .u8 0, .slice none 0 0, .slice none 0 0], .int .i64 er]) ∧ Np lo gn gt gk w' s k ∧ Fn gn gt gk w w' ∧ Below lo w w' := by
  have hlo : lo ≤ w.heap.size := hT.lo_le
  have HLO := Lib.hid hlo
  have hnt := hT.nat
  have fr := Fn.refl gn gt gk w
  have HM := Lib.hid hm
  clear hm
  have HNO := Lib.hid hno
  clear hno
  have HG := Lib.hid hg
  clear hg
  have t1_ : (er == 0) = false := beq_eq_false_iff_ne.2 her
  have t2_ : (er != 0) = true := bne_iff_ne.2 her
  clear her
  have bel := Below.refl lo w
  go_enter Tryz.func36, Tryz.ntmps36
  go_wp2_with (first | ((with_reducible show wpList _ _ _ (⟨some 5, _, _, _, _, _⟩ :: _) _ _); refine wpList_box_n rfl 38 (.tmp 1) rfl #[.int .i64 tos, .int .i64 id, .int .i64 fl, .int .i64 pt, .int .i64 ttl, .int .i64 17, .int .u8 (a0.toNat : Int), .int .u8 (a1.toNat : Int), .int .u8 (a2.toNat : Int), .int .u8 (a3.toNat : Int), .int .u8 (b0.toNat : Int), .int .u8 (b1.toNat : Int), .int .u8 (b2.toNat : Int), .int .u8 (b3.toNat : Int), .slice So no co, .slice Sb nb cb] rfl ?_; intro g5 w1 ge lt hh bb; have ap_pB := hT.ap ge; have d_nt_pB := ne_new (hlt hnt) ge; have av_po_pB := po.av_new ge; have av_pb_pB := pb.av_new ge; have opB := Nat.le_trans (Nat.le_trans hlo bel.size) ge; have ppB := Nat.le_trans bel.size ge; replace hnt := blk_u hnt bb; replace po := po.below bb; replace pb := pb.below bb; replace hT := hT.below bb; replace fr := fr.below bb; replace an_po := an_po.below bb; replace ap_pB := ap_pB.below bb; replace bel := bel.trans (bb.mono (Nat.le_trans hlo bel.size)); have hpB := hh; clear hh lt ge bb) | ((with_reducible show wpList _ _ _ (⟨some 6, _, _, _, _, _⟩ :: _) _ _); refine wpList_box_n rfl 35 (.tmp 2) rfl #[.int .u8 (c0.toNat : Int), .int .u8 (c1.toNat : Int), .int .u8 (c2.toNat : Int), .int .u8 (c3.toNat : Int)] rfl ?_; intro g6 w2 ge lt hh bb; have ap_wB := hT.ap ge; have d_nt_wB := ne_new (hlt hnt) ge; have d_pB_wB := ne_new (hlt hpB) ge; have av_po_wB := po.av_new ge; have av_pb_wB := pb.av_new ge; have owB := Nat.le_trans (Nat.le_trans hlo bel.size) ge; have pwB := Nat.le_trans bel.size ge; replace hnt := blk_u hnt bb; replace hpB := blk_u hpB bb; replace po := po.below bb; replace pb := pb.below bb; replace hT := hT.below bb; replace fr := fr.below bb; replace an_po := an_po.below bb; replace ap_pB := ap_pB.below bb; replace ap_wB := ap_wB.below bb; replace bel := bel.trans (bb.mono (Nat.le_trans hlo bel.size)); have hwB := hh; clear hh lt ge bb) | ((with_reducible show wpList _ _ _ (⟨some 8, _, _, _, _, _⟩ :: _) _ _); refine wpList_new_a rfl 38 rfl #[.int .i64 0, .int .i64 0, .int .i64 0, .int .i64 0, .int .i64 0, .int .i64 0, .int .u8 0, .int .u8 0, .int .u8 0, .int .u8 0, .int .u8 0, .int .u8 0, .int .u8 0, .int .u8 0, .slice none 0 0, .slice none 0 0] (by kernel_rfl) ?_; intro g8 w3 ge hh bb; have ap_rB := hT.ap ge; have d_nt_rB := ne_new (hlt hnt) ge; have d_pB_rB := ne_new (hlt hpB) ge; have d_wB_rB := ne_new (hlt hwB) ge; have av_po_rB := po.av_new ge; have av_pb_rB := pb.av_new ge; have orB := Nat.le_trans (Nat.le_trans hlo bel.size) ge; have prB := Nat.le_trans bel.size ge; replace hnt := blk_u hnt bb; replace hpB := blk_u hpB bb; replace hwB := blk_u hwB bb; replace po := po.below bb; replace pb := pb.below bb; replace hT := hT.below bb; replace fr := fr.below bb; replace an_po := an_po.below bb; replace ap_pB := ap_pB.below bb; replace ap_wB := ap_wB.below bb; replace ap_rB := ap_rB.below bb; replace bel := bel.trans (bb.mono (Nat.le_trans hlo bel.size)); have hrB := hh; clear hh ge bb; have R14 := Lib.hid (range_lit hpB 0 16 [.int .i64 tos, .int .i64 id, .int .i64 fl, .int .i64 pt, .int .i64 ttl, .int .i64 17, .int .u8 (a0.toNat : Int), .int .u8 (a1.toNat : Int), .int .u8 (a2.toNat : Int), .int .u8 (a3.toNat : Int), .int .u8 (b0.toNat : Int), .int .u8 (b1.toNat : Int), .int .u8 (b2.toNat : Int), .int .u8 (b3.toNat : Int), .slice So no co, .slice Sb nb cb] rfl)) | ((with_reducible show wpList _ _ _ (⟨some 14, _, _, _, _, _⟩ :: _) _ _); refine wpList_load_rng 38 (.tmp 5) rfl (by kernel_rfl) _ _ rfl _ R14.out _ Tryz.underlying38 rfl (by kernel_rfl) ?_))
  try clear R14
  with_reducible refine (udget_er _ _ _ _ _ _ _ _ _ _ _ _ _ _ _ _ _ _ _ _  pb HM.out HG.out).mono ?_
  rintro e w4 ⟨x1, x2, D, nd, cd, rfl, b4⟩
  replace hnt := blk_u hnt b4
  replace hpB := blk_u hpB b4
  replace hwB := blk_u hwB b4
  replace hrB := blk_u hrB b4
  replace po := po.below b4
  replace pb := pb.below b4
  replace hT := hT.below b4
  replace fr := fr.below b4
  replace an_po := an_po.below b4
  replace ap_pB := ap_pB.below b4
  replace ap_wB := ap_wB.below b4
  replace ap_rB := ap_rB.below b4
  replace bel := bel.trans (b4.mono (Nat.le_trans hlo bel.size))
  clear b4
  go_wp2_with (first | ((with_reducible show wpList _ _ _ (⟨some 10, _, _, _, _, _⟩ :: _) _ _); refine wpList_new_a rfl 54 rfl #[.int .i64 0, .int .i64 0, .slice none 0 0] (by kernel_rfl) ?_; intro g10 w5 ge hh bb; have ap_dB := hT.ap ge; have d_nt_dB := ne_new (hlt hnt) ge; have d_pB_dB := ne_new (hlt hpB) ge; have d_wB_dB := ne_new (hlt hwB) ge; have d_rB_dB := ne_new (hlt hrB) ge; have av_po_dB := po.av_new ge; have av_pb_dB := pb.av_new ge; have odB := Nat.le_trans (Nat.le_trans hlo bel.size) ge; have pdB := Nat.le_trans bel.size ge; replace hnt := blk_u hnt bb; replace hpB := blk_u hpB bb; replace hwB := blk_u hwB bb; replace hrB := blk_u hrB bb; replace po := po.below bb; replace pb := pb.below bb; replace hT := hT.below bb; replace fr := fr.below bb; replace an_po := an_po.below bb; replace ap_pB := ap_pB.below bb; replace ap_wB := ap_wB.below bb; replace ap_rB := ap_rB.below bb; replace ap_dB := ap_dB.below bb; replace bel := bel.trans (bb.mono (Nat.le_trans hlo bel.size)); have hdB := hh; clear hh ge bb) | ((with_reducible show wpList _ _ _ (⟨none, Op.store _ (.tmp 10) _, _, _, _, _⟩ :: _) _ _); refine wpList_store_blk rfl 54 (.tmp 10) (.tmp 16) rfl g10 rfl _ rfl _ 54 hdB (by rfl) (by kernel_rfl) (by kernel_rfl) ?_; intro w6 hq gr; replace po := po.away av_po_dB gr; replace pb := pb.away av_pb_dB gr; replace hnt := blk_a hnt gr d_nt_dB; replace hpB := blk_a hpB gr d_pB_dB; replace hwB := blk_a hwB gr d_wB_dB; replace hrB := blk_a hrB gr d_rB_dB; replace hT := hT.away ap_dB gr hdB; replace fr := fr.newer ap_dB gr pdB; replace an_po := an_po.grown ap_dB gr; replace ap_pB := ap_pB.grown ap_dB gr; replace ap_wB := ap_wB.grown ap_dB gr; replace ap_rB := ap_rB.grown ap_dB gr; replace ap_dB := ap_dB.grown ap_dB gr; replace bel := below_grown bel gr odB (Nat.le_trans hlo bel.size); clear hdB; have hdB := hq; clear hq gr) | ((with_reducible show wpList _ _ _ (⟨none, Op.store _ (.tmp 8) _, _, _, _, _⟩ :: _) _ _); refine wpList_store_blk rfl 38 (.tmp 8) (.tmp 20) rfl g8 rfl _ rfl _ 38 hrB (by rfl) (by kernel_rfl) (by kernel_rfl) ?_; intro w7 hq gr; replace po := po.away av_po_rB gr; replace pb := pb.away av_pb_rB gr; replace hnt := blk_a hnt gr d_nt_rB; replace hpB := blk_a hpB gr d_pB_rB; replace hwB := blk_a hwB gr d_wB_rB; replace hdB := blk_a hdB gr (ne_symm d_rB_dB); replace hT := hT.away ap_rB gr hrB; replace fr := fr.newer ap_rB gr prB; replace an_po := an_po.grown ap_rB gr; replace ap_pB := ap_pB.grown ap_rB gr; replace ap_wB := ap_wB.grown ap_rB gr; replace ap_rB := ap_rB.grown ap_rB gr; replace ap_dB := ap_dB.grown ap_rB gr; replace bel := below_grown bel gr orB (Nat.le_trans hlo bel.size); clear hrB; have hrB := hq; clear hq gr))
  exact bodyPost_ret (results_cell_tmp_row rfl _ _ _ _ _ _ _ rfl hrB Tryz.underlying38 rfl (by kernel_rfl) (.int .i64 er) rfl) rfl ⟨rfl, hT, fr, bel⟩
open Go.RowKit

set_option linter.unusedVariables false in
set_option linter.unusedVariables false in
set_option linter.unusedSimpArgs false in
set_option maxRecDepth 100000 in
set_option maxHeartbeats 16000000 in
theorem nout_frag {lo gn gt gk : Nat} {s : Ts} {k : Ks} {tos id fl pt ttl pr : Int} {a0 a1 a2 a3 b0 b1 b2 b3 : UInt8} {So Sb : Option Addr} {no co nb cb : Nat} {lp lb : List UInt8} {c0 c1 c2 c3 : UInt8} {t : Int} (w : World) (hT : Np lo gn gt gk w s k) (hw : (decide (pt = 0) && decide (fl % 2 = 0)) = false)  : Calls Tryz.prog 19 #[.pointer (some ⟨gn, 0, none⟩), .agg #[.int .i64 tos, .int .i64 id, .int .i64 fl, .int .i64 pt, .int .i64 ttl, .int .i64 pr, .int .u8 (a0.toNat : Int), .int .u8 (a1.toNat : Int), .int .u8 (a2.toNat : Int), .int .u8 (a3.toNat : Int), .int .u8 (b0.toNat : Int), .int .u8 (b1.toNat : Int), .int .u8 (b2.toNat : Int), .int .u8 (b3.toNat : Int), .slice So no co, .slice Sb nb cb], .agg #[.int .u8 (c0.toNat : Int), .int .u8 (c1.toNat : Int), .int .u8 (c2.toNat : Int), .int .u8 (c3.toNat : Int)], .int .i64 t] w fun e w' => e = .returned (.tuple #[.agg #[.int .i64 0, .int .i64 0, .int .i64 0, .int .i64 0, .int .i64 0, .int .i64 0, .int .u8 0, .int .u8 0, .int .u8 0, .int .u8 0, .int .u8 0, .int .u8 0, .int .u8 0, .int .u8 0, .slice none 0 0, .slice none 0 0], .int .i64 10]) ∧ Np lo gn gt gk w' s k ∧ Fn gn gt gk w w' ∧ Below lo w w' := by
  have hlo : lo ≤ w.heap.size := hT.lo_le
  have HLO := Lib.hid hlo
  have hnt := hT.nat
  have fr := Fn.refl gn gt gk w
  have HW := Lib.hid hw
  clear hw
  have bel := Below.refl lo w
  go_enter Tryz.func19, Tryz.ntmps19
  go_wp2_with (first | ((with_reducible show wpList _ _ _ (⟨some 5, _, _, _, _, _⟩ :: _) _ _); refine wpList_box_n rfl 38 (.tmp 1) rfl #[.int .i64 tos, .int .i64 id, .int .i64 fl, .int .i64 pt, .int .i64 ttl, .int .i64 pr, .int .u8 (a0.toNat : Int), .int .u8 (a1.toNat : Int), .int .u8 (a2.toNat : Int), .int .u8 (a3.toNat : Int), .int .u8 (b0.toNat : Int), .int .u8 (b1.toNat : Int), .int .u8 (b2.toNat : Int), .int .u8 (b3.toNat : Int), .slice So no co, .slice Sb nb cb] rfl ?_; intro g5 w1 ge lt hh bb; have ap_pB := hT.ap ge; have d_nt_pB := ne_new (hlt hnt) ge; have opB := Nat.le_trans (Nat.le_trans hlo bel.size) ge; have ppB := Nat.le_trans bel.size ge; replace hnt := blk_u hnt bb; replace hT := hT.below bb; replace fr := fr.below bb; replace ap_pB := ap_pB.below bb; replace bel := bel.trans (bb.mono (Nat.le_trans hlo bel.size)); have hpB := hh; clear hh lt ge bb) | ((with_reducible show wpList _ _ _ (⟨some 6, _, _, _, _, _⟩ :: _) _ _); refine wpList_box_n rfl 35 (.tmp 2) rfl #[.int .u8 (c0.toNat : Int), .int .u8 (c1.toNat : Int), .int .u8 (c2.toNat : Int), .int .u8 (c3.toNat : Int)] rfl ?_; intro g6 w2 ge lt hh bb; have ap_wB := hT.ap ge; have d_nt_wB := ne_new (hlt hnt) ge; have d_pB_wB := ne_new (hlt hpB) ge; have owB := Nat.le_trans (Nat.le_trans hlo bel.size) ge; have pwB := Nat.le_trans bel.size ge; replace hnt := blk_u hnt bb; replace hpB := blk_u hpB bb; replace hT := hT.below bb; replace fr := fr.below bb; replace ap_pB := ap_pB.below bb; replace ap_wB := ap_wB.below bb; replace bel := bel.trans (bb.mono (Nat.le_trans hlo bel.size)); have hwB := hh; clear hh lt ge bb) | ((with_reducible show wpList _ _ _ (⟨some 8, _, _, _, _, _⟩ :: _) _ _); refine wpList_new_a rfl 38 rfl #[.int .i64 0, .int .i64 0, .int .i64 0, .int .i64 0, .int .i64 0, .int .i64 0, .int .u8 0, .int .u8 0, .int .u8 0, .int .u8 0, .int .u8 0, .int .u8 0, .int .u8 0, .int .u8 0, .slice none 0 0, .slice none 0 0] (by kernel_rfl) ?_; intro g8 w3 ge hh bb; have ap_rB := hT.ap ge; have d_nt_rB := ne_new (hlt hnt) ge; have d_pB_rB := ne_new (hlt hpB) ge; have d_wB_rB := ne_new (hlt hwB) ge; have orB := Nat.le_trans (Nat.le_trans hlo bel.size) ge; have prB := Nat.le_trans bel.size ge; replace hnt := blk_u hnt bb; replace hpB := blk_u hpB bb; replace hwB := blk_u hwB bb; replace hT := hT.below bb; replace fr := fr.below bb; replace ap_pB := ap_pB.below bb; replace ap_wB := ap_wB.below bb; replace ap_rB := ap_rB.below bb; replace bel := bel.trans (bb.mono (Nat.le_trans hlo bel.size)); have hrB := hh; clear hh ge bb; have R10 := Lib.hid (range_lit hpB 0 16 [.int .i64 tos, .int .i64 id, .int .i64 fl, .int .i64 pt, .int .i64 ttl, .int .i64 pr, .int .u8 (a0.toNat : Int), .int .u8 (a1.toNat : Int), .int .u8 (a2.toNat : Int), .int .u8 (a3.toNat : Int), .int .u8 (b0.toNat : Int), .int .u8 (b1.toNat : Int), .int .u8 (b2.toNat : Int), .int .u8 (b3.toNat : Int), .slice So no co, .slice Sb nb cb] rfl)) | ((with_reducible show wpList _ _ _ (⟨some 10, _, _, _, _, _⟩ :: _) _ _); refine wpList_load_rng 38 (.tmp 5) rfl (by kernel_rfl) _ _ rfl _ R10.out _ Tryz.underlying38 rfl (by kernel_rfl) ?_))
  try clear R10
  with_reducible refine (ipwhole_any _ _ _ _ _ _ _ _ _ _ _ _ _ _ _ _ _ _ _ _ _ ).mono ?_
  rintro e w4 ⟨rfl, b4⟩
  replace hnt := blk_u hnt b4
  replace hpB := blk_u hpB b4
  replace hwB := blk_u hwB b4
  replace hrB := blk_u hrB b4
  replace hT := hT.below b4
  replace fr := fr.below b4
  replace ap_pB := ap_pB.below b4
  replace ap_wB := ap_wB.below b4
  replace ap_rB := ap_rB.below b4
  replace bel := bel.trans (b4.mono (Nat.le_trans hlo bel.size))
  clear b4
  rw [HW.out]
  go_wp2_with (first | ((with_reducible show wpList _ _ _ (⟨none, Op.store _ (.tmp 8) _, _, _, _, _⟩ :: _) _ _); refine wpList_store_blk rfl 38 (.tmp 8) (.tmp 13) rfl g8 rfl _ rfl _ 38 hrB (by rfl) (by kernel_rfl) (by kernel_rfl) ?_; intro w5 hq gr; replace hnt := blk_a hnt gr d_nt_rB; replace hpB := blk_a hpB gr d_pB_rB; replace hwB := blk_a hwB gr d_wB_rB; replace hT := hT.away ap_rB gr hrB; replace fr := fr.newer ap_rB gr prB; replace ap_pB := ap_pB.grown ap_rB gr; replace ap_wB := ap_wB.grown ap_rB gr; replace ap_rB := ap_rB.grown ap_rB gr; replace bel := below_grown bel gr orB (Nat.le_trans hlo bel.size); clear hrB; have hrB := hq; clear hq gr))
  exact bodyPost_ret (results_cell_tmp_row rfl _ _ _ _ _ _ _ rfl hrB Tryz.underlying38 rfl (by kernel_rfl) (.int .i64 10) rfl) rfl ⟨rfl, hT, fr, bel⟩
set_option linter.unusedVariables false in
set_option linter.unusedVariables false in
set_option linter.unusedSimpArgs false in
set_option maxRecDepth 100000 in
set_option maxHeartbeats 16000000 in
theorem nout_other {lo gn gt gk : Nat} {s : Ts} {k : Ks} {tos id fl pt ttl pr : Int} {a0 a1 a2 a3 b0 b1 b2 b3 : UInt8} {So Sb : Option Addr} {no co nb cb : Nat} {lp lb : List UInt8} {c0 c1 c2 c3 : UInt8} {t : Int} (w : World) (hT : Np lo gn gt gk w s k) (hw : (decide (pt = 0) && decide (fl % 2 = 0)) = true) (n17 : pr ≠ 17) (n6 : pr ≠ 6) (n1 : pr ≠ 1)  : Calls Tryz.prog 19 #[.pointer (some ⟨gn, 0, none⟩), .agg #[.int .i64 tos, .int .i64 id, .int .i64 fl, .int .i64 pt, .int .i64 ttl, .int .i64 pr, .int .u8 (a0.toNat : Int), .int .u8 (a1.toNat : Int), .int .u8 (a2.toNat : Int), .int .u8 (a3.toNat : Int), .int .u8 (b0.toNat : Int), .int .u8 (b1.toNat : Int), .int .u8 (b2.toNat : Int), .int .u8 (b3.toNat : Int), .slice So no co, .slice Sb nb cb], .agg #[.int .u8 (c0.toNat : Int), .int .u8 (c1.toNat : Int), .int .u8 (c2.toNat : Int), .int .u8 (c3.toNat : Int)], .int .i64 t] w fun e w' => e = .returned (.tuple #[.agg #[.int .i64 0, .int .i64 0, .int .i64 0, .int .i64 0, .int .i64 0, .int .i64 0, .int .u8 0, .int .u8 0, .int .u8 0, .int .u8 0, .int .u8 0, .int .u8 0, .int .u8 0, .int .u8 0, .slice none 0 0, .slice none 0 0], .int .i64 11]) ∧ Np lo gn gt gk w' s k ∧ Fn gn gt gk w w' ∧ Below lo w w' := by
  have hlo : lo ≤ w.heap.size := hT.lo_le
  have HLO := Lib.hid hlo
  have hnt := hT.nat
  have fr := Fn.refl gn gt gk w
  have HW := Lib.hid hw
  clear hw
  have n17_ : (pr == 17) = false := beq_eq_false_iff_ne.2 n17
  clear n17
  have n6_ : (pr == 6) = false := beq_eq_false_iff_ne.2 n6
  clear n6
  have n1_ : (pr == 1) = false := beq_eq_false_iff_ne.2 n1
  clear n1
  have bel := Below.refl lo w
  go_enter Tryz.func19, Tryz.ntmps19
  go_wp2_with (first | ((with_reducible show wpList _ _ _ (⟨some 5, _, _, _, _, _⟩ :: _) _ _); refine wpList_box_n rfl 38 (.tmp 1) rfl #[.int .i64 tos, .int .i64 id, .int .i64 fl, .int .i64 pt, .int .i64 ttl, .int .i64 pr, .int .u8 (a0.toNat : Int), .int .u8 (a1.toNat : Int), .int .u8 (a2.toNat : Int), .int .u8 (a3.toNat : Int), .int .u8 (b0.toNat : Int), .int .u8 (b1.toNat : Int), .int .u8 (b2.toNat : Int), .int .u8 (b3.toNat : Int), .slice So no co, .slice Sb nb cb] rfl ?_; intro g5 w1 ge lt hh bb; have ap_pB := hT.ap ge; have d_nt_pB := ne_new (hlt hnt) ge; have opB := Nat.le_trans (Nat.le_trans hlo bel.size) ge; have ppB := Nat.le_trans bel.size ge; replace hnt := blk_u hnt bb; replace hT := hT.below bb; replace fr := fr.below bb; replace ap_pB := ap_pB.below bb; replace bel := bel.trans (bb.mono (Nat.le_trans hlo bel.size)); have hpB := hh; clear hh lt ge bb) | ((with_reducible show wpList _ _ _ (⟨some 6, _, _, _, _, _⟩ :: _) _ _); refine wpList_box_n rfl 35 (.tmp 2) rfl #[.int .u8 (c0.toNat : Int), .int .u8 (c1.toNat : Int), .int .u8 (c2.toNat : Int), .int .u8 (c3.toNat : Int)] rfl ?_; intro g6 w2 ge lt hh bb; have ap_wB := hT.ap ge; have d_nt_wB := ne_new (hlt hnt) ge; have d_pB_wB := ne_new (hlt hpB) ge; have owB := Nat.le_trans (Nat.le_trans hlo bel.size) ge; have pwB := Nat.le_trans bel.size ge; replace hnt := blk_u hnt bb; replace hpB := blk_u hpB bb; replace hT := hT.below bb; replace fr := fr.below bb; replace ap_pB := ap_pB.below bb; replace ap_wB := ap_wB.below bb; replace bel := bel.trans (bb.mono (Nat.le_trans hlo bel.size)); have hwB := hh; clear hh lt ge bb) | ((with_reducible show wpList _ _ _ (⟨some 8, _, _, _, _, _⟩ :: _) _ _); refine wpList_new_a rfl 38 rfl #[.int .i64 0, .int .i64 0, .int .i64 0, .int .i64 0, .int .i64 0, .int .i64 0, .int .u8 0, .int .u8 0, .int .u8 0, .int .u8 0, .int .u8 0, .int .u8 0, .int .u8 0, .int .u8 0, .slice none 0 0, .slice none 0 0] (by kernel_rfl) ?_; intro g8 w3 ge hh bb; have ap_rB := hT.ap ge; have d_nt_rB := ne_new (hlt hnt) ge; have d_pB_rB := ne_new (hlt hpB) ge; have d_wB_rB := ne_new (hlt hwB) ge; have orB := Nat.le_trans (Nat.le_trans hlo bel.size) ge; have prB := Nat.le_trans bel.size ge; replace hnt := blk_u hnt bb; replace hpB := blk_u hpB bb; replace hwB := blk_u hwB bb; replace hT := hT.below bb; replace fr := fr.below bb; replace ap_pB := ap_pB.below bb; replace ap_wB := ap_wB.below bb; replace ap_rB := ap_rB.below bb; replace bel := bel.trans (bb.mono (Nat.le_trans hlo bel.size)); have hrB := hh; clear hh ge bb; have R10 := Lib.hid (range_lit hpB 0 16 [.int .i64 tos, .int .i64 id, .int .i64 fl, .int .i64 pt, .int .i64 ttl, .int .i64 pr, .int .u8 (a0.toNat : Int), .int .u8 (a1.toNat : Int), .int .u8 (a2.toNat : Int), .int .u8 (a3.toNat : Int), .int .u8 (b0.toNat : Int), .int .u8 (b1.toNat : Int), .int .u8 (b2.toNat : Int), .int .u8 (b3.toNat : Int), .slice So no co, .slice Sb nb cb] rfl)) | ((with_reducible show wpList _ _ _ (⟨some 10, _, _, _, _, _⟩ :: _) _ _); refine wpList_load_rng 38 (.tmp 5) rfl (by kernel_rfl) _ _ rfl _ R10.out _ Tryz.underlying38 rfl (by kernel_rfl) ?_))
  try clear R10
  with_reducible refine (ipwhole_any _ _ _ _ _ _ _ _ _ _ _ _ _ _ _ _ _ _ _ _ _ ).mono ?_
  rintro e w4 ⟨rfl, b4⟩
  replace hnt := blk_u hnt b4
  replace hpB := blk_u hpB b4
  replace hwB := blk_u hwB b4
  replace hrB := blk_u hrB b4
  replace hT := hT.below b4
  replace fr := fr.below b4
  replace ap_pB := ap_pB.below b4
  replace ap_wB := ap_wB.below b4
  replace ap_rB := ap_rB.below b4
  replace bel := bel.trans (b4.mono (Nat.le_trans hlo bel.size))
  clear b4
  rw [HW.out]
  have R15 := cell_lit hpB 5 _ rfl
  go_wp2_with (first | ((with_reducible show wpList _ _ _ (⟨none, Op.store _ (.tmp 8) _, _, _, _, _⟩ :: _) _ _); refine wpList_store_blk rfl 38 (.tmp 8) (.tmp 43) rfl g8 rfl _ rfl _ 38 hrB (by rfl) (by kernel_rfl) (by kernel_rfl) ?_; intro w5 hq gr; replace hnt := blk_a hnt gr d_nt_rB; replace hpB := blk_a hpB gr d_pB_rB; replace hwB := blk_a hwB gr d_wB_rB; replace hT := hT.away ap_rB gr hrB; replace fr := fr.newer ap_rB gr prB; replace ap_pB := ap_pB.grown ap_rB gr; replace ap_wB := ap_wB.grown ap_rB gr; replace ap_rB := ap_rB.grown ap_rB gr; replace bel := below_grown bel gr orB (Nat.le_trans hlo bel.size); clear hrB; have hrB := hq; clear hq gr))
  try clear R15
  exact bodyPost_ret (results_cell_tmp_row rfl _ _ _ _ _ _ _ rfl hrB Tryz.underlying38 rfl (by kernel_rfl) (.int .i64 11) rfl) rfl ⟨rfl, hT, fr, bel⟩
set_option linter.unusedVariables false in
set_option linter.unusedVariables false in
set_option linter.unusedSimpArgs false in
set_option maxRecDepth 100000 in
set_option maxHeartbeats 16000000 in
theorem nout_uer {lo gn gt gk : Nat} {s : Ts} {k : Ks} {tos id fl pt ttl : Int} {a0 a1 a2 a3 b0 b1 b2 b3 : UInt8} {So Sb : Option Addr} {no co nb cb : Nat} {lp lb : List UInt8} {c0 c1 c2 c3 : UInt8} {t : Int} {er : Int} (w : World) (hT : Np lo gn gt gk w s k) (po : Sl w So no co lp) (pb : Sl w Sb nb cb lb) (an_po : An gn gt gk w So no) (hm : nb ≤ 100000) (hno : no ≤ 100000) (hw : (decide (pt = 0) && decide (fl % 2 = 0)) = true) (hg : udErr fl pt 17 a0 a1 a2 a3 b0 b1 b2 b3 lb = er) (her : er ≠ 0)  : Calls Tryz.prog 19 #[.pointer (some ⟨gn, 0, none⟩), .agg #[.int .i64 tos, .int .i64 id, .int .i64 fl, .int .i64 pt, .int .i64 ttl, .int .i64 17, .int .u8 (a0.toNat : Int), .int .u8 (a1.toNat : Int), .int .u8 (a2.toNat : Int), .int .u8 (a3.toNat : Int), .int .u8 (b0.toNat : Int), .int .u8 (b1.toNat : Int), .int .u8 (b2.toNat : Int), .int .u8 (b3.toNat : Int), .slice So no co, .slice Sb nb cb], .agg #[.int .u8 (c0.toNat : Int), .int .u8 (c1.toNat : Int), .int .u8 (c2.toNat : Int), .int .u8 (c3.toNat : Int)], .int .i64 t] w fun e w' => e = .returned (.tuple #[.agg #[.int .i64 0, .int .i64 0, .int .i64 0, .int .i64 0, .int .i64 0, .int .i64 0, .int .u8 0, .int .u8 0, .int .u8 0, .int .u8 0, .int .u8 0, .int .u8 0, .int .u8 0, .int .u8 0, .slice none 0 0, .slice none 0 0], .int .i64 er]) ∧ Np lo gn gt gk w' s k ∧ Fn gn gt gk w w' ∧ Below lo w w' := by
  have hlo : lo ≤ w.heap.size := hT.lo_le
  have HLO := Lib.hid hlo
  have hnt := hT.nat
  have fr := Fn.refl gn gt gk w
  have HM := Lib.hid hm
  clear hm
  have HNO := Lib.hid hno
  clear hno
  have HG := Lib.hid hg
  clear hg
  have HW := Lib.hid hw
  clear hw
  have bel := Below.refl lo w
  go_enter Tryz.func19, Tryz.ntmps19
  go_wp2_with (first | ((with_reducible show wpList _ _ _ (⟨some 5, _, _, _, _, _⟩ :: _) _ _); refine wpList_box_n rfl 38 (.tmp 1) rfl #[.int .i64 tos, .int .i64 id, .int .i64 fl, .int .i64 pt, .int .i64 ttl, .int .i64 17, .int .u8 (a0.toNat : Int), .int .u8 (a1.toNat : Int), .int .u8 (a2.toNat : Int), .int .u8 (a3.toNat : Int), .int .u8 (b0.toNat : Int), .int .u8 (b1.toNat : Int), .int .u8 (b2.toNat : Int), .int .u8 (b3.toNat : Int), .slice So no co, .slice Sb nb cb] rfl ?_; intro g5 w1 ge lt hh bb; have ap_pB := hT.ap ge; have d_nt_pB := ne_new (hlt hnt) ge; have av_po_pB := po.av_new ge; have av_pb_pB := pb.av_new ge; have opB := Nat.le_trans (Nat.le_trans hlo bel.size) ge; have ppB := Nat.le_trans bel.size ge; replace hnt := blk_u hnt bb; replace po := po.below bb; replace pb := pb.below bb; replace hT := hT.below bb; replace fr := fr.below bb; replace an_po := an_po.below bb; replace ap_pB := ap_pB.below bb; replace bel := bel.trans (bb.mono (Nat.le_trans hlo bel.size)); have hpB := hh; clear hh lt ge bb) | ((with_reducible show wpList _ _ _ (⟨some 6, _, _, _, _, _⟩ :: _) _ _); refine wpList_box_n rfl 35 (.tmp 2) rfl #[.int .u8 (c0.toNat : Int), .int .u8 (c1.toNat : Int), .int .u8 (c2.toNat : Int), .int .u8 (c3.toNat : Int)] rfl ?_; intro g6 w2 ge lt hh bb; have ap_wB := hT.ap ge; have d_nt_wB := ne_new (hlt hnt) ge; have d_pB_wB := ne_new (hlt hpB) ge; have av_po_wB := po.av_new ge; have av_pb_wB := pb.av_new ge; have owB := Nat.le_trans (Nat.le_trans hlo bel.size) ge; have pwB := Nat.le_trans bel.size ge; replace hnt := blk_u hnt bb; replace hpB := blk_u hpB bb; replace po := po.below bb; replace pb := pb.below bb; replace hT := hT.below bb; replace fr := fr.below bb; replace an_po := an_po.below bb; replace ap_pB := ap_pB.below bb; replace ap_wB := ap_wB.below bb; replace bel := bel.trans (bb.mono (Nat.le_trans hlo bel.size)); have hwB := hh; clear hh lt ge bb) | ((with_reducible show wpList _ _ _ (⟨some 8, _, _, _, _, _⟩ :: _) _ _); refine wpList_new_a rfl 38 rfl #[.int .i64 0, .int .i64 0, .int .i64 0, .int .i64 0, .int .i64 0, .int .i64 0, .int .u8 0, .int .u8 0, .int .u8 0, .int .u8 0, .int .u8 0, .int .u8 0, .int .u8 0, .int .u8 0, .slice none 0 0, .slice none 0 0] (by kernel_rfl) ?_; intro g8 w3 ge hh bb; have ap_rB := hT.ap ge; have d_nt_rB := ne_new (hlt hnt) ge; have d_pB_rB := ne_new (hlt hpB) ge; have d_wB_rB := ne_new (hlt hwB) ge; have av_po_rB := po.av_new ge; have av_pb_rB := pb.av_new ge; have orB := Nat.le_trans (Nat.le_trans hlo bel.size) ge; have prB := Nat.le_trans bel.size ge; replace hnt := blk_u hnt bb; replace hpB := blk_u hpB bb; replace hwB := blk_u hwB bb; replace po := po.below bb; replace pb := pb.below bb; replace hT := hT.below bb; replace fr := fr.below bb; replace an_po := an_po.below bb; replace ap_pB := ap_pB.below bb; replace ap_wB := ap_wB.below bb; replace ap_rB := ap_rB.below bb; replace bel := bel.trans (bb.mono (Nat.le_trans hlo bel.size)); have hrB := hh; clear hh ge bb; have R10 := Lib.hid (range_lit hpB 0 16 [.int .i64 tos, .int .i64 id, .int .i64 fl, .int .i64 pt, .int .i64 ttl, .int .i64 17, .int .u8 (a0.toNat : Int), .int .u8 (a1.toNat : Int), .int .u8 (a2.toNat : Int), .int .u8 (a3.toNat : Int), .int .u8 (b0.toNat : Int), .int .u8 (b1.toNat : Int), .int .u8 (b2.toNat : Int), .int .u8 (b3.toNat : Int), .slice So no co, .slice Sb nb cb] rfl)) | ((with_reducible show wpList _ _ _ (⟨some 10, _, _, _, _, _⟩ :: _) _ _); refine wpList_load_rng 38 (.tmp 5) rfl (by kernel_rfl) _ _ rfl _ R10.out _ Tryz.underlying38 rfl (by kernel_rfl) ?_))
  try clear R10
  with_reducible refine (ipwhole_any _ _ _ _ _ _ _ _ _ _ _ _ _ _ _ _ _ _ _ _ _ ).mono ?_
  rintro e w4 ⟨rfl, b4⟩
  replace hnt := blk_u hnt b4
  replace hpB := blk_u hpB b4
  replace hwB := blk_u hwB b4
  replace hrB := blk_u hrB b4
  replace po := po.below b4
  replace pb := pb.below b4
  replace hT := hT.below b4
  replace fr := fr.below b4
  replace an_po := an_po.below b4
  replace ap_pB := ap_pB.below b4
  replace ap_wB := ap_wB.below b4
  replace ap_rB := ap_rB.below b4
  replace bel := bel.trans (b4.mono (Nat.le_trans hlo bel.size))
  clear b4
  rw [HW.out]
  have R15 := cell_lit hpB 5 _ rfl
  have R19 := Lib.hid (range_lit hpB 0 16 [.int .i64 tos, .int .i64 id, .int .i64 fl, .int .i64 pt, .int .i64 ttl, .int .i64 17, .int .u8 (a0.toNat : Int), .int .u8 (a1.toNat : Int), .int .u8 (a2.toNat : Int), .int .u8 (a3.toNat : Int), .int .u8 (b0.toNat : Int), .int .u8 (b1.toNat : Int), .int .u8 (b2.toNat : Int), .int .u8 (b3.toNat : Int), .slice So no co, .slice Sb nb cb] rfl)
  go_wp2_with (first | ((with_reducible show wpList _ _ _ (⟨some 19, _, _, _, _, _⟩ :: _) _ _); refine wpList_load_rng 38 (.tmp 5) rfl (by kernel_rfl) _ _ rfl _ R19.out _ Tryz.underlying38 rfl (by kernel_rfl) ?_; have R20 := Lib.hid (range_lit hwB 0 4 [.int .u8 (c0.toNat : Int), .int .u8 (c1.toNat : Int), .int .u8 (c2.toNat : Int), .int .u8 (c3.toNat : Int)] rfl)) | ((with_reducible show wpList _ _ _ (⟨some 20, _, _, _, _, _⟩ :: _) _ _); refine wpList_load_rng 35 (.tmp 6) rfl (by kernel_rfl) _ _ rfl _ R20.out _ Tryz.underlying35 rfl (by kernel_rfl) ?_))
  try clear R15
  try clear R19
  try clear R20
  with_reducible refine (ndout_er _ hT po pb an_po HM.out HNO.out HG.out her).mono ?_
  rintro e w5 ⟨rfl, hT_, f_, bb⟩
  clear hnt
  have x_ := f_ _ _ _ _ hpB ap_pB
  replace hpB := x_.1
  replace ap_pB := x_.2
  clear x_
  have x_ := f_ _ _ _ _ hwB ap_wB
  replace hwB := x_.1
  replace ap_wB := x_.2
  clear x_
  have x_ := f_ _ _ _ _ hrB ap_rB
  replace hrB := x_.1
  replace ap_rB := x_.2
  clear x_
  have x_ := f_.sl po an_po
  replace po := x_.1
  replace an_po := x_.2
  clear x_
  clear pb
  replace fr := fr.trans f_
  clear hT
  have hT := hT_
  replace bel := bel.trans bb
  clear bb f_ hT_
  have hnt := hT.nat
  go_wp2_with (first | ((with_reducible show wpList _ _ _ (⟨none, Op.store _ (.tmp 8) _, _, _, _, _⟩ :: _) _ _); refine wpList_store_blk rfl 38 (.tmp 8) (.tmp 23) rfl g8 rfl _ rfl _ 38 hrB (by rfl) (by kernel_rfl) (by kernel_rfl) ?_; intro w6 hq gr; replace po := po.away av_po_rB gr; replace hpB := blk_a hpB gr d_pB_rB; replace hwB := blk_a hwB gr d_wB_rB; replace hnt := blk_a hnt gr d_nt_rB; replace hT := hT.away ap_rB gr hrB; replace fr := fr.newer ap_rB gr prB; replace an_po := an_po.grown ap_rB gr; replace ap_pB := ap_pB.grown ap_rB gr; replace ap_wB := ap_wB.grown ap_rB gr; replace ap_rB := ap_rB.grown ap_rB gr; replace bel := below_grown bel gr orB (Nat.le_trans hlo bel.size); clear hrB; have hrB := hq; clear hq gr))
  exact bodyPost_ret (results_cell_tmp_row rfl _ _ _ _ _ _ _ rfl hrB Tryz.underlying38 rfl (by kernel_rfl) (.int .i64 er) rfl) rfl ⟨rfl, hT, fr, bel⟩
open Go.RowKit Go.ChangeShapes Go.WideShapes

theorem open_struct {H : Type} {enc : TypeId × Value → H} {P : Program} {w : World} {base : Nat} {sp : Nat → Bool} {held : Bool} {r : Reach} {b0 : Nat} {t : TypeId} {fs : Array Field} {v : Value} {d : DataW H} {p : List MemPlace}
    (ht : P.underlying t = some (.struct fs)) (hv : Value.okWide P w r b0 t v) (h : DataW.Trod enc P w base sp held t v d p) :
    ∃ cs : List Value, v = .agg cs.toArray ∧ cs.length = P.cellsOf t ∧ ∀ (i : Nat) (f : Field), fs[i]? = some f → ∃ y n, DataW.trod enc P w base sp held n f.type (List.take (P.cellsOf f.type) (List.drop f.offset cs)) = some y := by
  obtain ⟨xs, rfl, _⟩ := okWide_struct ht hv
  obtain ⟨fuel, hf⟩ := h
  obtain ⟨ys, n, _, _, hl, hlen, hx⟩ := DataW.trod_struct ht hf
  refine ⟨xs.toList, by simp, by simpa [Value.cells] using hl, fun i f hi => ?_⟩
  have h1 := hx i f hi
  have hi' : i < ys.length := by
    have := (Array.getElem?_eq_some_iff.1 hi).1
    omega
  rw [List.getElem?_eq_getElem hi'] at h1
  exact ⟨_, n, by simpa [Value.cells] using h1⟩
theorem fld_slice {H : Type} {enc : TypeId × Value → H} {P : Program} {w : World} {base : Nat} {held : Bool} {fuel : Nat} {t e : TypeId} {cs : List Value} {x : DataW H × List MemPlace}
    (ht : P.underlying t = some (.slice e)) (he : P.underlying e = some (.int .u8)) (hc : P.cellsOf e = 1) (h : DataW.trod enc P w base (fun _ => true) held fuel t cs = some x) :
    ∃ (A : Option Addr) (n c : Nat) (l : List UInt8), cs = [.slice A n c] ∧ Sl w A n c l := by
  rcases open_ints ht he hc h with ⟨hcs, _⟩ | ⟨a, n, c, zs, hcs, _, hl, hm, hz, _, hcell, hwz⟩
  · exact ⟨none, 0, 0, [], hcs, Sl.nil w⟩
  · obtain ⟨l, hs⟩ := sl_of_row (w := w) (a := some a) (len := n) (cap := c) (zs := zs) (.inr ⟨a, rfl, hl, hm, by simpa using hz, hcell, hwz⟩)
    exact ⟨some a, n, c, l, hcs, hs⟩
theorem cut_list {α : Type} (cs : List α) (o n : Nat) : cs.drop o = (cs.drop o).take n ++ cs.drop (o + n) := by
  rw [← List.drop_drop, List.take_append_drop]
end Go.Proofs.YtbdaejodbcjmfaaGreat
