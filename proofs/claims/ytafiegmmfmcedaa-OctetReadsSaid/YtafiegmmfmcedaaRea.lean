/- OctetReads. -/
import Derived.Test.YtafiegmmfmcedaaWri
namespace Go.Proofs.Ytafiegmmfmcedaa
open Go.RowKit

/-- The slice of ints with address A, length m, capacity c reads as zs. -/
def Il (w : World) (A : Option Addr) (m c : Nat) (zs : List Int) : Prop :=
  zs.length = m ∧ m ≤ c ∧ c ≤ maxLen ∧ (0 < m → ∃ g o, A = some ⟨g, o, none⟩ ∧ ∀ j z, zs[j]? = some z → w.cell? ⟨g, o + j, none⟩ = some (.int .i64 z))
theorem Il.below {w w' : World} {A : Option Addr} {m c : Nat} {zs : List Int} (h : Il w A m c zs) (hb : Below w.heap.size w w') : Il w' A m c zs :=
  ⟨h.1, h.2.1, h.2.2.1, fun hm => by
    obtain ⟨g, o, e, hc⟩ := h.2.2.2 hm
    exact ⟨g, o, e, fun j z hj => (hb.cell (cell_lt (hc j z hj))).trans (hc j z hj)⟩⟩
theorem il_of_row {w : World} {a : Option Addr} {len cap : Nat} {zs : List Int}
    (h : (a = none ∧ len = 0 ∧ cap = 0 ∧ zs = []) ∨ ∃ x, a = some x ∧ len ≤ cap ∧ cap ≤ maxLen ∧ zs.length = cap ∧ (∀ i, i < zs.length → w.cell? (x.add i) = some (.int .i64 (zs.getD i 0))) ∧ ∀ n ∈ zs, (Lit.int .i64 n).wf = true) :
    ∃ l, Il w a len cap l := by
  rcases h with ⟨rfl, rfl, rfl, rfl⟩ | ⟨x, rfl, hl, hm, hz, hcell, _⟩
  · exact ⟨[], rfl, Nat.le_refl _, Nat.zero_le _, fun h => absurd h (by omega)⟩
  · refine ⟨zs.take len, by simp; omega, hl, hm, fun hn => ?_⟩
    obtain ⟨b, off, spot⟩ := x
    have h0 := hcell 0 (by omega)
    have hspot : spot = none := by simpa [Addr.add] using World.cell?_spot h0
    subst hspot
    refine ⟨b, off, rfl, fun j z hj => ?_⟩
    rw [List.getElem?_take] at hj
    split at hj
    · have hjl : j < zs.length := (List.getElem?_eq_some_iff.1 hj).1
      have hc := hcell j hjl
      rw [Addr.add_lit] at hc
      rw [hc]
      rw [List.getElem?_eq_getElem hjl] at hj
      simp only [Option.some.injEq] at hj
      subst hj
      simp [List.getD, List.getElem?_eq_getElem hjl]
    · cases hj

/-- A piece of a slice. -/
theorem slice_mid {w : World} {A : Option Addr} {n c : Nat} {l : List UInt8} (h : Sl w A n c l) {p k : Nat} (hk : p + k ≤ n) :
    ∃ A' c', (∀ W, (Instr.slice 25 (.slice A n c) (some (.int .i64 (p : Int))) (some (.int .i64 ((p : Int) + k))) none).run Try.prog W = .ok (.slice A' k c') W) ∧ Sl w A' k c' ((l.drop p).take k) := by
  have h2 := h.2.1
  have hd := h.drop (k := p) (by omega)
  have ht := hd.take (k := k) (by omega)
  refine ⟨_, _, fun W => ?_, ht⟩
  have hz : ∀ w, (Go.sizeOf 5).run Try.prog w = .ok 1 w := fun w => by kernel_rfl
  have hu : Try.prog.underlying 25 = some (.slice (Try.prog.elem 25)) := by kernel_rfl
  have he : Try.prog.elem 25 = 5 := by kernel_rfl
  rw [run_slice_lh W 25 A n c hu .i64 .i64 _ _ (by omega) (by omega) (by omega), he, hz]
  have e1 : ((p : Int) + k).toNat = p + k := by omega
  simp [Result.andThen, sliced, e1]

/-! The readings, their values under a name. -/
theorem u8_x (g : Nat) (l : List UInt8) (s : Bool) (w : World) (hr : Rd w 42 g l s) (hk : 1 ≤ l.length) (x : Nat) (hx : be (l.take 1) = x) :
    Calls Try.prog 15 #[.pointer (some ⟨g, 0, none⟩)] w fun e w' => e = .returned (.int .i64 x) ∧ Rd w' 42 g (l.drop 1) s ∧ w.grownBy w' (some g) := by subst hx; exact u8_yes g l s w hr hk
theorem u16_x (g : Nat) (l : List UInt8) (s : Bool) (w : World) (hr : Rd w 42 g l s) (hk : 2 ≤ l.length) (x : Nat) (hx : be (l.take 2) = x) :
    Calls Try.prog 16 #[.pointer (some ⟨g, 0, none⟩)] w fun e w' => e = .returned (.int .i64 x) ∧ Rd w' 42 g (l.drop 2) s ∧ w.grownBy w' (some g) := by subst hx; exact u16_yes g l s w hr hk
theorem u32_x (g : Nat) (l : List UInt8) (s : Bool) (w : World) (hr : Rd w 42 g l s) (hk : 4 ≤ l.length) (x : Nat) (hx : be (l.take 4) = x) :
    Calls Try.prog 12 #[.pointer (some ⟨g, 0, none⟩)] w fun e w' => e = .returned (.int .u32 x) ∧ Rd w' 42 g (l.drop 4) s ∧ w.grownBy w' (some g) := by subst hx; exact u32_yes g l s w hr hk
theorem at16_x (A : Option Addr) (n c : Nat) (l : List UInt8) (w : World) (hl : Sl w A n c l) (hk : 2 ≤ n) (x : Nat) (hx : be (l.take 2) = x) :
    Calls Try.prog 17 #[.slice A n c, .int .i64 0] w fun e w' => e = .returned (.int .i64 x) ∧ ∃ q, w' = w.drewN q := by subst hx; exact at16_any A n c 0 l w hl hk (by omega)
theorem at32_x (A : Option Addr) (n c : Nat) (l : List UInt8) (w : World) (hl : Sl w A n c l) (hk : 4 ≤ n) (x : Nat) (hx : be (l.take 4) = x) :
    Calls Try.prog 18 #[.slice A n c, .int .i64 0] w fun e w' => e = .returned (.int .u32 x) ∧ ∃ q, w' = w.drewN q := by subst hx; exact at32_any A n c l w hl hk
theorem left_x (g : Nat) (l : List UInt8) (s : Bool) (w : World) (hr : Rd w 42 g l s) (x : Int) (hx : (l.length : Int) = x) :
    Calls Try.prog 19 #[.pointer (some ⟨g, 0, none⟩)] w fun e w' => e = .returned (.int .i64 x) ∧ w = w' := by subst hx; exact left_any g l s w hr
theorem bytes_void (g : Nat) (l : List UInt8) (s : Bool) (q : Int) (w : World) (hr : Rd w 42 g l s) (h : (q < 0 ∨ l.length < q) ∨ (l = [] ∧ s = true)) :
    Calls Try.prog 10 #[.pointer (some ⟨g, 0, none⟩), .int .i64 q] w fun e w' => ∃ A c, e = .returned (.slice A 0 c) ∧ Sl w' A 0 c [] ∧ Rd w' 42 g [] true ∧ w.grownBy w' (some g) := by
  by_cases hq : q < 0 ∨ (l.length : Int) < q
  · exact bytes_no g l s q w hr hq
  · rcases h with h | ⟨rfl, rfl⟩
    · exact absurd h hq
    · have h0 : q = 0 := by simp at hq; omega
      subst h0
      exact bytes_yes g [] true 0 w hr (by simp) (by omega)

theorem i64_and3 (n : Int) : bits .and .i64 n 3 = n % 4 := by
  have hm : (BitVec.ofInt 64 3).toNat = 2 ^ 2 - 1 := by decide
  have key : (BitVec.ofInt 64 n &&& BitVec.ofInt 64 3).toNat = (n % ((2 ^ 64 : Nat) : Int)).toNat % 2 ^ 2 := by
    rw [BitVec.toNat_and, BitVec.toNat_ofInt, hm, Nat.and_two_pow_sub_one_eq_mod]
  show IntKind.i64.wrap ((BitVec.ofInt 64 n &&& BitVec.ofInt 64 3).toNat : Nat) = n % 4
  rw [key, IntKind.wrap_i64]
  omega

theorem byte_at {w : World} {A : Option Addr} {c : Nat} {l : List UInt8} (h : Sl w A 1 c l) (x : Nat) (hx : be l = x) : ∃ g o, A = some ⟨g, o, none⟩ ∧ w.cell? ⟨g, o, none⟩ = some (.int .u8 (x : Int)) := by
  obtain ⟨g, o, e, hc⟩ := h.2.2.2 (by omega)
  refine ⟨g, o, e, ?_⟩
  match l, h.1, hx, hc with
  | [b], _, hx, hc =>
    have h0 := hc 0 b rfl
    have hb : be [b] = b.toNat := by simp [be]
    rw [← hx, hb]
    exact h0
theorem zero4 (w : World) : Sl (w.alloc (.cells #[.int .u8 0, .int .u8 0, .int .u8 0, .int .u8 0] 5)) (some ⟨w.heap.size, 0, none⟩) 4 4 [0, 0, 0, 0] := Sl.made w 5 [0, 0, 0, 0] (by simp [maxLen])
theorem zero_at {w : World} {g o c : Nat} {t : List UInt8} {n : Nat} (h : Sl w (some ⟨g, o, none⟩) n c (0 :: t)) : w.cell? ⟨g, o, none⟩ = some (.int .u8 0) := by
  obtain ⟨g', o', e, hc⟩ := h.2.2.2 (by have := h.1; simp at this; omega)
  cases e
  exact hc 0 0 rfl
theorem Rd.drewN {w : World} {T : TypeId} {g : Nat} {l : List UInt8} {s : Bool} (h : Rd w T g l s) (q : Nat) : Rd (w.drewN q) T g l s := by
  obtain ⟨A, n, c, h1, h2⟩ := h
  exact ⟨A, n, c, h1, h2.drewN q⟩
theorem below_drewN {B : Nat} {a w : World} (h : Below B a w) (q : Nat) : Below B a (w.drewN q) := ⟨h.os, h.tape, h.output, h.size, h.block⟩

/-- What holds at the head of each round. -/
def Rel (w : World) (g : Nat) (l : List UInt8) (m : Nat) (s6 s7 s8 : Value) (wr : World) : Prop :=
  ∃ (i p : Nat) (sh : Bool), s8 = .int .i64 i ∧ s6 = .int .i64 p ∧ s7 = .bool sh ∧ i ≤ m ∧ p ≤ l.length ∧ (sh = true → p = l.length) ∧ Rd wr 42 g (l.drop p) sh ∧ Below w.heap.size w wr

set_option maxRecDepth 100000 in
set_option maxHeartbeats 8000000 in
theorem reads_short (A B : Option Addr) (n c m d : Nat) (l : List UInt8) (zs : List Int) (w : World) (hl : Sl w A n c l) (hz : Il w B m d zs) (hn : n ≤ 200) (hm : m ≤ 100) :
    Calls Try.prog 4 #[.slice A n c, .slice B m d] w fun e w' => e = .returned (.bool true) ∧ Below w.heap.size w w' := by
  obtain ⟨i, hi, hz0, hz1, hz2⟩ := info_parts Try.info5
  have b1 : (n : Int) ≤ 200 := by omega
  have b2 : (m : Int) ≤ 100 := by omega
  have b3 : (0 : Int) ≤ m := by omega
  have b4 : (0 : Int) ≤ n := by omega
  go_enter Try.func4, Try.ntmps4
  go_wp2_with fail
  refine (awake_any _).mono ?_
  rintro e w1 ⟨rfl, bel1⟩
  have hown := own_empty w1
  have bel1a := bel1.alloc bel1.size (.cells #[] 5)
  have hl1 := hl.below bel1a
  go_wp2_with (at_builtin; refine wpList_append_bytes _ rfl (.tmp 23) (.tmp 24) 25 rfl w1.heap.size 5 i (.int .u8 0) Try.underlying25 hi hz0 hz1 hz2 rfl _ 0 [] rfl hown A n c l rfl hl1 ?c1 ?c2 ?_)
  case c1 => omega
  case c2 => simp
  intro v2 w2 hown2 hg2 hat2
  have bel2 : Below w.heap.size w w2 := bel1a.grown hg2 bel1a.size (fun k h => by have := bel1.size; simp [Value.ownBlock] at h; omega)
  clear hat2 hg2 hown hl1 hi hz0 hz1 hz2
  obtain ⟨A2, c2, rfl, h2⟩ := Sl.of_own hown2
  clear hown2
  go_wp2_with fail
  refine (read_any _ _ _ _ _ h2 (by omega)).mono ?_
  rintro e w5 ⟨g, rfl, hr5, bel5, hgs⟩
  have bel5a := bel2.trans (bel5.mono bel2.size)
  have hgw : w.heap.size ≤ g := Nat.le_trans bel2.size hgs
  clear bel2 bel5 hgs bel1 bel1a h2
  go_wp2_with fail
  go_loopw [6, 7, 8] (fun s6 s7 s8 wr => Rel w g l m s6 s7 s8 wr) (fun _ _ s8 _ => m - (intOf s8).toNat)
  case atStart => exact ⟨0, 0, false, rfl, rfl, rfl, Nat.zero_le _, Nat.zero_le _, (fun h => by cases h), hr5, bel5a⟩
  case round =>
    obtain ⟨i, p, sh, rfl, rfl, rfl, hi, hp, hsh, hrd, bel⟩ := hrel
    by_cases hlt : i < m
    · have hz0 := hz.1
      obtain ⟨bg, bo, rfl, hcz⟩ := (hz.below bel).2.2.2 (by omega)
      have hil : i < zs.length := by omega
      have hcell := hcz i _ (List.getElem?_eq_getElem hil)
      generalize zs[i] = z at hcell
      clear hcz hz0 hil hr5 bel5a
      have c1 : (0 : Int) ≤ i := by omega
      have c2 : (i : Int) < m := by omega
      have c3 : (0 : Int) ≤ p := by omega
      have hln := hl.1
      have c4 : (p : Int) ≤ n := by omega
      have e3 := i64_and3 z
      have hk : z % 4 = 0 ∨ z % 4 = 1 ∨ z % 4 = 2 ∨ z % 4 = 3 := by omega
      rcases hk with hk | hk | hk | hk
      · rw [hk] at e3
        clear hk
        go_wp2_with fail
        refine wp_region_held_drew (S := fun W => W.cell? ⟨bg, bo + i, none⟩ = some (.int .i64 z)) (by kernel_rfl) hcell (fun hH => ?_)
        refine wpAnyH_take (i := 0) (v := ?_) rfl (by kernel_rfl) (by kernel_rfl) (by kernel_rfl) (fun _ _ _ h => h) (Or.inl ⟨by rfl, ?_⟩) hH ?_
        rotate_left
        · ((intro w hw; (try dsimp only at hw); go_simp) <;> with_reducible rfl)
        simp only [Act.put, List.getElem_toArray, List.getElem_cons_zero, List.setIfInBounds_toArray, List.set_cons_zero, List.set_cons_succ]
        refine wpAnyH_take (i := 1) (v := ?_) rfl (by kernel_rfl) (by kernel_rfl) (by kernel_rfl) (fun _ _ _ h => h) (Or.inl ⟨by rfl, ?_⟩) hH ?_
        rotate_left
        · ((intro w hw; (try dsimp only at hw); go_simp) <;> with_reducible rfl)
        simp only [Act.put, List.getElem_toArray, List.getElem_cons_zero, List.getElem_cons_succ, List.setIfInBounds_toArray, List.set_cons_zero, List.set_cons_succ]
        refine wpAnyH_take (i := 2) (v := ?_) rfl (by kernel_rfl) (by kernel_rfl) (by kernel_rfl) (fun _ _ _ h => h) (Or.inl ⟨by rfl, ?_⟩) hH ?_
        rotate_left
        · ((intro w hw; (try dsimp only at hw); go_simp) <;> with_reducible rfl)
        simp only [Act.put, List.getElem_toArray, List.getElem_cons_zero, List.getElem_cons_succ, List.setIfInBounds_toArray, List.set_cons_zero, List.set_cons_succ]
        refine wpAnyH_take (i := 3) (v := ?_) rfl (by kernel_rfl) (by kernel_rfl) (by kernel_rfl) (fun _ _ _ h => h) (Or.inl ⟨by rfl, ?_⟩) hH ?_
        rotate_left
        · ((intro w hw; (try dsimp only at hw); go_simp) <;> with_reducible rfl)
        simp only [Act.put, List.getElem_toArray, List.getElem_cons_zero, List.getElem_cons_succ, List.setIfInBounds_toArray, List.set_cons_zero, List.set_cons_succ]
        refine wpAnyH_take (i := 4) (v := ?_) rfl (by kernel_rfl) (by kernel_rfl) (by kernel_rfl) (fun _ _ _ h => h) (Or.inl ⟨by rfl, ?_⟩) hH ?_
        rotate_left
        · ((intro w hw; (try dsimp only at hw); go_simp) <;> with_reducible rfl)
        simp only [Act.put, List.getElem_toArray, List.getElem_cons_zero, List.getElem_cons_succ, List.setIfInBounds_toArray, List.set_cons_zero, List.set_cons_succ]
        refine wpAnyH_take (i := 6) (v := ?_) rfl (by kernel_rfl) (by kernel_rfl) (by kernel_rfl) (fun _ _ _ h => h) (Or.inl ⟨by rfl, ?_⟩) hH ?_
        rotate_left
        · ((intro w hw; (try dsimp only at hw); go_simp) <;> with_reducible rfl)
        simp only [Act.put, List.getElem_toArray, List.getElem_cons_zero, List.getElem_cons_succ, List.setIfInBounds_toArray, List.set_cons_zero, List.set_cons_succ]
        refine wpAnyH_take (i := 7) (v := ?_) rfl (by kernel_rfl) (by kernel_rfl) (by kernel_rfl) (fun _ _ _ h => h) (Or.inl ⟨by rfl, ?_⟩) hH ?_
        rotate_left
        · ((intro w hw; (try dsimp only at hw); go_simp) <;> with_reducible rfl)
        simp only [Act.put, List.getElem_toArray, List.getElem_cons_zero, List.getElem_cons_succ, List.setIfInBounds_toArray, List.set_cons_zero, List.set_cons_succ]
        refine wpAnyH_take (i := 8) (v := ?_) rfl (by kernel_rfl) (by kernel_rfl) (by kernel_rfl) (fun _ _ _ h => h) (Or.inl ⟨by rfl, ?_⟩) hH ?_
        rotate_left
        · ((intro w hw; (try dsimp only at hw); go_simp) <;> with_reducible rfl)
        simp only [Act.put, List.getElem_toArray, List.getElem_cons_zero, List.getElem_cons_succ, List.setIfInBounds_toArray, List.set_cons_zero, List.set_cons_succ]
        refine wpAnyH_take (i := 9) (v := ?_) rfl (by kernel_rfl) (by kernel_rfl) (by kernel_rfl) (fun _ _ _ h => h) (Or.inl ⟨by rfl, ?_⟩) hH ?_
        rotate_left
        · ((intro w hw; (try dsimp only at hw); go_simp) <;> with_reducible rfl)
        simp only [Act.put, List.getElem_toArray, List.getElem_cons_zero, List.getElem_cons_succ, List.setIfInBounds_toArray, List.set_cons_zero, List.set_cons_succ]
        refine wpAnyH_take (i := 10) (v := ?_) rfl (by kernel_rfl) (by kernel_rfl) (by kernel_rfl) (fun _ _ _ h => h) (Or.inl ⟨by rfl, ?_⟩) hH ?_
        rotate_left
        · ((intro w hw; (try dsimp only at hw); go_simp) <;> with_reducible rfl)
        simp only [Act.put, List.getElem_toArray, List.getElem_cons_zero, List.getElem_cons_succ, List.setIfInBounds_toArray, List.set_cons_zero, List.set_cons_succ]
        refine wpAnyH_ready (rs := [5]) (by kernel_rfl) (by simp) ?_
        refine AllReadyH.cons (o := _) rfl (fun K hK => ?_) AllReadyH.nil
        simp only [List.getElem_toArray, List.getElem_cons_zero, List.getElem_cons_succ]
        go_simp
        have belB : Below wr.heap.size wr ((wr.alloc (Obj.cells #[.int .i64 1, .int .i64 2, .int .i64 4, .int .i64 (z / 4)] 3)).drew) := ((Below.refl _ _).alloc (Nat.le_refl _) _).drew
        have hnew : ((wr.alloc (Obj.cells #[.int .i64 1, .int .i64 2, .int .i64 4, .int .i64 (z / 4)] 3)).drew).cell? ⟨wr.heap.size, 0, none⟩ = some (.int .i64 1) := by
          have h1 := heap_alloc_new wr (.cells #[.int .i64 1, .int .i64 2, .int .i64 4, .int .i64 (z / 4)] 3)
          show (wr.alloc _).cell? _ = _
          simp only [World.cell?, h1]
          rfl
        generalize (wr.alloc (Obj.cells #[.int .i64 1, .int .i64 2, .int .i64 4, .int .i64 (z / 4)] 3)).drew = W0 at *
        have hold := (belB.cell (p := ⟨bg, bo + i, none⟩) (cell_lt hcell)).trans hcell
        refine hK.out _ _ hold (fun hH0 => ?_)
        refine wpAnyH_grow (S' := fun W => W.cell? ⟨bg, bo + i, none⟩ = some (.int .i64 z) ∧ W.cell? ⟨wr.heap.size, 0, none⟩ = some (.int .i64 1)) (fun W h => h.1) ?_
        have hH1 := And.intro hH0 hnew
        clear hK K hH hH0
        refine wpAnyH_take (i := 11) (v := ?_) rfl (by kernel_rfl) (by kernel_rfl) (by kernel_rfl) (fun _ _ _ h => h) (Or.inl ⟨by rfl, ?_⟩) hH1 ?_
        rotate_left
        · ((intro w hw; (try dsimp only at hw); go_simp) <;> with_reducible rfl)
        simp only [Act.put, List.getElem_toArray, List.getElem_cons_zero, List.getElem_cons_succ, List.setIfInBounds_toArray, List.set_cons_zero, List.set_cons_succ]
        refine wpAnyH_take (i := 12) (v := ?_) rfl (by kernel_rfl) (by kernel_rfl) (by kernel_rfl) (fun _ _ _ h => h) (Or.inl ⟨by rfl, ?_⟩) hH1 ?_
        rotate_left
        · ((intro w hw; (try dsimp only at hw); go_simp) <;> with_reducible rfl)
        simp only [Act.put, List.getElem_toArray, List.getElem_cons_zero, List.getElem_cons_succ, List.setIfInBounds_toArray, List.set_cons_zero, List.set_cons_succ]
        refine wpAnyH_take (i := 13) (v := ?_) rfl (by kernel_rfl) (by kernel_rfl) (by kernel_rfl) (fun _ _ _ h => h) (Or.inl ⟨by rfl, ?_⟩) hH1 ?_
        rotate_left
        · ((intro w hw; (try dsimp only at hw); go_simp) <;> with_reducible rfl)
        simp only [Act.put, List.getElem_toArray, List.getElem_cons_zero, List.getElem_cons_succ, List.setIfInBounds_toArray, List.set_cons_zero, List.set_cons_succ]
        refine wpAnyH_done (by kernel_rfl) ?_ _
        have bel0 := bel.trans (belB.mono bel.size)
        have hl0 := hl.below bel0
        have hrd0 := hrd.below belB
        have hc0 := hold
        clear hH1 belB hnew hold hcell bel hrd
        cases sh
        · by_cases hok : (1 : Int) ≤ n - p
          · obtain ⟨A', c', hs, hw⟩ := slice_mid hl0 (p := p) (k := 1) (by omega)
            have hs1 : ∀ W, (Instr.slice 25 (.slice A n c) (some (.int .i64 (p : Int))) (some (.int .i64 ((p : Int) + 1))) none).run Try.prog W = .ok (.slice A' 1 c') W := hs
            clear hs
            obtain ⟨x, Hx⟩ : ∃ x, Hid (be ((l.drop p).take 1) = x) := ⟨_, rfl⟩
            obtain ⟨d0, o0, rfl, _⟩ := byte_at hw x Hx.out
            have hx1 := be_lt 1 ((l.drop p).take 1) hw.1
            rw [Hx.out] at hx1
            have x0 : (0 : Int) ≤ x := by omega
            have x1 : (x : Int) < 256 := by omega
            have hS0 := hw.drew
            have hwx : IntKind.i64.wrap (x : Int) = x := IntWalk.i64_in _ (by omega)
            go_wp2_with fail
            refine wp_region_held_drew (S := fun W => Sl W (some ⟨d0, o0, none⟩) 1 c' ((l.drop p).take 1)) (by kernel_rfl) hS0 (fun hH => ?_)
            refine wpAnyH_take (i := 0) (v := ?_) rfl (by kernel_rfl) (by kernel_rfl) (by kernel_rfl) (fun _ _ _ h => h) (Or.inl ⟨by rfl, ?_⟩) hH ?_
            rotate_left
            · ((intro w hw; clear hw; go_simp) <;> with_reducible rfl)
            simp only [Act.put, List.getElem_toArray, List.getElem_cons_zero, List.setIfInBounds_toArray, List.set_cons_zero, List.set_cons_succ]
            refine wpAnyH_take (i := 2) (v := ?_) rfl (by kernel_rfl) (by kernel_rfl) (by kernel_rfl) (fun _ _ _ h => h) (Or.inl ⟨by rfl, ?_⟩) hH ?_
            rotate_left
            · ((intro w hw; clear hw; go_simp) <;> with_reducible rfl)
            simp only [Act.put, List.getElem_toArray, List.getElem_cons_zero, List.getElem_cons_succ, List.setIfInBounds_toArray, List.set_cons_zero, List.set_cons_succ]
            refine wpAnyH_take (i := 3) (v := ?_) rfl (by kernel_rfl) (by kernel_rfl) (by kernel_rfl) (fun _ _ _ h => h) (Or.inl ⟨by rfl, ?_⟩) hH ?_
            rotate_left
            · ((intro w hw; clear hw; go_simp) <;> with_reducible rfl)
            simp only [Act.put, List.getElem_toArray, List.getElem_cons_zero, List.getElem_cons_succ, List.setIfInBounds_toArray, List.set_cons_zero, List.set_cons_succ]
            refine wpAnyH_take (i := 4) (v := .int .u8 (x : Int)) rfl (by kernel_rfl) (by kernel_rfl) (by kernel_rfl) (fun _ _ _ h => h) (Or.inl ⟨by rfl, fun W hW => by obtain ⟨d1, o1, hd1, hb1⟩ := byte_at hW x Hx.out; cases hd1; go_simp⟩) hH ?_
            simp only [Act.put, List.getElem_toArray, List.getElem_cons_zero, List.getElem_cons_succ, List.setIfInBounds_toArray, List.set_cons_zero, List.set_cons_succ]
            refine wpAnyH_take (i := 5) (v := ?_) rfl (by kernel_rfl) (by kernel_rfl) (by kernel_rfl) (fun _ _ _ h => h) (Or.inl ⟨by rfl, ?_⟩) hH ?_
            rotate_left
            · ((intro w hw; clear hw; go_simp) <;> with_reducible rfl)
            simp only [Act.put, List.getElem_toArray, List.getElem_cons_zero, List.getElem_cons_succ, List.setIfInBounds_toArray, List.set_cons_zero, List.set_cons_succ]
            refine wpAnyH_ready (rs := [1]) (by kernel_rfl) (by simp) ?_
            refine AllReadyH.cons (o := _) rfl (fun K hK => ?_) AllReadyH.nil
            simp only [List.getElem_toArray, List.getElem_cons_zero, List.getElem_cons_succ]
            go_simp
            refine (u8_x g _ false _ hrd0.drew (by rw [List.length_drop]; omega) x Hx.out).mono ?_
            rintro e W1 ⟨rfl, hr1, hg1⟩
            dsimp only
            have bel1 : Below w.heap.size w W1 := bel0.drew.grown hg1 bel0.size (fun k h => by cases h; exact hgw)
            refine hK.out _ _ (hH.far hrd0.drew hg1) (fun hH1 => ?_)
            clear hK K hH hg1 bel0 hrd0
            refine wpAnyH_take (i := 6) (v := ?_) rfl (by kernel_rfl) (by kernel_rfl) (by kernel_rfl) (fun _ _ _ h => h) (Or.inl ⟨by rfl, ?_⟩) hH1 ?_
            rotate_left
            · ((intro w hw; clear hw; go_simp) <;> with_reducible rfl)
            simp only [Act.put, List.getElem_toArray, List.getElem_cons_zero, List.getElem_cons_succ, List.setIfInBounds_toArray, List.set_cons_zero, List.set_cons_succ]
            refine wpAnyH_done (by kernel_rfl) ?_ _
            clear hH1
            rw [List.drop_drop] at hr1
            go_wp2_with fail
            refine (short_any g _ _ _ hr1).mono ?_
            rintro e w11 ⟨rfl, rfl⟩
            go_wp2_with fail
            refine (left_x g _ _ _ hr1 ((n : Int) - (p + 1)) (by rw [List.length_drop]; omega)).mono ?_
            rintro e w11 ⟨rfl, rfl⟩
            go_wp2
            go_roundw
            case rel => exact ⟨i + 1, p + 1, false, by go_num, by go_num, rfl, by omega, by omega, (fun h => by cases h), hr1, bel1⟩
            case measure => simp [intOf]; omega
          · have hok' : (n : Int) - p < 1 := by omega
            clear hok
            have belz := (Below.refl W0.heap.size W0).alloc (Nat.le_refl _) (.cells #[.int .u8 0, .int .u8 0, .int .u8 0, .int .u8 0] 5)
            have hc2 := (belz.cell (p := ⟨bg, bo + i, none⟩) (cell_lt hc0)).trans hc0
            have hw := zero4 W0
            have bel2 := bel0.trans (belz.mono bel0.size)
            have hrd2 := hrd0.below belz
            go_wp2_with fail
            generalize W0.alloc (.cells #[.int .u8 0, .int .u8 0, .int .u8 0, .int .u8 0] 5) = W2 at *
            clear belz bel0 hrd0 hl0 hc0 hc2
            have hS0 := hw.drew
            refine wp_region_held_drew (S := fun W => Sl W (some ⟨W0.heap.size, 0, none⟩) 4 4 [0, 0, 0, 0]) (by kernel_rfl) hS0 (fun hH => ?_)
            refine wpAnyH_take (i := 0) (v := ?_) rfl (by kernel_rfl) (by kernel_rfl) (by kernel_rfl) (fun _ _ _ h => h) (Or.inl ⟨by rfl, ?_⟩) hH ?_
            rotate_left
            · ((intro w hw; clear hw; go_simp) <;> with_reducible rfl)
            simp only [Act.put, List.getElem_toArray, List.getElem_cons_zero, List.setIfInBounds_toArray, List.set_cons_zero, List.set_cons_succ]
            refine wpAnyH_take (i := 2) (v := ?_) rfl (by kernel_rfl) (by kernel_rfl) (by kernel_rfl) (fun _ _ _ h => h) (Or.inl ⟨by rfl, ?_⟩) hH ?_
            rotate_left
            · ((intro w hw; clear hw; go_simp) <;> with_reducible rfl)
            simp only [Act.put, List.getElem_toArray, List.getElem_cons_zero, List.getElem_cons_succ, List.setIfInBounds_toArray, List.set_cons_zero, List.set_cons_succ]
            refine wpAnyH_take (i := 3) (v := ?_) rfl (by kernel_rfl) (by kernel_rfl) (by kernel_rfl) (fun _ _ _ h => h) (Or.inl ⟨by rfl, ?_⟩) hH ?_
            rotate_left
            · ((intro w hw; clear hw; go_simp) <;> with_reducible rfl)
            simp only [Act.put, List.getElem_toArray, List.getElem_cons_zero, List.getElem_cons_succ, List.setIfInBounds_toArray, List.set_cons_zero, List.set_cons_succ]
            refine wpAnyH_take (i := 4) (v := .int .u8 0) rfl (by kernel_rfl) (by kernel_rfl) (by kernel_rfl) (fun _ _ _ h => h) (Or.inl ⟨by rfl, fun W hW => by have hb1 := zero_at hW; go_simp⟩) hH ?_
            simp only [Act.put, List.getElem_toArray, List.getElem_cons_zero, List.getElem_cons_succ, List.setIfInBounds_toArray, List.set_cons_zero, List.set_cons_succ]
            refine wpAnyH_take (i := 5) (v := ?_) rfl (by kernel_rfl) (by kernel_rfl) (by kernel_rfl) (fun _ _ _ h => h) (Or.inl ⟨by rfl, ?_⟩) hH ?_
            rotate_left
            · ((intro w hw; clear hw; go_simp) <;> with_reducible rfl)
            simp only [Act.put, List.getElem_toArray, List.getElem_cons_zero, List.getElem_cons_succ, List.setIfInBounds_toArray, List.set_cons_zero, List.set_cons_succ]
            refine wpAnyH_ready (rs := [1]) (by kernel_rfl) (by simp) ?_
            refine AllReadyH.cons (o := _) rfl (fun K hK => ?_) AllReadyH.nil
            simp only [List.getElem_toArray, List.getElem_cons_zero, List.getElem_cons_succ]
            go_simp
            refine (u8_no g _ _ _ hrd2.drew (by rw [List.length_drop]; omega)).mono ?_
            rintro e W1 ⟨rfl, hr1, hg1⟩
            dsimp only
            have bel1 : Below w.heap.size w W1 := bel2.drew.grown hg1 bel2.size (fun k h => by cases h; exact hgw)
            refine hK.out _ _ (hH.far hrd2.drew hg1) (fun hH1 => ?_)
            clear hK K hH hg1 bel2 hrd2
            refine wpAnyH_take (i := 6) (v := ?_) rfl (by kernel_rfl) (by kernel_rfl) (by kernel_rfl) (fun _ _ _ h => h) (Or.inl ⟨by rfl, ?_⟩) hH1 ?_
            rotate_left
            · ((intro w hw; clear hw; go_simp) <;> with_reducible rfl)
            simp only [Act.put, List.getElem_toArray, List.getElem_cons_zero, List.getElem_cons_succ, List.setIfInBounds_toArray, List.set_cons_zero, List.set_cons_succ]
            refine wpAnyH_done (by kernel_rfl) ?_ _
            clear hH1
            have hr1' : Rd W1 42 g (l.drop n) true := by rw [List.drop_of_length_le (by omega)]; exact hr1
            clear hr1
            go_wp2_with fail
            refine (short_any g _ _ _ hr1').mono ?_
            rintro e w11 ⟨rfl, rfl⟩
            go_wp2_with fail
            refine (left_x g _ _ _ hr1' (0) (by rw [List.length_drop]; omega)).mono ?_
            rintro e w11 ⟨rfl, rfl⟩
            go_wp2
            go_roundw
            case rel => exact ⟨i + 1, n, true, by go_num, by go_num, rfl, by omega, by omega, (fun h => by omega), hr1', bel1⟩
            case measure => simp [intOf]; omega
        · have hpn := hsh rfl
          have belz := (Below.refl W0.heap.size W0).alloc (Nat.le_refl _) (.cells #[.int .u8 0, .int .u8 0, .int .u8 0, .int .u8 0] 5)
          have hc2 := (belz.cell (p := ⟨bg, bo + i, none⟩) (cell_lt hc0)).trans hc0
          have hw := zero4 W0
          have bel2 := bel0.trans (belz.mono bel0.size)
          have hrd2 := hrd0.below belz
          go_wp2_with fail
          generalize W0.alloc (.cells #[.int .u8 0, .int .u8 0, .int .u8 0, .int .u8 0] 5) = W2 at *
          clear belz bel0 hrd0 hl0 hc0 hc2
          have hS0 := hw.drew
          refine wp_region_held_drew (S := fun W => Sl W (some ⟨W0.heap.size, 0, none⟩) 4 4 [0, 0, 0, 0]) (by kernel_rfl) hS0 (fun hH => ?_)
          refine wpAnyH_take (i := 0) (v := ?_) rfl (by kernel_rfl) (by kernel_rfl) (by kernel_rfl) (fun _ _ _ h => h) (Or.inl ⟨by rfl, ?_⟩) hH ?_
          rotate_left
          · ((intro w hw; clear hw; go_simp) <;> with_reducible rfl)
          simp only [Act.put, List.getElem_toArray, List.getElem_cons_zero, List.setIfInBounds_toArray, List.set_cons_zero, List.set_cons_succ]
          refine wpAnyH_take (i := 2) (v := ?_) rfl (by kernel_rfl) (by kernel_rfl) (by kernel_rfl) (fun _ _ _ h => h) (Or.inl ⟨by rfl, ?_⟩) hH ?_
          rotate_left
          · ((intro w hw; clear hw; go_simp) <;> with_reducible rfl)
          simp only [Act.put, List.getElem_toArray, List.getElem_cons_zero, List.getElem_cons_succ, List.setIfInBounds_toArray, List.set_cons_zero, List.set_cons_succ]
          refine wpAnyH_take (i := 3) (v := ?_) rfl (by kernel_rfl) (by kernel_rfl) (by kernel_rfl) (fun _ _ _ h => h) (Or.inl ⟨by rfl, ?_⟩) hH ?_
          rotate_left
          · ((intro w hw; clear hw; go_simp) <;> with_reducible rfl)
          simp only [Act.put, List.getElem_toArray, List.getElem_cons_zero, List.getElem_cons_succ, List.setIfInBounds_toArray, List.set_cons_zero, List.set_cons_succ]
          refine wpAnyH_take (i := 4) (v := .int .u8 0) rfl (by kernel_rfl) (by kernel_rfl) (by kernel_rfl) (fun _ _ _ h => h) (Or.inl ⟨by rfl, fun W hW => by have hb1 := zero_at hW; go_simp⟩) hH ?_
          simp only [Act.put, List.getElem_toArray, List.getElem_cons_zero, List.getElem_cons_succ, List.setIfInBounds_toArray, List.set_cons_zero, List.set_cons_succ]
          refine wpAnyH_take (i := 5) (v := ?_) rfl (by kernel_rfl) (by kernel_rfl) (by kernel_rfl) (fun _ _ _ h => h) (Or.inl ⟨by rfl, ?_⟩) hH ?_
          rotate_left
          · ((intro w hw; clear hw; go_simp) <;> with_reducible rfl)
          simp only [Act.put, List.getElem_toArray, List.getElem_cons_zero, List.getElem_cons_succ, List.setIfInBounds_toArray, List.set_cons_zero, List.set_cons_succ]
          refine wpAnyH_ready (rs := [1]) (by kernel_rfl) (by simp) ?_
          refine AllReadyH.cons (o := _) rfl (fun K hK => ?_) AllReadyH.nil
          simp only [List.getElem_toArray, List.getElem_cons_zero, List.getElem_cons_succ]
          go_simp
          refine (u8_no g _ _ _ hrd2.drew (by rw [List.length_drop]; omega)).mono ?_
          rintro e W1 ⟨rfl, hr1, hg1⟩
          dsimp only
          have bel1 : Below w.heap.size w W1 := bel2.drew.grown hg1 bel2.size (fun k h => by cases h; exact hgw)
          refine hK.out _ _ (hH.far hrd2.drew hg1) (fun hH1 => ?_)
          clear hK K hH hg1 bel2 hrd2
          refine wpAnyH_take (i := 6) (v := ?_) rfl (by kernel_rfl) (by kernel_rfl) (by kernel_rfl) (fun _ _ _ h => h) (Or.inl ⟨by rfl, ?_⟩) hH1 ?_
          rotate_left
          · ((intro w hw; clear hw; go_simp) <;> with_reducible rfl)
          simp only [Act.put, List.getElem_toArray, List.getElem_cons_zero, List.getElem_cons_succ, List.setIfInBounds_toArray, List.set_cons_zero, List.set_cons_succ]
          refine wpAnyH_done (by kernel_rfl) ?_ _
          clear hH1
          have hr1' : Rd W1 42 g (l.drop n) true := by rw [List.drop_of_length_le (by omega)]; exact hr1
          clear hr1
          go_wp2_with fail
          refine (short_any g _ _ _ hr1').mono ?_
          rintro e w11 ⟨rfl, rfl⟩
          go_wp2_with fail
          refine (left_x g _ _ _ hr1' (0) (by rw [List.length_drop]; omega)).mono ?_
          rintro e w11 ⟨rfl, rfl⟩
          go_wp2
          go_roundw
          case rel => exact ⟨i + 1, n, true, by go_num, by go_num, rfl, by omega, by omega, (fun h => by omega), hr1', bel1⟩
          case measure => simp [intOf]; omega
      · rw [hk] at e3
        clear hk
        go_wp2_with fail
        refine wp_region_held_drew (S := fun W => W.cell? ⟨bg, bo + i, none⟩ = some (.int .i64 z)) (by kernel_rfl) hcell (fun hH => ?_)
        refine wpAnyH_take (i := 0) (v := ?_) rfl (by kernel_rfl) (by kernel_rfl) (by kernel_rfl) (fun _ _ _ h => h) (Or.inl ⟨by rfl, ?_⟩) hH ?_
        rotate_left
        · ((intro w hw; (try dsimp only at hw); go_simp) <;> with_reducible rfl)
        simp only [Act.put, List.getElem_toArray, List.getElem_cons_zero, List.setIfInBounds_toArray, List.set_cons_zero, List.set_cons_succ]
        refine wpAnyH_take (i := 1) (v := ?_) rfl (by kernel_rfl) (by kernel_rfl) (by kernel_rfl) (fun _ _ _ h => h) (Or.inl ⟨by rfl, ?_⟩) hH ?_
        rotate_left
        · ((intro w hw; (try dsimp only at hw); go_simp) <;> with_reducible rfl)
        simp only [Act.put, List.getElem_toArray, List.getElem_cons_zero, List.getElem_cons_succ, List.setIfInBounds_toArray, List.set_cons_zero, List.set_cons_succ]
        refine wpAnyH_take (i := 2) (v := ?_) rfl (by kernel_rfl) (by kernel_rfl) (by kernel_rfl) (fun _ _ _ h => h) (Or.inl ⟨by rfl, ?_⟩) hH ?_
        rotate_left
        · ((intro w hw; (try dsimp only at hw); go_simp) <;> with_reducible rfl)
        simp only [Act.put, List.getElem_toArray, List.getElem_cons_zero, List.getElem_cons_succ, List.setIfInBounds_toArray, List.set_cons_zero, List.set_cons_succ]
        refine wpAnyH_take (i := 3) (v := ?_) rfl (by kernel_rfl) (by kernel_rfl) (by kernel_rfl) (fun _ _ _ h => h) (Or.inl ⟨by rfl, ?_⟩) hH ?_
        rotate_left
        · ((intro w hw; (try dsimp only at hw); go_simp) <;> with_reducible rfl)
        simp only [Act.put, List.getElem_toArray, List.getElem_cons_zero, List.getElem_cons_succ, List.setIfInBounds_toArray, List.set_cons_zero, List.set_cons_succ]
        refine wpAnyH_take (i := 4) (v := ?_) rfl (by kernel_rfl) (by kernel_rfl) (by kernel_rfl) (fun _ _ _ h => h) (Or.inl ⟨by rfl, ?_⟩) hH ?_
        rotate_left
        · ((intro w hw; (try dsimp only at hw); go_simp) <;> with_reducible rfl)
        simp only [Act.put, List.getElem_toArray, List.getElem_cons_zero, List.getElem_cons_succ, List.setIfInBounds_toArray, List.set_cons_zero, List.set_cons_succ]
        refine wpAnyH_take (i := 6) (v := ?_) rfl (by kernel_rfl) (by kernel_rfl) (by kernel_rfl) (fun _ _ _ h => h) (Or.inl ⟨by rfl, ?_⟩) hH ?_
        rotate_left
        · ((intro w hw; (try dsimp only at hw); go_simp) <;> with_reducible rfl)
        simp only [Act.put, List.getElem_toArray, List.getElem_cons_zero, List.getElem_cons_succ, List.setIfInBounds_toArray, List.set_cons_zero, List.set_cons_succ]
        refine wpAnyH_take (i := 7) (v := ?_) rfl (by kernel_rfl) (by kernel_rfl) (by kernel_rfl) (fun _ _ _ h => h) (Or.inl ⟨by rfl, ?_⟩) hH ?_
        rotate_left
        · ((intro w hw; (try dsimp only at hw); go_simp) <;> with_reducible rfl)
        simp only [Act.put, List.getElem_toArray, List.getElem_cons_zero, List.getElem_cons_succ, List.setIfInBounds_toArray, List.set_cons_zero, List.set_cons_succ]
        refine wpAnyH_take (i := 8) (v := ?_) rfl (by kernel_rfl) (by kernel_rfl) (by kernel_rfl) (fun _ _ _ h => h) (Or.inl ⟨by rfl, ?_⟩) hH ?_
        rotate_left
        · ((intro w hw; (try dsimp only at hw); go_simp) <;> with_reducible rfl)
        simp only [Act.put, List.getElem_toArray, List.getElem_cons_zero, List.getElem_cons_succ, List.setIfInBounds_toArray, List.set_cons_zero, List.set_cons_succ]
        refine wpAnyH_take (i := 9) (v := ?_) rfl (by kernel_rfl) (by kernel_rfl) (by kernel_rfl) (fun _ _ _ h => h) (Or.inl ⟨by rfl, ?_⟩) hH ?_
        rotate_left
        · ((intro w hw; (try dsimp only at hw); go_simp) <;> with_reducible rfl)
        simp only [Act.put, List.getElem_toArray, List.getElem_cons_zero, List.getElem_cons_succ, List.setIfInBounds_toArray, List.set_cons_zero, List.set_cons_succ]
        refine wpAnyH_take (i := 10) (v := ?_) rfl (by kernel_rfl) (by kernel_rfl) (by kernel_rfl) (fun _ _ _ h => h) (Or.inl ⟨by rfl, ?_⟩) hH ?_
        rotate_left
        · ((intro w hw; (try dsimp only at hw); go_simp) <;> with_reducible rfl)
        simp only [Act.put, List.getElem_toArray, List.getElem_cons_zero, List.getElem_cons_succ, List.setIfInBounds_toArray, List.set_cons_zero, List.set_cons_succ]
        refine wpAnyH_ready (rs := [5]) (by kernel_rfl) (by simp) ?_
        refine AllReadyH.cons (o := _) rfl (fun K hK => ?_) AllReadyH.nil
        simp only [List.getElem_toArray, List.getElem_cons_zero, List.getElem_cons_succ]
        go_simp
        have belB : Below wr.heap.size wr ((wr.alloc (Obj.cells #[.int .i64 1, .int .i64 2, .int .i64 4, .int .i64 (z / 4)] 3)).drew) := ((Below.refl _ _).alloc (Nat.le_refl _) _).drew
        have hnew : ((wr.alloc (Obj.cells #[.int .i64 1, .int .i64 2, .int .i64 4, .int .i64 (z / 4)] 3)).drew).cell? ⟨wr.heap.size, 1, none⟩ = some (.int .i64 2) := by
          have h1 := heap_alloc_new wr (.cells #[.int .i64 1, .int .i64 2, .int .i64 4, .int .i64 (z / 4)] 3)
          show (wr.alloc _).cell? _ = _
          simp only [World.cell?, h1]
          rfl
        generalize (wr.alloc (Obj.cells #[.int .i64 1, .int .i64 2, .int .i64 4, .int .i64 (z / 4)] 3)).drew = W0 at *
        have hold := (belB.cell (p := ⟨bg, bo + i, none⟩) (cell_lt hcell)).trans hcell
        refine hK.out _ _ hold (fun hH0 => ?_)
        refine wpAnyH_grow (S' := fun W => W.cell? ⟨bg, bo + i, none⟩ = some (.int .i64 z) ∧ W.cell? ⟨wr.heap.size, 1, none⟩ = some (.int .i64 2)) (fun W h => h.1) ?_
        have hH1 := And.intro hH0 hnew
        clear hK K hH hH0
        refine wpAnyH_take (i := 11) (v := ?_) rfl (by kernel_rfl) (by kernel_rfl) (by kernel_rfl) (fun _ _ _ h => h) (Or.inl ⟨by rfl, ?_⟩) hH1 ?_
        rotate_left
        · ((intro w hw; (try dsimp only at hw); go_simp) <;> with_reducible rfl)
        simp only [Act.put, List.getElem_toArray, List.getElem_cons_zero, List.getElem_cons_succ, List.setIfInBounds_toArray, List.set_cons_zero, List.set_cons_succ]
        refine wpAnyH_take (i := 12) (v := ?_) rfl (by kernel_rfl) (by kernel_rfl) (by kernel_rfl) (fun _ _ _ h => h) (Or.inl ⟨by rfl, ?_⟩) hH1 ?_
        rotate_left
        · ((intro w hw; (try dsimp only at hw); go_simp) <;> with_reducible rfl)
        simp only [Act.put, List.getElem_toArray, List.getElem_cons_zero, List.getElem_cons_succ, List.setIfInBounds_toArray, List.set_cons_zero, List.set_cons_succ]
        refine wpAnyH_take (i := 13) (v := ?_) rfl (by kernel_rfl) (by kernel_rfl) (by kernel_rfl) (fun _ _ _ h => h) (Or.inl ⟨by rfl, ?_⟩) hH1 ?_
        rotate_left
        · ((intro w hw; (try dsimp only at hw); go_simp) <;> with_reducible rfl)
        simp only [Act.put, List.getElem_toArray, List.getElem_cons_zero, List.getElem_cons_succ, List.setIfInBounds_toArray, List.set_cons_zero, List.set_cons_succ]
        refine wpAnyH_done (by kernel_rfl) ?_ _
        have bel0 := bel.trans (belB.mono bel.size)
        have hl0 := hl.below bel0
        have hrd0 := hrd.below belB
        have hc0 := hold
        clear hH1 belB hnew hold hcell bel hrd
        cases sh
        · by_cases hok : (2 : Int) ≤ n - p
          · obtain ⟨A', c', hs, hw⟩ := slice_mid hl0 (p := p) (k := 2) (by omega)
            have hs1 : ∀ W, (Instr.slice 25 (.slice A n c) (some (.int .i64 (p : Int))) (some (.int .i64 ((p : Int) + 2))) none).run Try.prog W = .ok (.slice A' 2 c') W := hs
            clear hs
            obtain ⟨x, Hx⟩ : ∃ x, Hid (be ((l.drop p).take 2) = x) := ⟨_, rfl⟩
            go_wp2_with fail
            refine (u16_x g _ false _ hrd0 (by rw [List.length_drop]; omega) x Hx.out).mono ?_
            rintro e W1 ⟨rfl, hr1, hg1⟩
            have hw1 := hw.far hrd0 hg1
            have bel1 : Below w.heap.size w W1 := bel0.grown hg1 bel0.size (fun k h => by cases h; exact hgw)
            clear hg1 bel0 hrd0 hw
            go_wp2_with fail
            refine (at16_x _ _ _ _ _ hw1 (by omega) x (by rw [List.take_take]; exact Hx.out)).mono ?_
            rintro e W3 ⟨rfl, q, rfl⟩
            rw [List.drop_drop] at hr1
            have hr3 := hr1.drewN q
            have bel3 := below_drewN bel1 q
            clear hr1 bel1 hw1
            go_wp2_with fail
            refine (short_any g _ _ _ hr3).mono ?_
            rintro e w11 ⟨rfl, rfl⟩
            go_wp2_with fail
            refine (left_x g _ _ _ hr3 ((n : Int) - (p + 2)) (by rw [List.length_drop]; omega)).mono ?_
            rintro e w11 ⟨rfl, rfl⟩
            go_wp2
            go_roundw
            case rel => exact ⟨i + 1, p + 2, false, by go_num, by go_num, rfl, by omega, by omega, (fun h => by cases h), hr3, bel3⟩
            case measure => simp [intOf]; omega
          · have hok' : (n : Int) - p < 2 := by omega
            clear hok
            have belz := (Below.refl W0.heap.size W0).alloc (Nat.le_refl _) (.cells #[.int .u8 0, .int .u8 0, .int .u8 0, .int .u8 0] 5)
            have hc2 := (belz.cell (p := ⟨bg, bo + i, none⟩) (cell_lt hc0)).trans hc0
            have hw := zero4 W0
            have bel2 := bel0.trans (belz.mono bel0.size)
            have hrd2 := hrd0.below belz
            go_wp2_with fail
            generalize W0.alloc (.cells #[.int .u8 0, .int .u8 0, .int .u8 0, .int .u8 0] 5) = W2 at *
            clear belz bel0 hrd0 hl0 hc0 hc2
            refine (u16_no g _ _ _ hrd2 (by rw [List.length_drop]; omega)).mono ?_
            rintro e W4 ⟨rfl, hr4, hg4⟩
            have hw4 := hw.far hrd2 hg4
            have bel4 : Below w.heap.size w W4 := bel2.grown hg4 bel2.size (fun k h => by cases h; exact hgw)
            clear hg4 bel2 hrd2 hw
            go_wp2_with fail
            refine (at16_x _ _ _ _ _ hw4 (by omega) 0 rfl).mono ?_
            rintro e W3 ⟨rfl, q, rfl⟩
            have hr1 := hr4.drewN q
            have bel1 := below_drewN bel4 q
            clear hr4 bel4 hw4
            generalize W4.drewN q = W1 at *
            have hr1' : Rd W1 42 g (l.drop n) true := by rw [List.drop_of_length_le (by omega)]; exact hr1
            clear hr1
            go_wp2_with fail
            refine (short_any g _ _ _ hr1').mono ?_
            rintro e w11 ⟨rfl, rfl⟩
            go_wp2_with fail
            refine (left_x g _ _ _ hr1' (0) (by rw [List.length_drop]; omega)).mono ?_
            rintro e w11 ⟨rfl, rfl⟩
            go_wp2
            go_roundw
            case rel => exact ⟨i + 1, n, true, by go_num, by go_num, rfl, by omega, by omega, (fun h => by omega), hr1', bel1⟩
            case measure => simp [intOf]; omega
        · have hpn := hsh rfl
          have belz := (Below.refl W0.heap.size W0).alloc (Nat.le_refl _) (.cells #[.int .u8 0, .int .u8 0, .int .u8 0, .int .u8 0] 5)
          have hc2 := (belz.cell (p := ⟨bg, bo + i, none⟩) (cell_lt hc0)).trans hc0
          have hw := zero4 W0
          have bel2 := bel0.trans (belz.mono bel0.size)
          have hrd2 := hrd0.below belz
          go_wp2_with fail
          generalize W0.alloc (.cells #[.int .u8 0, .int .u8 0, .int .u8 0, .int .u8 0] 5) = W2 at *
          clear belz bel0 hrd0 hl0 hc0 hc2
          refine (u16_no g _ _ _ hrd2 (by rw [List.length_drop]; omega)).mono ?_
          rintro e W4 ⟨rfl, hr4, hg4⟩
          have hw4 := hw.far hrd2 hg4
          have bel4 : Below w.heap.size w W4 := bel2.grown hg4 bel2.size (fun k h => by cases h; exact hgw)
          clear hg4 bel2 hrd2 hw
          go_wp2_with fail
          refine (at16_x _ _ _ _ _ hw4 (by omega) 0 rfl).mono ?_
          rintro e W3 ⟨rfl, q, rfl⟩
          have hr1 := hr4.drewN q
          have bel1 := below_drewN bel4 q
          clear hr4 bel4 hw4
          generalize W4.drewN q = W1 at *
          have hr1' : Rd W1 42 g (l.drop n) true := by rw [List.drop_of_length_le (by omega)]; exact hr1
          clear hr1
          go_wp2_with fail
          refine (short_any g _ _ _ hr1').mono ?_
          rintro e w11 ⟨rfl, rfl⟩
          go_wp2_with fail
          refine (left_x g _ _ _ hr1' (0) (by rw [List.length_drop]; omega)).mono ?_
          rintro e w11 ⟨rfl, rfl⟩
          go_wp2
          go_roundw
          case rel => exact ⟨i + 1, n, true, by go_num, by go_num, rfl, by omega, by omega, (fun h => by omega), hr1', bel1⟩
          case measure => simp [intOf]; omega
      · rw [hk] at e3
        clear hk
        go_wp2_with fail
        refine wp_region_held_drew (S := fun W => W.cell? ⟨bg, bo + i, none⟩ = some (.int .i64 z)) (by kernel_rfl) hcell (fun hH => ?_)
        refine wpAnyH_take (i := 0) (v := ?_) rfl (by kernel_rfl) (by kernel_rfl) (by kernel_rfl) (fun _ _ _ h => h) (Or.inl ⟨by rfl, ?_⟩) hH ?_
        rotate_left
        · ((intro w hw; (try dsimp only at hw); go_simp) <;> with_reducible rfl)
        simp only [Act.put, List.getElem_toArray, List.getElem_cons_zero, List.setIfInBounds_toArray, List.set_cons_zero, List.set_cons_succ]
        refine wpAnyH_take (i := 1) (v := ?_) rfl (by kernel_rfl) (by kernel_rfl) (by kernel_rfl) (fun _ _ _ h => h) (Or.inl ⟨by rfl, ?_⟩) hH ?_
        rotate_left
        · ((intro w hw; (try dsimp only at hw); go_simp) <;> with_reducible rfl)
        simp only [Act.put, List.getElem_toArray, List.getElem_cons_zero, List.getElem_cons_succ, List.setIfInBounds_toArray, List.set_cons_zero, List.set_cons_succ]
        refine wpAnyH_take (i := 2) (v := ?_) rfl (by kernel_rfl) (by kernel_rfl) (by kernel_rfl) (fun _ _ _ h => h) (Or.inl ⟨by rfl, ?_⟩) hH ?_
        rotate_left
        · ((intro w hw; (try dsimp only at hw); go_simp) <;> with_reducible rfl)
        simp only [Act.put, List.getElem_toArray, List.getElem_cons_zero, List.getElem_cons_succ, List.setIfInBounds_toArray, List.set_cons_zero, List.set_cons_succ]
        refine wpAnyH_take (i := 3) (v := ?_) rfl (by kernel_rfl) (by kernel_rfl) (by kernel_rfl) (fun _ _ _ h => h) (Or.inl ⟨by rfl, ?_⟩) hH ?_
        rotate_left
        · ((intro w hw; (try dsimp only at hw); go_simp) <;> with_reducible rfl)
        simp only [Act.put, List.getElem_toArray, List.getElem_cons_zero, List.getElem_cons_succ, List.setIfInBounds_toArray, List.set_cons_zero, List.set_cons_succ]
        refine wpAnyH_take (i := 4) (v := ?_) rfl (by kernel_rfl) (by kernel_rfl) (by kernel_rfl) (fun _ _ _ h => h) (Or.inl ⟨by rfl, ?_⟩) hH ?_
        rotate_left
        · ((intro w hw; (try dsimp only at hw); go_simp) <;> with_reducible rfl)
        simp only [Act.put, List.getElem_toArray, List.getElem_cons_zero, List.getElem_cons_succ, List.setIfInBounds_toArray, List.set_cons_zero, List.set_cons_succ]
        refine wpAnyH_take (i := 6) (v := ?_) rfl (by kernel_rfl) (by kernel_rfl) (by kernel_rfl) (fun _ _ _ h => h) (Or.inl ⟨by rfl, ?_⟩) hH ?_
        rotate_left
        · ((intro w hw; (try dsimp only at hw); go_simp) <;> with_reducible rfl)
        simp only [Act.put, List.getElem_toArray, List.getElem_cons_zero, List.getElem_cons_succ, List.setIfInBounds_toArray, List.set_cons_zero, List.set_cons_succ]
        refine wpAnyH_take (i := 7) (v := ?_) rfl (by kernel_rfl) (by kernel_rfl) (by kernel_rfl) (fun _ _ _ h => h) (Or.inl ⟨by rfl, ?_⟩) hH ?_
        rotate_left
        · ((intro w hw; (try dsimp only at hw); go_simp) <;> with_reducible rfl)
        simp only [Act.put, List.getElem_toArray, List.getElem_cons_zero, List.getElem_cons_succ, List.setIfInBounds_toArray, List.set_cons_zero, List.set_cons_succ]
        refine wpAnyH_take (i := 8) (v := ?_) rfl (by kernel_rfl) (by kernel_rfl) (by kernel_rfl) (fun _ _ _ h => h) (Or.inl ⟨by rfl, ?_⟩) hH ?_
        rotate_left
        · ((intro w hw; (try dsimp only at hw); go_simp) <;> with_reducible rfl)
        simp only [Act.put, List.getElem_toArray, List.getElem_cons_zero, List.getElem_cons_succ, List.setIfInBounds_toArray, List.set_cons_zero, List.set_cons_succ]
        refine wpAnyH_take (i := 9) (v := ?_) rfl (by kernel_rfl) (by kernel_rfl) (by kernel_rfl) (fun _ _ _ h => h) (Or.inl ⟨by rfl, ?_⟩) hH ?_
        rotate_left
        · ((intro w hw; (try dsimp only at hw); go_simp) <;> with_reducible rfl)
        simp only [Act.put, List.getElem_toArray, List.getElem_cons_zero, List.getElem_cons_succ, List.setIfInBounds_toArray, List.set_cons_zero, List.set_cons_succ]
        refine wpAnyH_take (i := 10) (v := ?_) rfl (by kernel_rfl) (by kernel_rfl) (by kernel_rfl) (fun _ _ _ h => h) (Or.inl ⟨by rfl, ?_⟩) hH ?_
        rotate_left
        · ((intro w hw; (try dsimp only at hw); go_simp) <;> with_reducible rfl)
        simp only [Act.put, List.getElem_toArray, List.getElem_cons_zero, List.getElem_cons_succ, List.setIfInBounds_toArray, List.set_cons_zero, List.set_cons_succ]
        refine wpAnyH_ready (rs := [5]) (by kernel_rfl) (by simp) ?_
        refine AllReadyH.cons (o := _) rfl (fun K hK => ?_) AllReadyH.nil
        simp only [List.getElem_toArray, List.getElem_cons_zero, List.getElem_cons_succ]
        go_simp
        have belB : Below wr.heap.size wr ((wr.alloc (Obj.cells #[.int .i64 1, .int .i64 2, .int .i64 4, .int .i64 (z / 4)] 3)).drew) := ((Below.refl _ _).alloc (Nat.le_refl _) _).drew
        have hnew : ((wr.alloc (Obj.cells #[.int .i64 1, .int .i64 2, .int .i64 4, .int .i64 (z / 4)] 3)).drew).cell? ⟨wr.heap.size, 2, none⟩ = some (.int .i64 4) := by
          have h1 := heap_alloc_new wr (.cells #[.int .i64 1, .int .i64 2, .int .i64 4, .int .i64 (z / 4)] 3)
          show (wr.alloc _).cell? _ = _
          simp only [World.cell?, h1]
          rfl
        generalize (wr.alloc (Obj.cells #[.int .i64 1, .int .i64 2, .int .i64 4, .int .i64 (z / 4)] 3)).drew = W0 at *
        have hold := (belB.cell (p := ⟨bg, bo + i, none⟩) (cell_lt hcell)).trans hcell
        refine hK.out _ _ hold (fun hH0 => ?_)
        refine wpAnyH_grow (S' := fun W => W.cell? ⟨bg, bo + i, none⟩ = some (.int .i64 z) ∧ W.cell? ⟨wr.heap.size, 2, none⟩ = some (.int .i64 4)) (fun W h => h.1) ?_
        have hH1 := And.intro hH0 hnew
        clear hK K hH hH0
        refine wpAnyH_take (i := 11) (v := ?_) rfl (by kernel_rfl) (by kernel_rfl) (by kernel_rfl) (fun _ _ _ h => h) (Or.inl ⟨by rfl, ?_⟩) hH1 ?_
        rotate_left
        · ((intro w hw; (try dsimp only at hw); go_simp) <;> with_reducible rfl)
        simp only [Act.put, List.getElem_toArray, List.getElem_cons_zero, List.getElem_cons_succ, List.setIfInBounds_toArray, List.set_cons_zero, List.set_cons_succ]
        refine wpAnyH_take (i := 12) (v := ?_) rfl (by kernel_rfl) (by kernel_rfl) (by kernel_rfl) (fun _ _ _ h => h) (Or.inl ⟨by rfl, ?_⟩) hH1 ?_
        rotate_left
        · ((intro w hw; (try dsimp only at hw); go_simp) <;> with_reducible rfl)
        simp only [Act.put, List.getElem_toArray, List.getElem_cons_zero, List.getElem_cons_succ, List.setIfInBounds_toArray, List.set_cons_zero, List.set_cons_succ]
        refine wpAnyH_take (i := 13) (v := ?_) rfl (by kernel_rfl) (by kernel_rfl) (by kernel_rfl) (fun _ _ _ h => h) (Or.inl ⟨by rfl, ?_⟩) hH1 ?_
        rotate_left
        · ((intro w hw; (try dsimp only at hw); go_simp) <;> with_reducible rfl)
        simp only [Act.put, List.getElem_toArray, List.getElem_cons_zero, List.getElem_cons_succ, List.setIfInBounds_toArray, List.set_cons_zero, List.set_cons_succ]
        refine wpAnyH_done (by kernel_rfl) ?_ _
        have bel0 := bel.trans (belB.mono bel.size)
        have hl0 := hl.below bel0
        have hrd0 := hrd.below belB
        have hc0 := hold
        clear hH1 belB hnew hold hcell bel hrd
        cases sh
        · by_cases hok : (4 : Int) ≤ n - p
          · obtain ⟨A', c', hs, hw⟩ := slice_mid hl0 (p := p) (k := 4) (by omega)
            have hs1 : ∀ W, (Instr.slice 25 (.slice A n c) (some (.int .i64 (p : Int))) (some (.int .i64 ((p : Int) + 4))) none).run Try.prog W = .ok (.slice A' 4 c') W := hs
            clear hs
            obtain ⟨x, Hx⟩ : ∃ x, Hid (be ((l.drop p).take 4) = x) := ⟨_, rfl⟩
            go_wp2_with fail
            refine (u32_x g _ false _ hrd0 (by rw [List.length_drop]; omega) x Hx.out).mono ?_
            rintro e W1 ⟨rfl, hr1, hg1⟩
            have hw1 := hw.far hrd0 hg1
            have bel1 : Below w.heap.size w W1 := bel0.grown hg1 bel0.size (fun k h => by cases h; exact hgw)
            clear hg1 bel0 hrd0 hw
            go_wp2_with fail
            refine (at32_x _ _ _ _ _ hw1 (by omega) x (by rw [List.take_take]; exact Hx.out)).mono ?_
            rintro e W3 ⟨rfl, q, rfl⟩
            rw [List.drop_drop] at hr1
            have hr3 := hr1.drewN q
            have bel3 := below_drewN bel1 q
            clear hr1 bel1 hw1
            go_wp2_with fail
            refine (short_any g _ _ _ hr3).mono ?_
            rintro e w11 ⟨rfl, rfl⟩
            go_wp2_with fail
            refine (left_x g _ _ _ hr3 ((n : Int) - (p + 4)) (by rw [List.length_drop]; omega)).mono ?_
            rintro e w11 ⟨rfl, rfl⟩
            go_wp2
            go_roundw
            case rel => exact ⟨i + 1, p + 4, false, by go_num, by go_num, rfl, by omega, by omega, (fun h => by cases h), hr3, bel3⟩
            case measure => simp [intOf]; omega
          · have hok' : (n : Int) - p < 4 := by omega
            clear hok
            have belz := (Below.refl W0.heap.size W0).alloc (Nat.le_refl _) (.cells #[.int .u8 0, .int .u8 0, .int .u8 0, .int .u8 0] 5)
            have hc2 := (belz.cell (p := ⟨bg, bo + i, none⟩) (cell_lt hc0)).trans hc0
            have hw := zero4 W0
            have bel2 := bel0.trans (belz.mono bel0.size)
            have hrd2 := hrd0.below belz
            go_wp2_with fail
            generalize W0.alloc (.cells #[.int .u8 0, .int .u8 0, .int .u8 0, .int .u8 0] 5) = W2 at *
            clear belz bel0 hrd0 hl0 hc0 hc2
            refine (u32_no g _ _ _ hrd2 (by rw [List.length_drop]; omega)).mono ?_
            rintro e W4 ⟨rfl, hr4, hg4⟩
            have hw4 := hw.far hrd2 hg4
            have bel4 : Below w.heap.size w W4 := bel2.grown hg4 bel2.size (fun k h => by cases h; exact hgw)
            clear hg4 bel2 hrd2 hw
            go_wp2_with fail
            refine (at32_x _ _ _ _ _ hw4 (by omega) 0 rfl).mono ?_
            rintro e W3 ⟨rfl, q, rfl⟩
            have hr1 := hr4.drewN q
            have bel1 := below_drewN bel4 q
            clear hr4 bel4 hw4
            generalize W4.drewN q = W1 at *
            have hr1' : Rd W1 42 g (l.drop n) true := by rw [List.drop_of_length_le (by omega)]; exact hr1
            clear hr1
            go_wp2_with fail
            refine (short_any g _ _ _ hr1').mono ?_
            rintro e w11 ⟨rfl, rfl⟩
            go_wp2_with fail
            refine (left_x g _ _ _ hr1' (0) (by rw [List.length_drop]; omega)).mono ?_
            rintro e w11 ⟨rfl, rfl⟩
            go_wp2
            go_roundw
            case rel => exact ⟨i + 1, n, true, by go_num, by go_num, rfl, by omega, by omega, (fun h => by omega), hr1', bel1⟩
            case measure => simp [intOf]; omega
        · have hpn := hsh rfl
          have belz := (Below.refl W0.heap.size W0).alloc (Nat.le_refl _) (.cells #[.int .u8 0, .int .u8 0, .int .u8 0, .int .u8 0] 5)
          have hc2 := (belz.cell (p := ⟨bg, bo + i, none⟩) (cell_lt hc0)).trans hc0
          have hw := zero4 W0
          have bel2 := bel0.trans (belz.mono bel0.size)
          have hrd2 := hrd0.below belz
          go_wp2_with fail
          generalize W0.alloc (.cells #[.int .u8 0, .int .u8 0, .int .u8 0, .int .u8 0] 5) = W2 at *
          clear belz bel0 hrd0 hl0 hc0 hc2
          refine (u32_no g _ _ _ hrd2 (by rw [List.length_drop]; omega)).mono ?_
          rintro e W4 ⟨rfl, hr4, hg4⟩
          have hw4 := hw.far hrd2 hg4
          have bel4 : Below w.heap.size w W4 := bel2.grown hg4 bel2.size (fun k h => by cases h; exact hgw)
          clear hg4 bel2 hrd2 hw
          go_wp2_with fail
          refine (at32_x _ _ _ _ _ hw4 (by omega) 0 rfl).mono ?_
          rintro e W3 ⟨rfl, q, rfl⟩
          have hr1 := hr4.drewN q
          have bel1 := below_drewN bel4 q
          clear hr4 bel4 hw4
          generalize W4.drewN q = W1 at *
          have hr1' : Rd W1 42 g (l.drop n) true := by rw [List.drop_of_length_le (by omega)]; exact hr1
          clear hr1
          go_wp2_with fail
          refine (short_any g _ _ _ hr1').mono ?_
          rintro e w11 ⟨rfl, rfl⟩
          go_wp2_with fail
          refine (left_x g _ _ _ hr1' (0) (by rw [List.length_drop]; omega)).mono ?_
          rintro e w11 ⟨rfl, rfl⟩
          go_wp2
          go_roundw
          case rel => exact ⟨i + 1, n, true, by go_num, by go_num, rfl, by omega, by omega, (fun h => by omega), hr1', bel1⟩
          case measure => simp [intOf]; omega
      · rw [hk] at e3
        clear hk
        go_wp2_with fail
        refine wp_region_held_drew (S := fun W => W.cell? ⟨bg, bo + i, none⟩ = some (.int .i64 z)) (by kernel_rfl) hcell (fun hH => ?_)
        refine wpAnyH_take (i := 0) (v := ?_) rfl (by kernel_rfl) (by kernel_rfl) (by kernel_rfl) (fun _ _ _ h => h) (Or.inl ⟨by rfl, ?_⟩) hH ?_
        rotate_left
        · ((intro w hw; (try dsimp only at hw); go_simp) <;> with_reducible rfl)
        simp only [Act.put, List.getElem_toArray, List.getElem_cons_zero, List.setIfInBounds_toArray, List.set_cons_zero, List.set_cons_succ]
        refine wpAnyH_take (i := 1) (v := ?_) rfl (by kernel_rfl) (by kernel_rfl) (by kernel_rfl) (fun _ _ _ h => h) (Or.inl ⟨by rfl, ?_⟩) hH ?_
        rotate_left
        · ((intro w hw; (try dsimp only at hw); go_simp) <;> with_reducible rfl)
        simp only [Act.put, List.getElem_toArray, List.getElem_cons_zero, List.getElem_cons_succ, List.setIfInBounds_toArray, List.set_cons_zero, List.set_cons_succ]
        refine wpAnyH_take (i := 2) (v := ?_) rfl (by kernel_rfl) (by kernel_rfl) (by kernel_rfl) (fun _ _ _ h => h) (Or.inl ⟨by rfl, ?_⟩) hH ?_
        rotate_left
        · ((intro w hw; (try dsimp only at hw); go_simp) <;> with_reducible rfl)
        simp only [Act.put, List.getElem_toArray, List.getElem_cons_zero, List.getElem_cons_succ, List.setIfInBounds_toArray, List.set_cons_zero, List.set_cons_succ]
        refine wpAnyH_take (i := 3) (v := ?_) rfl (by kernel_rfl) (by kernel_rfl) (by kernel_rfl) (fun _ _ _ h => h) (Or.inl ⟨by rfl, ?_⟩) hH ?_
        rotate_left
        · ((intro w hw; (try dsimp only at hw); go_simp) <;> with_reducible rfl)
        simp only [Act.put, List.getElem_toArray, List.getElem_cons_zero, List.getElem_cons_succ, List.setIfInBounds_toArray, List.set_cons_zero, List.set_cons_succ]
        refine wpAnyH_take (i := 4) (v := ?_) rfl (by kernel_rfl) (by kernel_rfl) (by kernel_rfl) (fun _ _ _ h => h) (Or.inl ⟨by rfl, ?_⟩) hH ?_
        rotate_left
        · ((intro w hw; (try dsimp only at hw); go_simp) <;> with_reducible rfl)
        simp only [Act.put, List.getElem_toArray, List.getElem_cons_zero, List.getElem_cons_succ, List.setIfInBounds_toArray, List.set_cons_zero, List.set_cons_succ]
        refine wpAnyH_take (i := 6) (v := ?_) rfl (by kernel_rfl) (by kernel_rfl) (by kernel_rfl) (fun _ _ _ h => h) (Or.inl ⟨by rfl, ?_⟩) hH ?_
        rotate_left
        · ((intro w hw; (try dsimp only at hw); go_simp) <;> with_reducible rfl)
        simp only [Act.put, List.getElem_toArray, List.getElem_cons_zero, List.getElem_cons_succ, List.setIfInBounds_toArray, List.set_cons_zero, List.set_cons_succ]
        refine wpAnyH_take (i := 7) (v := ?_) rfl (by kernel_rfl) (by kernel_rfl) (by kernel_rfl) (fun _ _ _ h => h) (Or.inl ⟨by rfl, ?_⟩) hH ?_
        rotate_left
        · ((intro w hw; (try dsimp only at hw); go_simp) <;> with_reducible rfl)
        simp only [Act.put, List.getElem_toArray, List.getElem_cons_zero, List.getElem_cons_succ, List.setIfInBounds_toArray, List.set_cons_zero, List.set_cons_succ]
        refine wpAnyH_take (i := 8) (v := ?_) rfl (by kernel_rfl) (by kernel_rfl) (by kernel_rfl) (fun _ _ _ h => h) (Or.inl ⟨by rfl, ?_⟩) hH ?_
        rotate_left
        · ((intro w hw; (try dsimp only at hw); go_simp) <;> with_reducible rfl)
        simp only [Act.put, List.getElem_toArray, List.getElem_cons_zero, List.getElem_cons_succ, List.setIfInBounds_toArray, List.set_cons_zero, List.set_cons_succ]
        refine wpAnyH_take (i := 9) (v := ?_) rfl (by kernel_rfl) (by kernel_rfl) (by kernel_rfl) (fun _ _ _ h => h) (Or.inl ⟨by rfl, ?_⟩) hH ?_
        rotate_left
        · ((intro w hw; (try dsimp only at hw); go_simp) <;> with_reducible rfl)
        simp only [Act.put, List.getElem_toArray, List.getElem_cons_zero, List.getElem_cons_succ, List.setIfInBounds_toArray, List.set_cons_zero, List.set_cons_succ]
        refine wpAnyH_take (i := 10) (v := ?_) rfl (by kernel_rfl) (by kernel_rfl) (by kernel_rfl) (fun _ _ _ h => h) (Or.inl ⟨by rfl, ?_⟩) hH ?_
        rotate_left
        · ((intro w hw; (try dsimp only at hw); go_simp) <;> with_reducible rfl)
        simp only [Act.put, List.getElem_toArray, List.getElem_cons_zero, List.getElem_cons_succ, List.setIfInBounds_toArray, List.set_cons_zero, List.set_cons_succ]
        refine wpAnyH_ready (rs := [5]) (by kernel_rfl) (by simp) ?_
        refine AllReadyH.cons (o := _) rfl (fun K hK => ?_) AllReadyH.nil
        simp only [List.getElem_toArray, List.getElem_cons_zero, List.getElem_cons_succ]
        go_simp
        have belB : Below wr.heap.size wr ((wr.alloc (Obj.cells #[.int .i64 1, .int .i64 2, .int .i64 4, .int .i64 (z / 4)] 3)).drew) := ((Below.refl _ _).alloc (Nat.le_refl _) _).drew
        have hnew : ((wr.alloc (Obj.cells #[.int .i64 1, .int .i64 2, .int .i64 4, .int .i64 (z / 4)] 3)).drew).cell? ⟨wr.heap.size, 3, none⟩ = some (.int .i64 (z / 4)) := by
          have h1 := heap_alloc_new wr (.cells #[.int .i64 1, .int .i64 2, .int .i64 4, .int .i64 (z / 4)] 3)
          show (wr.alloc _).cell? _ = _
          simp only [World.cell?, h1]
          rfl
        generalize (wr.alloc (Obj.cells #[.int .i64 1, .int .i64 2, .int .i64 4, .int .i64 (z / 4)] 3)).drew = W0 at *
        have hold := (belB.cell (p := ⟨bg, bo + i, none⟩) (cell_lt hcell)).trans hcell
        refine hK.out _ _ hold (fun hH0 => ?_)
        refine wpAnyH_grow (S' := fun W => W.cell? ⟨bg, bo + i, none⟩ = some (.int .i64 z) ∧ W.cell? ⟨wr.heap.size, 3, none⟩ = some (.int .i64 (z / 4))) (fun W h => h.1) ?_
        have hH1 := And.intro hH0 hnew
        clear hK K hH hH0
        refine wpAnyH_take (i := 11) (v := ?_) rfl (by kernel_rfl) (by kernel_rfl) (by kernel_rfl) (fun _ _ _ h => h) (Or.inl ⟨by rfl, ?_⟩) hH1 ?_
        rotate_left
        · ((intro w hw; (try dsimp only at hw); go_simp) <;> with_reducible rfl)
        simp only [Act.put, List.getElem_toArray, List.getElem_cons_zero, List.getElem_cons_succ, List.setIfInBounds_toArray, List.set_cons_zero, List.set_cons_succ]
        refine wpAnyH_take (i := 12) (v := ?_) rfl (by kernel_rfl) (by kernel_rfl) (by kernel_rfl) (fun _ _ _ h => h) (Or.inl ⟨by rfl, ?_⟩) hH1 ?_
        rotate_left
        · ((intro w hw; (try dsimp only at hw); go_simp) <;> with_reducible rfl)
        simp only [Act.put, List.getElem_toArray, List.getElem_cons_zero, List.getElem_cons_succ, List.setIfInBounds_toArray, List.set_cons_zero, List.set_cons_succ]
        refine wpAnyH_take (i := 13) (v := ?_) rfl (by kernel_rfl) (by kernel_rfl) (by kernel_rfl) (fun _ _ _ h => h) (Or.inl ⟨by rfl, ?_⟩) hH1 ?_
        rotate_left
        · ((intro w hw; (try dsimp only at hw); go_simp) <;> with_reducible rfl)
        simp only [Act.put, List.getElem_toArray, List.getElem_cons_zero, List.getElem_cons_succ, List.setIfInBounds_toArray, List.set_cons_zero, List.set_cons_succ]
        refine wpAnyH_done (by kernel_rfl) ?_ _
        have bel0 := bel.trans (belB.mono bel.size)
        have hl0 := hl.below bel0
        have hrd0 := hrd.below belB
        have hc0 := hold
        clear hH1 belB hnew hold hcell bel hrd
        generalize z / 4 = q at *
        cases sh
        · by_cases hq0 : 0 ≤ q
          · obtain ⟨k, rfl⟩ := Int.eq_ofNat_of_zero_le hq0
            by_cases hok : (k : Int) ≤ n - p
            · have hk9 : (k : Int) ≤ 200 := by omega
              obtain ⟨A', c', hs, hw⟩ := slice_mid hl0 (p := p) (k := k) (by omega)
              have hs1 : ∀ W, (Instr.slice 25 (.slice A n c) (some (.int .i64 (p : Int))) (some (.int .i64 ((p : Int) + k))) none).run Try.prog W = .ok (.slice A' k c') W := hs
              clear hs
              go_wp2_with fail
              refine (bytes_yes g _ false k _ hrd0 (by rw [List.length_drop]; omega) (by omega)).mono ?_
              rintro e W1 ⟨A3, c3, rfl, hx, hr1, hg1⟩
              have hw1 := hw.far hrd0 hg1
              have bel1 : Below w.heap.size w W1 := bel0.grown hg1 bel0.size (fun k h => by cases h; exact hgw)
              have s1 := hx.str (P := Try.prog) 25 5 9 Try.underlying25 Try.underlying5 Try.underlying9
              have s2 := hw1.str (P := Try.prog) 25 5 9 Try.underlying25 Try.underlying5 Try.underlying9
              rw [List.drop_drop] at hr1
              clear hg1 bel0 hrd0 hw hw1 hx
              go_wp2_with fail
              refine (short_any g _ _ _ hr1).mono ?_
              rintro e w11 ⟨rfl, rfl⟩
              go_wp2_with fail
              refine (left_x g _ _ _ hr1 ((n : Int) - (p + k)) (by rw [List.length_drop]; omega)).mono ?_
              rintro e w11 ⟨rfl, rfl⟩
              go_wp2
              go_roundw
              case rel => exact ⟨i + 1, p + k, false, by go_num, by go_num, rfl, by omega, by omega, (fun h => by cases h), hr1, bel1⟩
              case measure => simp [intOf]; omega
            · have hok' : (n : Int) - p < k := by omega
              clear hok
              have belz := (Below.refl W0.heap.size W0).alloc (Nat.le_refl _) (.cells #[.int .u8 0, .int .u8 0, .int .u8 0, .int .u8 0] 5)
              have hc2 := (belz.cell (p := ⟨bg, bo + i, none⟩) (cell_lt hc0)).trans hc0
              have hw := zero4 W0
              have bel2 := bel0.trans (belz.mono bel0.size)
              have hrd2 := hrd0.below belz
              go_wp2_with fail
              generalize W0.alloc (.cells #[.int .u8 0, .int .u8 0, .int .u8 0, .int .u8 0] 5) = W2 at *
              clear belz bel0 hrd0 hl0 hc0 hc2
              refine (bytes_void g _ _ k _ hrd2 (.inl (.inr (by rw [List.length_drop]; omega)))).mono ?_
              rintro e W1 ⟨A3, c3, rfl, hx, hr1, hg1⟩
              have bel1 : Below w.heap.size w W1 := bel2.grown hg1 bel2.size (fun k h => by cases h; exact hgw)
              clear hg1 bel2 hrd2 hw hx
              have hr1' : Rd W1 42 g (l.drop n) true := by rw [List.drop_of_length_le (by omega)]; exact hr1
              clear hr1
              go_wp2_with fail
              refine (short_any g _ _ _ hr1').mono ?_
              rintro e w11 ⟨rfl, rfl⟩
              go_wp2_with fail
              refine (left_x g _ _ _ hr1' (0) (by rw [List.length_drop]; omega)).mono ?_
              rintro e w11 ⟨rfl, rfl⟩
              go_wp2
              go_roundw
              case rel => exact ⟨i + 1, n, true, by go_num, by go_num, rfl, by omega, by omega, (fun h => by omega), hr1', bel1⟩
              case measure => simp [intOf]; omega
          · have hq1 : q < 0 := by omega
            clear hq0
            have belz := (Below.refl W0.heap.size W0).alloc (Nat.le_refl _) (.cells #[.int .u8 0, .int .u8 0, .int .u8 0, .int .u8 0] 5)
            have hc2 := (belz.cell (p := ⟨bg, bo + i, none⟩) (cell_lt hc0)).trans hc0
            have hw := zero4 W0
            have bel2 := bel0.trans (belz.mono bel0.size)
            have hrd2 := hrd0.below belz
            go_wp2_with fail
            generalize W0.alloc (.cells #[.int .u8 0, .int .u8 0, .int .u8 0, .int .u8 0] 5) = W2 at *
            clear belz bel0 hrd0 hl0 hc0 hc2
            refine (bytes_void g _ _ q _ hrd2 (.inl (.inl hq1))).mono ?_
            rintro e W1 ⟨A3, c3, rfl, hx, hr1, hg1⟩
            have bel1 : Below w.heap.size w W1 := bel2.grown hg1 bel2.size (fun k h => by cases h; exact hgw)
            clear hg1 bel2 hrd2 hw hx
            have hr1' : Rd W1 42 g (l.drop n) true := by rw [List.drop_of_length_le (by omega)]; exact hr1
            clear hr1
            go_wp2_with fail
            refine (short_any g _ _ _ hr1').mono ?_
            rintro e w11 ⟨rfl, rfl⟩
            go_wp2_with fail
            refine (left_x g _ _ _ hr1' (0) (by rw [List.length_drop]; omega)).mono ?_
            rintro e w11 ⟨rfl, rfl⟩
            go_wp2
            go_roundw
            case rel => exact ⟨i + 1, n, true, by go_num, by go_num, rfl, by omega, by omega, (fun h => by omega), hr1', bel1⟩
            case measure => simp [intOf]; omega
        · have hpn := hsh rfl
          have belz := (Below.refl W0.heap.size W0).alloc (Nat.le_refl _) (.cells #[.int .u8 0, .int .u8 0, .int .u8 0, .int .u8 0] 5)
          have hc2 := (belz.cell (p := ⟨bg, bo + i, none⟩) (cell_lt hc0)).trans hc0
          have hw := zero4 W0
          have bel2 := bel0.trans (belz.mono bel0.size)
          have hrd2 := hrd0.below belz
          go_wp2_with fail
          generalize W0.alloc (.cells #[.int .u8 0, .int .u8 0, .int .u8 0, .int .u8 0] 5) = W2 at *
          clear belz bel0 hrd0 hl0 hc0 hc2
          refine (bytes_void g _ _ q _ hrd2 (.inr ⟨List.drop_of_length_le (by omega), rfl⟩)).mono ?_
          rintro e W1 ⟨A3, c3, rfl, hx, hr1, hg1⟩
          have bel1 : Below w.heap.size w W1 := bel2.grown hg1 bel2.size (fun k h => by cases h; exact hgw)
          clear hg1 bel2 hrd2 hw hx
          have hr1' : Rd W1 42 g (l.drop n) true := by rw [List.drop_of_length_le (by omega)]; exact hr1
          clear hr1
          go_wp2_with fail
          refine (short_any g _ _ _ hr1').mono ?_
          rintro e w11 ⟨rfl, rfl⟩
          go_wp2_with fail
          refine (left_x g _ _ _ hr1' (0) (by rw [List.length_drop]; omega)).mono ?_
          rintro e w11 ⟨rfl, rfl⟩
          go_wp2
          go_roundw
          case rel => exact ⟨i + 1, n, true, by go_num, by go_num, rfl, by omega, by omega, (fun h => by omega), hr1', bel1⟩
          case measure => simp [intOf]; omega
    · go_wp2
      go_ret
      exact ⟨rfl, bel⟩

theorem reads_long (A B : Option Addr) (n c m d : Nat) (w : World) (h : 200 < n ∨ 100 < m) :
    Calls Try.prog 4 #[.slice A n c, .slice B m d] w fun e w' => e = .returned (.bool true) ∧ Below w.heap.size w w' := by
  by_cases hn : 200 < n
  · have b1 : (200 : Int) < n := by omega
    clear h
    go_enter Try.func4, Try.ntmps4
    go_wp2_with fail
    refine (awake_any _).mono ?_
    rintro e w1 ⟨rfl, bel1⟩
    go_wp2
    go_ret
    exact ⟨rfl, bel1⟩
  · have b1 : (n : Int) ≤ 200 := by omega
    have b2 : (100 : Int) < m := by omega
    clear h
    go_enter Try.func4, Try.ntmps4
    go_wp2_with fail
    refine (awake_any _).mono ?_
    rintro e w1 ⟨rfl, bel1⟩
    go_wp2
    go_ret
    exact ⟨rfl, bel1⟩

end Go.Proofs.Ytafiegmmfmcedaa
