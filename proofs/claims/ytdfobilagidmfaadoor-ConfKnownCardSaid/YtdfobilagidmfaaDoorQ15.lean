/- Texts put together: Orz, Ct. -/
import Derived.Test.YtdfobilagidmfaaDoorQ1
import Derived.Test.YtdfobilagidmfaaDoorQ14
import Derived.Deep.RegionHeld
import Derived.Sort.Grow
namespace Go.Proofs.YtdfobilagidmfaaDoor
open Go.RowKit

section
variable {P : Program} {ops : Array Oper} {Q : Exit → Act → World → Prop} {md : Region.Mode} {S : World → Prop} {z : Nat}

/-- Number 'z' waits for number 'i', by a way over what has not come up yet. -/
def waitsFor (md : Region.Mode) (ops : Array Oper) (listed : Array Bool) (i : Nat) : Nat → Nat → Bool
  | 0, _ => false
  | f + 1, z => match ops[z]? with
    | none => false
    | some o => o.after.toList.any fun e => Region.binds md e && (!(listed.getD e.on false) && (e.on == i || waitsFor md ops listed i f e.on))

theorem waitsFor_spec {listed : Array Bool} {i : Nat} : ∀ {f z : Nat}, waitsFor md ops listed i f z = true → ∃ o, ops[z]? = some o ∧ ∃ e ∈ o.after, Region.binds md e = true ∧ listed.getD e.on false = false ∧ (e.on = i ∨ ∃ f', f = f' + 1 ∧ waitsFor md ops listed i f' e.on = true)
  | 0, _, h => by cases h
  | f + 1, z, h => by
    unfold waitsFor at h
    cases ho : ops[z]? with
    | none => rw [ho] at h; cases h
    | some o =>
      rw [ho] at h
      simp only [List.any_eq_true, Bool.and_eq_true, Bool.not_eq_true', Bool.or_eq_true, beq_iff_eq] at h
      obtain ⟨e, he, hb, hl, hr⟩ := h
      exact ⟨o, rfl, e, Array.mem_toList_iff.1 he, hb, hl, hr.imp id fun h => ⟨f, rfl, h⟩⟩

theorem waitsFor_ready {listed : Array Bool} {i f z : Nat} (h : waitsFor md ops listed i f z = true) : z ∉ Region.ready md ops listed := fun hz => by
  obtain ⟨o, ho, e, he, hb, hl, _⟩ := waitsFor_spec h
  obtain ⟨_, o', ho', hall⟩ := mem_ready.1 hz
  rw [ho] at ho'
  cases ho'
  rw [hall e he hb] at hl
  cases hl

theorem waitsFor_step {listed : Array Bool} {i j : Nat} (hj : j ∈ Region.ready md ops listed) (hne : j ≠ i) : ∀ {f z : Nat}, waitsFor md ops listed i f z = true → waitsFor md ops (listed.setIfInBounds j true) i f z = true
  | 0, _, h => by cases h
  | f + 1, z, h => by
    obtain ⟨o, ho, e, he, hb, hl, hr⟩ := waitsFor_spec h
    unfold waitsFor
    rw [ho]
    simp only [List.any_eq_true, Bool.and_eq_true, Bool.not_eq_true', Bool.or_eq_true, beq_iff_eq]
    have hk : j ≠ e.on := by
      rcases hr with h | ⟨f', _, h⟩
      · rw [h]; exact hne
      · exact fun hh => waitsFor_ready h (hh ▸ hj)
    refine ⟨e, Array.mem_toList_iff.2 he, hb, by rw [getD_set_ne false hk]; exact hl, ?_⟩
    rcases hr with h | ⟨f', hf, h⟩
    · exact .inl h
    · cases hf; exact .inr (waitsFor_step hj hne h)

/-- Whatever order is picked from here on, and S holds behind every operation that is carried out, but for number 'z'. -/
def wpAnyZ (P : Program) (md : Region.Mode) (ops : Array Oper) (Q : Exit → Act → World → Prop) (S : World → Prop) (z : Nat) : Nat → Array Bool → Act → World → Prop
  | 0, listed, a, w => Region.ready md ops listed = [] ∧ Q .normal a w
  | fuel + 1, listed, a, w =>
    (Region.ready md ops listed = [] → Q .normal a w) ∧
    ∀ i ∈ Region.ready md ops listed, wpOp P ops Q i (fun a' w' => (i ≠ z → S w') ∧ wpAnyZ P md ops Q S z fuel (listed.setIfInBounds i true) a' w') a w

theorem wpAny_of_heldZ : ∀ (fuel : Nat) (listed : Array Bool) (a : Act) (w : World), wpAnyZ P md ops Q S z fuel listed a w → wpAny P md ops Q fuel listed a w
  | 0, _, _, _, h => h
  | fuel + 1, _, _, _, h => ⟨h.1, fun i hi => wpOp_mono (fun a' w' h' => wpAny_of_heldZ fuel _ a' w' h'.2) (h.2 i hi)⟩

theorem wpAnyZ_first {i : Nat} {oi : Oper} {v : Value} (hi : ops[i]? = some oi) (hsel : ∀ (j : Nat) (o : Oper) cs b, ops[j]? = some o → o.op ≠ .select cs b)
    (hQ : ∀ c a w, Q (.panic c) (a.put oi.dst v) w → Q (.panic c) a w) {F : Nat} :
    ∀ (fuel : Nat) (listed : Array Bool) (a : Act) (w : World),
      (∀ j oj, ops[j]? = some oj → j ≠ i → listed.getD j true = false → (∀ e ∈ oj.after, Region.binds md e = true → e.on ≠ i) → oi.apart ops oj = true) →
      i ∈ Region.ready md ops listed → waitsFor md ops listed i F z = true → YieldsIf P ops S oi v a → S w →
      wpAnyZ P md ops Q S z fuel (listed.setIfInBounds i true) (a.put oi.dst v) w → wpAnyZ P md ops Q S z (fuel + 1) listed a w := by
  intro fuel
  induction fuel with
  | zero =>
    intro listed a w _ hr _ hy hS H
    refine ⟨fun h => (by rw [h] at hr; cases hr), fun j hj => ?_⟩
    by_cases hji : j = i
    · subst hji; exact hy.wpOp hi hS ⟨fun _ => hS, H⟩
    · have := ready_mono hj hji
      rw [H.1] at this
      cases this
  | succ fuel ih =>
    intro listed a w hfree hr hw hy hS H
    refine ⟨fun h => (by rw [h] at hr; cases hr), fun j hj => ?_⟩
    by_cases hji : j = i
    · subst hji; exact hy.wpOp hi hS ⟨fun _ => hS, H⟩
    · have hjz : j ≠ z := fun hh => waitsFor_ready hw (hh ▸ hj)
      have h1 := H.2 j (ready_mono hj hji)
      obtain ⟨hjun, oj, hoj, hall⟩ := mem_ready.1 hj
      have hnot : ∀ e ∈ oj.after, Region.binds md e = true → e.on ≠ i := fun e he hb heq => by
        have h1 := hall e he hb
        have h0 := (mem_ready.1 hr).1
        rw [heq] at h1
        rcases Nat.lt_or_ge i listed.size with h' | h'
        · simp [h'] at h0 h1; rw [h0] at h1; cases h1
        · simp [Array.getElem?_eq_none h'] at h1
      have h2 := wpOp_putIf hoj (hfree j oj hoj hji hjun hnot) (fun cs b => hsel i oi cs b hi) (fun cs b => hsel j oj cs b hoj) hQ hy h1
      have hfree' : ∀ k ok, ops[k]? = some ok → k ≠ i → (listed.setIfInBounds j true).getD k true = false →
          (∀ e ∈ ok.after, Region.binds md e = true → e.on ≠ i) → oi.apart ops ok = true := fun k ok hk hki hun hno => by
        refine hfree k ok hk hki ?_ hno
        by_cases hjk : j = k
        · subst hjk; exact hjun
        · rw [getD_set_ne true hjk] at hun; exact hun
      refine wpOp_mono (fun a' w' h3 => ⟨fun _ => h3.2.1 hjz, ih (listed.setIfInBounds j true) a' w' hfree' (ready_mono hr (Ne.symm hji)) (waitsFor_step hj hji hw) h3.1 (h3.2.1 hjz) ?_⟩) h2
      rw [Array.setIfInBounds_comm _ _ hji]
      exact h3.2.2

theorem wpAnyZ_take {i : Nat} {oi : Oper} {v : Value} {fuel : Nat} {listed : Array Bool} {a : Act} {w : World} (hi : ops[i]? = some oi)
    (hs : Region.noSelect ops = true) (hf : Region.free md ops listed i = true) (hr : (Region.ready md ops listed).contains i = true)
    (hQ : ∀ c a w, Q (.panic c) (a.put oi.dst v) w → Q (.panic c) a w) (hy : YieldsIf P ops S oi v a) (hS : S w)
    (h : wpAnyZ P md ops Q S z fuel (listed.setIfInBounds i true) (a.put oi.dst v) w) (hz : waitsFor md ops listed i 16 z = true := by kernel_rfl) : wpAnyZ P md ops Q S z (fuel + 1) listed a w :=
  wpAnyZ_first hi (Region.noSelect_spec hs) hQ fuel listed a w (Region.free_spec hi hf) (by simpa using hr) hz hy hS h

theorem wpAnyZ_done {listed : Array Bool} {a : Act} {w : World} (hr : Region.ready md ops listed = []) (h : Q .normal a w) :
    ∀ fuel, wpAnyZ P md ops Q S z fuel listed a w
  | 0 => ⟨hr, h⟩
  | _ + 1 => ⟨fun _ => h, by rw [hr]; simp⟩

def AllReadyZ (P : Program) (md : Region.Mode) (ops : Array Oper) (Q : Exit → Act → World → Prop) (S : World → Prop) (z : Nat) (fuel : Nat) (listed : Array Bool) (a : Act) (w : World) (rs : List Nat) : Prop :=
  ∀ i ∈ rs, wpOp P ops Q i (fun a' w' => (i ≠ z → S w') ∧ wpAnyZ P md ops Q S z fuel (listed.setIfInBounds i true) a' w') a w

theorem AllReadyZ.nil {fuel : Nat} {listed : Array Bool} {a : Act} {w : World} : AllReadyZ P md ops Q S z fuel listed a w [] := fun _ h => by cases h
theorem AllReadyZ.cons {fuel : Nat} {listed : Array Bool} {a : Act} {w : World} {i : Nat} {o : Oper} {rs : List Nat} (ho : ops[i]? = some o)
    (h : ∀ K' : Act → World → Prop, Shut (∀ a w, S w → (S w → wpAnyZ P md ops Q S z fuel (listed.setIfInBounds i true) a w) → K' a w) → if Region.wanted o (yielded ops a.tmps) = true then Oper.wp P o a w K' Q else K' (a.put o.dst undef) w)
    (hs : AllReadyZ P md ops Q S z fuel listed a w rs) : AllReadyZ P md ops Q S z fuel listed a w (i :: rs) := fun j hj => by
  rcases List.mem_cons.1 hj with rfl | hj
  · exact wpOp_step ho (fun K' hK => h K' (fun a w hS hW => hK a w ⟨fun _ => hS, hW hS⟩))
  · exact hs j hj
theorem AllReadyZ.last {fuel : Nat} {listed : Array Bool} {a : Act} {w : World} {o : Oper} (ho : ops[z]? = some o)
    (h : ∀ K' : Act → World → Prop, Shut (∀ a w, True → (True → wpAnyZ P md ops Q S z fuel (listed.setIfInBounds z true) a w) → K' a w) → if Region.wanted o (yielded ops a.tmps) = true then Oper.wp P o a w K' Q else K' (a.put o.dst undef) w) : AllReadyZ P md ops Q S z fuel listed a w [z] := fun j hj => by
  rw [List.mem_singleton] at hj
  subst hj
  exact wpOp_step ho (fun K' hK => h K' (fun a w _ hW => hK a w ⟨fun e => absurd rfl e, hW trivial⟩))

theorem wpAnyZ_ready {rs : List Nat} {fuel : Nat} {listed : Array Bool} {a : Act} {w : World} (hr : Region.ready md ops listed = rs) (hne : rs ≠ [])
    (h : AllReadyZ P md ops Q S z fuel listed a w rs) : wpAnyZ P md ops Q S z (fuel + 1) listed a w := ⟨fun h0 => absurd (hr ▸ h0) hne, hr ▸ h⟩

theorem wp_region_z (z : Nat) {id : Nat} {a : Act} {w : World} (hm : P.follows .mixedOrders = true) (hS : S w.drew)
    (h : S w.drew → wpAnyZ P .any ops Q S z ops.size (Array.replicate ops.size false) a w.drew) : (Code.region id ops true).wp P Q a w :=
  wp_region_any hm (wpAny_of_heldZ _ _ _ _ (h hS))
end
open Go.RowKit Go.Sort

theorem grow_below (w : World) (k : Nat) (os : Array Obj) : Below w.heap.size w (grow (w.drewN k) os) := by
  refine ⟨rfl, rfl, rfl, ?_, fun i hi => ?_⟩
  · show w.heap.size ≤ (w.heap ++ os).size
    rw [Array.size_append]; omega
  · show (w.heap ++ os)[i]? = w.heap[i]?
    rw [Array.getElem?_append_left hi]
theorem itoa_l (n : Int) (h0 : 0 ≤ n) (h1 : n ≤ 99999) (w : World) (hT : Tab w) : Calls Tryd.prog 30 #[.int .i64 n] w fun e w' => e = .returned (.string ⟨(tN n).toArray⟩) ∧ Below w.heap.size w w' := by
  refine (Tryd.strconv_Itoa n (by omega) (by omega) w hT).mono ?_
  rintro e w' ⟨rfl, k, os, rfl⟩
  refine ⟨?_, grow_below w k os⟩
  obtain ⟨m, rfl⟩ : ∃ m : Nat, n = (m : Int) := ⟨n.toNat, by omega⟩
  rw [itoa_nat]
  rfl
theorem atext_l (x : Ad4) (w : World) (hT : Tab w) : Calls Tryd.prog 15 #[.agg #[.int .u8 (x.a.toNat : Int), .int .u8 (x.b.toNat : Int), .int .u8 (x.c.toNat : Int), .int .u8 (x.d.toNat : Int)]] w fun e w' => e = .returned (.string ⟨(tA x).toArray⟩) ∧ Below w.heap.size w w' := atext_any _ _ _ _ w hT
theorem amact_l (x : Mc6) (w : World) : Calls Tryd.prog 29 #[.agg #[.int .u8 (x.a.toNat : Int), .int .u8 (x.b.toNat : Int), .int .u8 (x.c.toNat : Int), .int .u8 (x.d.toNat : Int), .int .u8 (x.e.toNat : Int), .int .u8 (x.f.toNat : Int)]] w fun e w' => e = .returned (.string ⟨(tM x).toArray⟩) ∧ Below w.heap.size w w' := amactext_any _ _ _ _ _ _ w
theorem anet_l (x : Ad4) (n : Int) (h0 : 0 ≤ n) (h1 : n ≤ 30) (w : World) (hT : Tab w) : Calls Tryd.prog 28 #[.agg #[.int .u8 (x.a.toNat : Int), .int .u8 (x.b.toNat : Int), .int .u8 (x.c.toNat : Int), .int .u8 (x.d.toNat : Int), .int .i64 n]] w fun e w' => e = .returned (.string ⟨(tA x ++ 47 :: tN n).toArray⟩) ∧ Below w.heap.size w w' := by
  obtain ⟨m, rfl⟩ : ∃ m : Nat, n = (m : Int) := ⟨n.toNat, by omega⟩
  refine (anettext_any x.a x.b x.c x.d m (by omega) w hT).mono ?_
  rintro e w' ⟨rfl, bel⟩
  refine ⟨?_, bel⟩
  rw [List.append_assoc]
  rfl
theorem Bd.below {B g : Nat} {l : List UInt8} {w w' : World} (h : Bd B g l w) (hb : Below w.heap.size w w') : Bd B g l w' := by
  have k : ∀ p, Lib.BuilderAt 68 5 B g p (Lib.byteCells l) w → Lib.BuilderAt 68 5 B g p (Lib.byteCells l) w' := fun p ⟨h1, v, h2, h3, h4⟩ => ⟨h1, v, blk_u h2 hb, own_under h3 hb, h4⟩
  exact h.imp (k _) (k _)
theorem bd_new {B g : Nat} {w : World} (h : w.heap[g]? = some (.cells #[.pointer none, .slice none 0 0] 68 (0, 0))) (hB : B ≤ g) : Bd B g [] w :=
  .inl ⟨hB, _, h, World.ownsRow_nil _ _ _ _, by simp [Value.ownBlock]⟩
set_option linter.unusedVariables false in
set_option linter.unusedSimpArgs false in
set_option maxRecDepth 100000 in
set_option maxHeartbeats 16000000 in
theorem tline_c (B g : Nat) (nm v : List UInt8) {ls ms : List (List UInt8)} (w : World) (hz : Hid (ls ++ [lnL nm v] = ms)) (hB : Bd B g (txt ls) w) (h1 : nm.length ≤ 100) (h2 : v.length ≤ 100) (h3 : (txt ls).length ≤ 100000) (hlo : B ≤ w.heap.size) : Calls Tryd.prog 26 #[.string ⟨nm.toArray⟩, .string ⟨v.toArray⟩, .pointer (some ⟨g, 0, none⟩)] w fun e w' => e = .returned (.tuple #[]) ∧ Bd B g (txt ms) w' ∧ B ≤ w'.heap.size ∧ Below B w w' := by
  have z3l : ([32, 61, 32] : List UInt8).length = 3 := rfl
  have z1l : ([10] : List UInt8).length = 1 := rfl
  obtain ⟨x1, hx1⟩ : ∃ z, nm ++ ([32, 61, 32] : List UInt8) = z := ⟨_, rfl⟩
  have HX1 := Lib.hid hx1
  have BX1 : Hid (nm.length + ([32, 61, 32] : List UInt8).length ≤ 8388608) := Lib.hid (by omega)
  have x1l : x1.length = nm.length + ([32, 61, 32] : List UInt8).length := by rw [← hx1, List.length_append]
  clear hx1
  obtain ⟨x2, hx2⟩ : ∃ z, x1 ++ v = z := ⟨_, rfl⟩
  have HX2 := Lib.hid hx2
  have BX2 : Hid (x1.length + v.length ≤ 8388608) := Lib.hid (by omega)
  have x2l : x2.length = x1.length + v.length := by rw [← hx2, List.length_append]
  clear hx2
  obtain ⟨x3, hx3⟩ : ∃ z, x2 ++ ([10] : List UInt8) = z := ⟨_, rfl⟩
  have HX3 := Lib.hid hx3
  have BX3 : Hid (x2.length + ([10] : List UInt8).length ≤ 8388608) := Lib.hid (by omega)
  have x3l : x3.length = x2.length + ([10] : List UInt8).length := by rw [← hx3, List.length_append]
  clear hx3
  have HLN := Lib.hid (ln_snoc hz.out)
  have HX : Hid (txt ls ++ x3 = txt ms) := Lib.hid (by rw [HLN.out.1, ← HX3.out, ← HX2.out, ← HX1.out])
  have bel := Below.refl B w
  go_enter Tryd.func26, Tryd.ntmps26
  have R6 := fun W => st_cat HX1.out BX1.out W
  have R8 := fun W => st_cat HX2.out BX2.out W
  have R9 := fun W => st_cat HX3.out BX3.out W
  go_wp2_with fail
  clear R6 R8 R9
  with_reducible refine (bd_write B g (txt ls) x3 _ hB (by omega) hlo).mono ?_
  rintro e w1 ⟨rfl, hB2, b1⟩
  replace bel := bel.trans b1
  rw [HX.out] at hB2
  go_wp2_with fail
  exact bodyPost_end (results_none rfl _ _ _) rfl ⟨rfl, hB2, Nat.le_trans hlo bel.size, bel⟩
set_option linter.unusedVariables false in
set_option linter.unusedSimpArgs false in
set_option maxRecDepth 100000 in
set_option maxHeartbeats 16000000 in
theorem opent_c (x : Int × Int × Ad4 × Int) (w : World) (hT : Tab w) (hp_ : x.1 = 17 ∨ x.1 = 6) (hr : 0 ≤ x.2.1 ∧ x.2.1 ≤ 65535 ∧ 0 ≤ x.2.2.2 ∧ x.2.2.2 ≤ 65535) : Calls Tryd.prog 31 #[.agg #[.int .i64 x.1, .int .i64 x.2.1, .int .u8 (x.2.2.1.a.toNat : Int), .int .u8 (x.2.2.1.b.toNat : Int), .int .u8 (x.2.2.1.c.toNat : Int), .int .u8 (x.2.2.1.d.toNat : Int), .int .i64 x.2.2.2]] w fun e w' => e = .returned (.string ⟨(opV x).toArray⟩) ∧ Below w.heap.size w w' := by
  obtain ⟨r1, r2, r3, r4⟩ := hr
  have tal_ := tA_len x.2.2.1
  have tnl_ := tN_len (n := x.2.1) (by omega)
  have tql_ := tN_len (n := x.2.2.2) (by omega)
  obtain ⟨ta, h_⟩ : ∃ z, tA x.2.2.1 = z := ⟨_, rfl⟩
  have HTA := Lib.hid h_
  rw [h_] at tal_
  clear h_
  obtain ⟨tn, h_⟩ : ∃ z, tN x.2.1 = z := ⟨_, rfl⟩
  have HTN := Lib.hid h_
  rw [h_] at tnl_
  clear h_
  obtain ⟨tq, h_⟩ : ∃ z, tN x.2.2.2 = z := ⟨_, rfl⟩
  have HTO := Lib.hid h_
  rw [h_] at tql_
  clear h_
  have z1l : ([32] : List UInt8).length = 1 := rfl
  have bel := Below.refl w.heap.size w
  go_enter Tryd.func31, Tryd.ntmps31
  rcases hp_ with hp | hp
  rotate_left
  · have e1 : (x.1 == 17) = false := beq_eq_false_iff_ne.2 (by omega)
    have HP6 := Lib.hid hp
    
    obtain ⟨y1, hy1⟩ : ∃ z, ([116, 99, 112] : List UInt8) ++ ([32] : List UInt8) = z := ⟨_, rfl⟩
    have HY1 := Lib.hid hy1
    have BY1 : Hid (([116, 99, 112] : List UInt8).length + ([32] : List UInt8).length ≤ 8388608) := Lib.hid (by decide)
    have y1l : y1.length = ([116, 99, 112] : List UInt8).length + ([32] : List UInt8).length := by rw [← hy1, List.length_append]
    clear hy1
    have y1b : y1.length = 4 := by rw [y1l]; rfl
    obtain ⟨y2, hy2⟩ : ∃ z, y1 ++ tn = z := ⟨_, rfl⟩
    have HY2 := Lib.hid hy2
    have BY2 : Hid (y1.length + tn.length ≤ 8388608) := Lib.hid (by omega)
    have y2l : y2.length = y1.length + tn.length := by rw [← hy2, List.length_append]
    clear hy2
    obtain ⟨y3, hy3⟩ : ∃ z, y2 ++ ([32] : List UInt8) = z := ⟨_, rfl⟩
    have HY3 := Lib.hid hy3
    have BY3 : Hid (y2.length + ([32] : List UInt8).length ≤ 8388608) := Lib.hid (by omega)
    have y3l : y3.length = y2.length + ([32] : List UInt8).length := by rw [← hy3, List.length_append]
    clear hy3
    obtain ⟨y4, hy4⟩ : ∃ z, y3 ++ ta = z := ⟨_, rfl⟩
    have HY4 := Lib.hid hy4
    have BY4 : Hid (y3.length + ta.length ≤ 8388608) := Lib.hid (by omega)
    have y4l : y4.length = y3.length + ta.length := by rw [← hy4, List.length_append]
    clear hy4
    obtain ⟨y5, hy5⟩ : ∃ z, y4 ++ ([32] : List UInt8) = z := ⟨_, rfl⟩
    have HY5 := Lib.hid hy5
    have BY5 : Hid (y4.length + ([32] : List UInt8).length ≤ 8388608) := Lib.hid (by omega)
    have y5l : y5.length = y4.length + ([32] : List UInt8).length := by rw [← hy5, List.length_append]
    clear hy5
    obtain ⟨y6, hy6⟩ : ∃ z, y5 ++ tq = z := ⟨_, rfl⟩
    have HY6 := Lib.hid hy6
    have BY6 : Hid (y5.length + tq.length ≤ 8388608) := Lib.hid (by omega)
    have y6l : y6.length = y5.length + tq.length := by rw [← hy6, List.length_append]
    clear hy6
    clear hp
    have F8 := fun W => st_cat HY1.out BY1.out W
    have F12 := fun W => st_cat HY2.out BY2.out W
    have F13 := fun W => st_cat HY3.out BY3.out W
    have F17 := fun W => st_cat HY4.out BY4.out W
    have F18 := fun W => st_cat HY5.out BY5.out W
    have F22 := fun W => st_cat HY6.out BY6.out W
    go_wp2_with (first | ((with_reducible show wpList _ _ _ (⟨some 1, _, _, _, _, _⟩ :: _) _ _); refine wpList_box_n rfl 38 (.tmp 0) rfl #[.int .i64 x.1, .int .i64 x.2.1, .int .u8 (x.2.2.1.a.toNat : Int), .int .u8 (x.2.2.1.b.toNat : Int), .int .u8 (x.2.2.1.c.toNat : Int), .int .u8 (x.2.2.1.d.toNat : Int), .int .i64 x.2.2.2] rfl ?_; intro g1 w1 ge lt hh bb; have ooc := Nat.le_trans bel.size ge; replace bel := bel.trans (bb.mono bel.size); have hoc := hh; clear hh lt ge bb; have R5 := cell_lit hoc 0 _ rfl))
    try clear R5
    replace bel := bel.drew
    replace hoc : w1.drew.heap[g1]? = _ := hoc
    refine wp_region_held_drew (S := fun W => W.heap[g1]? = some (.cells #[.int .i64 x.1, .int .i64 x.2.1, .int .u8 (x.2.2.1.a.toNat : Int), .int .u8 (x.2.2.1.b.toNat : Int), .int .u8 (x.2.2.1.c.toNat : Int), .int .u8 (x.2.2.1.d.toNat : Int), .int .i64 x.2.2.2] 38 (0, 0))) (by kernel_rfl) hoc (fun hH => ?_)
    generalize w1.drew = w2 at bel hoc hH ⊢
    refine wpAnyH_take (i := 0) (v := ?_) rfl (by kernel_rfl) (by kernel_rfl) (by kernel_rfl) (fun _ _ _ h => h) (Or.inl ⟨by rfl, ?_⟩) hH ?_
    rotate_left
    · ((intro W hW; clear hW; go_simp) <;> with_reducible rfl)
    simp only [Act.put, List.getElem_toArray, List.getElem_cons_zero, List.setIfInBounds_toArray, List.set_cons_zero, List.set_cons_succ]
    refine wpAnyH_take (i := 1) (v := ?_) rfl (by kernel_rfl) (by kernel_rfl) (by kernel_rfl) (fun _ _ _ h => h) (Or.inl ⟨by rfl, ?_⟩) hH ?_
    rotate_left
    · ((intro W hW; clear hW; go_simp) <;> with_reducible rfl)
    simp only [Act.put, List.getElem_toArray, List.getElem_cons_zero, List.getElem_cons_succ, List.setIfInBounds_toArray, List.set_cons_zero, List.set_cons_succ]
    refine wpAnyH_take (i := 2) (v := ?_) rfl (by kernel_rfl) (by kernel_rfl) (by kernel_rfl) (fun _ _ _ h => h) (Or.inl ⟨by rfl, ?_⟩) hH ?_
    rotate_left
    · ((intro W hW; clear hW; go_simp) <;> with_reducible rfl)
    simp only [Act.put, List.getElem_toArray, List.getElem_cons_zero, List.getElem_cons_succ, List.setIfInBounds_toArray, List.set_cons_zero, List.set_cons_succ]
    refine wpAnyH_take (i := 3) (v := ?_) rfl (by kernel_rfl) (by kernel_rfl) (by kernel_rfl) (fun _ _ _ h => h) (Or.inl ⟨by rfl, ?_⟩) hH ?_
    rotate_left
    · ((intro W hW; have hk := cell_lit (hW) 1 _ rfl; clear hW; go_simp) <;> with_reducible rfl)
    simp only [Act.put, List.getElem_toArray, List.getElem_cons_zero, List.getElem_cons_succ, List.setIfInBounds_toArray, List.set_cons_zero, List.set_cons_succ]
    refine wpAnyH_take (i := 7) (v := ?_) rfl (by kernel_rfl) (by kernel_rfl) (by kernel_rfl) (fun _ _ _ h => h) (Or.inl ⟨by rfl, ?_⟩) hH ?_
    rotate_left
    · ((intro W hW; clear hW; go_simp) <;> with_reducible rfl)
    simp only [Act.put, List.getElem_toArray, List.getElem_cons_zero, List.getElem_cons_succ, List.setIfInBounds_toArray, List.set_cons_zero, List.set_cons_succ]
    refine wpAnyH_take (i := 8) (v := .agg #[.int .u8 (x.2.2.1.a.toNat : Int), .int .u8 (x.2.2.1.b.toNat : Int), .int .u8 (x.2.2.1.c.toNat : Int), .int .u8 (x.2.2.1.d.toNat : Int)]) rfl (by kernel_rfl) (by kernel_rfl) (by kernel_rfl) (fun _ _ _ h => h) (yieldsIf_load_part (by kernel_rfl) 24 _ rfl g1 2 4 rfl _ 38 (0, 0) (fun W hW => hW) _ rfl _ Tryd.underlying24 rfl (by kernel_rfl)) hH ?_
    simp only [Act.put, List.getElem_toArray, List.getElem_cons_zero, List.getElem_cons_succ, List.setIfInBounds_toArray, List.set_cons_zero, List.set_cons_succ]
    refine wpAnyH_take (i := 12) (v := ?_) rfl (by kernel_rfl) (by kernel_rfl) (by kernel_rfl) (fun _ _ _ h => h) (Or.inl ⟨by rfl, ?_⟩) hH ?_
    rotate_left
    · ((intro W hW; clear hW; go_simp) <;> with_reducible rfl)
    simp only [Act.put, List.getElem_toArray, List.getElem_cons_zero, List.getElem_cons_succ, List.setIfInBounds_toArray, List.set_cons_zero, List.set_cons_succ]
    refine wpAnyH_take (i := 13) (v := ?_) rfl (by kernel_rfl) (by kernel_rfl) (by kernel_rfl) (fun _ _ _ h => h) (Or.inl ⟨by rfl, ?_⟩) hH ?_
    rotate_left
    · ((intro W hW; have hk := cell_lit (hW) 6 _ rfl; clear hW; go_simp) <;> with_reducible rfl)
    simp only [Act.put, List.getElem_toArray, List.getElem_cons_zero, List.getElem_cons_succ, List.setIfInBounds_toArray, List.set_cons_zero, List.set_cons_succ]
    refine wpAnyH_ready (rs := [4]) (by kernel_rfl) (by simp) ?_
    refine AllReadyH.cons (o := _) rfl (fun K hK => ?_) AllReadyH.nil
    simp only [List.getElem_toArray, List.getElem_cons_zero, List.getElem_cons_succ]
    go_simp
    with_reducible refine (itoa_l x.2.1 (by omega) (by omega) _ (hT.below bel)).mono ?_
    rintro e w3 ⟨rfl, b3⟩
    dsimp only
    replace hoc := blk_u hoc b3
    replace bel := bel.trans (b3.mono bel.size)
    clear b3
    rw [HTN.out]
    refine hK.out _ _ hoc (fun hH4 => ?_)
    clear hK K
    refine wpAnyH_take (i := 5) (v := ?_) rfl (by kernel_rfl) (by kernel_rfl) (by kernel_rfl) (fun _ _ _ h => h) (Or.inl ⟨by rfl, ?_⟩) hH4 ?_
    rotate_left
    · ((intro W hW; clear hW; go_simp) <;> with_reducible rfl)
    simp only [Act.put, List.getElem_toArray, List.getElem_cons_zero, List.getElem_cons_succ, List.setIfInBounds_toArray, List.set_cons_zero, List.set_cons_succ]
    refine wpAnyH_take (i := 6) (v := ?_) rfl (by kernel_rfl) (by kernel_rfl) (by kernel_rfl) (fun _ _ _ h => h) (Or.inl ⟨by rfl, ?_⟩) hH4 ?_
    rotate_left
    · ((intro W hW; clear hW; go_simp) <;> with_reducible rfl)
    simp only [Act.put, List.getElem_toArray, List.getElem_cons_zero, List.getElem_cons_succ, List.setIfInBounds_toArray, List.set_cons_zero, List.set_cons_succ]
    refine wpAnyH_ready (rs := [9]) (by kernel_rfl) (by simp) ?_
    refine AllReadyH.cons (o := _) rfl (fun K hK => ?_) AllReadyH.nil
    simp only [List.getElem_toArray, List.getElem_cons_zero, List.getElem_cons_succ]
    go_simp
    with_reducible refine (atext_l x.2.2.1 _ (hT.below bel)).mono ?_
    rintro e w5 ⟨rfl, b5⟩
    dsimp only
    replace hoc := blk_u hoc b5
    replace bel := bel.trans (b5.mono bel.size)
    clear b5
    rw [HTA.out]
    refine hK.out _ _ hoc (fun hH6 => ?_)
    clear hK K
    refine wpAnyH_take (i := 10) (v := ?_) rfl (by kernel_rfl) (by kernel_rfl) (by kernel_rfl) (fun _ _ _ h => h) (Or.inl ⟨by rfl, ?_⟩) hH6 ?_
    rotate_left
    · ((intro W hW; clear hW; go_simp) <;> with_reducible rfl)
    simp only [Act.put, List.getElem_toArray, List.getElem_cons_zero, List.getElem_cons_succ, List.setIfInBounds_toArray, List.set_cons_zero, List.set_cons_succ]
    refine wpAnyH_take (i := 11) (v := ?_) rfl (by kernel_rfl) (by kernel_rfl) (by kernel_rfl) (fun _ _ _ h => h) (Or.inl ⟨by rfl, ?_⟩) hH6 ?_
    rotate_left
    · ((intro W hW; clear hW; go_simp) <;> with_reducible rfl)
    simp only [Act.put, List.getElem_toArray, List.getElem_cons_zero, List.getElem_cons_succ, List.setIfInBounds_toArray, List.set_cons_zero, List.set_cons_succ]
    refine wpAnyH_ready (rs := [14]) (by kernel_rfl) (by simp) ?_
    refine AllReadyH.cons (o := _) rfl (fun K hK => ?_) AllReadyH.nil
    simp only [List.getElem_toArray, List.getElem_cons_zero, List.getElem_cons_succ]
    go_simp
    with_reducible refine (itoa_l x.2.2.2 (by omega) (by omega) _ (hT.below bel)).mono ?_
    rintro e w7 ⟨rfl, b7⟩
    dsimp only
    replace hoc := blk_u hoc b7
    replace bel := bel.trans (b7.mono bel.size)
    clear b7
    rw [HTO.out]
    refine hK.out _ _ hoc (fun hH8 => ?_)
    clear hK K
    refine wpAnyH_take (i := 15) (v := ?_) rfl (by kernel_rfl) (by kernel_rfl) (by kernel_rfl) (fun _ _ _ h => h) (Or.inl ⟨by rfl, ?_⟩) hH8 ?_
    rotate_left
    · ((intro W hW; clear hW; go_simp) <;> with_reducible rfl)
    simp only [Act.put, List.getElem_toArray, List.getElem_cons_zero, List.getElem_cons_succ, List.setIfInBounds_toArray, List.set_cons_zero, List.set_cons_succ]
    refine wpAnyH_take (i := 16) (v := ?_) rfl (by kernel_rfl) (by kernel_rfl) (by kernel_rfl) (fun _ _ _ h => h) (Or.inl ⟨by rfl, ?_⟩) hH8 ?_
    rotate_left
    · ((intro W hW; clear hW; go_simp) <;> with_reducible rfl)
    simp only [Act.put, List.getElem_toArray, List.getElem_cons_zero, List.getElem_cons_succ, List.setIfInBounds_toArray, List.set_cons_zero, List.set_cons_succ]
    refine wpAnyH_done (by kernel_rfl) ?_ _
    go_wp2_with fail
    go_ret
    exact ⟨(by rw [← HY6.out, ← HY5.out, ← HY4.out, ← HY3.out, ← HY2.out, ← HY1.out, ← HTA.out, ← HTN.out, ← HTO.out]; unfold opV opP; rw [if_pos HP6.out] <;> rfl), bel⟩
  have e1 : (x.1 == 17) = true := beq_iff_eq.2 hp
  have HP17 := Lib.hid hp
  
  obtain ⟨y1, hy1⟩ : ∃ z, ([117, 100, 112] : List UInt8) ++ ([32] : List UInt8) = z := ⟨_, rfl⟩
  have HY1 := Lib.hid hy1
  have BY1 : Hid (([117, 100, 112] : List UInt8).length + ([32] : List UInt8).length ≤ 8388608) := Lib.hid (by decide)
  have y1l : y1.length = ([117, 100, 112] : List UInt8).length + ([32] : List UInt8).length := by rw [← hy1, List.length_append]
  clear hy1
  have y1b : y1.length = 4 := by rw [y1l]; rfl
  obtain ⟨y2, hy2⟩ : ∃ z, y1 ++ tn = z := ⟨_, rfl⟩
  have HY2 := Lib.hid hy2
  have BY2 : Hid (y1.length + tn.length ≤ 8388608) := Lib.hid (by omega)
  have y2l : y2.length = y1.length + tn.length := by rw [← hy2, List.length_append]
  clear hy2
  obtain ⟨y3, hy3⟩ : ∃ z, y2 ++ ([32] : List UInt8) = z := ⟨_, rfl⟩
  have HY3 := Lib.hid hy3
  have BY3 : Hid (y2.length + ([32] : List UInt8).length ≤ 8388608) := Lib.hid (by omega)
  have y3l : y3.length = y2.length + ([32] : List UInt8).length := by rw [← hy3, List.length_append]
  clear hy3
  obtain ⟨y4, hy4⟩ : ∃ z, y3 ++ ta = z := ⟨_, rfl⟩
  have HY4 := Lib.hid hy4
  have BY4 : Hid (y3.length + ta.length ≤ 8388608) := Lib.hid (by omega)
  have y4l : y4.length = y3.length + ta.length := by rw [← hy4, List.length_append]
  clear hy4
  obtain ⟨y5, hy5⟩ : ∃ z, y4 ++ ([32] : List UInt8) = z := ⟨_, rfl⟩
  have HY5 := Lib.hid hy5
  have BY5 : Hid (y4.length + ([32] : List UInt8).length ≤ 8388608) := Lib.hid (by omega)
  have y5l : y5.length = y4.length + ([32] : List UInt8).length := by rw [← hy5, List.length_append]
  clear hy5
  obtain ⟨y6, hy6⟩ : ∃ z, y5 ++ tq = z := ⟨_, rfl⟩
  have HY6 := Lib.hid hy6
  have BY6 : Hid (y5.length + tq.length ≤ 8388608) := Lib.hid (by omega)
  have y6l : y6.length = y5.length + tq.length := by rw [← hy6, List.length_append]
  clear hy6
  clear hp
  have F8 := fun W => st_cat HY1.out BY1.out W
  have F12 := fun W => st_cat HY2.out BY2.out W
  have F13 := fun W => st_cat HY3.out BY3.out W
  have F17 := fun W => st_cat HY4.out BY4.out W
  have F18 := fun W => st_cat HY5.out BY5.out W
  have F22 := fun W => st_cat HY6.out BY6.out W
  go_wp2_with (first | ((with_reducible show wpList _ _ _ (⟨some 1, _, _, _, _, _⟩ :: _) _ _); refine wpList_box_n rfl 38 (.tmp 0) rfl #[.int .i64 x.1, .int .i64 x.2.1, .int .u8 (x.2.2.1.a.toNat : Int), .int .u8 (x.2.2.1.b.toNat : Int), .int .u8 (x.2.2.1.c.toNat : Int), .int .u8 (x.2.2.1.d.toNat : Int), .int .i64 x.2.2.2] rfl ?_; intro g1 w1 ge lt hh bb; have ooc := Nat.le_trans bel.size ge; replace bel := bel.trans (bb.mono bel.size); have hoc := hh; clear hh lt ge bb; have R5 := cell_lit hoc 0 _ rfl))
  try clear R5
  replace bel := bel.drew
  replace hoc : w1.drew.heap[g1]? = _ := hoc
  refine wp_region_held_drew (S := fun W => W.heap[g1]? = some (.cells #[.int .i64 x.1, .int .i64 x.2.1, .int .u8 (x.2.2.1.a.toNat : Int), .int .u8 (x.2.2.1.b.toNat : Int), .int .u8 (x.2.2.1.c.toNat : Int), .int .u8 (x.2.2.1.d.toNat : Int), .int .i64 x.2.2.2] 38 (0, 0))) (by kernel_rfl) hoc (fun hH => ?_)
  generalize w1.drew = w2 at bel hoc hH ⊢
  refine wpAnyH_take (i := 0) (v := ?_) rfl (by kernel_rfl) (by kernel_rfl) (by kernel_rfl) (fun _ _ _ h => h) (Or.inl ⟨by rfl, ?_⟩) hH ?_
  rotate_left
  · ((intro W hW; clear hW; go_simp) <;> with_reducible rfl)
  simp only [Act.put, List.getElem_toArray, List.getElem_cons_zero, List.setIfInBounds_toArray, List.set_cons_zero, List.set_cons_succ]
  refine wpAnyH_take (i := 1) (v := ?_) rfl (by kernel_rfl) (by kernel_rfl) (by kernel_rfl) (fun _ _ _ h => h) (Or.inl ⟨by rfl, ?_⟩) hH ?_
  rotate_left
  · ((intro W hW; clear hW; go_simp) <;> with_reducible rfl)
  simp only [Act.put, List.getElem_toArray, List.getElem_cons_zero, List.getElem_cons_succ, List.setIfInBounds_toArray, List.set_cons_zero, List.set_cons_succ]
  refine wpAnyH_take (i := 2) (v := ?_) rfl (by kernel_rfl) (by kernel_rfl) (by kernel_rfl) (fun _ _ _ h => h) (Or.inl ⟨by rfl, ?_⟩) hH ?_
  rotate_left
  · ((intro W hW; clear hW; go_simp) <;> with_reducible rfl)
  simp only [Act.put, List.getElem_toArray, List.getElem_cons_zero, List.getElem_cons_succ, List.setIfInBounds_toArray, List.set_cons_zero, List.set_cons_succ]
  refine wpAnyH_take (i := 3) (v := ?_) rfl (by kernel_rfl) (by kernel_rfl) (by kernel_rfl) (fun _ _ _ h => h) (Or.inl ⟨by rfl, ?_⟩) hH ?_
  rotate_left
  · ((intro W hW; have hk := cell_lit (hW) 1 _ rfl; clear hW; go_simp) <;> with_reducible rfl)
  simp only [Act.put, List.getElem_toArray, List.getElem_cons_zero, List.getElem_cons_succ, List.setIfInBounds_toArray, List.set_cons_zero, List.set_cons_succ]
  refine wpAnyH_take (i := 7) (v := ?_) rfl (by kernel_rfl) (by kernel_rfl) (by kernel_rfl) (fun _ _ _ h => h) (Or.inl ⟨by rfl, ?_⟩) hH ?_
  rotate_left
  · ((intro W hW; clear hW; go_simp) <;> with_reducible rfl)
  simp only [Act.put, List.getElem_toArray, List.getElem_cons_zero, List.getElem_cons_succ, List.setIfInBounds_toArray, List.set_cons_zero, List.set_cons_succ]
  refine wpAnyH_take (i := 8) (v := .agg #[.int .u8 (x.2.2.1.a.toNat : Int), .int .u8 (x.2.2.1.b.toNat : Int), .int .u8 (x.2.2.1.c.toNat : Int), .int .u8 (x.2.2.1.d.toNat : Int)]) rfl (by kernel_rfl) (by kernel_rfl) (by kernel_rfl) (fun _ _ _ h => h) (yieldsIf_load_part (by kernel_rfl) 24 _ rfl g1 2 4 rfl _ 38 (0, 0) (fun W hW => hW) _ rfl _ Tryd.underlying24 rfl (by kernel_rfl)) hH ?_
  simp only [Act.put, List.getElem_toArray, List.getElem_cons_zero, List.getElem_cons_succ, List.setIfInBounds_toArray, List.set_cons_zero, List.set_cons_succ]
  refine wpAnyH_take (i := 12) (v := ?_) rfl (by kernel_rfl) (by kernel_rfl) (by kernel_rfl) (fun _ _ _ h => h) (Or.inl ⟨by rfl, ?_⟩) hH ?_
  rotate_left
  · ((intro W hW; clear hW; go_simp) <;> with_reducible rfl)
  simp only [Act.put, List.getElem_toArray, List.getElem_cons_zero, List.getElem_cons_succ, List.setIfInBounds_toArray, List.set_cons_zero, List.set_cons_succ]
  refine wpAnyH_take (i := 13) (v := ?_) rfl (by kernel_rfl) (by kernel_rfl) (by kernel_rfl) (fun _ _ _ h => h) (Or.inl ⟨by rfl, ?_⟩) hH ?_
  rotate_left
  · ((intro W hW; have hk := cell_lit (hW) 6 _ rfl; clear hW; go_simp) <;> with_reducible rfl)
  simp only [Act.put, List.getElem_toArray, List.getElem_cons_zero, List.getElem_cons_succ, List.setIfInBounds_toArray, List.set_cons_zero, List.set_cons_succ]
  refine wpAnyH_ready (rs := [4]) (by kernel_rfl) (by simp) ?_
  refine AllReadyH.cons (o := _) rfl (fun K hK => ?_) AllReadyH.nil
  simp only [List.getElem_toArray, List.getElem_cons_zero, List.getElem_cons_succ]
  go_simp
  with_reducible refine (itoa_l x.2.1 (by omega) (by omega) _ (hT.below bel)).mono ?_
  rintro e w3 ⟨rfl, b3⟩
  dsimp only
  replace hoc := blk_u hoc b3
  replace bel := bel.trans (b3.mono bel.size)
  clear b3
  rw [HTN.out]
  refine hK.out _ _ hoc (fun hH4 => ?_)
  clear hK K
  refine wpAnyH_take (i := 5) (v := ?_) rfl (by kernel_rfl) (by kernel_rfl) (by kernel_rfl) (fun _ _ _ h => h) (Or.inl ⟨by rfl, ?_⟩) hH4 ?_
  rotate_left
  · ((intro W hW; clear hW; go_simp) <;> with_reducible rfl)
  simp only [Act.put, List.getElem_toArray, List.getElem_cons_zero, List.getElem_cons_succ, List.setIfInBounds_toArray, List.set_cons_zero, List.set_cons_succ]
  refine wpAnyH_take (i := 6) (v := ?_) rfl (by kernel_rfl) (by kernel_rfl) (by kernel_rfl) (fun _ _ _ h => h) (Or.inl ⟨by rfl, ?_⟩) hH4 ?_
  rotate_left
  · ((intro W hW; clear hW; go_simp) <;> with_reducible rfl)
  simp only [Act.put, List.getElem_toArray, List.getElem_cons_zero, List.getElem_cons_succ, List.setIfInBounds_toArray, List.set_cons_zero, List.set_cons_succ]
  refine wpAnyH_ready (rs := [9]) (by kernel_rfl) (by simp) ?_
  refine AllReadyH.cons (o := _) rfl (fun K hK => ?_) AllReadyH.nil
  simp only [List.getElem_toArray, List.getElem_cons_zero, List.getElem_cons_succ]
  go_simp
  with_reducible refine (atext_l x.2.2.1 _ (hT.below bel)).mono ?_
  rintro e w5 ⟨rfl, b5⟩
  dsimp only
  replace hoc := blk_u hoc b5
  replace bel := bel.trans (b5.mono bel.size)
  clear b5
  rw [HTA.out]
  refine hK.out _ _ hoc (fun hH6 => ?_)
  clear hK K
  refine wpAnyH_take (i := 10) (v := ?_) rfl (by kernel_rfl) (by kernel_rfl) (by kernel_rfl) (fun _ _ _ h => h) (Or.inl ⟨by rfl, ?_⟩) hH6 ?_
  rotate_left
  · ((intro W hW; clear hW; go_simp) <;> with_reducible rfl)
  simp only [Act.put, List.getElem_toArray, List.getElem_cons_zero, List.getElem_cons_succ, List.setIfInBounds_toArray, List.set_cons_zero, List.set_cons_succ]
  refine wpAnyH_take (i := 11) (v := ?_) rfl (by kernel_rfl) (by kernel_rfl) (by kernel_rfl) (fun _ _ _ h => h) (Or.inl ⟨by rfl, ?_⟩) hH6 ?_
  rotate_left
  · ((intro W hW; clear hW; go_simp) <;> with_reducible rfl)
  simp only [Act.put, List.getElem_toArray, List.getElem_cons_zero, List.getElem_cons_succ, List.setIfInBounds_toArray, List.set_cons_zero, List.set_cons_succ]
  refine wpAnyH_ready (rs := [14]) (by kernel_rfl) (by simp) ?_
  refine AllReadyH.cons (o := _) rfl (fun K hK => ?_) AllReadyH.nil
  simp only [List.getElem_toArray, List.getElem_cons_zero, List.getElem_cons_succ]
  go_simp
  with_reducible refine (itoa_l x.2.2.2 (by omega) (by omega) _ (hT.below bel)).mono ?_
  rintro e w7 ⟨rfl, b7⟩
  dsimp only
  replace hoc := blk_u hoc b7
  replace bel := bel.trans (b7.mono bel.size)
  clear b7
  rw [HTO.out]
  refine hK.out _ _ hoc (fun hH8 => ?_)
  clear hK K
  refine wpAnyH_take (i := 15) (v := ?_) rfl (by kernel_rfl) (by kernel_rfl) (by kernel_rfl) (fun _ _ _ h => h) (Or.inl ⟨by rfl, ?_⟩) hH8 ?_
  rotate_left
  · ((intro W hW; clear hW; go_simp) <;> with_reducible rfl)
  simp only [Act.put, List.getElem_toArray, List.getElem_cons_zero, List.getElem_cons_succ, List.setIfInBounds_toArray, List.set_cons_zero, List.set_cons_succ]
  refine wpAnyH_take (i := 16) (v := ?_) rfl (by kernel_rfl) (by kernel_rfl) (by kernel_rfl) (fun _ _ _ h => h) (Or.inl ⟨by rfl, ?_⟩) hH8 ?_
  rotate_left
  · ((intro W hW; clear hW; go_simp) <;> with_reducible rfl)
  simp only [Act.put, List.getElem_toArray, List.getElem_cons_zero, List.getElem_cons_succ, List.setIfInBounds_toArray, List.set_cons_zero, List.set_cons_succ]
  refine wpAnyH_done (by kernel_rfl) ?_ _
  go_wp2_with fail
  go_ret
  exact ⟨(by rw [← HY6.out, ← HY5.out, ← HY4.out, ← HY3.out, ← HY2.out, ← HY1.out, ← HTA.out, ← HTN.out, ← HTO.out]; unfold opV opP; rw [if_neg (by rw [HP17.out]; decide)] <;> rfl), bel⟩
set_option linter.unusedVariables false in
set_option linter.unusedSimpArgs false in
set_option maxRecDepth 100000 in
set_option maxHeartbeats 16000000 in
theorem ctext_any (c : Cf) (Fx : Option Addr) (nf cf : Nat) (Ox : Option Addr) (nx cx : Nat) (w : World) (hT : Tab w) (sF : Sle fxf 10 w Fx nf cf c.fixed) (sO : Sle opf 7 w Ox nx cx c.opens) : Calls Tryd.prog 9 #[.agg (cfl c Fx nf cf Ox nx cx).toArray] w fun e w' => e = .returned (.string ⟨(textS c).toArray⟩) ∧ Below w.heap.size w w' := by
  have bel := Below.refl w.heap.size w
  go_enter Tryd.func9, Tryd.ntmps9
  go_wp2_with (first | ((with_reducible show wpList _ _ _ (⟨some 1, _, _, _, _, _⟩ :: _) _ _); refine wpList_box_n rfl 32 (.tmp 0) rfl (cfl c Fx nf cf Ox nx cx).toArray rfl ?_; intro g1 w1 ge lt hh bb; have av_sF_cc := sF.av_new ge; have av_sO_cc := sO.av_new ge; have occ := Nat.le_trans bel.size ge; replace sF := sF.below bb; replace sO := sO.below bb; replace bel := bel.trans (bb.mono bel.size); have hcc := hh; clear hh lt ge bb; have R9 := Lib.hid (range_lit hcc 0 40 (cfl c Fx nf cf Ox nx cx) rfl)) | ((with_reducible show wpList _ _ _ (⟨some 9, _, _, _, _, _⟩ :: _) _ _); refine wpList_load_rng 32 (.tmp 1) rfl (by kernel_rfl) _ _ rfl _ R9.out _ Tryd.underlying32 rfl (by kernel_rfl) ?_))
  try clear R9
  with_reducible refine (ccheck_any c _ _ _ _ _ _ _ sF sO).mono ?_
  rintro e w2 ⟨rfl, b2⟩
  replace hcc := blk_u hcc b2
  replace sF := sF.below b2
  replace sO := sO.below b2
  replace bel := bel.trans (b2.mono bel.size)
  clear b2
  obtain ⟨b, hb⟩ : ∃ b, c.check = b := ⟨_, rfl⟩
  rw [hb]
  have HB := Lib.hid hb
  clear hb
  rcases b with _ | _
  · rw [show errC false = 1 from rfl]
    have HP : Hid (textS c = []) := Lib.hid (by unfold textS; rw [if_neg (by rw [HB.out]; decide)])
    go_wp2_with fail
    go_ret
    exact ⟨(by rw [HP.out] <;> rfl), bel⟩
  rw [show errC true = 0 from rfl]
  have HR := Lib.hid (check_rng HB.out)
  have nf32 : nf ≤ 32 := by have := sF.1; have := HR.out.fixed; omega
  have nx32 : nx ≤ 32 := by have := sO.1; have := HR.out.opens; omega
  obtain ⟨v0, v1, v2, v3, v4, v5, v6, v7, v8, v9, v10, l1, l2, l3, l4, l5, l6, l7, l8, l9, l10, l11, HV0, e0, HV1, e1, HV2, e2, HV3, e3, HV4, e4, HV5, e5, HV6, e6, HV7, e7, HV8, e8, HV9, e9, HV10, e10, HL1, k1, HL2, k2, HL3, k3, HL4, k4, HL5, k5, HL6, k6, HL7, k7, HL8, k8, HL9, k9, HL10, k10, HL11, k11, HHD⟩ := hd_parts HR.out
  obtain ⟨lo, hlo_⟩ : ∃ lo, w2.heap.size = lo := ⟨_, rfl⟩
  have lo_le : w.heap.size ≤ lo := hlo_ ▸ bel.size
  have y_lob_cc := Lib.hid (hlt hcc)
  have bl_sF_lob := sF.bl_new
  have bl_sO_lob := sO.bl_new
  rw [hlo_] at y_lob_cc bl_sF_lob bl_sO_lob
  go_upto_region 5 with (first | ((with_reducible show wpList _ _ _ (⟨some 3, _, _, _, _, _⟩ :: _) _ _); refine wpList_new_a rfl 68 rfl #[.pointer none, .slice none 0 0] (by kernel_rfl) ?_; intro g3 w3 ge hh bb; have hlb : lo ≤ g3 := hlo_ ▸ ge; have d_cc_bd := ne_new (hlt hcc) ge; have av_sF_bd := sF.av_new ge; have av_sO_bd := sO.av_new ge; have obd := Nat.le_trans bel.size ge; replace hcc := blk_u hcc bb; replace sF := sF.below bb; replace sO := sO.below bb; replace bel := bel.trans (bb.mono bel.size); have hbd := hh; clear hh ge bb))
  have hB : Bd lo g3 (txt []) w3 := bd_new hbd hlb
  have hlW : lo ≤ w3.heap.size := Nat.le_of_lt (Nat.lt_of_le_of_lt hlb (hlt hbd))
  clear hbd
  have hBK := Below.refl w3.heap.size w3
  have R15 := Lib.hid (range_lit hcc 0 4 [.int .u8 (c.own.a.toNat : Int), .int .u8 (c.own.b.toNat : Int), .int .u8 (c.own.c.toNat : Int), .int .u8 (c.own.d.toNat : Int)] rfl)
  go_wp2_with (first | ((with_reducible show wpList _ _ _ (⟨some 15, _, _, _, _, _⟩ :: _) _ _); refine wpList_load_rng 24 (.tmp 14) rfl (by kernel_rfl) _ _ rfl _ R15.out _ Tryd.underlying24 rfl (by kernel_rfl) ?_; have R18 := cell_lit hcc 8 _ rfl))
  try clear R15
  try clear R18
  with_reducible refine (anet_l c.own c.bits (by have := HR.out.bits; omega) (by have := HR.out.bits; omega) _ (hT.below bel)).mono ?_
  rintro e w4 ⟨rfl, b4⟩
  replace hcc := blk_u hcc b4
  replace sF := sF.below b4
  replace sO := sO.below b4
  replace hBK := hBK.trans (b4.mono hBK.size)
  replace bel := bel.trans (b4.mono bel.size)
  clear b4
  rw [HV0.out]
  go_wp2_with fail
  with_reducible refine (tline_c lo g3 [108, 97, 110] v0 _ HL1 (hB.below hBK) (by decide) (by omega) (by decide) (Nat.le_trans hlW hBK.size)).mono ?_
  rintro e w5 ⟨rfl, hB2, hlW2, b5⟩
  replace bel := bel.trans (b5.mono lo_le)
  replace hcc := blk_under hcc b5 y_lob_cc.out
  replace sF := sF.under bl_sF_lob b5
  replace sO := sO.under bl_sO_lob b5
  clear hBK
  clear b5
  clear hB hlW
  have hB := hB2
  have hlW := hlW2
  clear hB2 hlW2
  have hBK := Below.refl w5.heap.size w5
  have R24 := Lib.hid (range_lit hcc 9 6 [.int .u8 (c.lanmac.a.toNat : Int), .int .u8 (c.lanmac.b.toNat : Int), .int .u8 (c.lanmac.c.toNat : Int), .int .u8 (c.lanmac.d.toNat : Int), .int .u8 (c.lanmac.e.toNat : Int), .int .u8 (c.lanmac.f.toNat : Int)] rfl)
  go_wp2_with (first | ((with_reducible show wpList _ _ _ (⟨some 24, _, _, _, _, _⟩ :: _) _ _); refine wpList_load_rng 28 (.tmp 23) rfl (by kernel_rfl) _ _ rfl _ R24.out _ Tryd.underlying28 rfl (by kernel_rfl) ?_))
  try clear R24
  with_reducible refine (amact_l c.lanmac _).mono ?_
  rintro e w6 ⟨rfl, b6⟩
  replace hcc := blk_u hcc b6
  replace sF := sF.below b6
  replace sO := sO.below b6
  replace hBK := hBK.trans (b6.mono hBK.size)
  replace bel := bel.trans (b6.mono bel.size)
  clear b6
  rw [HV1.out]
  go_wp2_with fail
  with_reducible refine (tline_c lo g3 [108, 97, 110, 109, 97, 99] v1 _ HL2 (hB.below hBK) (by decide) (by omega) (by omega) (Nat.le_trans hlW hBK.size)).mono ?_
  rintro e w7 ⟨rfl, hB2, hlW2, b7⟩
  replace bel := bel.trans (b7.mono lo_le)
  replace hcc := blk_under hcc b7 y_lob_cc.out
  replace sF := sF.under bl_sF_lob b7
  replace sO := sO.under bl_sO_lob b7
  clear hBK
  clear b7
  clear hB hlW
  have hB := hB2
  have hlW := hlW2
  clear hB2 hlW2
  have hBK := Below.refl w7.heap.size w7
  have R29 := Lib.hid (range_lit hcc 15 6 [.int .u8 (c.wanmac.a.toNat : Int), .int .u8 (c.wanmac.b.toNat : Int), .int .u8 (c.wanmac.c.toNat : Int), .int .u8 (c.wanmac.d.toNat : Int), .int .u8 (c.wanmac.e.toNat : Int), .int .u8 (c.wanmac.f.toNat : Int)] rfl)
  go_wp2_with (first | ((with_reducible show wpList _ _ _ (⟨some 29, _, _, _, _, _⟩ :: _) _ _); refine wpList_load_rng 28 (.tmp 28) rfl (by kernel_rfl) _ _ rfl _ R29.out _ Tryd.underlying28 rfl (by kernel_rfl) ?_))
  try clear R29
  with_reducible refine (amact_l c.wanmac _).mono ?_
  rintro e w8 ⟨rfl, b8⟩
  replace hcc := blk_u hcc b8
  replace sF := sF.below b8
  replace sO := sO.below b8
  replace hBK := hBK.trans (b8.mono hBK.size)
  replace bel := bel.trans (b8.mono bel.size)
  clear b8
  rw [HV2.out]
  go_wp2_with fail
  with_reducible refine (tline_c lo g3 [119, 97, 110, 109, 97, 99] v2 _ HL3 (hB.below hBK) (by decide) (by omega) (by omega) (Nat.le_trans hlW hBK.size)).mono ?_
  rintro e w9 ⟨rfl, hB2, hlW2, b9⟩
  replace bel := bel.trans (b9.mono lo_le)
  replace hcc := blk_under hcc b9 y_lob_cc.out
  replace sF := sF.under bl_sF_lob b9
  replace sO := sO.under bl_sO_lob b9
  clear hBK
  clear b9
  clear hB hlW
  have hB := hB2
  have hlW := hlW2
  clear hB2 hlW2
  have hBK := Below.refl w9.heap.size w9
  have R34 := Lib.hid (range_lit hcc 21 4 [.int .u8 (c.first.a.toNat : Int), .int .u8 (c.first.b.toNat : Int), .int .u8 (c.first.c.toNat : Int), .int .u8 (c.first.d.toNat : Int)] rfl)
  go_wp2_with (first | ((with_reducible show wpList _ _ _ (⟨some 34, _, _, _, _, _⟩ :: _) _ _); refine wpList_load_rng 24 (.tmp 33) rfl (by kernel_rfl) _ _ rfl _ R34.out _ Tryd.underlying24 rfl (by kernel_rfl) ?_))
  try clear R34
  with_reducible refine (atext_l c.first _ (hT.below bel)).mono ?_
  rintro e w10 ⟨rfl, b10⟩
  replace hcc := blk_u hcc b10
  replace sF := sF.below b10
  replace sO := sO.below b10
  replace hBK := hBK.trans (b10.mono hBK.size)
  replace bel := bel.trans (b10.mono bel.size)
  clear b10
  rw [HV3.out]
  go_wp2_with fail
  with_reducible refine (tline_c lo g3 [102, 105, 114, 115, 116] v3 _ HL4 (hB.below hBK) (by decide) (by omega) (by omega) (Nat.le_trans hlW hBK.size)).mono ?_
  rintro e w11 ⟨rfl, hB2, hlW2, b11⟩
  replace bel := bel.trans (b11.mono lo_le)
  replace hcc := blk_under hcc b11 y_lob_cc.out
  replace sF := sF.under bl_sF_lob b11
  replace sO := sO.under bl_sO_lob b11
  clear hBK
  clear b11
  clear hB hlW
  have hB := hB2
  have hlW := hlW2
  clear hB2 hlW2
  have hBK := Below.refl w11.heap.size w11
  have R39 := Lib.hid (range_lit hcc 25 4 [.int .u8 (c.last.a.toNat : Int), .int .u8 (c.last.b.toNat : Int), .int .u8 (c.last.c.toNat : Int), .int .u8 (c.last.d.toNat : Int)] rfl)
  go_wp2_with (first | ((with_reducible show wpList _ _ _ (⟨some 39, _, _, _, _, _⟩ :: _) _ _); refine wpList_load_rng 24 (.tmp 38) rfl (by kernel_rfl) _ _ rfl _ R39.out _ Tryd.underlying24 rfl (by kernel_rfl) ?_))
  try clear R39
  with_reducible refine (atext_l c.last _ (hT.below bel)).mono ?_
  rintro e w12 ⟨rfl, b12⟩
  replace hcc := blk_u hcc b12
  replace sF := sF.below b12
  replace sO := sO.below b12
  replace hBK := hBK.trans (b12.mono hBK.size)
  replace bel := bel.trans (b12.mono bel.size)
  clear b12
  rw [HV4.out]
  go_wp2_with fail
  with_reducible refine (tline_c lo g3 [108, 97, 115, 116] v4 _ HL5 (hB.below hBK) (by decide) (by omega) (by omega) (Nat.le_trans hlW hBK.size)).mono ?_
  rintro e w13 ⟨rfl, hB2, hlW2, b13⟩
  replace bel := bel.trans (b13.mono lo_le)
  replace hcc := blk_under hcc b13 y_lob_cc.out
  replace sF := sF.under bl_sF_lob b13
  replace sO := sO.under bl_sO_lob b13
  clear hBK
  clear b13
  clear hB hlW
  have hB := hB2
  have hlW := hlW2
  clear hB2 hlW2
  have hBK := Below.refl w13.heap.size w13
  have R44 := cell_lit hcc 29 _ rfl
  go_wp2_with fail
  clear R44
  with_reducible refine (itoa_l c.time (by have := HR.out.time; omega) (by have := HR.out.time; omega) _ (hT.below bel)).mono ?_
  rintro e w14 ⟨rfl, b14⟩
  replace hcc := blk_u hcc b14
  replace sF := sF.below b14
  replace sO := sO.below b14
  replace hBK := hBK.trans (b14.mono hBK.size)
  replace bel := bel.trans (b14.mono bel.size)
  clear b14
  rw [HV5.out]
  go_wp2_with fail
  with_reducible refine (tline_c lo g3 [116, 105, 109, 101] v5 _ HL6 (hB.below hBK) (by decide) (by omega) (by omega) (Nat.le_trans hlW hBK.size)).mono ?_
  rintro e w15 ⟨rfl, hB2, hlW2, b15⟩
  replace bel := bel.trans (b15.mono lo_le)
  replace hcc := blk_under hcc b15 y_lob_cc.out
  replace sF := sF.under bl_sF_lob b15
  replace sO := sO.under bl_sO_lob b15
  clear hBK
  clear b15
  clear hB hlW
  have hB := hB2
  have hlW := hlW2
  clear hB2 hlW2
  have hBK := Below.refl w15.heap.size w15
  have R49 := Lib.hid (range_lit hcc 30 4 [.int .u8 (c.dns.a.toNat : Int), .int .u8 (c.dns.b.toNat : Int), .int .u8 (c.dns.c.toNat : Int), .int .u8 (c.dns.d.toNat : Int)] rfl)
  go_wp2_with (first | ((with_reducible show wpList _ _ _ (⟨some 49, _, _, _, _, _⟩ :: _) _ _); refine wpList_load_rng 24 (.tmp 48) rfl (by kernel_rfl) _ _ rfl _ R49.out _ Tryd.underlying24 rfl (by kernel_rfl) ?_))
  try clear R49
  with_reducible refine (atext_l c.dns _ (hT.below bel)).mono ?_
  rintro e w16 ⟨rfl, b16⟩
  replace hcc := blk_u hcc b16
  replace sF := sF.below b16
  replace sO := sO.below b16
  replace hBK := hBK.trans (b16.mono hBK.size)
  replace bel := bel.trans (b16.mono bel.size)
  clear b16
  rw [HV6.out]
  go_wp2_with fail
  with_reducible refine (tline_c lo g3 [100, 110, 115] v6 _ HL7 (hB.below hBK) (by decide) (by omega) (by omega) (Nat.le_trans hlW hBK.size)).mono ?_
  rintro e w17 ⟨rfl, hB2, hlW2, b17⟩
  replace bel := bel.trans (b17.mono lo_le)
  replace hcc := blk_under hcc b17 y_lob_cc.out
  replace sF := sF.under bl_sF_lob b17
  replace sO := sO.under bl_sO_lob b17
  clear hBK
  clear b17
  clear hB hlW
  have hB := hB2
  have hlW := hlW2
  clear hB2 hlW2
  have hBK := Below.refl w17.heap.size w17
  have R54 := cell_lit hcc 34 _ rfl
  go_wp2_with fail
  clear R54
  with_reducible refine (itoa_l c.udp (by have := HR.out.udp; omega) (by have := HR.out.udp; omega) _ (hT.below bel)).mono ?_
  rintro e w18 ⟨rfl, b18⟩
  replace hcc := blk_u hcc b18
  replace sF := sF.below b18
  replace sO := sO.below b18
  replace hBK := hBK.trans (b18.mono hBK.size)
  replace bel := bel.trans (b18.mono bel.size)
  clear b18
  rw [HV7.out]
  go_wp2_with fail
  with_reducible refine (tline_c lo g3 [117, 100, 112, 116, 105, 109, 101] v7 _ HL8 (hB.below hBK) (by decide) (by omega) (by omega) (Nat.le_trans hlW hBK.size)).mono ?_
  rintro e w19 ⟨rfl, hB2, hlW2, b19⟩
  replace bel := bel.trans (b19.mono lo_le)
  replace hcc := blk_under hcc b19 y_lob_cc.out
  replace sF := sF.under bl_sF_lob b19
  replace sO := sO.under bl_sO_lob b19
  clear hBK
  clear b19
  clear hB hlW
  have hB := hB2
  have hlW := hlW2
  clear hB2 hlW2
  have hBK := Below.refl w19.heap.size w19
  have R59 := cell_lit hcc 35 _ rfl
  go_wp2_with fail
  clear R59
  with_reducible refine (itoa_l c.tcp (by have := HR.out.tcp; omega) (by have := HR.out.tcp; omega) _ (hT.below bel)).mono ?_
  rintro e w20 ⟨rfl, b20⟩
  replace hcc := blk_u hcc b20
  replace sF := sF.below b20
  replace sO := sO.below b20
  replace hBK := hBK.trans (b20.mono hBK.size)
  replace bel := bel.trans (b20.mono bel.size)
  clear b20
  rw [HV8.out]
  go_wp2_with fail
  with_reducible refine (tline_c lo g3 [116, 99, 112, 116, 105, 109, 101] v8 _ HL9 (hB.below hBK) (by decide) (by omega) (by omega) (Nat.le_trans hlW hBK.size)).mono ?_
  rintro e w21 ⟨rfl, hB2, hlW2, b21⟩
  replace bel := bel.trans (b21.mono lo_le)
  replace hcc := blk_under hcc b21 y_lob_cc.out
  replace sF := sF.under bl_sF_lob b21
  replace sO := sO.under bl_sO_lob b21
  clear hBK
  clear b21
  clear hB hlW
  have hB := hB2
  have hlW := hlW2
  clear hB2 hlW2
  have hBK := Below.refl w21.heap.size w21
  have R64 := cell_lit hcc 36 _ rfl
  go_wp2_with fail
  clear R64
  with_reducible refine (itoa_l c.icmp (by have := HR.out.icmp; omega) (by have := HR.out.icmp; omega) _ (hT.below bel)).mono ?_
  rintro e w22 ⟨rfl, b22⟩
  replace hcc := blk_u hcc b22
  replace sF := sF.below b22
  replace sO := sO.below b22
  replace hBK := hBK.trans (b22.mono hBK.size)
  replace bel := bel.trans (b22.mono bel.size)
  clear b22
  rw [HV9.out]
  go_wp2_with fail
  with_reducible refine (tline_c lo g3 [105, 99, 109, 112, 116, 105, 109, 101] v9 _ HL10 (hB.below hBK) (by decide) (by omega) (by omega) (Nat.le_trans hlW hBK.size)).mono ?_
  rintro e w23 ⟨rfl, hB2, hlW2, b23⟩
  replace bel := bel.trans (b23.mono lo_le)
  replace hcc := blk_under hcc b23 y_lob_cc.out
  replace sF := sF.under bl_sF_lob b23
  replace sO := sO.under bl_sO_lob b23
  clear hBK
  clear b23
  clear hB hlW
  have hB := hB2
  have hlW := hlW2
  clear hB2 hlW2
  have hBK := Below.refl w23.heap.size w23
  have R69 := cell_lit hcc 37 _ rfl
  go_wp2_with fail
  clear R69
  with_reducible refine (itoa_l c.low (by have := HR.out.low; omega) (by have := HR.out.low; omega) _ (hT.below bel)).mono ?_
  rintro e w24 ⟨rfl, b24⟩
  replace hcc := blk_u hcc b24
  replace sF := sF.below b24
  replace sO := sO.below b24
  replace hBK := hBK.trans (b24.mono hBK.size)
  replace bel := bel.trans (b24.mono bel.size)
  clear b24
  rw [HV10.out]
  go_wp2_with fail
  with_reducible refine (tline_c lo g3 [108, 111, 119] v10 _ HL11 (hB.below hBK) (by decide) (by omega) (by omega) (Nat.le_trans hlW hBK.size)).mono ?_
  rintro e w25 ⟨rfl, hB2, hlW2, b25⟩
  replace bel := bel.trans (b25.mono lo_le)
  replace hcc := blk_under hcc b25 y_lob_cc.out
  replace sF := sF.under bl_sF_lob b25
  replace sO := sO.under bl_sO_lob b25
  clear hBK
  clear b25
  clear hB hlW
  have hB := hB2
  have hlW := hlW2
  clear hB2 hlW2
  have hBK := Below.refl w25.heap.size w25
  have R73 := cell_lit hcc 38 _ rfl
  go_wp2_with fail
  clear R73
  go_wp2_with fail
  replace hB := hB.below hBK
  replace hlW := Nat.le_trans hlW hBK.size
  clear hBK
  go_loopg [75] (nf + 1) (fun gk s75 wr => ∃ j : Nat, ∃ ls : List (List UInt8), gk = nf + 1 - j ∧ j ≤ nf ∧ Hid (ls = hdL c ++ (c.fixed.take j).map fxL) ∧ (txt ls).length ≤ 550 + 60 * j ∧ Bd lo g3 (txt ls) wr ∧ lo ≤ wr.heap.size ∧ s75 = .int .i64 (j : Int) ∧ wr.heap[g1]? = some (.cells (cfl c Fx nf cf Ox nx cx).toArray 32 (0, 0)) ∧ Sle fxf 10 wr (Fx) (nf) (cf) (c.fixed) ∧ Sle opf 7 wr (Ox) (nx) (cx) (c.opens) ∧ Below w.heap.size w wr)
  case atStart => exact ⟨0, l11, rfl, Nat.zero_le _, Lib.hid (by rw [HHD.out]; simp), by omega, hB, hlW, rfl, hcc, sF, sO, bel⟩
  case round =>
    clear hcc sF sO bel
    obtain ⟨j, ls, HGK, hj, HLS, hll, hB, hlW, rfl, hcc, sF, sO, bel⟩ := hrel
    have HGK_ := Lib.hid HGK
    clear HGK
    have j0 : (0 : Int) ≤ j := by omega
    have j1 : (j : Int) ≤ 32 := by omega
    have hBK := Below.refl wr.heap.size wr
    by_cases hjn : j < nf
    rotate_left
    · have hjk : decide (j < nf) = false := decide_eq_false hjn
      obtain ⟨ls1, h1_⟩ : ∃ z, ls = z := ⟨_, rfl⟩
      rw [h1_] at hB hll HLS
      have HL1_ : Hid (ls1 = hdL c ++ c.fixed.map fxL) := Lib.hid (by have h_ := HLS.out; rwa [List.take_of_length_le (by have := sF.1; omega)] at h_)
      have hl2 : (txt ls1).length ≤ 2600 := by omega
      clear HLS h1_ hjn hj j0 j1 HGK_ hll
      have R91 := cell_lit hcc 39 _ rfl
      go_wp2_with fail
      clear R91
      go_wp2_with fail
      replace hB := hB.below hBK
      replace hlW := Nat.le_trans hlW hBK.size
      clear hBK
      go_loopg [93] (nx + 1) (fun gk s93 wr => ∃ j : Nat, ∃ ls : List (List UInt8), gk = nx + 1 - j ∧ j ≤ nx ∧ Hid (ls = (hdL c ++ c.fixed.map fxL) ++ (c.opens.take j).map opL) ∧ (txt ls).length ≤ 2600 + 60 * j ∧ Bd lo g3 (txt ls) wr ∧ lo ≤ wr.heap.size ∧ s93 = .int .i64 (j : Int) ∧ wr.heap[g1]? = some (.cells (cfl c Fx nf cf Ox nx cx).toArray 32 (0, 0)) ∧ Sle fxf 10 wr (Fx) (nf) (cf) (c.fixed) ∧ Sle opf 7 wr (Ox) (nx) (cx) (c.opens) ∧ Below w.heap.size w wr)
      case atStart => exact ⟨0, ls1, rfl, Nat.zero_le _, Lib.hid (by rw [HL1_.out]; simp), by omega, hB, hlW, rfl, hcc, sF, sO, bel⟩
      case round =>
        clear hcc sF sO bel
        obtain ⟨j, ls, HGK, hj, HLS, hll, hB, hlW, rfl, hcc, sF, sO, bel⟩ := hrel
        have HGK_ := Lib.hid HGK
        clear HGK
        have j0 : (0 : Int) ≤ j := by omega
        have j1 : (j : Int) ≤ 32 := by omega
        have hBK := Below.refl wr.heap.size wr
        by_cases hjm : j < nx
        rotate_left
        · have hjk2 : decide (j < nx) = false := decide_eq_false hjm
          have HP : Hid (textS c = txt ls) := Lib.hid (by unfold textS linesC; rw [if_pos HB.out, HLS.out, List.take_of_length_le (by have := sO.1; omega)])
          clear HLS hjm hj j0 j1
          go_wp2_with fail
          with_reducible refine (bd_string lo g3 (txt ls) _ (hB.below hBK) (Nat.le_trans hlW hBK.size)).mono ?_
          rintro e w26 ⟨rfl, b26⟩
          replace bel := bel.trans (b26.mono lo_le)
          replace hcc := blk_under hcc b26 y_lob_cc.out
          replace sF := sF.under bl_sF_lob b26
          replace sO := sO.under bl_sO_lob b26
          clear hBK
          clear b26
          go_wp2_with fail
          go_ret
          exact ⟨(by rw [HP.out] <;> rfl), bel⟩
        obtain ⟨gW, oW, hWp⟩ := sO.place (by omega)
        subst hWp
        obtain ⟨x, hx⟩ : ∃ x, c.opens[j]? = some x := ⟨_, List.getElem?_eq_getElem (by have := sO.1; omega)⟩
        have HX := Lib.hid hx
        clear hx
        have HXR := Lib.hid (HR.out.op x (List.mem_of_getElem? HX.out))
        have tvl_ : (opV x).length ≤ 34 := opV_len HXR.out.2.1.2 HXR.out.2.2.2
        obtain ⟨tv, h_⟩ : ∃ z, opV x = z := ⟨_, rfl⟩
        have HTV := Lib.hid h_
        rw [h_] at tvl_
        clear h_
        obtain ⟨ms, h_⟩ : ∃ z, ls ++ [lnL [111, 112, 101, 110] tv] = z := ⟨_, rfl⟩
        have HMS := Lib.hid h_
        have hml : (txt ms).length ≤ (txt ls).length + 60 := by have := (ln_snoc h_).2; simp only [List.length_cons, List.length_nil] at this; omega
        clear h_
        have HLS2 : Hid (ms = hdL c ++ c.fixed.map fxL ++ (c.opens.take (j + 1)).map opL) := Lib.hid (by rw [take_snoc HX.out, List.map_append, ← List.append_assoc, ← HLS.out, ← HMS.out, ← HTV.out]; rfl)
        have R96 := Lib.hid (Sle.range0 sO HX.out 7 [.int .i64 x.1, .int .i64 x.2.1, .int .u8 (x.2.2.1.a.toNat : Int), .int .u8 (x.2.2.1.b.toNat : Int), .int .u8 (x.2.2.1.c.toNat : Int), .int .u8 (x.2.2.1.d.toNat : Int), .int .i64 x.2.2.2] rfl)
        go_wp2_with (first | ((with_reducible show wpList _ _ _ (⟨some 96, _, _, _, _, _⟩ :: _) _ _); refine wpList_load_rng 38 (.tmp 95) rfl (by kernel_rfl) _ _ rfl _ R96.out _ Tryd.underlying38 rfl (by kernel_rfl) ?_) | ((with_reducible show wpList _ _ _ (⟨some 8, _, _, _, _, _⟩ :: _) _ _); refine wpList_new_a rfl 38 rfl #[.int .i64 0, .int .i64 0, .int .u8 0, .int .u8 0, .int .u8 0, .int .u8 0, .int .i64 0] (by kernel_rfl) ?_; intro g8 w26 ge hh bb; have d_cc_ov := ne_new (hlt hcc) ge; have av_sF_ov := sF.av_new ge; have av_sO_ov := sO.av_new ge; have oov := Nat.le_trans bel.size ge; have kov := Nat.le_trans hBK.size ge; replace hcc := blk_u hcc bb; replace sF := sF.below bb; replace sO := sO.below bb; replace hBK := hBK.trans (bb.mono hBK.size); replace bel := bel.trans (bb.mono bel.size); have hov := hh; clear hh ge bb) | ((with_reducible show wpList _ _ _ (⟨none, Op.store _ (.tmp 8) _, _, _, _, _⟩ :: _) _ _); refine wpList_store_blk rfl 38 (.tmp 8) (.tmp 96) rfl g8 rfl _ rfl _ 38 hov (by rfl) (by kernel_rfl) (by kernel_rfl) ?_; intro w27 hq gr; replace sF := sF.away av_sF_ov gr; replace sO := sO.away av_sO_ov gr; replace hcc := blk_a hcc gr d_cc_ov; replace hBK := below_grown hBK gr kov hBK.size; replace bel := below_grown bel gr oov bel.size; clear hov; have hov := hq; clear hq gr; have R98 := Lib.hid (range_lit hov 0 7 [.int .i64 x.1, .int .i64 x.2.1, .int .u8 (x.2.2.1.a.toNat : Int), .int .u8 (x.2.2.1.b.toNat : Int), .int .u8 (x.2.2.1.c.toNat : Int), .int .u8 (x.2.2.1.d.toNat : Int), .int .i64 x.2.2.2] rfl)) | ((with_reducible show wpList _ _ _ (⟨some 98, _, _, _, _, _⟩ :: _) _ _); refine wpList_load_rng 38 (.tmp 8) rfl (by kernel_rfl) _ _ rfl _ R98.out _ Tryd.underlying38 rfl (by kernel_rfl) ?_))
        try clear R96
        try clear R98
        with_reducible refine (opent_c x _ (hT.below bel) HXR.out.1 (by have := HXR.out.2; omega)).mono ?_
        rintro e w28 ⟨rfl, b28⟩
        replace hcc := blk_u hcc b28
        replace hov := blk_u hov b28
        replace sF := sF.below b28
        replace sO := sO.below b28
        replace hBK := hBK.trans (b28.mono hBK.size)
        replace bel := bel.trans (b28.mono bel.size)
        clear b28
        rw [HTV.out]
        go_wp2_with fail
        with_reducible refine (tline_c lo g3 [111, 112, 101, 110] tv _ HMS (hB.below hBK) (by decide) (by omega) (by omega) (Nat.le_trans hlW hBK.size)).mono ?_
        rintro e w29 ⟨rfl, hB2, hlW2, b29⟩
        replace bel := bel.trans (b29.mono lo_le)
        replace hcc := blk_under hcc b29 y_lob_cc.out
        clear hov
        replace sF := sF.under bl_sF_lob b29
        replace sO := sO.under bl_sO_lob b29
        clear hBK
        clear b29
        clear hB hlW
        have hB := hB2
        have hlW := hlW2
        clear hB2 hlW2
        have hBK := Below.refl w29.heap.size w29
        go_wp2_with fail
        go_roundg (nx + 1 - (j + 1))
        case measure => have := HGK_.out; omega
        case rel => exact ⟨j + 1, ms, rfl, by omega, HLS2, by omega, hB.below hBK, Nat.le_trans hlW hBK.size, by go_num, hcc, sF, sO, bel⟩
    obtain ⟨gW, oW, hWp⟩ := sF.place (by omega)
    subst hWp
    obtain ⟨x, hx⟩ : ∃ x, c.fixed[j]? = some x := ⟨_, List.getElem?_eq_getElem (by have := sF.1; omega)⟩
    have HX := Lib.hid hx
    clear hx
    have tml_ := tM_len x.1
    have tal_ := tA_len x.2
    obtain ⟨tm, h_⟩ : ∃ z, tM x.1 = z := ⟨_, rfl⟩
    have HTM := Lib.hid h_
    rw [h_] at tml_
    clear h_
    obtain ⟨ta, h_⟩ : ∃ z, tA x.2 = z := ⟨_, rfl⟩
    have HTA := Lib.hid h_
    rw [h_] at tal_
    clear h_
    have z1l : ([32] : List UInt8).length = 1 := rfl
    obtain ⟨y1, hy1⟩ : ∃ z, tm ++ ([32] : List UInt8) = z := ⟨_, rfl⟩
    have HY1 := Lib.hid hy1
    have BY1 : Hid (tm.length + ([32] : List UInt8).length ≤ 8388608) := Lib.hid (by omega)
    have y1l : y1.length = tm.length + ([32] : List UInt8).length := by rw [← hy1, List.length_append]
    clear hy1
    obtain ⟨y2, hy2⟩ : ∃ z, y1 ++ ta = z := ⟨_, rfl⟩
    have HY2 := Lib.hid hy2
    have BY2 : Hid (y1.length + ta.length ≤ 8388608) := Lib.hid (by omega)
    have y2l : y2.length = y1.length + ta.length := by rw [← hy2, List.length_append]
    clear hy2
    obtain ⟨ms, h_⟩ : ∃ z, ls ++ [lnL [102, 105, 120, 101, 100] y2] = z := ⟨_, rfl⟩
    have HMS := Lib.hid h_
    have hml : (txt ms).length ≤ (txt ls).length + 60 := by have := (ln_snoc h_).2; simp only [List.length_cons, List.length_nil] at this; omega
    clear h_
    have HLS2 : Hid (ms = hdL c ++ (c.fixed.take (j + 1)).map fxL) := Lib.hid (by rw [take_snoc HX.out, List.map_append, ← List.append_assoc, ← HLS.out, ← HMS.out, ← HY2.out, ← HY1.out, ← HTM.out, ← HTA.out]; rfl)
    have F83 := fun W => st_cat HY1.out BY1.out W
    have F87 := fun W => st_cat HY2.out BY2.out W
    have R78 := Lib.hid (Sle.range0 sF HX.out 10 [.int .u8 (x.1.a.toNat : Int), .int .u8 (x.1.b.toNat : Int), .int .u8 (x.1.c.toNat : Int), .int .u8 (x.1.d.toNat : Int), .int .u8 (x.1.e.toNat : Int), .int .u8 (x.1.f.toNat : Int), .int .u8 (x.2.a.toNat : Int), .int .u8 (x.2.b.toNat : Int), .int .u8 (x.2.c.toNat : Int), .int .u8 (x.2.d.toNat : Int)] rfl)
    go_wp2_with (first | ((with_reducible show wpList _ _ _ (⟨some 78, _, _, _, _, _⟩ :: _) _ _); refine wpList_load_rng 78 (.tmp 77) rfl (by kernel_rfl) _ _ rfl _ R78.out _ Tryd.underlying78 rfl (by kernel_rfl) ?_) | ((with_reducible show wpList _ _ _ (⟨some 6, _, _, _, _, _⟩ :: _) _ _); refine wpList_new_a rfl 78 rfl #[.int .u8 0, .int .u8 0, .int .u8 0, .int .u8 0, .int .u8 0, .int .u8 0, .int .u8 0, .int .u8 0, .int .u8 0, .int .u8 0] (by kernel_rfl) ?_; intro g6 w26 ge hh bb; have d_cc_fv := ne_new (hlt hcc) ge; have av_sF_fv := sF.av_new ge; have av_sO_fv := sO.av_new ge; have ofv := Nat.le_trans bel.size ge; have kfv := Nat.le_trans hBK.size ge; replace hcc := blk_u hcc bb; replace sF := sF.below bb; replace sO := sO.below bb; replace hBK := hBK.trans (bb.mono hBK.size); replace bel := bel.trans (bb.mono bel.size); have hfv := hh; clear hh ge bb) | ((with_reducible show wpList _ _ _ (⟨none, Op.store _ (.tmp 6) _, _, _, _, _⟩ :: _) _ _); refine wpList_store_blk rfl 78 (.tmp 6) (.tmp 78) rfl g6 rfl _ rfl _ 78 hfv (by rfl) (by kernel_rfl) (by kernel_rfl) ?_; intro w27 hq gr; replace sF := sF.away av_sF_fv gr; replace sO := sO.away av_sO_fv gr; replace hcc := blk_a hcc gr d_cc_fv; replace hBK := below_grown hBK gr kfv hBK.size; replace bel := below_grown bel gr ofv bel.size; clear hfv; have hfv := hq; clear hq gr))
    try clear R78
    replace bel := bel.drew
    replace hcc : w27.drew.heap[g1]? = _ := hcc
    replace hfv : w27.drew.heap[g6]? = _ := hfv
    replace sF := sF.drew
    replace sO := sO.drew
    replace hBK := hBK.drew
    refine wp_region_z 9 (S := fun W => W.heap[g6]? = some (.cells #[.int .u8 (x.1.a.toNat : Int), .int .u8 (x.1.b.toNat : Int), .int .u8 (x.1.c.toNat : Int), .int .u8 (x.1.d.toNat : Int), .int .u8 (x.1.e.toNat : Int), .int .u8 (x.1.f.toNat : Int), .int .u8 (x.2.a.toNat : Int), .int .u8 (x.2.b.toNat : Int), .int .u8 (x.2.c.toNat : Int), .int .u8 (x.2.d.toNat : Int)] 78 (0, 0))) (by kernel_rfl) hfv (fun hH => ?_)
    generalize w27.drew = w28 at bel hcc hfv sF sO hBK hH ⊢
    refine wpAnyZ_take (i := 0) (v := ?_) rfl (by kernel_rfl) (by kernel_rfl) (by kernel_rfl) (fun _ _ _ h => h) (Or.inl ⟨by rfl, ?_⟩) hH ?_
    rotate_left
    · ((intro W hW; clear hW; go_simp) <;> with_reducible rfl)
    simp only [Act.put, List.getElem_toArray, List.getElem_cons_zero, List.setIfInBounds_toArray, List.set_cons_zero, List.set_cons_succ]
    refine wpAnyZ_take (i := 1) (v := ?_) rfl (by kernel_rfl) (by kernel_rfl) (by kernel_rfl) (fun _ _ _ h => h) (Or.inl ⟨by rfl, ?_⟩) hH ?_
    rotate_left
    · ((intro W hW; clear hW; go_simp) <;> with_reducible rfl)
    simp only [Act.put, List.getElem_toArray, List.getElem_cons_zero, List.getElem_cons_succ, List.setIfInBounds_toArray, List.set_cons_zero, List.set_cons_succ]
    refine wpAnyZ_take (i := 2) (v := .agg #[.int .u8 (x.1.a.toNat : Int), .int .u8 (x.1.b.toNat : Int), .int .u8 (x.1.c.toNat : Int), .int .u8 (x.1.d.toNat : Int), .int .u8 (x.1.e.toNat : Int), .int .u8 (x.1.f.toNat : Int)]) rfl (by kernel_rfl) (by kernel_rfl) (by kernel_rfl) (fun _ _ _ h => h) (yieldsIf_load_part (by kernel_rfl) 28 _ rfl g6 0 6 rfl _ 78 (0, 0) (fun W hW => hW) _ rfl _ Tryd.underlying28 rfl (by kernel_rfl)) hH ?_
    simp only [Act.put, List.getElem_toArray, List.getElem_cons_zero, List.getElem_cons_succ, List.setIfInBounds_toArray, List.set_cons_zero, List.set_cons_succ]
    refine wpAnyZ_take (i := 5) (v := ?_) rfl (by kernel_rfl) (by kernel_rfl) (by kernel_rfl) (fun _ _ _ h => h) (Or.inl ⟨by rfl, ?_⟩) hH ?_
    rotate_left
    · ((intro W hW; clear hW; go_simp) <;> with_reducible rfl)
    simp only [Act.put, List.getElem_toArray, List.getElem_cons_zero, List.getElem_cons_succ, List.setIfInBounds_toArray, List.set_cons_zero, List.set_cons_succ]
    refine wpAnyZ_take (i := 6) (v := .agg #[.int .u8 (x.2.a.toNat : Int), .int .u8 (x.2.b.toNat : Int), .int .u8 (x.2.c.toNat : Int), .int .u8 (x.2.d.toNat : Int)]) rfl (by kernel_rfl) (by kernel_rfl) (by kernel_rfl) (fun _ _ _ h => h) (yieldsIf_load_part (by kernel_rfl) 24 _ rfl g6 6 4 rfl _ 78 (0, 0) (fun W hW => hW) _ rfl _ Tryd.underlying24 rfl (by kernel_rfl)) hH ?_
    simp only [Act.put, List.getElem_toArray, List.getElem_cons_zero, List.getElem_cons_succ, List.setIfInBounds_toArray, List.set_cons_zero, List.set_cons_succ]
    refine wpAnyZ_ready (rs := [3]) (by kernel_rfl) (by simp) ?_
    refine AllReadyZ.cons (o := _) rfl (fun K hK => ?_) AllReadyZ.nil
    simp only [List.getElem_toArray, List.getElem_cons_zero, List.getElem_cons_succ]
    go_simp
    with_reducible refine (amact_l x.1 _).mono ?_
    rintro e w29 ⟨rfl, b29⟩
    dsimp only
    replace hcc := blk_u hcc b29
    replace hfv := blk_u hfv b29
    replace sF := sF.below b29
    replace sO := sO.below b29
    replace hBK := hBK.trans (b29.mono hBK.size)
    replace bel := bel.trans (b29.mono bel.size)
    clear b29
    rw [HTM.out]
    refine hK.out _ _ hfv (fun hH30 => ?_)
    clear hK K
    refine wpAnyZ_take (i := 4) (v := ?_) rfl (by kernel_rfl) (by kernel_rfl) (by kernel_rfl) (fun _ _ _ h => h) (Or.inl ⟨by rfl, ?_⟩) hH30 ?_
    rotate_left
    · ((intro W hW; clear hW; go_simp) <;> with_reducible rfl)
    simp only [Act.put, List.getElem_toArray, List.getElem_cons_zero, List.getElem_cons_succ, List.setIfInBounds_toArray, List.set_cons_zero, List.set_cons_succ]
    refine wpAnyZ_ready (rs := [7]) (by kernel_rfl) (by simp) ?_
    refine AllReadyZ.cons (o := _) rfl (fun K hK => ?_) AllReadyZ.nil
    simp only [List.getElem_toArray, List.getElem_cons_zero, List.getElem_cons_succ]
    go_simp
    with_reducible refine (atext_l x.2 _ (hT.below bel)).mono ?_
    rintro e w31 ⟨rfl, b31⟩
    dsimp only
    replace hcc := blk_u hcc b31
    replace hfv := blk_u hfv b31
    replace sF := sF.below b31
    replace sO := sO.below b31
    replace hBK := hBK.trans (b31.mono hBK.size)
    replace bel := bel.trans (b31.mono bel.size)
    clear b31
    rw [HTA.out]
    refine hK.out _ _ hfv (fun hH32 => ?_)
    clear hK K
    refine wpAnyZ_take (i := 8) (v := ?_) rfl (by kernel_rfl) (by kernel_rfl) (by kernel_rfl) (fun _ _ _ h => h) (Or.inl ⟨by rfl, ?_⟩) hH32 ?_
    rotate_left
    · ((intro W hW; clear hW; go_simp) <;> with_reducible rfl)
    simp only [Act.put, List.getElem_toArray, List.getElem_cons_zero, List.getElem_cons_succ, List.setIfInBounds_toArray, List.set_cons_zero, List.set_cons_succ]
    refine wpAnyZ_ready (rs := [9]) (by kernel_rfl) (by simp) ?_
    refine AllReadyZ.last (o := _) rfl (fun K hK => ?_)
    simp only [List.getElem_toArray, List.getElem_cons_zero, List.getElem_cons_succ]
    go_simp
    with_reducible refine (tline_c lo g3 [102, 105, 120, 101, 100] y2 _ HMS (hB.below hBK) (by decide) (by omega) (by omega) (Nat.le_trans hlW hBK.size)).mono ?_
    rintro e w33 ⟨rfl, hB2, hlW2, b33⟩
    dsimp only
    replace bel := bel.trans (b33.mono lo_le)
    replace hcc := blk_under hcc b33 y_lob_cc.out
    clear hfv
    replace sF := sF.under bl_sF_lob b33
    replace sO := sO.under bl_sO_lob b33
    clear hBK
    clear b33
    clear hB hlW
    have hB := hB2
    have hlW := hlW2
    clear hB2 hlW2
    have hBK := Below.refl w33.heap.size w33
    refine hK.out _ _ trivial (fun hH34 => ?_)
    clear hK K
    refine wpAnyZ_done (by kernel_rfl) ?_ _
    go_wp2_with fail
    go_roundg (nf + 1 - (j + 1))
    case measure => have := HGK_.out; omega
    case rel => exact ⟨j + 1, ms, rfl, by omega, HLS2, by omega, hB.below hBK, Nat.le_trans hlW hBK.size, by go_num, hcc, sF, sO, bel⟩
end Go.Proofs.YtdfobilagidmfaaDoor
