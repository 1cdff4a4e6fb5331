/- slices.AppendSeq over maps.Values of a map that holds one entry. -/
import Derived.RangeFuncNested
import Derived.RangeFuncBound
import Derived.RangeFuncCalls
import Derived.RangeFuncLeaves
import Derived.OwnWalkIn
import Derived.TacticsInMore
import Derived.LoopNIn
import Derived.Shelf.Abstract
import Derived.Test.YtmjmjfcdblapcaaPta
namespace Go.Proofs.Ytmjmjfcdblapcaa
open Go.RowKit

/-- What holds of one operation outside a round holds of it in one. -/
theorem op_lift {F : Fence} {P : Program} {o : Oper} {a : Act} {w : World} {K K' : Act → World → Prop} {Q : Exit → Act → World → Prop} (n : Nat) (hF : ∃ l, F = { Fence.wide with round := l }) (hdf : ∀ c, o.op ≠ .defer c) (hK : ∀ a w, K a w → K' a w)
    (h : Oper.wp P o a w K Q) : o.wpIn F n P a w K' Q := by
  obtain ⟨l, rfl⟩ := hF
  refine ⟨fun _ _ => trivial, ?_⟩
  rw [Oper.semAt_plain _ _ _ hdf]
  unfold Oper.wp at h
  generalize (execOp a.eval o).run P w = r at h ⊢
  unfold Oper.upon at h
  unfold Oper.uponIn
  split at h
  · exact hK _ _ h
  · exact hK _ _ h
  · exact hK _ _ h
  · refine ⟨fun h => (by simp [Fence.wide] at h), ?_⟩
    have h2 : CallsIn Fence.wide (n - 1) P _ _ _ _ := callsIn_wide.2 h
    refine CallsIn.mono (show CallsIn { Fence.wide with round := l } (n - 1) P _ _ _ _ from h2) ?_
    intro e w' he
    cases e with
    | returned v => exact hK _ _ he
    | panicked c => exact he
    | outgrown => exact he
  · refine ⟨fun h => (by simp [Fence.wide] at h), ?_⟩
    intro c cs _
    obtain ⟨v, w', r, s⟩ := h c cs
    exact ⟨v, w', hK _ _ r, stepsIn_wide.2 s⟩
  · exact h
  · exact h.elim
theorem list_lift {F : Fence} {P : Program} {ops : Array Oper} {Q : Exit → Act → World → Prop} (n : Nat) (hF : ∃ l, F = { Fence.wide with round := l }) (hQ : ¬ LetsOut Q) : ∀ (l : List Oper) (a : Act) (w : World), (∀ o ∈ l, ∀ c, o.op ≠ .defer c) → wpList P ops Q l a w → wpListIn F n P ops Q l a w
  | [], _, _, _, h => h
  | o :: rest, a, w, hd, h => by
    have ih := fun a w => list_lift (P := P) (ops := ops) n hF hQ rest a w (fun o ho => hd o (List.mem_cons_of_mem _ ho))
    unfold wpList at h
    unfold wpListIn
    split at h
    · rw [if_pos ‹_›]
      rcases h with h | ⟨_, h⟩
      · exact op_lift n hF (hd o (List.mem_cons_self ..)) (fun a w => ih a w) h
      · exact absurd h hQ
    · rw [if_neg ‹_›]
      exact ⟨fun _ _ => by obtain ⟨l, rfl⟩ := hF; trivial, ih _ _ h⟩

def Held (p : Prop) : Prop := p
theorem held {p : Prop} (h : Held p) : p := h
theorem wide_r : ∃ l, Fence.wide = { Fence.wide with round := l } := ⟨none, rfl⟩
theorem wide_i (l : Nat) : ∃ l', Fence.wide.inRound l = { Fence.wide with round := l' } := ⟨some l, rfl⟩
attribute [local go_sem] Oper.semAt_some
/-- The range over the map begins. -/
theorem in_mrange {n : Nat} {ops : Array Oper} {rest : List Oper} {o : Oper} {a : Act} {w : World} {Q : Exit → Act → World → Prop} (hgd : o.guard = none) (x : Operand) (ho : o.op = .range 53 x) {mb ck : Nat} {es : Array MapEntry} (hx : a.eval x = .map (some mb)) (hb : w.heap[mb]? = some (.map es ck))
    (hK : ∀ g w', w.heap.size ≤ g → w'.heap[g]? = some (.mapIter (some mb) ck #[] ck) → Below w.heap.size w w' → wpListIn Fence.wide n Try.prog ops Q rest (a.put o.dst (.pointer (some ⟨g, 0, none⟩))) w') : wpListIn Fence.wide n Try.prog ops Q (o :: rest) a w :=
  wpListIn_plain hgd fun _ hK' => op_lift _ wide_r (fun c h => by rw [ho] at h; cases h) (fun _ _ h => h) (by
    have ht : Try.prog.underlying 53 = some (.map 61 31) := by kernel_rfl
    unfold Oper.wp execOp
    simp only [ho, hx, Instr.range, run_underlying ht, MapKept.run_getObj_map hb, Sem.run_bind, Sem.run_pure, Result.andThen_ok, newObj]
    exact hK' _ _ (hK _ _ (Nat.le_refl _) (MapKept.heap_alloc w _).1 ((Below.refl _ _).alloc (Nat.le_refl _) _)))
theorem Om.one {lo mb : Nat} {w : World} {m : Mp} (h : Om lo mb w [m]) : ∃ ck e, w.heap[mb]? = some (.map #[e] ck) ∧ e.val = .agg #[.int .i64 m.pr, .int .i64 m.o, .int .u8 (m.ad.a.toNat : Int), .int .u8 (m.ad.b.toNat : Int), .int .u8 (m.ad.c.toNat : Int), .int .u8 (m.ad.d.toNat : Int), .int .i64 m.i, .int .i64 m.k, .int .i64 m.u] ∧ e.born < ck := by
  obtain ⟨es, ck, h1, _, h2, _, h3, _⟩ := h
  have hl : es.toList.length = 1 := by have := congrArg List.length h2; simpa using this
  obtain ⟨e, he⟩ := List.length_eq_one_iff.1 hl
  have : es = #[e] := by rw [← Array.toArray_toList (xs := es), he]
  subst this
  refine ⟨ck, e, h1, ?_, h3 e (by simp)⟩
  have h5 := (List.cons.inj h2).1
  simp only [Prod.mk.injEq] at h5
  exact h5.2
/-- The step at a map of one entry: it comes; behind it nothing is left. -/
theorem setb_same {w : World} {g : Nat} (h : g < w.heap.size) (o : Obj) : (ChangeMaps.setBlock w g o).heap[g]? = some o := by
  simp [ChangeMaps.setBlock, h]
theorem setb_other {w : World} {g i : Nat} (h : i ≠ g) (o : Obj) : (ChangeMaps.setBlock w g o).heap[i]? = w.heap[i]? := by
  simp [ChangeMaps.setBlock, Ne.symm h]
theorem mnext_one {w : World} {g mb ck : Nat} {e : MapEntry} (ty : TypeId) (hne : mb ≠ g) (hr : w.heap[g]? = some (.mapIter (some mb) ck #[] ck)) (hb : w.heap[mb]? = some (.map #[e] ck)) (hn : e.born < ck) : ∃ w', (Instr.next (.pointer (some ⟨g, 0, none⟩)) false ty).run Try.prog w = .ok (.tuple #[.bool true, e.key, e.val]) w' ∧ w'.heap[g]? = some (.mapIter (some mb) ck #[e.born] ck) ∧ w'.heap[mb]? = some (.map #[e] ck) ∧ w.grownBy w' (some g) := by
  rcases run_next_at (P := Try.prog) w ty g mb ck ck #[] #[e] ck hr hb (fun x h => by simp at h; rw [h]; exact hn) (Nat.le_refl _) with ⟨h, _⟩ | ⟨e', he, w1, hw, hrun⟩
  · simp [leftOf] at h
  · have : e' = e := by simpa [leftOf] using he
    subst this
    have hr1 : w1.heap[g]? = some (.mapIter (some mb) ck #[] ck) := by rcases hw with rfl | rfl <;> exact hr
    have hb1 : w1.heap[mb]? = some (.map #[e'] ck) := by rcases hw with rfl | rfl <;> exact hb
    have g1 : w1.grownBy (ChangeMaps.setBlock w1 g (.mapIter (some mb) ck #[e'.born] ck)) (some g) := ⟨rfl, rfl, rfl, by simp [ChangeMaps.setBlock], fun i _ hi => setb_other (fun e => hi (by rw [e])) _⟩
    refine ⟨_, hrun, setb_same (hlt hr1) _, (setb_other hne _).trans hb1, ?_⟩
    rcases hw with rfl | rfl
    · exact g1
    · exact ⟨g1.os, g1.tape, g1.output, g1.size, g1.block⟩
theorem ko_bel {w w' : World} (b : Below w.heap.size w w') : KeepsOthers w w' := ⟨b.size, fun k _ h _ => (b.block k (hlt h)).trans h⟩
theorem kw_bel {w w' : World} (b : Below w.heap.size w w') : KeepsWalks w w' := ⟨b.size, fun k _ h _ => (b.block k (hlt h)).trans h⟩
/-- A block is laid and filled: nothing that lay has turned. -/
theorem bel_new2 {w w1 w2 : World} {g : Nat} (b : Below w.heap.size w w1) (hg : w1.grownBy w2 (some g)) (h : w.heap.size ≤ g) : Below w.heap.size w w2 := b.grown hg b.size (fun k e => by cases e; exact h)
theorem mnext_none {w : World} {g mb ck : Nat} {e : MapEntry} (ty : TypeId) (hr : w.heap[g]? = some (.mapIter (some mb) ck #[e.born] ck)) (hb : w.heap[mb]? = some (.map #[e] ck)) (hn : e.born < ck) : (Instr.next (.pointer (some ⟨g, 0, none⟩)) false ty).run Try.prog w = .ok (.tuple #[.bool false]) w := by
  rcases run_next_at w ty g mb ck ck #[e.born] #[e] ck hr hb (fun x h => by simp at h; rw [h]; exact hn) (Nat.le_refl _) with ⟨_, h⟩ | ⟨e', he, _⟩
  · exact h
  · simp [leftOf] at he
set_option linter.unusedVariables false in
set_option linter.unusedSimpArgs false in
set_option maxRecDepth 100000 in
set_option maxHeartbeats 16000000 in
theorem mval_stops {lo mb Bm : Nat} {m : Mp} (n : Nat) (w : World) (hB : w.heap[Bm]? = some (.cells #[.map (some mb)] 53 (0, 0))) (hO : Om lo mb w [m]) : SeqStopsK Fence.wide n Try.prog 51 #[.pointer (some ⟨Bm, 0, none⟩)] (fun _ : Unit => #[.agg #[.int .i64 m.pr, .int .i64 m.o, .int .u8 (m.ad.a.toNat : Int), .int .u8 (m.ad.b.toNat : Int), .int .u8 (m.ad.c.toNat : Int), .int .u8 (m.ad.d.toNat : Int), .int .i64 m.i, .int .i64 m.k, .int .i64 m.u]]) KeepsWalks (fun xs => xs = [()]) (fun _ => True) 1 w := fun l J Jx W hW hJ hJx hY h0 => by
  replace hB := blk_u hB hW
  obtain ⟨ck, en, hmb, hev, hbn⟩ := (hO.below hW).one
  clear hO
  have cB := cell_lit hB 0 _ rfl
  refine callsIn_of_wp Try.func51 rfl trivial ?_ rfl
  simp only [Try.ntmps51, List.size_toArray, List.length_cons, List.length_nil, Nat.reduceAdd, Nat.reduceSub, Array.replicate_succ, Array.replicate_zero, List.push_toArray, List.append_toArray, List.nil_append, List.cons_append]
  gi_wp2_with (first
    | ((with_reducible show wpListIn _ _ _ _ _ (⟨some 6, _, _, _, _, _⟩ :: _) _ _); refine in_mrange rfl (.tmp 5) rfl rfl hmb ?_; intro r6 w6 ge hit bb; have hne : mb ≠ r6 := Nat.ne_of_lt (Nat.lt_of_lt_of_le (hlt hmb) ge); replace hmb := blk_u hmb bb; have hJ6 : J [] w6 := hJ [] W w6 none h0 (grown_of_below bb) (fun r e => by cases e); have ge6 : W.heap.size ≤ r6 := ge; clear ge hB cB))
  refine wpIn_loop_rounds 2 ?_
  rw [roundsIn_succ]
  obtain ⟨w7, R7, hit7, hmb7, g7⟩ := mnext_one 0 hne hit hmb hbn
  have hJ7 : J [] w7 := hJ [] w6 w7 (some r6) hJ6 g7 (fun r e => by cases e; exact ⟨ge6, _, hit, rfl⟩)
  have E9 := run_entry_at (P := Try.prog) w7 r6 mb ck #[] #[en] ck en hit7 hmb7 (by simp) (by simp)
  rw [hev] at R7 E9
  clear hJ6 hmb hit g7
  gi_wp2_with (first
    | ((with_reducible show wpListIn _ _ _ _ _ (⟨some 4, _, _, _, _, _⟩ :: _) _ _); refine wpListIn_plain rfl fun K_ hK_ => op_lift _ wide_r (fun _ h_ => by cases h_) (fun _ _ h_ => h_) (wp_new_n 31 rfl (.agg #[.int .i64 0, .int .i64 0, .int .u8 0, .int .u8 0, .int .u8 0, .int .u8 0, .int .i64 0, .int .i64 0, .int .i64 0]) (by kernel_rfl) #[.int .i64 0, .int .i64 0, .int .u8 0, .int .u8 0, .int .u8 0, .int .u8 0, .int .i64 0, .int .i64 0, .int .i64 0] rfl fun g4 w3 ge lt hh bb => hK_ _ _ ?_))
    | ((with_reducible show wpListIn _ _ _ _ _ (⟨none, _, _, _, _, _⟩ :: _) _ _); refine wpListIn_plain rfl fun K_ hK_ => op_lift _ wide_r (fun _ h_ => by cases h_) (fun _ _ h_ => h_) (wp_store_blk 31 (.tmp 4) (.tmp 10) rfl g4 rfl #[.int .i64 m.pr, .int .i64 m.o, .int .u8 (m.ad.a.toNat : Int), .int .u8 (m.ad.b.toNat : Int), .int .u8 (m.ad.c.toNat : Int), .int .u8 (m.ad.d.toNat : Int), .int .i64 m.i, .int .i64 m.k, .int .i64 m.u] rfl _ 31 hh rfl mp_size (by kernel_rfl) fun w4 hh4 gr4 => hK_ _ _ ?_); have b4 := bel_new2 bb gr4 ge; have hJ4 : J [] w4 := hJ [] w7 w4 none hJ7 (grown_of_below b4) (fun r e => by cases e); have hit4 := blk_u hit7 b4; have hmb4 := blk_u hmb7 b4; clear hh lt bb gr4 ge hJ7; obtain ⟨fn, tmps, assign, body, hy, hR⟩ := hY [] () w4 hJ4 (Nat.le_refl _))
    | ((with_reducible show wpListIn _ _ _ _ _ (⟨some 12, _, _, _, _, _⟩ :: _) _ _); refine wpListIn_plain rfl fun K_ hK_ => op_lift _ wide_r (fun _ h_ => by cases h_) (fun _ _ h_ => h_) (wp_load_mid 31 (.tmp 4) rfl g4 0 rfl [.int .i64 m.pr, .int .i64 m.o, .int .u8 (m.ad.a.toNat : Int), .int .u8 (m.ad.b.toNat : Int), .int .u8 (m.ad.c.toNat : Int), .int .u8 (m.ad.d.toNat : Int), .int .i64 m.i, .int .i64 m.k, .int .i64 m.u] _ (range_lit hh4 0 9 [.int .i64 m.pr, .int .i64 m.o, .int .u8 (m.ad.a.toNat : Int), .int .u8 (m.ad.b.toNat : Int), .int .u8 (m.ad.c.toNat : Int), .int .u8 (m.ad.d.toNat : Int), .int .i64 m.i, .int .i64 m.k, .int .i64 m.u] rfl) Try.underlying31 rfl (by kernel_rfl) (hK_ _ _ ?_))))
  refine ⟨fun h_ => absurd h_ (by decide), hR.mono ?_⟩
  rintro e w5 (⟨rfl, hJ5, hk5⟩ | ⟨rfl, hJx5⟩)
  · have hit5 := hk5.same r6 _ hit4 rfl
    have hmb5 := hk5.same mb _ hmb4 rfl
    have R7 := mnext_none 0 hit5 hmb5 hbn
    gi_wp2
    rw [roundsIn_succ]
    gi_wp2
    go_end0
    exact ⟨⟨_, rfl⟩, .inl ⟨_, rfl, hJ5⟩⟩
  · gi_wp2
    refine bodyPost_ret (results_none rfl _ _ _) rfl ?_
    exact ⟨⟨_, rfl⟩, .inr ⟨_, trivial, hJx5⟩⟩
set_option linter.unusedVariables false in
set_option linter.unusedSimpArgs false in
set_option maxRecDepth 100000 in
set_option maxHeartbeats 16000000 in
theorem pseq_1 {lo mb Bm : Nat} {m : Mp} (w : World) (hB : w.heap[Bm]? = some (.cells #[.map (some mb)] 53 (0, 0))) (hO : Om lo mb w [m]) : Calls Try.prog 61 #[.slice none 0 0, .func (.func 51) #[] #[.pointer (some ⟨Bm, 0, none⟩)]] w fun e w' => ∃ v, e = .returned v ∧ w'.ownsRow w.heap.size 31 9 v 1 (mpE m) ∧ Below w.heap.size w w' := by
  obtain ⟨ie, hie, hie0, hie1, hie2⟩ := info_parts Try.info_map
  refine (callsIn_wide (n := 9)).1 ?_
  refine callsIn_of_wp_marks Try.func61 rfl trivial ?_ rfl
  simp only [Try.ntmps61, List.size_toArray, List.length_cons, List.length_nil, Nat.reduceAdd, Nat.reduceSub, Array.replicate_succ, Array.replicate_zero, List.push_toArray, List.append_toArray, List.nil_append, List.cons_append]
  gi_wp2_with (first
    | ((with_reducible show wpListIn _ _ _ _ _ (⟨some 2, _, _, _, _, _⟩ :: _) _ _); refine wpListIn_plain rfl fun K_ hK_ => op_lift _ wide_r (fun _ h_ => by cases h_) (fun _ _ h_ => h_) (wp_box_n 37 (.tmp 0) rfl #[.slice none 0 0] rfl fun g2 w2 ge lt hh bb => hK_ _ _ ?_); have hbx : Boxed w2 g2 37 (.slice none 0 0) := hh; have bel : Below w.heap.size w w2 := bb; have ge2 : w.heap.size ≤ g2 := ge; replace hB := blk_u hB bb; replace hO := hO.below bb; clear bb hh lt ge))
  refine wpIn_rangeFunc_ownH rfl (by decide) (gf := 51) (lb := #[.pointer (some ⟨Bm, 0, none⟩)]) rfl trivial (enters_of Try.func51 (by kernel_rfl) rfl) (mval_stops 8 w2 hB hO) walksK_t walksK_b (Below.refl _ _) (fun _ => rfl)
    (fun pre W => (∃ v, Boxed W g2 37 v ∧ W.ownsRow w.heap.size 31 9 v pre.length (pre.flatMap fun _ => mpE m) ∧ (pre = [] → v = .slice none 0 0)) ∧ Below w.heap.size w W)
    (fun _ _ _ => False)
    (OwnFrom.and (Own.from (holdsRow_own w.heap.size g2 37 31 9 (fun pre : List Unit => pre.length) (fun pre => pre.flatMap fun _ => mpE m) (fun pre v => pre = [] → v = .slice none 0 0)) _) (ownFrom_below (Nat.le_refl _) bel.size))
    (fun _ _ _ _ _ hs _ _ => hs)
    ⟨⟨_, hbx, World.ownsRow_nil _ _ _ _, fun _ => rfl⟩, bel⟩
    (fun _ a' W => ∃ Bx, W.heap[Bx]? = some (.cells #[.int .i64 m.pr, .int .i64 m.o, .int .u8 (m.ad.a.toNat : Int), .int .u8 (m.ad.b.toNat : Int), .int .u8 (m.ad.c.toNat : Int), .int .u8 (m.ad.d.toNat : Int), .int .i64 m.i, .int .i64 m.k, .int .i64 m.u] 31 (0, 0)) ∧ a' = { tmps := #[.slice none 0 0, .func (.func 51) #[] #[.pointer (some ⟨Bm, 0, none⟩)], .pointer (some ⟨g2, 0, none⟩), undef, .slice none 0 0, .pointer (some ⟨Bx, 0, none⟩), .func (.func 51) #[] #[.pointer (some ⟨Bm, 0, none⟩)], .agg #[.int .i64 m.pr, .int .i64 m.o, .int .u8 (m.ad.a.toNat : Int), .int .u8 (m.ad.b.toNat : Int), .int .u8 (m.ad.c.toNat : Int), .int .u8 (m.ad.d.toNat : Int), .int .i64 m.i, .int .i64 m.k, .int .i64 m.u], undef, undef, undef, undef, undef], defers := [] })
    (by intro x a' s A B row h hg hr; obtain ⟨Bx, hx, ha⟩ := h; exact ⟨Bx, (hg.block Bx (hlt hx) (fun e => by obtain ⟨_, o, ho, hc⟩ := hr Bx e.symm; rw [hx] at ho; cases ho; cases hc)).trans hx, ha⟩) ?assign ?body ?done ?stop
  case assign =>
    rintro l pre x W K ⟨⟨v, hv, hro, hn⟩, hbl⟩ hK
    gi_wp2_with (first
      | ((with_reducible show wpListIn _ _ _ _ _ (⟨some 5, _, _, _, _, _⟩ :: _) _ _); refine wpListIn_plain rfl fun K_ hK_ => op_lift _ (wide_i l) (fun _ h_ => by cases h_) (fun _ _ h_ => h_) (wp_new_n 31 rfl (.agg #[.int .i64 0, .int .i64 0, .int .u8 0, .int .u8 0, .int .u8 0, .int .u8 0, .int .i64 0, .int .i64 0, .int .i64 0]) (by kernel_rfl) #[.int .i64 0, .int .i64 0, .int .u8 0, .int .u8 0, .int .u8 0, .int .u8 0, .int .i64 0, .int .i64 0, .int .i64 0] rfl fun g5 w3 ge lt hh bb => hK_ _ _ ?_))
      | ((with_reducible show wpListIn _ _ _ _ _ (⟨none, _, _, _, _, _⟩ :: _) _ _); refine held ?_))
    unfold Held
    refine wpListIn_plain rfl fun K_ hK_ => op_lift _ (wide_i l) (fun _ h_ => by cases h_) (fun _ _ h_ => h_) (wp_store_blk 31 (.tmp 5) (.tmp 7) rfl g5 rfl #[.int .i64 m.pr, .int .i64 m.o, .int .u8 (m.ad.a.toNat : Int), .int .u8 (m.ad.b.toNat : Int), .int .u8 (m.ad.c.toNat : Int), .int .u8 (m.ad.d.toNat : Int), .int .i64 m.i, .int .i64 m.k, .int .i64 m.u] rfl _ 31 hh rfl mp_size (by kernel_rfl) fun w4 hh4 gr4 => hK_ _ _ ?_); have b4 := bel_new2 bb gr4 ge; clear hh lt bb gr4
    refine wpListIn_nil ?_
    exact hK _ _ ((ko_bel b4).from _) (kw_bel b4) ⟨⟨v, blk_u hv b4, owk_under hro b4, hn⟩, hbl.trans (b4.mono hbl.size)⟩ ⟨g5, hh4, rfl⟩
  case body =>
    rintro l pre x a' W hl _ ⟨⟨v, hv, hro, hn⟩, hbl⟩ ⟨Bx, hx, rfl⟩ hlen
    obtain rfl : pre = [] := List.eq_nil_of_length_eq_zero (by omega)
    obtain rfl := hn rfl
    have cS := hv.cell
    have hlo := hbl.size
    refine wpIn_block (wpIn_region_lit (list_lift _ (wide_i l) ?_ _ _ _ ?_ ?_))
    · rintro ⟨a, w, h⟩; exact h
    · intro o ho c
      simp only [List.mem_cons, List.not_mem_nil, or_false] at ho
      rcases ho with rfl | rfl | rfl | rfl | rfl <;> simp
    go_wp2_with (first
      | ((with_reducible show wpList _ _ _ (⟨some 9, _, _, _, _, _⟩ :: _) _ _); refine wpList_load_part rfl 31 (.tmp 5) rfl Bx 0 9 rfl [.int .i64 m.pr, .int .i64 m.o, .int .u8 (m.ad.a.toNat : Int), .int .u8 (m.ad.b.toNat : Int), .int .u8 (m.ad.c.toNat : Int), .int .u8 (m.ad.d.toNat : Int), .int .i64 m.i, .int .i64 m.k, .int .i64 m.u] _ (0, 0) hx [.int .i64 m.pr, .int .i64 m.o, .int .u8 (m.ad.a.toNat : Int), .int .u8 (m.ad.b.toNat : Int), .int .u8 (m.ad.c.toNat : Int), .int .u8 (m.ad.d.toNat : Int), .int .i64 m.i, .int .i64 m.k, .int .i64 m.u] rfl _ Try.underlying31 rfl (by kernel_rfl) ?_)
      | ((with_reducible show wpList _ _ _ (⟨some 10, _, _, _, _, _⟩ :: _) _ _); refine held ?_))
    unfold Held
    refine wpList_lit_n rfl 37 31 1 _ rfl #[.int .i64 m.pr, .int .i64 m.o, .int .u8 (m.ad.a.toNat : Int), .int .u8 (m.ad.b.toNat : Int), .int .u8 (m.ad.c.toNat : Int), .int .u8 (m.ad.d.toNat : Int), .int .i64 m.i, .int .i64 m.k, .int .i64 m.u] (.agg #[.int .i64 0, .int .i64 0, .int .u8 0, .int .u8 0, .int .u8 0, .int .u8 0, .int .i64 0, .int .i64 0, .int .i64 0]) Try.underlying37 (by kernel_rfl) 9 (by kernel_rfl) (by decide) (by kernel_rfl) ?_; intro g10 w1 ge lt hh bb; have vv : Sle mpE 9 w1 (some ⟨g10, 0, none⟩) 1 1 [m] := sle_lit [m] (by decide) mpE_len (by simpa [mpE] using hh) rfl (by simp [maxLen])
    simp only [Act.put]
    refine wpList_append_sle rfl (.tmp 8) (.tmp 10) 37 rfl w.heap.size 31 ie (.agg #[.int .i64 0, .int .i64 0, .int .u8 0, .int .u8 0, .int .u8 0, .int .u8 0, .int .i64 0, .int .i64 0, .int .i64 0]) 48 Try.underlying37 hie hie0 hie1 hie2 mp_zs mpE_one _ 0 [] rfl (World.ownsRow_nil _ _ _ _) (some ⟨g10, 0, none⟩) 1 1 [m] rfl vv (by simp [maxLen]) (by decide) (Nat.le_trans hlo bb.size) ?_; intro v11 w6 own_ b6 gw_ ofw; have gw : w1.grownBy w6 none := gw_; have hv1 : Boxed w1 g2 37 (.slice none 0 0) := blk_u hv bb; have hv6 : Boxed w6 g2 37 (.slice none 0 0) := hv1.kept gw (by simp); have c6 := hv6.cell; have f6 := hv6.frozen; obtain ⟨A11, c11, rfl⟩ := owk_val own_
    go_wp2_with fail
    exact ⟨(((ko_bel bb).trans (KeepsOthers.of_grownBy gw (fun j o e => by cases e))).trans (KeepsOthers.setCell _ _ _)).from _, ((kw_bel bb).trans (KeepsWalks.of_grownBy gw (fun j o e => by cases e))).trans (KeepsWalks.setCell _ _ _),
      ⟨⟨_, hv6.set _, by simpa using own_.kept (grownBy_setCell' w6 g2 _) (.inr (hv6.not_row (by decide) own_).symm), by simp⟩, (((hbl.trans (bb.mono hlo)).trans b6)).setCell (p := ⟨g2, 0, none⟩) ge2 _⟩⟩
  case done =>
    rintro D xs W hD rfl ⟨⟨v, hv, hro, hn⟩, hbl⟩ hK
    have cS := hv.cell
    obtain ⟨g, cap, rfl⟩ := ownsRow_succ hro
    gi_wp2
    refine ⟨by simp, .inl ⟨_, _, rfl, run_takeDeferred hK, ?_⟩⟩
    exact ⟨_, results_tmp rfl _ _ _, _, rfl, ownsRow_putObj (by simpa using hro) _ hK rfl, hbl.trans (belowK_b (w := w) (Nat.le_refl _) W D _ _ (Nat.le_trans bel.size hD) hK rfl rfl)⟩
  case stop =>
    rintro D c pre W _ _ h _
    exact h.elim
end Go.Proofs.Ytmjmjfcdblapcaa
