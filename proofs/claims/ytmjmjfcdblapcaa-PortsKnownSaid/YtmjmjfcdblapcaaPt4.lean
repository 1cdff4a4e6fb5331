/- The map of those that are over: a map at a block, keyed by protocol and port: what is looked up in it, laid into it, taken out of it. -/
import Derived.Test.YtmjmjfcdblapcaaPt3
import Derived.Test.YtmjmjfcdblapcaaNrs
import Derived.Maps.Keyed
import Derived.Maps.Own
import Derived.Carry
namespace Go.Proofs.Ytmjmjfcdblapcaa
open Go.RowKit

def ptV (p o : Int) : Value := .agg #[.int .i64 p, .int .i64 o]
def mpV (e : Mp) : Value := .agg #[.int .i64 e.pr, .int .i64 e.o, .int .u8 (e.ad.a.toNat : Int), .int .u8 (e.ad.b.toNat : Int), .int .u8 (e.ad.c.toNat : Int), .int .u8 (e.ad.d.toNat : Int), .int .i64 e.i, .int .i64 e.k, .int .i64 e.u]
def mpZ : Mp := ⟨0, 0, ⟨0, 0, 0, 0⟩, 0, 0, 0⟩
theorem ptV_inj {p o q r : Int} (h : ptV p o = ptV q r) : p = q ∧ o = r := by
  simp only [ptV, Value.agg.injEq, Array.mk.injEq, List.cons.injEq, Value.int.injEq, true_and, and_true] at h
  exact h
theorem lawP : WideMaps.KeyLaw Try.prog 61 := deep_law_laid (by kernel_rfl) (m := 2) (by omega) (of_decide_eq_true (by kernel_rfl)) (by kernel_rfl) (by kernel_rfl)
theorem key_port {p o : Int} (h : okP p o) : ∃ l, keyOf Try.prog 61 (ptV p o) = some l := by
  obtain ⟨h1, h2, h3, h4⟩ := h
  obtain ⟨fs, hu, hall, hfs⟩ : ∃ fs, Try.prog.underlying 61 = some (.struct fs) ∧ fs.all (·.name != "_") = true ∧ fs.toList.map (fun f => (f.type, f.offset)) = [(3, 0), (3, 1)] := ⟨_, Try.underlying61, by simp, by rfl⟩
  have h8 : Try.prog.underlying 3 = some (.int .i64) := by kernel_rfl
  have hk : Try.prog.keyType 61 = true := by kernel_rfl
  have c2 : Try.prog.cellsOf 61 = 2 := by kernel_rfl
  have c1 : Try.prog.cellsOf 3 = 1 := by kernel_rfl
  obtain ⟨d, hd⟩ : ∃ d, Try.prog.types.size = d + 1 := ⟨Try.prog.types.size - 1, by have : 0 < Try.prog.types.size := of_decide_eq_true (by kernel_rfl); omega⟩
  have one : ∀ (a : Int), 0 ≤ a → a ≤ 65535 → Try.prog.keyLits (d + 1) 3 [.int .i64 a] = some [.int .i64 a] := fun a ha hb => by
    have hw : (Lit.int .i64 a).wf = true := by
      simp [Lit.wf, IntKind.min, IntKind.max, IntKind.signed, IntKind.bits]; omega
    unfold Program.keyLits
    simp only [h8]
    rw [if_pos ⟨trivial, hw⟩]
  rw [← Option.isSome_iff_exists]
  unfold keyOf
  simp only [hu, hk, Bool.true_and]
  have hf : (ptV p o).formed Try.prog 61 = true := by simp [Value.formed, ptV, hu, c2]
  rw [if_pos hf, hd]
  unfold Program.keyLits
  simp only [hu, c2]
  rw [if_pos ⟨show (ptV p o).cells.toList.length = 2 from rfl, hall⟩]
  obtain ⟨f1, f2, hl⟩ : ∃ f1 f2, fs.toList = [f1, f2] := by
    have hl2 : fs.toList.length = 2 := by have := congrArg List.length hfs; simpa using this
    rcases h9 : fs.toList with _ | ⟨f1, _ | ⟨f2, _ | ⟨f3, q⟩⟩⟩
    · rw [h9] at hl2; cases hl2
    · rw [h9] at hl2; cases hl2
    · exact ⟨f1, f2, rfl⟩
    · rw [h9] at hl2; simp at hl2
  rw [hl] at hfs ⊢
  simp only [List.map_cons, List.map_nil, List.cons.injEq, Prod.mk.injEq, and_true] at hfs
  obtain ⟨⟨t1, o1⟩, t2, o2⟩ := hfs
  simp only [ptV, Value.cells, List.mapM_cons, List.mapM_nil, t1, t2, o1, o2, c1, List.drop_zero, List.drop_succ_cons, List.take_succ_cons, List.take_zero, one p (by omega) (by omega), one o h3 h4, Option.pure_def, Option.bind_eq_bind, Option.bind_some, Option.map_some, Option.isSome_some]

/-- The map at block mb: those that are over. -/
def Om (lo mb : Nat) (w : World) (os : List Mp) : Prop := ∃ (es : Array MapEntry) (ck : Nat), w.heap[mb]? = some (.map es ck) ∧ lo ≤ mb ∧ es.toList.map (fun e => (e.key, e.val)) = os.map (fun m => (ptV m.pr m.o, mpV m)) ∧ OsOk os ∧ (∀ e ∈ es.toList, e.born < ck) ∧ (es.toList.map (·.born)).Nodup
theorem Om.of {lo mb : Nat} {w w' : World} {os : List Mp} (h : Om lo mb w os) (e : ∀ o, w.heap[mb]? = some o → w'.heap[mb]? = some o) : Om lo mb w' os := by
  obtain ⟨es, ck, h1, h2⟩ := h
  exact ⟨es, ck, e _ h1, h2⟩
theorem Om.lt {lo mb : Nat} {w : World} {os : List Mp} (h : Om lo mb w os) : mb < w.heap.size := by
  obtain ⟨es, ck, h1, _⟩ := h
  exact hlt h1
theorem Om.below {lo mb : Nat} {w w' : World} {os : List Mp} (h : Om lo mb w os) (b : Below w.heap.size w w') : Om lo mb w' os := h.of fun _ ho => blk_u ho b
theorem Om.ne {lo mb q : Nat} {w : World} {os : List Mp} {c : Array Value} {T : TypeId} {fz : Nat × Nat} (h : Om lo mb w os) (hq : w.heap[q]? = some (.cells c T fz)) : mb ≠ q := fun e => by
  obtain ⟨es, ck, h1, _⟩ := h
  subst e
  rw [h1] at hq; cases hq
theorem Om.grown {lo mb q : Nat} {w w' : World} {os : List Mp} {c : Array Value} {T : TypeId} {fz : Nat × Nat} (h : Om lo mb w os) (g : w.grownBy w' (some q)) (hq : w.heap[q]? = some (.cells c T fz)) : Om lo mb w' os := by
  have hne := h.ne hq
  have hl := h.lt
  exact h.of fun _ ho => (g.block mb hl (fun e => hne (by injection e))).trans ho
theorem Om.lo_le {lo lo' mb : Nat} {w : World} {os : List Mp} (h : Om lo mb w os) (hl : lo' ≤ lo) : Om lo' mb w os := by
  obtain ⟨es, ck, h1, h2, h3⟩ := h
  exact ⟨es, ck, h1, Nat.le_trans hl h2, h3⟩
theorem Om.row {lo mb B k n : Nat} {w w' : World} {os : List Mp} {T : TypeId} {v : Value} {xs : List Value} (h : Om lo mb w os) (g : w.grownBy w' v.ownBlock) (ho : w.ownsRow B T k v n xs) : Om lo mb w' os := by
  have hl := h.lt
  refine h.of fun o ho' => (g.block mb hl (fun e => ?_)).trans ho'
  rcases ho.2 with ⟨h2, _⟩ | ⟨g', cap, cur, e2, hb, hh, h2⟩
  · rw [h2] at e; simp [Value.ownBlock] at e
  · rw [e2] at e
    simp only [Value.ownBlock, Option.some.injEq] at e
    exact h.ne hh e
theorem om_drew {lo mb : Nat} {w : World} {os : List Mp} (h : Om lo mb w os) : Om lo mb w.drew os := h
theorem Om.blk {lo mb q : Nat} {w w' : World} {os : List Mp} {c : Array Value} {T : TypeId} {fz : Nat × Nat} (h : Om lo mb w os) (g : w.grownBy w' (some mb)) (hq : w.heap[q]? = some (.cells c T fz)) : w'.heap[q]? = some (.cells c T fz) :=
  (g.block q (hlt hq) (fun e => h.ne hq (by injection e with e; exact e.symm))).trans hq
theorem Om.own {lo mb B k n : Nat} {w w' : World} {os : List Mp} {T : TypeId} {v : Value} {xs : List Value} (h : Om lo mb w os) (g : w.grownBy w' (some mb)) (ho : w.ownsRow B T k v n xs) : w'.ownsRow B T k v n xs := by
  refine ⟨ho.1, ?_⟩
  rcases ho.2 with h2 | ⟨g', cap, cur, e2, hb, hh, h3⟩
  · exact .inl h2
  · exact .inr ⟨g', cap, cur, e2, hb, h.blk g hh, h3⟩
theorem Om.lo {lo mb : Nat} {w : World} {os : List Mp} (h : Om lo mb w os) : lo ≤ mb := by
  obtain ⟨_, _, _, h, _⟩ := h
  exact h
theorem Om.ok {lo mb : Nat} {w : World} {os : List Mp} (h : Om lo mb w os) : OsOk os := by
  obtain ⟨_, _, _, _, _, h, _⟩ := h
  exact h
theorem Om.kt {lo mb : Nat} {S : List TypeId} {w w' : World} {os : List Mp} (h : Om lo mb w os) (g : w.grownBy w' (some mb)) : Kt S w w' := fun _ _ _ _ hq _ => h.blk g hq
theorem Om.bel {lo mb : Nat} {w0 w w' : World} {os : List Mp} (h : Om lo mb w os) (b : Below lo w0 w) (g : w.grownBy w' (some mb)) (hl : lo ≤ w.heap.size) : Below lo w0 w' := b.grown g hl (fun k e => by cases e; exact h.lo)
/-- Where a key stands. -/
theorem om_hit {w : World} {es : Array MapEntry} {os : List Mp} (he : es.toList.map (fun e => (e.key, e.val)) = os.map (fun m => (ptV m.pr m.o, mpV m))) (ok : OsOk os) {p o : Int} (hp : okP p o) :
    ((Instr.findKey 61 (ptV p o) es.toList).run Try.prog w = .ok none w ∧ ∀ m ∈ os, m.num ≠ kn p o) ∨
    ∃ (j : Nat) (e : MapEntry) (m : Mp), (Instr.findKey 61 (ptV p o) es.toList).run Try.prog w = .ok (some (j, e.val)) w ∧ es.toList[j]? = some e ∧ os[j]? = some m ∧ e.key = ptV p o ∧ e.val = mpV m ∧ m.num = kn p o := by
  obtain ⟨kl, hkl⟩ := key_port hp
  have at_ : ∀ (j : Nat) (e : MapEntry), es.toList[j]? = some e → ∃ m, os[j]? = some m ∧ e.key = ptV m.pr m.o ∧ e.val = mpV m := fun j e hx => by
    have h1 : (es.toList.map (fun e => (e.key, e.val)))[j]? = some (e.key, e.val) := by rw [List.getElem?_map, hx]; rfl
    rw [he, List.getElem?_map] at h1
    cases hm : os[j]? with
    | none => rw [hm] at h1; cases h1
    | some m =>
      rw [hm] at h1
      simp only [Option.map_some, Option.some.injEq, Prod.mk.injEq] at h1
      exact ⟨m, rfl, h1.1.symm, h1.2.symm⟩
  have hk : ∀ e ∈ es.toList, ∃ l, keyOf Try.prog 61 e.key = some l := fun e hx => by
    obtain ⟨j, hj⟩ := List.getElem?_of_mem hx
    obtain ⟨m, hm, h1, _⟩ := at_ j e hj
    rw [h1]
    exact key_port (ok.okp m (List.mem_of_getElem? hm))
  rcases lawP.find w hkl es.toList hk with ⟨h1, h2⟩ | ⟨j, e0, h1, h2, h3⟩
  · refine .inl ⟨h1, fun m hm hn => ?_⟩
    obtain ⟨j, hj⟩ := List.getElem?_of_mem hm
    have hlen : os.length = es.toList.length := by have := congrArg List.length he; simpa using this.symm
    have hjl : j < es.toList.length := by have := (List.getElem?_eq_some_iff.1 hj).1; omega
    obtain ⟨m', hm', q1, _⟩ := at_ j _ (List.getElem?_eq_getElem hjl)
    rw [hj] at hm'; cases hm'
    obtain ⟨r1, r2⟩ := kn_inj (ok.okp m hm) hp hn
    exact h2 _ (List.getElem_mem hjl) (by rw [q1, r1, r2])
  · obtain ⟨m, hm, q1, q2⟩ := at_ j e0 h2
    obtain ⟨r1, r2⟩ := ptV_inj (q1.symm.trans h3)
    exact .inr ⟨j, e0, m, h1, h2, hm, h3, q2, by show kn m.pr m.o = kn p o; rw [r1, r2]⟩
theorem os_set {os : List Mp} {j : Nat} {x m : Mp} (hx : os[j]? = some x) (nd : os.Pairwise (fun x y => x.num ≠ y.num)) : os.map (fun e => if e.num = x.num then m else e) = os.set j m := by
  apply List.ext_getElem?
  intro i
  have hj := (List.getElem?_eq_some_iff.1 hx).1
  rw [List.getElem?_map, List.getElem?_set]
  by_cases h : j = i
  · subst h; rw [if_pos rfl, if_pos hj, hx]; simp
  · rw [if_neg h]
    cases hi : os[i]? with
    | none => rfl
    | some y =>
      rw [Option.map_some]
      have h1 := (List.getElem?_eq_some_iff.1 hi)
      have h2 := (List.getElem?_eq_some_iff.1 hx)
      have hne : y.num ≠ x.num := by
        rcases Nat.lt_or_gt_of_ne h with hlt_ | hgt
        · have := List.pairwise_iff_getElem.1 nd j i h2.1 h1.1 hlt_; rw [h2.2, h1.2] at this; exact fun e => this e.symm
        · have := List.pairwise_iff_getElem.1 nd i j h1.1 h2.1 hgt; rw [h2.2, h1.2] at this; exact this
      rw [if_neg hne]
theorem os_era {os : List Mp} {j : Nat} {x : Mp} (hx : os[j]? = some x) (nd : os.Pairwise (fun x y => x.num ≠ y.num)) : odel os x.num = os.eraseIdx j := by
  unfold odel
  induction os generalizing j with
  | nil => cases hx
  | cons y q ih =>
    obtain ⟨n1, n2⟩ := List.pairwise_cons.1 nd
    cases j with
    | zero =>
      simp only [List.getElem?_cons_zero, Option.some.injEq] at hx
      subst hx
      rw [List.filter_cons_of_neg (by simp), List.eraseIdx_cons_zero, List.filter_eq_self]
      intro e he
      have := n1 e he
      simpa using fun h => this h.symm
    | succ j =>
      simp only [List.getElem?_cons_succ] at hx
      have := n1 x (List.mem_of_getElem? hx)
      rw [List.filter_cons_of_pos (by simpa using this), List.eraseIdx_cons_succ, ih hx n2]
theorem era_map {α β : Type} (f : α → β) : ∀ (l : List α) (j : Nat), (l.eraseIdx j).map f = (l.map f).eraseIdx j
  | [], _ => by simp
  | x :: l, 0 => by simp
  | x :: l, j + 1 => by simp [era_map f l j]
/-- One is laid in. -/
theorem Om.put {lo mb : Nat} {w : World} {os : List Mp} (h : Om lo mb w os) {m : Mp} (hm : m.okp) : ∃ w', (Instr.mapUpdate 53 (.map (some mb)) (ptV m.pr m.o) (mpV m)).run Try.prog w = .ok () w' ∧ Om lo mb w' (oput os m) ∧ w.grownBy w' (some mb) := by
  obtain ⟨es, ck, hb, hlo, he, ok, hbn, hnd⟩ := h
  obtain ⟨kl, hkl⟩ := key_port hm
  have ht : Try.prog.underlying 53 = some (.map 61 31) := by kernel_rfl
  have gr : ∀ o, w.grownBy (ChangeMaps.setBlock w mb o) (some mb) := fun o => ⟨rfl, rfl, rfl, by simp [ChangeMaps.setBlock], fun i _ hi => ChangeMaps.heap_setBlock_other hb _ (fun e => hi (by rw [e]))⟩
  have okq := ok.put hm
  rcases om_hit (w := w) he ok hm with ⟨h1, h2⟩ | ⟨j, e0, x, h1, h2, h3, h4, h5, h6⟩
  · have hp : oput os m = os ++ [m] := by
      unfold oput
      rw [if_neg]
      intro ha
      obtain ⟨x, hx, hxe⟩ := List.any_eq_true.1 ha
      exact h2 x hx (beq_iff_eq.1 hxe)
    refine ⟨ChangeMaps.setBlock w mb (.map (es.push ⟨ptV m.pr m.o, mpV m, ck⟩) (ck + 1)), ?_, ⟨_, _, ChangeMaps.heap_setBlock_same hb _, hlo, ?_, okq, ?_, ?_⟩, gr _⟩
    · simp [Instr.mapUpdate, run_underlying ht, MapKept.run_getObj_map hb, lawP.check w false hkl, h1, MapKept.run_setObj_map _ hb, Result.andThen, ChangeMaps.setBlock]
    · rw [Array.toList_push, List.map_append, he, hp, List.map_append]; simp
    · intro e hx
      rw [Array.toList_push] at hx
      rcases List.mem_append.1 hx with hx | hx
      · have := hbn e hx; omega
      · rw [List.mem_singleton.1 hx]; exact Nat.lt_succ_self _
    · rw [Array.toList_push, List.map_append, List.nodup_append]
      refine ⟨hnd, by simp, fun a ha b hb' => ?_⟩
      obtain ⟨e, hx, rfl⟩ := List.mem_map.1 ha
      simp at hb'
      have := hbn e hx
      omega
  · have hp : oput os m = os.set j m := by
      unfold oput
      rw [if_pos (List.any_eq_true.2 ⟨x, List.mem_of_getElem? h3, by rw [h6]; exact beq_self_eq_true _⟩), ← os_set h3 ok.nd, h6]; rfl
    have hja : es[j]? = some e0 := by rw [← Array.getElem?_toList]; exact h2
    have hst : (Instr.keyThatStays (ptV m.pr m.o) (ptV m.pr m.o)).run Try.prog w = .ok (ptV m.pr m.o) w := lawP.stays w hkl
    refine ⟨ChangeMaps.setBlock w mb (.map (es.modify j fun e => { e with key := ptV m.pr m.o, val := mpV m }) ck), ?_, ⟨_, _, ChangeMaps.heap_setBlock_same hb _, hlo, ?_, okq, ?_, ?_⟩, gr _⟩
    · simp [Instr.mapUpdate, run_underlying ht, MapKept.run_getObj_map hb, lawP.check w false hkl, h1, hja, h4, hst, MapKept.run_setObj_map _ hb, Result.andThen, ChangeMaps.setBlock]
    · rw [hp]
      apply List.ext_getElem?
      intro i
      have hi := congrArg (fun q => q[i]?) he
      simp only [List.getElem?_map] at hi
      have hj := (List.getElem?_eq_some_iff.1 h3).1
      rw [List.getElem?_map, List.getElem?_map, Array.getElem?_toList, Array.getElem?_modify, List.getElem?_set, ← Array.getElem?_toList]
      by_cases hij : j = i
      · subst hij
        rw [if_pos rfl, if_pos rfl, if_pos hj, h2]
        rfl
      · rw [if_neg hij, if_neg hij]; exact hi
    · intro e hx
      obtain ⟨i, hi⟩ := List.getElem?_of_mem hx
      rw [Array.getElem?_toList, Array.getElem?_modify, ← Array.getElem?_toList] at hi
      by_cases hij : j = i
      · subst hij
        rw [if_pos rfl, h2] at hi
        simp only [Option.map_some, Option.some.injEq] at hi
        rw [← hi]; exact hbn e0 (List.mem_of_getElem? h2)
      · rw [if_neg hij] at hi
        exact hbn e (List.mem_of_getElem? hi)
    · have : (es.modify j fun e => { e with key := ptV m.pr m.o, val := mpV m }).toList.map (·.born) = es.toList.map (·.born) := by
        apply List.ext_getElem?
        intro i
        rw [List.getElem?_map, List.getElem?_map, Array.getElem?_toList, Array.getElem?_modify, ← Array.getElem?_toList]
        by_cases hij : j = i
        · subst hij; rw [if_pos rfl]; cases es.toList[j]? <;> rfl
        · rw [if_neg hij]
      rw [this]; exact hnd
/-- One is taken out. -/
theorem Om.del {lo mb : Nat} {w : World} {os : List Mp} (h : Om lo mb w os) {p o : Int} (hp : okP p o) (ty : TypeId) : ∃ w', (Builtin.delete_ #[53, 61] ty #[.map (some mb), ptV p o]).run Try.prog w = .ok (.tuple #[]) w' ∧ Om lo mb w' (odel os (kn p o)) ∧ w.grownBy w' (some mb) := by
  obtain ⟨es, ck, hb, hlo, he, ok, hbn, hnd⟩ := h
  obtain ⟨kl, hkl⟩ := key_port hp
  have ht : Try.prog.underlying 53 = some (.map 61 31) := by kernel_rfl
  have gr : ∀ o, w.grownBy (ChangeMaps.setBlock w mb o) (some mb) := fun o => ⟨rfl, rfl, rfl, by simp [ChangeMaps.setBlock], fun i _ hi => ChangeMaps.heap_setBlock_other hb _ (fun e => hi (by rw [e]))⟩
  rcases om_hit (w := w) he ok hp with ⟨h1, h2⟩ | ⟨j, e0, x, h1, h2, h3, h4, h5, h6⟩
  · have hd : odel os (kn p o) = os := by
      unfold odel
      rw [List.filter_eq_self]
      intro m hm
      simpa using h2 m hm
    refine ⟨ChangeMaps.setBlock w mb (.map es ck), ?_, ⟨_, _, ChangeMaps.heap_setBlock_same hb _, hlo, by rw [hd]; exact he, ok.del _, hbn, hnd⟩, gr _⟩
    simp [Builtin.delete_, run_underlying ht, MapKept.run_getObj_map hb, lawP.check w _ hkl, h1, MapKept.run_setObj_map _ hb, Result.andThen, ChangeMaps.setBlock]
  · have hd : odel os (kn p o) = os.eraseIdx j := by rw [← h6]; exact os_era h3 ok.nd
    have hes : j < es.size := by have := (List.getElem?_eq_some_iff.1 h2).1; simpa using this
    have hel : (es.eraseIdxIfInBounds j).toList = es.toList.eraseIdx j := by
      rw [Array.eraseIdxIfInBounds_eq, dif_pos hes, Array.toList_eraseIdx]
    refine ⟨ChangeMaps.setBlock w mb (.map (es.eraseIdxIfInBounds j) ck), ?_, ⟨_, _, ChangeMaps.heap_setBlock_same hb _, hlo, ?_, ok.del _, ?_, ?_⟩, gr _⟩
    · simp [Builtin.delete_, run_underlying ht, MapKept.run_getObj_map hb, lawP.check w _ hkl, h1, MapKept.run_setObj_map _ hb, Result.andThen, ChangeMaps.setBlock]
    · rw [hel, hd]
      have := congrArg (fun q => q.eraseIdx j) he
      rw [era_map, era_map]; exact this
    · rw [hel]; exact fun e hx => hbn e ((List.eraseIdx_sublist _ _).subset hx)
    · rw [hel]
      exact List.Pairwise.sublist (List.Sublist.map _ (List.eraseIdx_sublist _ _)) hnd
theorem ofind_none {os : List Mp} {x : Nat} (h : ∀ m ∈ os, m.num ≠ x) : ofind os x = none := by
  unfold ofind
  rw [List.find?_eq_none]
  intro m hm
  simpa using h m hm
theorem ofind_some {os : List Mp} {j : Nat} {x : Mp} (hx : os[j]? = some x) (nd : os.Pairwise (fun x y => x.num ≠ y.num)) : ofind os x.num = some x := by
  unfold ofind
  induction os generalizing j with
  | nil => cases hx
  | cons y q ih =>
    obtain ⟨n1, n2⟩ := List.pairwise_cons.1 nd
    cases j with
    | zero =>
      simp only [List.getElem?_cons_zero, Option.some.injEq] at hx
      subst hx
      rw [List.find?_cons_of_pos (by simp)]
    | succ j =>
      simp only [List.getElem?_cons_succ] at hx
      have := n1 x (List.mem_of_getElem? hx)
      rw [List.find?_cons_of_neg (by simpa using this)]
      exact ih hx n2
/-- A look-up. -/
theorem Om.look {lo mb : Nat} {w : World} {os : List Mp} (h : Om lo mb w os) {p o : Int} (hp : okP p o) : (Instr.lookup 53 (.map (some mb)) (ptV p o) true).run Try.prog w = .ok (.tuple #[mpV ((ofind os (kn p o)).getD mpZ), .bool (ofind os (kn p o)).isSome]) w := by
  obtain ⟨es, ck, hb, hlo, he, ok, _⟩ := h
  obtain ⟨kl, hkl⟩ := key_port hp
  have ht : Try.prog.underlying 53 = some (.map 61 31) := by kernel_rfl
  have hz : ∀ W, (zeroValue 31).run Try.prog W = .ok (mpV mpZ) W := fun W => by kernel_rfl
  rcases om_hit (w := w) he ok hp with ⟨h1, h2⟩ | ⟨j, e0, x, h1, h2, h3, h4, h5, h6⟩
  · rw [ofind_none h2]
    simp [Instr.lookup, run_underlying ht, MapKept.run_getObj_map hb, lawP.check w _ hkl, h1, hz, Result.andThen]
  · have hf := ofind_some h3 ok.nd
    rw [h6] at hf
    rw [hf]
    simp [Instr.lookup, run_underlying ht, MapKept.run_getObj_map hb, lawP.check w _ hkl, h1, h5, Result.andThen]
theorem Om.made (w : World) : Om w.heap.size w.heap.size (w.alloc (.map #[] 0)) [] := ⟨#[], 0, (MapKept.heap_alloc w _).1, Nat.le_refl _, rfl, OsOk.nil, fun e h => by simp at h, by simp⟩
theorem Om.len {lo mb : Nat} {w : World} {os : List Mp} (h : Om lo mb w os) (ty : TypeId) : (Builtin.len_ #[53] ty #[.map (some mb)]).run Try.prog w = .ok (.int .i64 (os.length : Int)) w := by
  obtain ⟨es, ck, hb, _, he, _⟩ := h
  have ht : Try.prog.underlying 53 = some (.map 61 31) := by kernel_rfl
  have hl : es.size = os.length := by have := congrArg List.length he; simpa using this
  simp [Builtin.len_, run_underlying ht, MapKept.run_getObj_map hb, Result.andThen, goInt, hl]
end Go.Proofs.Ytmjmjfcdblapcaa
