/- Texts put together: Pt7. -/
import Derived.Test.YtbdaejodbcjmfaaGreatQ1
import Derived.Test.YtbdaejodbcjmfaaGreatQ5
namespace Go.Proofs.YtbdaejodbcjmfaaGreat
open Go.RowKit

theorem blk_ne {w : World} {a b : Nat} {c c' : Array Value} {T T' : TypeId} {f f' : Nat × Nat} (h : w.heap[a]? = some (.cells c T f)) (h' : w.heap[b]? = some (.cells c' T' f')) (hT : T ≠ T') : a ≠ b := fun e => by
  subst e; rw [h] at h'; injection h' with h'; injection h' with _ h2 _; exact hT h2
theorem wp_om_put {o : Oper} {a : Act} {w : World} {K : Act → World → Prop} {Q : Exit → Act → World → Prop} (px py pz : Operand) (ho : o.op = .mapUpdate 73 px py pz) {lo mb : Nat} {os : List Mp} (m : Mp)
    (hx : a.eval px = .map (some mb)) (hy : a.eval py = ptV m.pr m.o) (hz : a.eval pz = mpV m) (h : Om lo mb w os) (hm : m.okp) (hK : ∀ w', Om lo mb w' (oput os m) → w.grownBy w' (some mb) → K (a.put o.dst undef) w') : Oper.wp Tryz.prog o a w K Q := by
  obtain ⟨w', hr, h1, h2⟩ := h.put hm
  unfold Oper.wp execOp
  simp only [ho, hx, hy, hz, Sem.run_bind, Sem.run_pure, Result.andThen_ok, hr]
  exact hK _ h1 h2
theorem wp_om_del {o : Oper} {a : Act} {w : World} {K : Act → World → Prop} {Q : Exit → Act → World → Prop} (px py : Operand) (ho : o.op = .call { callee := .builtin .delete, args := #[px, py], argTypes := #[73, 100] }) {lo mb : Nat} {os : List Mp} (p q : Int)
    (hx : a.eval px = .map (some mb)) (hy : a.eval py = ptV p q) (h : Om lo mb w os) (hp : okP p q) (hK : ∀ w', Om lo mb w' (odel os (kn p q)) → w.grownBy w' (some mb) → K (a.put o.dst (.tuple #[])) w') : Oper.wp Tryz.prog o a w K Q := by
  obtain ⟨w', hr, h1, h2⟩ := h.del hp o.type
  unfold Oper.wp execOp
  simp only [ho, resolve, invoke, builtin, Sem.run_bind, Sem.run_pure, Result.andThen_ok, List.map_toArray, List.map_cons, List.map_nil, hx, hy, hr]
  exact hK _ h1 h2
theorem makemap_n {o : Oper} {a : Act} {w : World} {K : Act → World → Prop} {Q : Exit → Act → World → Prop} (T : TypeId) (ho : o.op = .makeMap T none)
    (hK : ∀ g w', w.heap.size ≤ g → Om w.heap.size g w' [] → Below w.heap.size w w' → K (a.put o.dst (.map (some g))) w') : Oper.wp Tryz.prog o a w K Q := by
  unfold Oper.wp execOp
  simp only [ho, Option.map_none, run_makeMap, Sem.run_bind, Sem.run_pure, Result.andThen_ok]
  exact hK _ _ (Nat.le_refl _) (Om.made w) ((Below.refl _ _).alloc (Nat.le_refl _) _)
theorem wpList_makemap_n {ops : Array Oper} {rest : List Oper} {o : Oper} {a : Act} {w : World} {Q : Exit → Act → World → Prop} (hgd : o.guard = none) (T : TypeId) (ho : o.op = .makeMap T none)
    (hK : ∀ g w', w.heap.size ≤ g → Om w.heap.size g w' [] → Below w.heap.size w w' → wpList Tryz.prog ops Q rest (a.put o.dst (.map (some g))) w') : wpList Tryz.prog ops Q (o :: rest) a w :=
  wpList_plain hgd fun _ hK' => makemap_n T ho fun g w' h1 h2 h3 => hK' _ _ (hK g w' h1 h2 h3)
/-- The table at block gt: what is of the call's own from lo on; what it holds. -/
def Tp (lo gt : Nat) (w : World) (s : Ts) : Prop := ∃ (A : Option Addr) (n c mb : Nat), w.heap[gt]? = some (.cells #[.int .i64 s.lw, .int .i64 s.rm, .int .i64 s.now, .slice A n c, .map (some mb)] 76 (0, 0)) ∧ lo ≤ gt ∧ Om lo mb w s.os ∧ w.ownsRow lo 65 9 (.slice A n c) n (s.l.flatMap mpE) ∧ s.ok
theorem Tp.below {lo gt : Nat} {w w' : World} {s : Ts} (h : Tp lo gt w s) (b : Below w.heap.size w w') : Tp lo gt w' s := by
  obtain ⟨A, n, c, mb, h1, h2, h3, h4, h5⟩ := h
  exact ⟨A, n, c, mb, blk_u h1 b, h2, h3.below b, owk_under h4 b, h5⟩
theorem Tp.grown {lo gt q : Nat} {w w' : World} {s : Ts} {c : Array Value} {T : TypeId} {fz : Nat × Nat} (h : Tp lo gt w s) (g : w.grownBy w' (some q)) (hq : w.heap[q]? = some (.cells c T fz)) (h1 : T ≠ 76) (h2 : T ≠ 65) : Tp lo gt w' s := by
  obtain ⟨A, n, c', mb, e1, e2, e3, e4, e5⟩ := h
  have k : Kt [T] w w' := kt_grown g hq (by simp)
  exact ⟨A, n, c', mb, k.blk e1 (by simpa using fun e => h1 e.symm), e2, e3.grown g hq, k.own e4 (by simpa using fun e => h2 e.symm), e5⟩
theorem Tp.lo_le {lo gt : Nat} {w : World} {s : Ts} (h : Tp lo gt w s) : lo ≤ w.heap.size := by
  obtain ⟨A, n, c, mb, h1, h2, _⟩ := h
  exact Nat.le_trans h2 (Nat.le_of_lt (hlt h1))
theorem Tp.lo_mono {lo lo' gt : Nat} {w : World} {s : Ts} (h : Tp lo gt w s) (hl : lo' ≤ lo) : Tp lo' gt w s := by
  obtain ⟨A, n, c, mb, h1, h2, h3, h4, h5⟩ := h
  exact ⟨A, n, c, mb, h1, Nat.le_trans hl h2, h3.lo_le hl, owk_lo h4 hl, h5⟩
theorem Tp.ok {lo gt : Nat} {w : World} {s : Ts} (h : Tp lo gt w s) : s.ok := by
  obtain ⟨_, _, _, _, _, _, _, _, h⟩ := h
  exact h
def TbB (w : World) (gt : Nat) (a b d : Int) (A : Option Addr) (n c mb : Nat) : Prop := w.heap[gt]? = some (.cells #[.int .i64 a, .int .i64 b, .int .i64 d, .slice A n c, .map (some mb)] 76 (0, 0))
/-- A block that lies apart from the table's. -/
def Ap (gt : Nat) (w : World) (q : Nat) : Prop := q ≠ gt ∧ gt < w.heap.size ∧ ∀ (a b d : Int) (A : Option Addr) (n c mb : Nat), TbB w gt a b d A n c mb → Ofs (.slice A n c) q
theorem Ap.below {gt q : Nat} {w w' : World} (h : Ap gt w q) (b : Below w.heap.size w w') : Ap gt w' q := ⟨h.1, Nat.lt_of_lt_of_le h.2.1 b.size, fun a b' d A n c mb hh => h.2.2 a b' d A n c mb ((b.block gt h.2.1).symm.trans hh)⟩
theorem Ap.grown {gt q r : Nat} {w w' : World} (h : Ap gt w q) (hr : r ≠ gt) (g : w.grownBy w' (some r)) : Ap gt w' q := ⟨h.1, Nat.lt_of_lt_of_le h.2.1 g.size, fun a b' d A n c mb hh => h.2.2 a b' d A n c mb ((g.block gt h.2.1 (fun e => hr (by injection e with e; exact e.symm))).symm.trans hh)⟩
theorem Ap.ofs {gt q : Nat} {w : World} {a b d : Int} {A : Option Addr} {n c mb : Nat} (h : Ap gt w q) (htb : w.heap[gt]? = some (.cells #[.int .i64 a, .int .i64 b, .int .i64 d, .slice A n c, .map (some mb)] 76 (0, 0))) : Ofs (.slice A n c) q := h.2.2 _ _ _ _ _ _ _ htb
theorem Ap.mk {gt q : Nat} {w : World} {a b d : Int} {A : Option Addr} {n c mb : Nat} (htb : w.heap[gt]? = some (.cells #[.int .i64 a, .int .i64 b, .int .i64 d, .slice A n c, .map (some mb)] 76 (0, 0))) (h : Ofs (.slice A n c) q) (hq : q ≠ gt) : Ap gt w q := by
  refine ⟨hq, hlt htb, fun a' b' d' A' n' c' mb' hh => ?_⟩
  unfold TbB at hh
  rw [htb] at hh
  simp only [Option.some.injEq, Obj.cells.injEq, Array.mk.injEq, List.cons.injEq, Value.slice.injEq, and_true] at hh
  obtain ⟨_, _, _, ⟨h1, h2, h3⟩, _⟩ := hh
  rw [← h1, ← h2, ← h3]; exact h
theorem Tp.ap {lo gt q : Nat} {w : World} {s : Ts} (h : Tp lo gt w s) (hq : w.heap.size ≤ q) : Ap gt w q := by
  obtain ⟨A, n, c, mb, h1, h2, h3, h4, h5⟩ := h
  exact Ap.mk h1 (owk_new h4 hq) (Nat.ne_of_gt (Nat.lt_of_lt_of_le (hlt h1) hq))
theorem Tp.away {lo gt q : Nat} {w w' : World} {s : Ts} {c : Array Value} {T : TypeId} {fz : Nat × Nat} (h : Tp lo gt w s) (ap : Ap gt w q) (g : w.grownBy w' (some q)) (hq : w.heap[q]? = some (.cells c T fz)) : Tp lo gt w' s := by
  obtain ⟨A, n, c', mb, h1, h2, h3, h4, h5⟩ := h
  exact ⟨A, n, c', mb, (g.block gt (hlt h1) (fun e => ap.1 (by injection e with e; exact e.symm))).trans h1, h2, h3.grown g hq, owk_off h4 (ap.ofs h1) g, h5⟩
/-- What lies apart stays, and lies apart. -/
def Fap (gt : Nat) (w w' : World) : Prop := ∀ (k : Nat) (c : Array Value) (T : TypeId) (fz : Nat × Nat), w.heap[k]? = some (.cells c T fz) → Ap gt w k → w'.heap[k]? = some (.cells c T fz) ∧ Ap gt w' k
theorem Fap.refl (gt : Nat) (w : World) : Fap gt w w := fun _ _ _ _ h a => ⟨h, a⟩
theorem Fap.trans {gt : Nat} {a b c : World} (h : Fap gt a b) (h' : Fap gt b c) : Fap gt a c := fun k x T fz hx ap => h' k x T fz (h k x T fz hx ap).1 (h k x T fz hx ap).2
theorem Fap.below {gt : Nat} {w W W' : World} (h : Fap gt w W) (b : Below W.heap.size W W') : Fap gt w W' := fun k x T fz hx ap => ⟨blk_u (h k x T fz hx ap).1 b, (h k x T fz hx ap).2.below b⟩
theorem Fap.newer {gt q : Nat} {w W W' : World} (h : Fap gt w W) (ap : Ap gt W q) (g : W.grownBy W' (some q)) (hq : w.heap.size ≤ q) : Fap gt w W' := fun k x T fz hx a => by
  have h1 := h k x T fz hx a
  exact ⟨(g.block k (hlt h1.1) (fun e => by injection e with e; have := hlt hx; omega)).trans h1.1, h1.2.grown ap.1 g⟩
def Fo (gt : Nat) (w W : World) (v : Value) : Prop := ∀ (k : Nat) (c : Array Value) (T : TypeId) (fz : Nat × Nat), w.heap[k]? = some (.cells c T fz) → Ap gt w k → W.heap[k]? = some (.cells c T fz) ∧ k ≠ gt ∧ Ofs v k
theorem Fo.refl {gt : Nat} {w : World} {a b d : Int} {A : Option Addr} {n c mb : Nat} (htb : w.heap[gt]? = some (.cells #[.int .i64 a, .int .i64 b, .int .i64 d, .slice A n c, .map (some mb)] 76 (0, 0))) : Fo gt w w (.slice A n c) := fun _ _ _ _ h ap => ⟨h, ap.1, ap.ofs htb⟩
theorem Fap.fo {gt : Nat} {w W : World} {a b d : Int} {A : Option Addr} {n c mb : Nat} (h : Fap gt w W) (htb : W.heap[gt]? = some (.cells #[.int .i64 a, .int .i64 b, .int .i64 d, .slice A n c, .map (some mb)] 76 (0, 0))) : Fo gt w W (.slice A n c) := fun k x T fz hx ap => ⟨(h k x T fz hx ap).1, (h k x T fz hx ap).2.1, (h k x T fz hx ap).2.ofs htb⟩
theorem Fo.fr {gt : Nat} {w W : World} {a b d : Int} {A : Option Addr} {n c mb : Nat} (h : Fo gt w W (.slice A n c)) (htb : W.heap[gt]? = some (.cells #[.int .i64 a, .int .i64 b, .int .i64 d, .slice A n c, .map (some mb)] 76 (0, 0))) : Fap gt w W := fun k x T fz hx ap => ⟨(h k x T fz hx ap).1, Ap.mk htb (h k x T fz hx ap).2.2 (h k x T fz hx ap).2.1⟩
theorem Fo.below {gt : Nat} {w W W' : World} {v : Value} (h : Fo gt w W v) (b : Below W.heap.size W W') : Fo gt w W' v := fun k x T fz hx ap => ⟨blk_u (h k x T fz hx ap).1 b, (h k x T fz hx ap).2⟩
theorem fo_drew {gt : Nat} {w W : World} {v : Value} (h : Fo gt w W v) : Fo gt w W.drew v := h
theorem Fo.tb {gt : Nat} {w W W' : World} {v : Value} (h : Fo gt w W v) (g : W.grownBy W' (some gt)) : Fo gt w W' v := fun k x T fz hx ap => by
  have h1 := h k x T fz hx ap
  exact ⟨(g.block k (hlt h1.1) (fun e => h1.2.1 (by injection e))).trans h1.1, h1.2⟩
theorem Fo.newer {gt q : Nat} {w W W' : World} {v : Value} (h : Fo gt w W v) (g : W.grownBy W' (some q)) (hq : w.heap.size ≤ q) : Fo gt w W' v := fun k x T fz hx ap => by
  have h1 := h k x T fz hx ap
  exact ⟨(g.block k (hlt h1.1) (fun e => by injection e with e; have := hlt hx; omega)).trans h1.1, h1.2⟩
theorem Fo.row {gt : Nat} {w W W' : World} {v v' : Value} (h : Fo gt w W v) (g : W.grownBy W' v.ownBlock) (o : ∀ q, q < W.heap.size → Ofs v q → Ofs v' q) : Fo gt w W' v' := fun k x T fz hx ap => by
  have h1 := h k x T fz hx ap
  exact ⟨blk_own h1.1 g h1.2.2, h1.2.1, o k (hlt h1.1) h1.2.2⟩
theorem Fo.map {lo mb gt : Nat} {w W W' : World} {v : Value} {os : List Mp} (h : Fo gt w W v) (hM : Om lo mb W os) (g : W.grownBy W' (some mb)) : Fo gt w W' v := fun k x T fz hx ap => ⟨hM.blk g (h k x T fz hx ap).1, (h k x T fz hx ap).2⟩
/-- A row that lies apart stays. -/
def ApV (gt : Nat) (w : World) (v : Value) : Prop := ∀ g, v.ownBlock = some g → Ap gt w g
theorem Fap.own {gt B k n : Nat} {w w' : World} {T : TypeId} {v : Value} {xs : List Value} (h : Fap gt w w') (ho : w.ownsRow B T k v n xs) (ap : ApV gt w v) : w'.ownsRow B T k v n xs ∧ ApV gt w' v := by
  rcases ho.2 with h2 | ⟨g', cap, cur, e2, hb, hh, h3⟩
  · refine ⟨⟨ho.1, .inl h2⟩, fun g hg => ?_⟩
    rw [h2.1] at hg; simp [Value.ownBlock] at hg
  · have hv : v.ownBlock = some g' := by rw [e2]; rfl
    have h4 := h _ _ _ _ hh (ap g' hv)
    refine ⟨⟨ho.1, .inr ⟨g', cap, cur, e2, hb, h4.1, h3⟩⟩, fun g hg => ?_⟩
    rw [hv] at hg; cases hg; exact h4.2
theorem overs_skip {l os : List Mp} {t : Int} {k : Nat} {e : Mp} (he : l[k]? = some e) (h : deadB t e = false) : overs (l.take (k + 1)) t os = overs (l.take k) t os := by
  unfold overs
  rw [mfilt_skip he h]
theorem overs_keep {l os : List Mp} {t : Int} {k : Nat} {e : Mp} (he : l[k]? = some e) (h : deadB t e = true) : overs (l.take (k + 1)) t os = oput (overs (l.take k) t os) e := by
  unfold overs
  rw [mfilt_keep he h, List.foldl_append]
  rfl
theorem dead_live (t : Int) : (fun e => !deadB t e) = liveB t := by
  funext e
  unfold deadB
  rw [Bool.not_not]
set_option linter.unusedVariables false in
set_option linter.unusedSimpArgs false in
set_option maxRecDepth 100000 in
set_option maxHeartbeats 16000000 in
theorem tadv_no1 {lo gt : Nat} {lw rm now : Int} {l os : List Mp} (t : Int) (w : World) (hT : Tp lo gt w ⟨lw, rm, now, l, os⟩) (h1 : ¬ now < t) : Calls Tryz.prog 56 #[.pointer (some ⟨gt, 0, none⟩), .int .i64 t] w fun e w' => e = .returned (.tuple #[]) ∧ Tp lo gt w' ⟨lw, rm, now, l, os⟩ ∧ Fap gt w w' ∧ Below lo w w' := by
  have hlo : lo ≤ w.heap.size := hT.lo_le
  have HLO := Lib.hid hlo
  obtain ⟨A, n, c, mb, htb, otb, hM, own, hok⟩ := hT
  dsimp only at htb hM own
  have off_tb := ofs_type own htb (by decide)
  have hl := row_len (by decide) mpE_len own
  have HLL := Lib.hid hl
  have HOK := Lib.hid hok
  have H32 : Hid (n ≤ 1000) := Lib.hid (by have h1_ := hok.len; have h2_ := hok.r1; simp only at h1_ h2_; omega)
  have H128 : Hid (n ≤ 128) := Lib.hid (by have h1_ := hok.len; have h2_ := hok.r1; simp only at h1_ h2_; omega)
  clear hl hok
  have fo := Fo.refl htb
  have h2 : t ≤ now := by omega
  clear h1
  have bel := Below.refl lo w
  go_enter Tryz.func56, Tryz.ntmps56
  go_wp2_with (first | ((with_reducible show wpList _ _ _ (⟨some 3, _, _, _, _, _⟩ :: _) _ _); refine wpList_box_n rfl 2 (.tmp 1) rfl #[.int .i64 t] rfl ?_; intro g3 w1 ge lt hh bb; have d_tb_nb := ne_new (hlt htb) ge; have onb := Nat.le_trans (Nat.le_trans hlo bel.size) ge; have off_nb := owk_new own ge; have pn_nb := Nat.le_trans bel.size ge; replace htb := blk_u htb bb; replace own := owk_under own bb; replace fo := fo.below bb; replace hM := hM.below bb; replace bel := bel.trans (bb.mono (Nat.le_trans hlo bel.size)); have hnb := hh; clear hh lt ge bb))
  replace bel := bel.drew
  replace htb : w1.drew.heap[gt]? = _ := htb
  replace hnb : w1.drew.heap[g3]? = _ := hnb
  replace own := World.ownsRow.drew own
  replace fo := fo_drew fo
  replace hM := om_drew hM
  refine wp_region_held_drew (S := fun W => W.heap[g3]? = some (.cells #[.int .i64 t] 2 (0, 0)) ∧ W.heap[gt]? = some (.cells #[.int .i64 lw, .int .i64 rm, .int .i64 now, .slice A n c, .map (some mb)] 76 (0, 0))) (by kernel_rfl) ⟨hnb, htb⟩ (fun hH => ?_)
  generalize w1.drew = w2 at bel htb hnb own fo hM hH ⊢
  refine wpAnyH_take (i := 0) (v := ?_) rfl (by kernel_rfl) (by kernel_rfl) (by kernel_rfl) (fun _ _ _ h => h) (Or.inl ⟨by rfl, ?_⟩) hH ?_
  rotate_left
  · ((intro W hW; have hk := cell_lit (hW.1) 0 _ rfl; clear hW; go_simp) <;> with_reducible rfl)
  simp only [Act.put, List.getElem_toArray, List.getElem_cons_zero, List.setIfInBounds_toArray, List.set_cons_zero, List.set_cons_succ]
  refine wpAnyH_take (i := 1) (v := ?_) rfl (by kernel_rfl) (by kernel_rfl) (by kernel_rfl) (fun _ _ _ h => h) (Or.inl ⟨by rfl, ?_⟩) hH ?_
  rotate_left
  · ((intro W hW; clear hW; go_simp) <;> with_reducible rfl)
  simp only [sq3, sq4]
  refine wpAnyH_take (i := 2) (v := ?_) rfl (by kernel_rfl) (by kernel_rfl) (by kernel_rfl) (fun _ _ _ h => h) (Or.inl ⟨by rfl, ?_⟩) hH ?_
  rotate_left
  · ((intro W hW; clear hW; go_simp) <;> with_reducible rfl)
  simp only [sq3, sq4]
  refine wpAnyH_take (i := 3) (v := ?_) rfl (by kernel_rfl) (by kernel_rfl) (by kernel_rfl) (fun _ _ _ h => h) (Or.inl ⟨by rfl, ?_⟩) hH ?_
  rotate_left
  · ((intro W hW; clear hW; go_simp) <;> with_reducible rfl)
  simp only [sq3, sq4]
  refine wpAnyH_take (i := 4) (v := ?_) rfl (by kernel_rfl) (by kernel_rfl) (by kernel_rfl) (fun _ _ _ h => h) (Or.inl ⟨by rfl, ?_⟩) hH ?_
  rotate_left
  · ((intro W hW; have hk := cell_lit (hW.2) 2 _ rfl; clear hW; go_simp) <;> with_reducible rfl)
  simp only [sq3, sq4]
  refine wpAnyH_take (i := 5) (v := ?_) rfl (by kernel_rfl) (by kernel_rfl) (by kernel_rfl) (fun _ _ _ h => h) (Or.inl ⟨by rfl, ?_⟩) hH ?_
  rotate_left
  · ((intro W hW; clear hW; go_simp) <;> with_reducible rfl)
  simp only [sq3, sq4]
  refine wpAnyH_take (i := 6) (v := ?_) rfl (by kernel_rfl) (by kernel_rfl) (by kernel_rfl) (fun _ _ _ h => h) (Or.inl ⟨by rfl, ?_⟩) hH ?_
  rotate_left
  · ((intro W hW; clear hW; go_simp) <;> with_reducible rfl)
  simp only [sq3, sq4]
  refine wpAnyH_take (i := 7) (v := undef) rfl (by kernel_rfl) (by kernel_rfl) (by kernel_rfl) (fun _ _ _ h => h) (Or.inr ⟨by rfl, rfl⟩) hH ?_
  simp only [sq3, sq4]
  refine wpAnyH_take (i := 8) (v := undef) rfl (by kernel_rfl) (by kernel_rfl) (by kernel_rfl) (fun _ _ _ h => h) (Or.inr ⟨by rfl, rfl⟩) hH ?_
  simp only [sq3, sq4]
  refine wpAnyH_take (i := 9) (v := ?_) rfl (by kernel_rfl) (by kernel_rfl) (by kernel_rfl) (fun _ _ _ h => h) (Or.inl ⟨by rfl, ?_⟩) hH ?_
  rotate_left
  · ((intro W hW; clear hW; go_simp) <;> with_reducible rfl)
  simp only [sq3, sq4]
  refine wpAnyH_done (by kernel_rfl) ?_ _
  go_wp2_with fail
  exact bodyPost_ret (results_none rfl _ _ _) rfl ⟨rfl, ⟨A, n, c, mb, htb, otb, hM, own, HOK.out⟩, fo.fr htb, bel⟩
set_option linter.unusedVariables false in
set_option linter.unusedSimpArgs false in
set_option maxRecDepth 100000 in
set_option maxHeartbeats 16000000 in
theorem tadv_no2 {lo gt : Nat} {lw rm now : Int} {l os : List Mp} (t : Int) (w : World) (hT : Tp lo gt w ⟨lw, rm, now, l, os⟩) (h1 : now < t) (h2 : ¬ t ≤ 1099511627776) : Calls Tryz.prog 56 #[.pointer (some ⟨gt, 0, none⟩), .int .i64 t] w fun e w' => e = .returned (.tuple #[]) ∧ Tp lo gt w' ⟨lw, rm, now, l, os⟩ ∧ Fap gt w w' ∧ Below lo w w' := by
  have hlo : lo ≤ w.heap.size := hT.lo_le
  have HLO := Lib.hid hlo
  obtain ⟨A, n, c, mb, htb, otb, hM, own, hok⟩ := hT
  dsimp only at htb hM own
  have off_tb := ofs_type own htb (by decide)
  have hl := row_len (by decide) mpE_len own
  have HLL := Lib.hid hl
  have HOK := Lib.hid hok
  have H32 : Hid (n ≤ 1000) := Lib.hid (by have h1_ := hok.len; have h2_ := hok.r1; simp only at h1_ h2_; omega)
  have H128 : Hid (n ≤ 128) := Lib.hid (by have h1_ := hok.len; have h2_ := hok.r1; simp only at h1_ h2_; omega)
  clear hl hok
  have fo := Fo.refl htb
  have h3 : decide (t ≤ now) = false := decide_eq_false (by omega)
  have h4 : t > 1099511627776 := by omega
  clear h1 h2
  have bel := Below.refl lo w
  go_enter Tryz.func56, Tryz.ntmps56
  go_wp2_with (first | ((with_reducible show wpList _ _ _ (⟨some 3, _, _, _, _, _⟩ :: _) _ _); refine wpList_box_n rfl 2 (.tmp 1) rfl #[.int .i64 t] rfl ?_; intro g3 w1 ge lt hh bb; have d_tb_nb := ne_new (hlt htb) ge; have onb := Nat.le_trans (Nat.le_trans hlo bel.size) ge; have off_nb := owk_new own ge; have pn_nb := Nat.le_trans bel.size ge; replace htb := blk_u htb bb; replace own := owk_under own bb; replace fo := fo.below bb; replace hM := hM.below bb; replace bel := bel.trans (bb.mono (Nat.le_trans hlo bel.size)); have hnb := hh; clear hh lt ge bb))
  replace bel := bel.drew
  replace htb : w1.drew.heap[gt]? = _ := htb
  replace hnb : w1.drew.heap[g3]? = _ := hnb
  replace own := World.ownsRow.drew own
  replace fo := fo_drew fo
  replace hM := om_drew hM
  refine wp_region_held_drew (S := fun W => W.heap[g3]? = some (.cells #[.int .i64 t] 2 (0, 0)) ∧ W.heap[gt]? = some (.cells #[.int .i64 lw, .int .i64 rm, .int .i64 now, .slice A n c, .map (some mb)] 76 (0, 0))) (by kernel_rfl) ⟨hnb, htb⟩ (fun hH => ?_)
  generalize w1.drew = w2 at bel htb hnb own fo hM hH ⊢
  refine wpAnyH_take (i := 0) (v := ?_) rfl (by kernel_rfl) (by kernel_rfl) (by kernel_rfl) (fun _ _ _ h => h) (Or.inl ⟨by rfl, ?_⟩) hH ?_
  rotate_left
  · ((intro W hW; have hk := cell_lit (hW.1) 0 _ rfl; clear hW; go_simp) <;> with_reducible rfl)
  simp only [Act.put, List.getElem_toArray, List.getElem_cons_zero, List.setIfInBounds_toArray, List.set_cons_zero, List.set_cons_succ]
  refine wpAnyH_take (i := 1) (v := ?_) rfl (by kernel_rfl) (by kernel_rfl) (by kernel_rfl) (fun _ _ _ h => h) (Or.inl ⟨by rfl, ?_⟩) hH ?_
  rotate_left
  · ((intro W hW; clear hW; go_simp) <;> with_reducible rfl)
  simp only [sq3, sq4]
  refine wpAnyH_take (i := 2) (v := ?_) rfl (by kernel_rfl) (by kernel_rfl) (by kernel_rfl) (fun _ _ _ h => h) (Or.inl ⟨by rfl, ?_⟩) hH ?_
  rotate_left
  · ((intro W hW; clear hW; go_simp) <;> with_reducible rfl)
  simp only [sq3, sq4]
  refine wpAnyH_take (i := 3) (v := ?_) rfl (by kernel_rfl) (by kernel_rfl) (by kernel_rfl) (fun _ _ _ h => h) (Or.inl ⟨by rfl, ?_⟩) hH ?_
  rotate_left
  · ((intro W hW; clear hW; go_simp) <;> with_reducible rfl)
  simp only [sq3, sq4]
  refine wpAnyH_take (i := 4) (v := ?_) rfl (by kernel_rfl) (by kernel_rfl) (by kernel_rfl) (fun _ _ _ h => h) (Or.inl ⟨by rfl, ?_⟩) hH ?_
  rotate_left
  · ((intro W hW; have hk := cell_lit (hW.2) 2 _ rfl; clear hW; go_simp) <;> with_reducible rfl)
  simp only [sq3, sq4]
  refine wpAnyH_take (i := 5) (v := ?_) rfl (by kernel_rfl) (by kernel_rfl) (by kernel_rfl) (fun _ _ _ h => h) (Or.inl ⟨by rfl, ?_⟩) hH ?_
  rotate_left
  · ((intro W hW; clear hW; go_simp) <;> with_reducible rfl)
  simp only [sq3, sq4]
  refine wpAnyH_take (i := 6) (v := ?_) rfl (by kernel_rfl) (by kernel_rfl) (by kernel_rfl) (fun _ _ _ h => h) (Or.inl ⟨by rfl, ?_⟩) hH ?_
  rotate_left
  · ((intro W hW; clear hW; go_simp) <;> with_reducible rfl)
  simp only [sq3, sq4]
  refine wpAnyH_take (i := 7) (v := ?_) rfl (by kernel_rfl) (by kernel_rfl) (by kernel_rfl) (fun _ _ _ h => h) (Or.inl ⟨by rfl, ?_⟩) hH ?_
  rotate_left
  · ((intro W hW; have hk := cell_lit (hW.1) 0 _ rfl; clear hW; go_simp) <;> with_reducible rfl)
  simp only [sq3, sq4]
  refine wpAnyH_take (i := 8) (v := ?_) rfl (by kernel_rfl) (by kernel_rfl) (by kernel_rfl) (fun _ _ _ h => h) (Or.inl ⟨by rfl, ?_⟩) hH ?_
  rotate_left
  · ((intro W hW; clear hW; go_simp) <;> with_reducible rfl)
  simp only [sq3, sq4]
  refine wpAnyH_take (i := 9) (v := ?_) rfl (by kernel_rfl) (by kernel_rfl) (by kernel_rfl) (fun _ _ _ h => h) (Or.inl ⟨by rfl, ?_⟩) hH ?_
  rotate_left
  · ((intro W hW; clear hW; go_simp) <;> with_reducible rfl)
  simp only [sq3, sq4]
  refine wpAnyH_done (by kernel_rfl) ?_ _
  go_wp2_with fail
  exact bodyPost_ret (results_none rfl _ _ _) rfl ⟨rfl, ⟨A, n, c, mb, htb, otb, hM, own, HOK.out⟩, fo.fr htb, bel⟩
set_option linter.unusedVariables false in
set_option linter.unusedSimpArgs false in
set_option maxRecDepth 100000 in
set_option maxHeartbeats 16000000 in
theorem tadv_yes {lo gt : Nat} {lw rm now : Int} {l os : List Mp} (t : Int) (w : World) (hT : Tp lo gt w ⟨lw, rm, now, l, os⟩) (h1 : now < t) (h2 : t ≤ 1099511627776) : Calls Tryz.prog 56 #[.pointer (some ⟨gt, 0, none⟩), .int .i64 t] w fun e w' => e = .returned (.tuple #[]) ∧ Tp lo gt w' ⟨lw, rm, t, l.filter (liveB t), overs l t os⟩ ∧ Fap gt w w' ∧ Below lo w w' := by
  have hlo : lo ≤ w.heap.size := hT.lo_le
  have HLO := Lib.hid hlo
  obtain ⟨A, n, c, mb, htb, otb, hM, own, hok⟩ := hT
  dsimp only at htb hM own
  have off_tb := ofs_type own htb (by decide)
  have hl := row_len (by decide) mpE_len own
  have HLL := Lib.hid hl
  have HOK := Lib.hid hok
  have H32 : Hid (n ≤ 1000) := Lib.hid (by have h1_ := hok.len; have h2_ := hok.r1; simp only at h1_ h2_; omega)
  have H128 : Hid (n ≤ 128) := Lib.hid (by have h1_ := hok.len; have h2_ := hok.r1; simp only at h1_ h2_; omega)
  clear hl hok
  have fo := Fo.refl htb
  have HC : Hid (now < t ∧ t ≤ 1099511627776) := Lib.hid ⟨h1, h2⟩
  have h3 : decide (t ≤ now) = false := decide_eq_false (by omega)
  have h4 : decide (t > 1099511627776) = false := decide_eq_false (by omega)
  clear h1 h2
  have bel := Below.refl lo w
  go_enter Tryz.func56, Tryz.ntmps56
  go_wp2_with (first | ((with_reducible show wpList _ _ _ (⟨some 3, _, _, _, _, _⟩ :: _) _ _); refine wpList_box_n rfl 2 (.tmp 1) rfl #[.int .i64 t] rfl ?_; intro g3 w1 ge lt hh bb; have d_tb_nb := ne_new (hlt htb) ge; have onb := Nat.le_trans (Nat.le_trans hlo bel.size) ge; have off_nb := owk_new own ge; have pn_nb := Nat.le_trans bel.size ge; replace htb := blk_u htb bb; replace own := owk_under own bb; replace fo := fo.below bb; replace hM := hM.below bb; replace bel := bel.trans (bb.mono (Nat.le_trans hlo bel.size)); have hnb := hh; clear hh lt ge bb))
  replace bel := bel.drew
  replace htb : w1.drew.heap[gt]? = _ := htb
  replace hnb : w1.drew.heap[g3]? = _ := hnb
  replace own := World.ownsRow.drew own
  replace fo := fo_drew fo
  replace hM := om_drew hM
  refine wp_region_held_drew (S := fun W => W.heap[g3]? = some (.cells #[.int .i64 t] 2 (0, 0)) ∧ W.heap[gt]? = some (.cells #[.int .i64 lw, .int .i64 rm, .int .i64 now, .slice A n c, .map (some mb)] 76 (0, 0))) (by kernel_rfl) ⟨hnb, htb⟩ (fun hH => ?_)
  generalize w1.drew = w2 at bel htb hnb own fo hM hH ⊢
  refine wpAnyH_take (i := 0) (v := ?_) rfl (by kernel_rfl) (by kernel_rfl) (by kernel_rfl) (fun _ _ _ h => h) (Or.inl ⟨by rfl, ?_⟩) hH ?_
  rotate_left
  · ((intro W hW; have hk := cell_lit (hW.1) 0 _ rfl; clear hW; go_simp) <;> with_reducible rfl)
  simp only [Act.put, List.getElem_toArray, List.getElem_cons_zero, List.setIfInBounds_toArray, List.set_cons_zero, List.set_cons_succ]
  refine wpAnyH_take (i := 1) (v := ?_) rfl (by kernel_rfl) (by kernel_rfl) (by kernel_rfl) (fun _ _ _ h => h) (Or.inl ⟨by rfl, ?_⟩) hH ?_
  rotate_left
  · ((intro W hW; clear hW; go_simp) <;> with_reducible rfl)
  simp only [sq3, sq4]
  refine wpAnyH_take (i := 2) (v := ?_) rfl (by kernel_rfl) (by kernel_rfl) (by kernel_rfl) (fun _ _ _ h => h) (Or.inl ⟨by rfl, ?_⟩) hH ?_
  rotate_left
  · ((intro W hW; clear hW; go_simp) <;> with_reducible rfl)
  simp only [sq3, sq4]
  refine wpAnyH_take (i := 3) (v := ?_) rfl (by kernel_rfl) (by kernel_rfl) (by kernel_rfl) (fun _ _ _ h => h) (Or.inl ⟨by rfl, ?_⟩) hH ?_
  rotate_left
  · ((intro W hW; clear hW; go_simp) <;> with_reducible rfl)
  simp only [sq3, sq4]
  refine wpAnyH_take (i := 4) (v := ?_) rfl (by kernel_rfl) (by kernel_rfl) (by kernel_rfl) (fun _ _ _ h => h) (Or.inl ⟨by rfl, ?_⟩) hH ?_
  rotate_left
  · ((intro W hW; have hk := cell_lit (hW.2) 2 _ rfl; clear hW; go_simp) <;> with_reducible rfl)
  simp only [sq3, sq4]
  refine wpAnyH_take (i := 5) (v := ?_) rfl (by kernel_rfl) (by kernel_rfl) (by kernel_rfl) (fun _ _ _ h => h) (Or.inl ⟨by rfl, ?_⟩) hH ?_
  rotate_left
  · ((intro W hW; clear hW; go_simp) <;> with_reducible rfl)
  simp only [sq3, sq4]
  refine wpAnyH_take (i := 6) (v := ?_) rfl (by kernel_rfl) (by kernel_rfl) (by kernel_rfl) (fun _ _ _ h => h) (Or.inl ⟨by rfl, ?_⟩) hH ?_
  rotate_left
  · ((intro W hW; clear hW; go_simp) <;> with_reducible rfl)
  simp only [sq3, sq4]
  refine wpAnyH_take (i := 7) (v := ?_) rfl (by kernel_rfl) (by kernel_rfl) (by kernel_rfl) (fun _ _ _ h => h) (Or.inl ⟨by rfl, ?_⟩) hH ?_
  rotate_left
  · ((intro W hW; have hk := cell_lit (hW.1) 0 _ rfl; clear hW; go_simp) <;> with_reducible rfl)
  simp only [sq3, sq4]
  refine wpAnyH_take (i := 8) (v := ?_) rfl (by kernel_rfl) (by kernel_rfl) (by kernel_rfl) (fun _ _ _ h => h) (Or.inl ⟨by rfl, ?_⟩) hH ?_
  rotate_left
  · ((intro W hW; clear hW; go_simp) <;> with_reducible rfl)
  simp only [sq3, sq4]
  refine wpAnyH_take (i := 9) (v := ?_) rfl (by kernel_rfl) (by kernel_rfl) (by kernel_rfl) (fun _ _ _ h => h) (Or.inl ⟨by rfl, ?_⟩) hH ?_
  rotate_left
  · ((intro W hW; clear hW; go_simp) <;> with_reducible rfl)
  simp only [sq3, sq4]
  refine wpAnyH_done (by kernel_rfl) ?_ _
  have R18 := cell_lit hnb 0 _ rfl
  go_wp2_with (first | ((with_reducible show wpList _ _ _ (⟨none, Op.store _ (.tmp 20) _, _, _, _, _⟩ :: _) _ _); refine wpList_store_part rfl 2 (.tmp 20) (.tmp 18) rfl gt 2 rfl [.int .i64 t] rfl [.int .i64 lw, .int .i64 rm, .int .i64 now, .slice A n c, .map (some mb)] 76 htb (by simp) [.int .i64 lw, .int .i64 rm, .int .i64 t, .slice A n c, .map (some mb)] rfl (by kernel_rfl) (by rfl) ?_; intro w3 hq gr; replace hnb := blk_a hnb gr (ne_symm d_tb_nb); replace own := owk_off own off_tb gr; replace fo := fo.tb gr; replace hM := hM.grown gr htb; replace bel := below_grown bel gr otb (Nat.le_trans hlo bel.size); clear htb; have htb := hq; clear hq gr; have R25 := cell_lit htb 3 _ rfl))
  try clear R18
  try clear R25
  go_loopg [27] (n) (fun gk s27 wr => ∃ k : Nat, gk = n - k ∧ k ≤ n ∧ wr.ownsRow lo 65 9 (.slice A n c) n (l.flatMap mpE) ∧ Fo gt w wr (.slice A n c) ∧ Om lo mb wr (overs (l.take k) t os) ∧ s27 = .int .i64 (k : Int) ∧ wr.heap[gt]? = some (.cells #[.int .i64 lw, .int .i64 rm, .int .i64 t, .slice A n c, .map (some mb)] 76 (0, 0)) ∧ wr.heap[g3]? = some (.cells #[.int .i64 t] 2 (0, 0)) ∧ Below lo w wr)
  case atStart => exact ⟨0, Nat.sub_zero _, Nat.zero_le _, own, fo, hM, rfl, htb, hnb, bel⟩
  case round =>
    clear own fo hM htb hnb bel
    obtain ⟨k, HGK, hkn, own, fo, hM, rfl, htb, hnb, bel⟩ := hrel
    have HGK_ := Lib.hid HGK
    clear HGK
    by_cases h : k < n
    rotate_left
    · obtain rfl : n = k := by omega
      replace h : decide (n < n) = false := decide_eq_false (by omega)
      have HT1 : Hid (l.take n = l) := Lib.hid (List.take_of_length_le (Nat.le_of_eq HLL.out))
      rw [HT1.out] at hM
      have HOK2 : Hid (Ts.ok ⟨lw, rm, t, l.filter (liveB t), overs l t os⟩) := Lib.hid (by have h_ := HOK.out.adv t; unfold Ts.adv at h_; rw [if_pos HC.out] at h_; exact h_)
      have R46 := cell_lit htb 3 _ rfl
      go_wp2_with fail
      clear R46
      have HLO_ := Nat.le_trans HLO.out bel.size
      with_reducible refine (dela_any _ HLO_ hnb own H32.out).mono ?_
      rintro e w4 ⟨n3, rfl, own_, gw, ofw⟩
      replace bel := bel.trans (row_bel gw own (Nat.le_trans hlo bel.size))
      have off_tb_ := ofw _ (hlt htb) off_tb
      replace htb := blk_own (v := .slice A n c) htb gw off_tb
      clear off_tb
      have off_tb := off_tb_
      clear off_tb_
      have off_nb_ := ofw _ (hlt hnb) off_nb
      replace hnb := blk_own (v := .slice A n c) hnb gw off_nb
      clear off_nb
      have off_nb := off_nb_
      clear off_nb_
      replace fo := fo.row gw ofw
      replace hM := hM.row gw own
      clear own
      have own := own_
      clear own_ gw ofw
      clear HLO_
      go_wp2_with (first | ((with_reducible show wpList _ _ _ (⟨none, Op.store _ (.tmp 50) _, _, _, _, _⟩ :: _) _ _); refine wpList_store_part rfl 74 (.tmp 50) (.tmp 48) rfl gt 3 rfl [.slice A n3 c] rfl [.int .i64 lw, .int .i64 rm, .int .i64 t, .slice A n c, .map (some mb)] 76 htb (by simp) [.int .i64 lw, .int .i64 rm, .int .i64 t, .slice A n3 c, .map (some mb)] rfl (by kernel_rfl) (by rfl) ?_; intro w5 hq gr; replace hnb := blk_a hnb gr (ne_symm d_tb_nb); replace own := owk_off own off_tb gr; replace fo := fo.tb gr; replace hM := hM.grown gr htb; replace bel := below_grown bel gr otb (Nat.le_trans hlo bel.size); clear htb; have htb := hq; clear hq gr))
      exact bodyPost_end (results_none rfl _ _ _) rfl ⟨rfl, ⟨A, n3, c, mb, htb, otb, hM, (by have h_ := own; rw [dead_live] at h_; exact h_), HOK2.out⟩, fo.fr htb, bel⟩
    obtain ⟨x, hx⟩ : ∃ x, l[k]? = some x := ⟨_, List.getElem?_eq_getElem (by have := HLL.out; omega)⟩
    have HX := Lib.hid hx
    have HXO : Hid x.okp := Lib.hid (HOK.out.okp x (List.mem_of_getElem? hx))
    have k0 : (0 : Int) ≤ k := by omega
    have k1 : (k : Int) < n := by omega
    have k128 : (k : Int) ≤ 128 := by have := H128.out; omega
    obtain ⟨gE, rfl, _⟩ := row_at own (by omega)
    have en := (owk_sle (by decide) mpE_len own).1
    have av_en_tb := owk_av own off_tb
    have av_en_nb := owk_av own off_nb
    clear hx
    rcases hb : deadB t x with _ | _
    · have HG := Lib.hid hb
      clear hb
      have R30 := Lib.hid (Sle.zrange0 en HX.out 9 [.int .i64 x.pr, .int .i64 x.o, .int .u8 (x.ad.a.toNat : Int), .int .u8 (x.ad.b.toNat : Int), .int .u8 (x.ad.c.toNat : Int), .int .u8 (x.ad.d.toNat : Int), .int .i64 x.i, .int .i64 x.k, .int .i64 x.u] rfl)
      go_wp2_with (first | ((with_reducible show wpList _ _ _ (⟨some 30, _, _, _, _, _⟩ :: _) _ _); refine wpList_load_rng 65 (.tmp 29) rfl (by kernel_rfl) _ _ rfl _ R30.out _ Tryz.underlying65 rfl (by kernel_rfl) ?_) | ((with_reducible show wpList _ _ _ (⟨some 6, _, _, _, _, _⟩ :: _) _ _); refine wpList_new_a rfl 65 rfl #[.int .i64 0, .int .i64 0, .int .u8 0, .int .u8 0, .int .u8 0, .int .u8 0, .int .i64 0, .int .i64 0, .int .i64 0] (by kernel_rfl) ?_; intro g6 w4 ge hh bb; have d_tb_vb := ne_new (hlt htb) ge; have d_nb_vb := ne_new (hlt hnb) ge; have av_en_vb := en.av_new ge; have ovb := Nat.le_trans (Nat.le_trans hlo bel.size) ge; have off_vb := owk_new own ge; have pn_vb := Nat.le_trans bel.size ge; replace htb := blk_u htb bb; replace hnb := blk_u hnb bb; replace en := en.below bb; replace own := owk_under own bb; replace fo := fo.below bb; replace hM := hM.below bb; replace bel := bel.trans (bb.mono (Nat.le_trans hlo bel.size)); have hvb := hh; clear hh ge bb) | ((with_reducible show wpList _ _ _ (⟨none, Op.store _ (.tmp 6) _, _, _, _, _⟩ :: _) _ _); refine wpList_store_blk rfl 65 (.tmp 6) (.tmp 30) rfl g6 rfl _ rfl _ 65 hvb (by rfl) (by kernel_rfl) (by kernel_rfl) ?_; intro w5 hq gr; replace en := en.away av_en_vb gr; replace htb := blk_a htb gr d_tb_vb; replace hnb := blk_a hnb gr d_nb_vb; replace own := owk_off own off_vb gr; replace fo := fo.newer gr pn_vb; replace hM := hM.grown gr hvb; replace bel := below_grown bel gr ovb (Nat.le_trans hlo bel.size); clear hvb; have hvb := hq; clear hq gr; have R32 := Lib.hid (range_lit hvb 0 9 [.int .i64 x.pr, .int .i64 x.o, .int .u8 (x.ad.a.toNat : Int), .int .u8 (x.ad.b.toNat : Int), .int .u8 (x.ad.c.toNat : Int), .int .u8 (x.ad.d.toNat : Int), .int .i64 x.i, .int .i64 x.k, .int .i64 x.u] rfl)) | ((with_reducible show wpList _ _ _ (⟨some 32, _, _, _, _, _⟩ :: _) _ _); refine wpList_load_rng 65 (.tmp 6) rfl (by kernel_rfl) _ _ rfl _ R32.out _ Tryz.underlying65 rfl (by kernel_rfl) ?_))
      try clear R30
      try clear R32
      with_reducible refine (clf_a x _ hnb).mono ?_
      rintro e w6 ⟨rfl, b6⟩
      replace htb := blk_u htb b6
      replace hnb := blk_u hnb b6
      replace hvb := blk_u hvb b6
      replace en := en.below b6
      replace own := owk_under own b6
      replace fo := fo.below b6
      replace hM := hM.below b6
      replace bel := bel.trans (b6.mono (Nat.le_trans hlo bel.size))
      clear b6
      rw [HG.out]
      go_wp2_with fail
      go_roundg (n - (k + 1))
      case measure => have := HGK_.out; omega
      case rel => exact ⟨k + 1, rfl, by omega, own, fo, (by rw [overs_skip HX.out HG.out]; exact hM), by go_num, htb, hnb, bel⟩
    have HG := Lib.hid hb
    clear hb
    have R30 := Lib.hid (Sle.zrange0 en HX.out 9 [.int .i64 x.pr, .int .i64 x.o, .int .u8 (x.ad.a.toNat : Int), .int .u8 (x.ad.b.toNat : Int), .int .u8 (x.ad.c.toNat : Int), .int .u8 (x.ad.d.toNat : Int), .int .i64 x.i, .int .i64 x.k, .int .i64 x.u] rfl)
    go_wp2_with (first | ((with_reducible show wpList _ _ _ (⟨some 30, _, _, _, _, _⟩ :: _) _ _); refine wpList_load_rng 65 (.tmp 29) rfl (by kernel_rfl) _ _ rfl _ R30.out _ Tryz.underlying65 rfl (by kernel_rfl) ?_) | ((with_reducible show wpList _ _ _ (⟨some 6, _, _, _, _, _⟩ :: _) _ _); refine wpList_new_a rfl 65 rfl #[.int .i64 0, .int .i64 0, .int .u8 0, .int .u8 0, .int .u8 0, .int .u8 0, .int .i64 0, .int .i64 0, .int .i64 0] (by kernel_rfl) ?_; intro g6 w4 ge hh bb; have d_tb_vb := ne_new (hlt htb) ge; have d_nb_vb := ne_new (hlt hnb) ge; have av_en_vb := en.av_new ge; have ovb := Nat.le_trans (Nat.le_trans hlo bel.size) ge; have off_vb := owk_new own ge; have pn_vb := Nat.le_trans bel.size ge; replace htb := blk_u htb bb; replace hnb := blk_u hnb bb; replace en := en.below bb; replace own := owk_under own bb; replace fo := fo.below bb; replace hM := hM.below bb; replace bel := bel.trans (bb.mono (Nat.le_trans hlo bel.size)); have hvb := hh; clear hh ge bb) | ((with_reducible show wpList _ _ _ (⟨none, Op.store _ (.tmp 6) _, _, _, _, _⟩ :: _) _ _); refine wpList_store_blk rfl 65 (.tmp 6) (.tmp 30) rfl g6 rfl _ rfl _ 65 hvb (by rfl) (by kernel_rfl) (by kernel_rfl) ?_; intro w5 hq gr; replace en := en.away av_en_vb gr; replace htb := blk_a htb gr d_tb_vb; replace hnb := blk_a hnb gr d_nb_vb; replace own := owk_off own off_vb gr; replace fo := fo.newer gr pn_vb; replace hM := hM.grown gr hvb; replace bel := below_grown bel gr ovb (Nat.le_trans hlo bel.size); clear hvb; have hvb := hq; clear hq gr; have R32 := Lib.hid (range_lit hvb 0 9 [.int .i64 x.pr, .int .i64 x.o, .int .u8 (x.ad.a.toNat : Int), .int .u8 (x.ad.b.toNat : Int), .int .u8 (x.ad.c.toNat : Int), .int .u8 (x.ad.d.toNat : Int), .int .i64 x.i, .int .i64 x.k, .int .i64 x.u] rfl)) | ((with_reducible show wpList _ _ _ (⟨some 32, _, _, _, _, _⟩ :: _) _ _); refine wpList_load_rng 65 (.tmp 6) rfl (by kernel_rfl) _ _ rfl _ R32.out _ Tryz.underlying65 rfl (by kernel_rfl) ?_))
    try clear R30
    try clear R32
    with_reducible refine (clf_a x _ hnb).mono ?_
    rintro e w6 ⟨rfl, b6⟩
    replace htb := blk_u htb b6
    replace hnb := blk_u hnb b6
    replace hvb := blk_u hvb b6
    replace en := en.below b6
    replace own := owk_under own b6
    replace fo := fo.below b6
    replace hM := hM.below b6
    replace bel := bel.trans (b6.mono (Nat.le_trans hlo bel.size))
    clear b6
    rw [HG.out]
    go_wp2_with fail
    replace bel := bel.drew
    replace htb : w6.drew.heap[gt]? = _ := htb
    replace hnb : w6.drew.heap[g3]? = _ := hnb
    replace hvb : w6.drew.heap[g6]? = _ := hvb
    replace en := en.drew
    replace own := World.ownsRow.drew own
    replace fo := fo_drew fo
    replace hM := om_drew hM
    refine wp_region_held_drew (S := fun W => W.heap[gt]? = some (.cells #[.int .i64 lw, .int .i64 rm, .int .i64 t, .slice (some ⟨gE, 0, none⟩) n c, .map (some mb)] 76 (0, 0)) ∧ W.heap[g6]? = some (.cells #[.int .i64 x.pr, .int .i64 x.o, .int .u8 (x.ad.a.toNat : Int), .int .u8 (x.ad.b.toNat : Int), .int .u8 (x.ad.c.toNat : Int), .int .u8 (x.ad.d.toNat : Int), .int .i64 x.i, .int .i64 x.k, .int .i64 x.u] 65 (0, 0))) (by kernel_rfl) ⟨htb, hvb⟩ (fun hH => ?_)
    generalize w6.drew = w7 at bel htb hnb hvb en own fo hM hH ⊢
    refine wpAnyH_take (i := 0) (v := ?_) rfl (by kernel_rfl) (by kernel_rfl) (by kernel_rfl) (fun _ _ _ h => h) (Or.inl ⟨by rfl, ?_⟩) hH ?_
    rotate_left
    · ((intro W hW; clear hW; go_simp) <;> with_reducible rfl)
    simp only [Act.put, List.getElem_toArray, List.getElem_cons_zero, List.setIfInBounds_toArray, List.set_cons_zero, List.set_cons_succ]
    refine wpAnyH_take (i := 1) (v := ?_) rfl (by kernel_rfl) (by kernel_rfl) (by kernel_rfl) (fun _ _ _ h => h) (Or.inl ⟨by rfl, ?_⟩) hH ?_
    rotate_left
    · ((intro W hW; clear hW; go_simp) <;> with_reducible rfl)
    simp only [sq3, sq4]
    refine wpAnyH_take (i := 2) (v := ?_) rfl (by kernel_rfl) (by kernel_rfl) (by kernel_rfl) (fun _ _ _ h => h) (Or.inl ⟨by rfl, ?_⟩) hH ?_
    rotate_left
    · ((intro W hW; clear hW; go_simp) <;> with_reducible rfl)
    simp only [sq3, sq4]
    refine wpAnyH_take (i := 3) (v := ?_) rfl (by kernel_rfl) (by kernel_rfl) (by kernel_rfl) (fun _ _ _ h => h) (Or.inl ⟨by rfl, ?_⟩) hH ?_
    rotate_left
    · ((intro W hW; have hk := cell_lit (hW.1) 4 _ rfl; clear hW; go_simp) <;> with_reducible rfl)
    simp only [sq3, sq4]
    refine wpAnyH_take (i := 4) (v := .agg #[.int .i64 x.pr, .int .i64 x.o, .int .u8 (x.ad.a.toNat : Int), .int .u8 (x.ad.b.toNat : Int), .int .u8 (x.ad.c.toNat : Int), .int .u8 (x.ad.d.toNat : Int), .int .i64 x.i, .int .i64 x.k, .int .i64 x.u]) rfl (by kernel_rfl) (by kernel_rfl) (by kernel_rfl) (fun _ _ _ h => h) (yieldsIf_load_part (by kernel_rfl) 65 _ rfl g6 0 9 rfl _ 65 (0, 0) (fun W hW => hW.2) _ rfl _ Tryz.underlying65 rfl (by kernel_rfl)) hH ?_
    simp only [sq3, sq4]
    refine wpAnyH_take (i := 6) (v := .agg #[.int .i64 x.pr, .int .i64 x.o, .int .u8 (x.ad.a.toNat : Int), .int .u8 (x.ad.b.toNat : Int), .int .u8 (x.ad.c.toNat : Int), .int .u8 (x.ad.d.toNat : Int), .int .i64 x.i, .int .i64 x.k, .int .i64 x.u]) rfl (by kernel_rfl) (by kernel_rfl) (by kernel_rfl) (fun _ _ _ h => h) (yieldsIf_load_part (by kernel_rfl) 65 _ rfl g6 0 9 rfl _ 65 (0, 0) (fun W hW => hW.2) _ rfl _ Tryz.underlying65 rfl (by kernel_rfl)) hH ?_
    simp only [sq3, sq4]
    refine wpAnyH_ready (rs := [5]) (by kernel_rfl) (by simp) ?_
    refine AllReadyH.cons (o := _) rfl (fun K hK => ?_) AllReadyH.nil
    simp only [sq3]
    go_simp
    with_reducible refine (mport_any x _).mono ?_
    rintro e w8 ⟨rfl, b8⟩
    dsimp only
    replace htb := blk_u htb b8
    replace hnb := blk_u hnb b8
    replace hvb := blk_u hvb b8
    replace en := en.below b8
    replace own := owk_under own b8
    replace fo := fo.below b8
    replace hM := hM.below b8
    replace bel := bel.trans (b8.mono (Nat.le_trans hlo bel.size))
    clear b8
    refine hK.out _ _ ⟨htb, hvb⟩ (fun hH9 => ?_)
    clear hK K
    refine wpAnyH_ready (rs := [7]) (by kernel_rfl) (by simp) ?_
    refine AllReadyH.cons (o := _) rfl (fun K hK => ?_) AllReadyH.nil
    simp only [sq3]
    rw [if_pos (by rfl)]
    refine wp_om_put (.tmp 37) (.tmp 39) (.tmp 40) rfl x rfl rfl rfl hM HXO.out ?_
    intro w70 hM_ gm
    replace htb := hM.blk gm htb
    replace hnb := hM.blk gm hnb
    replace hvb := hM.blk gm hvb
    replace own := hM.own gm own
    replace fo := fo.map hM gm
    replace bel := hM.bel bel gm (Nat.le_trans HLO.out bel.size)
    replace en := (owk_sle (by decide) mpE_len own).1
    clear hM gm
    have hM := hM_
    clear hM_
    refine hK.out _ _ ⟨htb, hvb⟩ (fun hH10 => ?_)
    clear hK K
    simp only [Act.put]
    refine wpAnyH_done (by kernel_rfl) ?_ _
    go_wp2_with fail
    go_roundg (n - (k + 1))
    case measure => have := HGK_.out; omega
    case rel => exact ⟨k + 1, rfl, by omega, own, fo, (by rw [overs_keep HX.out HG.out]; exact hM), by go_num, htb, hnb, bel⟩
theorem tadv_any {lo gt : Nat} {s s1 : Ts} (t : Int) (w : World) (hT : Tp lo gt w s) (ha : s.adv t = s1) : Calls Tryz.prog 56 #[.pointer (some ⟨gt, 0, none⟩), .int .i64 t] w fun e w' => e = .returned (.tuple #[]) ∧ Tp lo gt w' s1 ∧ Fap gt w w' ∧ Below lo w w' := by
  obtain ⟨lw, rm, now, l, os⟩ := s
  subst ha
  unfold Ts.adv
  by_cases h1 : now < t
  · by_cases h2 : t ≤ 1099511627776
    · rw [if_pos ⟨h1, h2⟩]; exact tadv_yes t w hT h1 h2
    · rw [if_neg (by show ¬ (now < t ∧ t ≤ 1099511627776); omega)]; exact tadv_no2 t w hT h1 h2
  · rw [if_neg (by show ¬ (now < t ∧ t ≤ 1099511627776); omega)]; exact tadv_no1 t w hT h1
set_option linter.unusedVariables false in
set_option linter.unusedSimpArgs false in
set_option maxRecDepth 100000 in
set_option maxHeartbeats 16000000 in
theorem tadd_any {lo gt : Nat} {lw rm now : Int} {l os : List Mp} {m : Mp} (w : World) (hT : Tp lo gt w ⟨lw, rm, now, l, os⟩) (hm : m.okp) (hf : mfhas l m.num = false) (hr : (l.length : Int) < rm) : Calls Tryz.prog 63 #[.pointer (some ⟨gt, 0, none⟩), .agg #[.int .i64 m.pr, .int .i64 m.o, .int .u8 (m.ad.a.toNat : Int), .int .u8 (m.ad.b.toNat : Int), .int .u8 (m.ad.c.toNat : Int), .int .u8 (m.ad.d.toNat : Int), .int .i64 m.i, .int .i64 m.k, .int .i64 m.u]] w fun e w' => e = .returned (.tuple #[]) ∧ Tp lo gt w' ⟨lw, rm, now, mins l m, odel os m.num⟩ ∧ Fap gt w w' ∧ Below lo w w' := by
  have hlo : lo ≤ w.heap.size := hT.lo_le
  have HLO := Lib.hid hlo
  obtain ⟨A, n, c, mb, htb, otb, hM, own, hok⟩ := hT
  dsimp only at htb hM own
  have off_tb := ofs_type own htb (by decide)
  have hl := row_len (by decide) mpE_len own
  have HLL := Lib.hid hl
  have HOK := Lib.hid hok
  have H32 : Hid (n ≤ 1000) := Lib.hid (by have h1_ := hok.len; have h2_ := hok.r1; simp only at h1_ h2_; omega)
  have H128 : Hid (n ≤ 128) := Lib.hid (by have h1_ := hok.len; have h2_ := hok.r1; simp only at h1_ h2_; omega)
  clear hl hok
  have fo := Fo.refl htb
  obtain ⟨p, hp⟩ : ∃ p, mfpos l (kn m.pr m.o) = p := ⟨_, rfl⟩
  have HPN : Hid (p ≤ n) := Lib.hid (by rw [← hp, ← HLL.out]; exact mfpos_le _ _)
  have HP := Lib.hid hp
  have HF : Hid (mfhas l (kn m.pr m.o) = false) := Lib.hid hf
  have HMO : Hid (okP m.pr m.o) := Lib.hid hm
  have HOK2 : Hid (Ts.ok ⟨lw, rm, now, mins l m, odel os m.num⟩) := Lib.hid (HOK.out.ins hm hf hr _)
  clear hp hf hm hr
  have bel := Below.refl lo w
  go_enter Tryz.func63, Tryz.ntmps63
  go_wp2_with (first | ((with_reducible show wpList _ _ _ (⟨some 3, _, _, _, _, _⟩ :: _) _ _); refine wpList_box_n rfl 65 (.tmp 1) rfl #[.int .i64 m.pr, .int .i64 m.o, .int .u8 (m.ad.a.toNat : Int), .int .u8 (m.ad.b.toNat : Int), .int .u8 (m.ad.c.toNat : Int), .int .u8 (m.ad.d.toNat : Int), .int .i64 m.i, .int .i64 m.k, .int .i64 m.u] rfl ?_; intro g3 w1 ge lt hh bb; have d_tb_mB := ne_new (hlt htb) ge; have omB := Nat.le_trans (Nat.le_trans hlo bel.size) ge; have off_mB := owk_new own ge; have pn_mB := Nat.le_trans bel.size ge; replace htb := blk_u htb bb; replace own := owk_under own bb; replace fo := fo.below bb; replace hM := hM.below bb; replace bel := bel.trans (bb.mono (Nat.le_trans hlo bel.size)); have hmB := hh; clear hh lt ge bb))
  replace bel := bel.drew
  replace htb : w1.drew.heap[gt]? = _ := htb
  replace hmB : w1.drew.heap[g3]? = _ := hmB
  replace own := World.ownsRow.drew own
  replace fo := fo_drew fo
  replace hM := om_drew hM
  refine wp_region_held_drew (S := fun W => W.heap[gt]? = some (.cells #[.int .i64 lw, .int .i64 rm, .int .i64 now, .slice A n c, .map (some mb)] 76 (0, 0)) ∧ W.heap[g3]? = some (.cells #[.int .i64 m.pr, .int .i64 m.o, .int .u8 (m.ad.a.toNat : Int), .int .u8 (m.ad.b.toNat : Int), .int .u8 (m.ad.c.toNat : Int), .int .u8 (m.ad.d.toNat : Int), .int .i64 m.i, .int .i64 m.k, .int .i64 m.u] 65 (0, 0))) (by kernel_rfl) ⟨htb, hmB⟩ (fun hH => ?_)
  generalize w1.drew = w2 at bel htb hmB own fo hM hH ⊢
  refine wpAnyH_take (i := 0) (v := ?_) rfl (by kernel_rfl) (by kernel_rfl) (by kernel_rfl) (fun _ _ _ h => h) (Or.inl ⟨by rfl, ?_⟩) hH ?_
  rotate_left
  · ((intro W hW; clear hW; go_simp) <;> with_reducible rfl)
  simp only [Act.put, List.getElem_toArray, List.getElem_cons_zero, List.setIfInBounds_toArray, List.set_cons_zero, List.set_cons_succ]
  refine wpAnyH_take (i := 1) (v := ?_) rfl (by kernel_rfl) (by kernel_rfl) (by kernel_rfl) (fun _ _ _ h => h) (Or.inl ⟨by rfl, ?_⟩) hH ?_
  rotate_left
  · ((intro W hW; clear hW; go_simp) <;> with_reducible rfl)
  simp only [sq3, sq4]
  refine wpAnyH_take (i := 2) (v := ?_) rfl (by kernel_rfl) (by kernel_rfl) (by kernel_rfl) (fun _ _ _ h => h) (Or.inl ⟨by rfl, ?_⟩) hH ?_
  rotate_left
  · ((intro W hW; clear hW; go_simp) <;> with_reducible rfl)
  simp only [sq3, sq4]
  refine wpAnyH_take (i := 3) (v := ?_) rfl (by kernel_rfl) (by kernel_rfl) (by kernel_rfl) (fun _ _ _ h => h) (Or.inl ⟨by rfl, ?_⟩) hH ?_
  rotate_left
  · ((intro W hW; have hk := cell_lit (hW.1) 4 _ rfl; clear hW; go_simp) <;> with_reducible rfl)
  simp only [sq3, sq4]
  refine wpAnyH_take (i := 4) (v := .agg #[.int .i64 m.pr, .int .i64 m.o, .int .u8 (m.ad.a.toNat : Int), .int .u8 (m.ad.b.toNat : Int), .int .u8 (m.ad.c.toNat : Int), .int .u8 (m.ad.d.toNat : Int), .int .i64 m.i, .int .i64 m.k, .int .i64 m.u]) rfl (by kernel_rfl) (by kernel_rfl) (by kernel_rfl) (fun _ _ _ h => h) (yieldsIf_load_part (by kernel_rfl) 65 _ rfl g3 0 9 rfl _ 65 (0, 0) (fun W hW => hW.2) _ rfl _ Tryz.underlying65 rfl (by kernel_rfl)) hH ?_
  simp only [sq3, sq4]
  refine wpAnyH_ready (rs := [5]) (by kernel_rfl) (by simp) ?_
  refine AllReadyH.cons (o := _) rfl (fun K hK => ?_) AllReadyH.nil
  simp only [sq3]
  go_simp
  with_reducible refine (mport_any m _).mono ?_
  rintro e w3 ⟨rfl, b3⟩
  dsimp only
  replace htb := blk_u htb b3
  replace hmB := blk_u hmB b3
  replace own := owk_under own b3
  replace fo := fo.below b3
  replace hM := hM.below b3
  replace bel := bel.trans (b3.mono (Nat.le_trans hlo bel.size))
  clear b3
  refine hK.out _ _ ⟨htb, hmB⟩ (fun hH4 => ?_)
  clear hK K
  refine wpAnyH_ready (rs := [6]) (by kernel_rfl) (by simp) ?_
  refine AllReadyH.cons (o := _) rfl (fun K hK => ?_) AllReadyH.nil
  simp only [sq3]
  rw [if_pos (by rfl)]
  refine wp_om_del (.tmp 9) (.tmp 11) rfl m.pr m.o rfl rfl hM HMO.out ?_
  intro w70 hM_ gm
  replace htb := hM.blk gm htb
  replace hmB := hM.blk gm hmB
  replace own := hM.own gm own
  replace fo := fo.map hM gm
  replace bel := hM.bel bel gm (Nat.le_trans HLO.out bel.size)
  clear hM gm
  have hM := hM_
  clear hM_
  refine hK.out _ _ ⟨htb, hmB⟩ (fun hH5 => ?_)
  clear hK K
  simp only [Act.put]
  refine wpAnyH_done (by kernel_rfl) ?_ _
  have R14 := Lib.hid (range_lit hmB 0 9 [.int .i64 m.pr, .int .i64 m.o, .int .u8 (m.ad.a.toNat : Int), .int .u8 (m.ad.b.toNat : Int), .int .u8 (m.ad.c.toNat : Int), .int .u8 (m.ad.d.toNat : Int), .int .i64 m.i, .int .i64 m.k, .int .i64 m.u] rfl)
  go_wp2_with (first | ((with_reducible show wpList _ _ _ (⟨some 14, _, _, _, _, _⟩ :: _) _ _); refine wpList_load_rng 65 (.tmp 3) rfl (by kernel_rfl) _ _ rfl _ R14.out _ Tryz.underlying65 rfl (by kernel_rfl) ?_))
  try clear R14
  with_reducible refine (mport_any m _).mono ?_
  rintro e w6 ⟨rfl, b6⟩
  replace htb := blk_u htb b6
  replace hmB := blk_u hmB b6
  replace own := owk_under own b6
  replace fo := fo.below b6
  replace hM := hM.below b6
  replace bel := bel.trans (b6.mono (Nat.le_trans hlo bel.size))
  clear b6
  go_wp2_with fail
  with_reducible refine (mfind_is m.pr m.o _ htb (owk_sle (by decide) mpE_len own).1 HOK.out.srt HOK.out.okp HMO.out H32.out HP.out HF.out).mono ?_
  rintro e w7 ⟨rfl, b7⟩
  replace htb := blk_u htb b7
  replace hmB := blk_u hmB b7
  replace own := owk_under own b7
  replace fo := fo.below b7
  replace hM := hM.below b7
  replace bel := bel.trans (b7.mono (Nat.le_trans hlo bel.size))
  clear b7
  go_wp2_with fail
  replace bel := bel.drew
  replace htb : w7.drew.heap[gt]? = _ := htb
  replace hmB : w7.drew.heap[g3]? = _ := hmB
  replace own := World.ownsRow.drew own
  replace fo := fo_drew fo
  replace hM := om_drew hM
  refine wp_region_z 11 (S := fun W => W.heap[gt]? = some (.cells #[.int .i64 lw, .int .i64 rm, .int .i64 now, .slice A n c, .map (some mb)] 76 (0, 0)) ∧ W.heap[g3]? = some (.cells #[.int .i64 m.pr, .int .i64 m.o, .int .u8 (m.ad.a.toNat : Int), .int .u8 (m.ad.b.toNat : Int), .int .u8 (m.ad.c.toNat : Int), .int .u8 (m.ad.d.toNat : Int), .int .i64 m.i, .int .i64 m.k, .int .i64 m.u] 65 (0, 0))) (by kernel_rfl) ⟨htb, hmB⟩ (fun hH => ?_)
  generalize w7.drew = w8 at bel htb hmB own fo hM hH ⊢
  refine wpAnyZ_take (i := 0) (v := ?_) rfl (by kernel_rfl) (by kernel_rfl) (by kernel_rfl) (fun _ _ _ h => h) (Or.inl ⟨by rfl, ?_⟩) hH ?_
  rotate_left
  · ((intro W hW; clear hW; go_simp) <;> with_reducible rfl)
  simp only [Act.put, List.getElem_toArray, List.getElem_cons_zero, List.setIfInBounds_toArray, List.set_cons_zero, List.set_cons_succ]
  refine wpAnyZ_take (i := 1) (v := ?_) rfl (by kernel_rfl) (by kernel_rfl) (by kernel_rfl) (fun _ _ _ h => h) (Or.inl ⟨by rfl, ?_⟩) hH ?_
  rotate_left
  · ((intro W hW; clear hW; go_simp) <;> with_reducible rfl)
  simp only [sq3, sq4]
  refine wpAnyZ_take (i := 2) (v := ?_) rfl (by kernel_rfl) (by kernel_rfl) (by kernel_rfl) (fun _ _ _ h => h) (Or.inl ⟨by rfl, ?_⟩) hH ?_
  rotate_left
  · ((intro W hW; clear hW; go_simp) <;> with_reducible rfl)
  simp only [sq3, sq4]
  refine wpAnyZ_take (i := 3) (v := ?_) rfl (by kernel_rfl) (by kernel_rfl) (by kernel_rfl) (fun _ _ _ h => h) (Or.inl ⟨by rfl, ?_⟩) hH ?_
  rotate_left
  · ((intro W hW; clear hW; go_simp) <;> with_reducible rfl)
  simp only [sq3, sq4]
  refine wpAnyZ_take (i := 4) (v := ?_) rfl (by kernel_rfl) (by kernel_rfl) (by kernel_rfl) (fun _ _ _ h => h) (Or.inl ⟨by rfl, ?_⟩) hH ?_
  rotate_left
  · ((intro W hW; have hk := cell_lit (hW.1) 3 _ rfl; clear hW; go_simp) <;> with_reducible rfl)
  simp only [sq3, sq4]
  refine wpAnyZ_take (i := 5) (v := ?_) rfl (by kernel_rfl) (by kernel_rfl) (by kernel_rfl) (fun _ _ _ h => h) (Or.inl ⟨by rfl, ?_⟩) hH ?_
  rotate_left
  · ((intro W hW; clear hW; go_simp) <;> with_reducible rfl)
  simp only [sq3, sq4]
  refine wpAnyZ_take (i := 6) (v := .agg #[.int .i64 m.pr, .int .i64 m.o, .int .u8 (m.ad.a.toNat : Int), .int .u8 (m.ad.b.toNat : Int), .int .u8 (m.ad.c.toNat : Int), .int .u8 (m.ad.d.toNat : Int), .int .i64 m.i, .int .i64 m.k, .int .i64 m.u]) rfl (by kernel_rfl) (by kernel_rfl) (by kernel_rfl) (fun _ _ _ h => h) (yieldsIf_load_part (by kernel_rfl) 65 _ rfl g3 0 9 rfl _ 65 (0, 0) (fun W hW => hW.2) _ rfl _ Tryz.underlying65 rfl (by kernel_rfl)) hH ?_
  simp only [sq3, sq4]
  refine wpAnyZ_ready (rs := [7]) (by kernel_rfl) (by simp) ?_
  refine AllReadyZ.cons (o := _) rfl (fun K hK => ?_) AllReadyZ.nil
  simp only [sq3]
  rw [if_pos (by rfl)]
  refine wp_lit_n 74 65 1 _ rfl #[.int .i64 m.pr, .int .i64 m.o, .int .u8 (m.ad.a.toNat : Int), .int .u8 (m.ad.b.toNat : Int), .int .u8 (m.ad.c.toNat : Int), .int .u8 (m.ad.d.toNat : Int), .int .i64 m.i, .int .i64 m.k, .int .i64 m.u] (.agg #[.int .i64 0, .int .i64 0, .int .u8 0, .int .u8 0, .int .u8 0, .int .u8 0, .int .i64 0, .int .i64 0, .int .i64 0]) Tryz.underlying74 (by kernel_rfl) 9 (by kernel_rfl) (by decide) (by kernel_rfl) ?_
  intro g26 w9 ge lt hh bb
  have d_tb_b26 := ne_new (hlt htb) ge
  have d_mB_b26 := ne_new (hlt hmB) ge
  have ob26 := Nat.le_trans (Nat.le_trans hlo bel.size) ge
  have off_b26 := owk_new own ge
  have pn_b26 := Nat.le_trans bel.size ge
  replace htb := blk_u htb bb
  replace hmB := blk_u hmB bb
  replace own := owk_under own bb
  replace fo := fo.below bb
  replace hM := hM.below bb
  replace bel := bel.trans (bb.mono (Nat.le_trans hlo bel.size))
  have hb26 := hh
  clear hh lt ge bb
  refine hK.out _ _ ⟨htb, hmB⟩ (fun hH10 => ?_)
  clear hK K
  simp only [sq4]
  refine wpAnyZ_ready (rs := [8]) (by kernel_rfl) (by simp) ?_
  refine AllReadyZ.cons (o := _) rfl (fun K hK => ?_) AllReadyZ.nil
  simp only [sq3]
  go_simp
  have hvx : w9.heap[g26]? = some (.cells (mpE m).toArray 65 (0, 0)) := hb26
  have HLO_ := Nat.le_trans HLO.out bel.size
  with_reducible refine (mp_insert _ HLO_ own H32.out hvx off_b26 HPN.out).mono ?_
  rintro e w11 ⟨A2, c2, rfl, own_, gw, ofw⟩
  dsimp only
  replace bel := bel.trans (row_bel gw own (Nat.le_trans hlo bel.size))
  have off_tb_ := ofw _ (hlt htb) off_tb
  replace htb := blk_own (v := .slice A n c) htb gw off_tb
  clear off_tb
  have off_tb := off_tb_
  clear off_tb_
  have off_mB_ := ofw _ (hlt hmB) off_mB
  replace hmB := blk_own (v := .slice A n c) hmB gw off_mB
  clear off_mB
  have off_mB := off_mB_
  clear off_mB_
  have off_b26_ := ofw _ (hlt hb26) off_b26
  replace hb26 := blk_own (v := .slice A n c) hb26 gw off_b26
  clear off_b26
  have off_b26 := off_b26_
  clear off_b26_
  replace fo := fo.row gw ofw
  replace hM := hM.row gw own
  clear own
  have own := own_
  clear own_ gw ofw
  clear hvx HLO_
  refine hK.out _ _ ⟨htb, hmB⟩ (fun hH12 => ?_)
  clear hK K
  refine wpAnyZ_take (i := 9) (v := ?_) rfl (by kernel_rfl) (by kernel_rfl) (by kernel_rfl) (fun _ _ _ h => h) (Or.inl ⟨by rfl, ?_⟩) hH12 ?_
  rotate_left
  · ((intro W hW; clear hW; go_simp) <;> with_reducible rfl)
  simp only [sq3, sq4]
  refine wpAnyZ_take (i := 10) (v := ?_) rfl (by kernel_rfl) (by kernel_rfl) (by kernel_rfl) (fun _ _ _ h => h) (Or.inl ⟨by rfl, ?_⟩) hH12 ?_
  rotate_left
  · ((intro W hW; clear hW; go_simp) <;> with_reducible rfl)
  simp only [sq3, sq4]
  refine wpAnyZ_ready (rs := [11]) (by kernel_rfl) (by simp) ?_
  refine AllReadyZ.last (o := _) rfl (fun K hK => ?_)
  simp only [sq3]
  rw [if_pos (by rfl)]
  refine wp_store_part 74 (.tmp 29) (.tmp 27) rfl gt 3 rfl [.slice A2 (n + 1) c2] rfl [.int .i64 lw, .int .i64 rm, .int .i64 now, .slice A n c, .map (some mb)] 76 htb (by simp) [.int .i64 lw, .int .i64 rm, .int .i64 now, .slice A2 (n + 1) c2, .map (some mb)] rfl (by kernel_rfl) (by rfl) ?_
  intro w13 hq gr
  replace hmB := blk_a hmB gr (ne_symm d_tb_mB)
  replace hb26 := blk_a hb26 gr (ne_symm d_tb_b26)
  replace own := owk_off own off_tb gr
  replace fo := fo.tb gr
  replace hM := hM.grown gr htb
  replace bel := below_grown bel gr otb (Nat.le_trans hlo bel.size)
  clear htb
  have htb := hq
  clear hq gr
  refine hK.out _ _ trivial (fun hH14 => ?_)
  clear hK K
  simp only [Act.put]
  refine wpAnyZ_done (by kernel_rfl) ?_ _
  go_wp2_with fail
  exact bodyPost_end (results_none rfl _ _ _) rfl ⟨rfl, ⟨A2, n + 1, c2, mb, htb, otb, hM, (by have h_ := own; rw [← HP.out] at h_; exact h_), HOK2.out⟩, fo.fr htb, bel⟩
end Go.Proofs.YtbdaejodbcjmfaaGreat
