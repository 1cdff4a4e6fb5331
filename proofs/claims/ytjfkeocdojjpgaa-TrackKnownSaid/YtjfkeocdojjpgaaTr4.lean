/- The table as one predicate; New, Len, State, add, See over it. -/
import Derived.Test.YtjfkeocdojjpgaaTr3
namespace Go.Proofs.Ytjfkeocdojjpgaa
open Go.RowKit

/-- The table at block gt: what is of the call's own from lo on; what it holds. -/
def Tk (lo gt : Nat) (w : World) (s : Ts) : Prop := ∃ (A : Option Addr) (n c : Nat), w.heap[gt]? = some (.cells #[.int .i64 s.rm, .slice A n c] 45 (0, 0)) ∧ lo ≤ gt ∧ w.ownsRow lo 51 8 (.slice A n c) n (s.l.flatMap cnE) ∧ s.ok
theorem Tk.below {lo gt : Nat} {w w' : World} {s : Ts} (h : Tk lo gt w s) (b : Below w.heap.size w w') : Tk lo gt w' s := by
  obtain ⟨A, n, c, h1, h2, h4, h5⟩ := h
  exact ⟨A, n, c, blk_u h1 b, h2, owk_under h4 b, h5⟩
theorem tk_drew {lo gt : Nat} {w : World} {s : Ts} (h : Tk lo gt w s) : Tk lo gt w.drew s := h
theorem Tk.lo_le {lo gt : Nat} {w : World} {s : Ts} (h : Tk lo gt w s) : lo ≤ w.heap.size := by
  obtain ⟨A, n, c, h1, h2, _⟩ := h
  exact Nat.le_trans h2 (Nat.le_of_lt (hlt h1))
theorem Tk.lo_mono {lo lo' gt : Nat} {w : World} {s : Ts} (h : Tk lo gt w s) (hl : lo' ≤ lo) : Tk lo' gt w s := by
  obtain ⟨A, n, c, h1, h2, h4, h5⟩ := h
  exact ⟨A, n, c, h1, Nat.le_trans hl h2, owk_lo h4 hl, h5⟩
theorem Tk.ok {lo gt : Nat} {w : World} {s : Ts} (h : Tk lo gt w s) : s.ok := by
  obtain ⟨_, _, _, _, _, _, h⟩ := h
  exact h
def TbB (w : World) (gt : Nat) (a : Int) (A : Option Addr) (n c : Nat) : Prop := w.heap[gt]? = some (.cells #[.int .i64 a, .slice A n c] 45 (0, 0))
/-- A block that lies apart from the table's. -/
def Ap (gt : Nat) (w : World) (q : Nat) : Prop := q ≠ gt ∧ gt < w.heap.size ∧ ∀ (a : Int) (A : Option Addr) (n c : Nat), TbB w gt a A n c → Ofs (.slice A n c) q
theorem Ap.below {gt q : Nat} {w w' : World} (h : Ap gt w q) (b : Below w.heap.size w w') : Ap gt w' q := ⟨h.1, Nat.lt_of_lt_of_le h.2.1 b.size, fun a A n c hh => h.2.2 a A n c ((b.block gt h.2.1).symm.trans hh)⟩
theorem ap_drew {gt q : Nat} {w : World} (h : Ap gt w q) : Ap gt w.drew q := h
theorem Ap.grown {gt q r : Nat} {w w' : World} (h : Ap gt w q) (hr : r ≠ gt) (g : w.grownBy w' (some r)) : Ap gt w' q := ⟨h.1, Nat.lt_of_lt_of_le h.2.1 g.size, fun a A n c hh => h.2.2 a A n c ((g.block gt h.2.1 (fun e => hr (by injection e with e; exact e.symm))).symm.trans hh)⟩
theorem Ap.ofs {gt q : Nat} {w : World} {a : Int} {A : Option Addr} {n c : Nat} (h : Ap gt w q) (htb : w.heap[gt]? = some (.cells #[.int .i64 a, .slice A n c] 45 (0, 0))) : Ofs (.slice A n c) q := h.2.2 _ _ _ _ htb
theorem Ap.mk {gt q : Nat} {w : World} {a : Int} {A : Option Addr} {n c : Nat} (htb : w.heap[gt]? = some (.cells #[.int .i64 a, .slice A n c] 45 (0, 0))) (h : Ofs (.slice A n c) q) (hq : q ≠ gt) : Ap gt w q := by
  refine ⟨hq, hlt htb, fun a' A' n' c' hh => ?_⟩
  unfold TbB at hh
  rw [htb] at hh
  simp only [Option.some.injEq, Obj.cells.injEq, Array.mk.injEq, List.cons.injEq, Value.slice.injEq, and_true] at hh
  obtain ⟨_, h1, h2, h3⟩ := hh
  rw [← h1, ← h2, ← h3]; exact h
theorem Tk.ap {lo gt q : Nat} {w : World} {s : Ts} (h : Tk lo gt w s) (hq : w.heap.size ≤ q) : Ap gt w q := by
  obtain ⟨A, n, c, h1, h2, h4, h5⟩ := h
  exact Ap.mk h1 (owk_new h4 hq) (Nat.ne_of_gt (Nat.lt_of_lt_of_le (hlt h1) hq))
theorem Tk.away {lo gt q : Nat} {w w' : World} {s : Ts} {c : Array Value} {T : TypeId} {fz : Nat × Nat} (h : Tk lo gt w s) (ap : Ap gt w q) (g : w.grownBy w' (some q)) (_hq : w.heap[q]? = some (.cells c T fz)) : Tk lo gt w' s := by
  obtain ⟨A, n, c', h1, h2, h4, h5⟩ := h
  exact ⟨A, n, c', (g.block gt (hlt h1) (fun e => ap.1 (by injection e with e; exact e.symm))).trans h1, h2, owk_off h4 (ap.ofs h1) g, h5⟩
/-- What lies apart stays, and lies apart. -/
def Fap (gt : Nat) (w w' : World) : Prop := ∀ (k : Nat) (c : Array Value) (T : TypeId) (fz : Nat × Nat), w.heap[k]? = some (.cells c T fz) → Ap gt w k → w'.heap[k]? = some (.cells c T fz) ∧ Ap gt w' k
theorem Fap.refl (gt : Nat) (w : World) : Fap gt w w := fun _ _ _ _ h a => ⟨h, a⟩
theorem Fap.trans {gt : Nat} {a b c : World} (h : Fap gt a b) (h' : Fap gt b c) : Fap gt a c := fun k x T fz hx ap => h' k x T fz (h k x T fz hx ap).1 (h k x T fz hx ap).2
theorem Fap.below {gt : Nat} {w W W' : World} (h : Fap gt w W) (b : Below W.heap.size W W') : Fap gt w W' := fun k x T fz hx ap => ⟨blk_u (h k x T fz hx ap).1 b, (h k x T fz hx ap).2.below b⟩
theorem fr_drew {gt : Nat} {w W : World} (h : Fap gt w W) : Fap gt w W.drew := h
theorem Fap.newer {gt q : Nat} {w W W' : World} (h : Fap gt w W) (ap : Ap gt W q) (g : W.grownBy W' (some q)) (hq : w.heap.size ≤ q) : Fap gt w W' := fun k x T fz hx a => by
  have h1 := h k x T fz hx a
  exact ⟨(g.block k (hlt h1.1) (fun e => by injection e with e; have := hlt hx; omega)).trans h1.1, h1.2.grown ap.1 g⟩
def Fo (gt : Nat) (w W : World) (v : Value) : Prop := ∀ (k : Nat) (c : Array Value) (T : TypeId) (fz : Nat × Nat), w.heap[k]? = some (.cells c T fz) → Ap gt w k → W.heap[k]? = some (.cells c T fz) ∧ k ≠ gt ∧ Ofs v k
theorem Fo.refl {gt : Nat} {w : World} {a : Int} {A : Option Addr} {n c : Nat} (htb : w.heap[gt]? = some (.cells #[.int .i64 a, .slice A n c] 45 (0, 0))) : Fo gt w w (.slice A n c) := fun _ _ _ _ h ap => ⟨h, ap.1, ap.ofs htb⟩
theorem Fap.fo {gt : Nat} {w W : World} {a : Int} {A : Option Addr} {n c : Nat} (h : Fap gt w W) (htb : W.heap[gt]? = some (.cells #[.int .i64 a, .slice A n c] 45 (0, 0))) : Fo gt w W (.slice A n c) := fun k x T fz hx ap => ⟨(h k x T fz hx ap).1, (h k x T fz hx ap).2.1, (h k x T fz hx ap).2.ofs htb⟩
theorem Fo.fr {gt : Nat} {w W : World} {a : Int} {A : Option Addr} {n c : Nat} (h : Fo gt w W (.slice A n c)) (htb : W.heap[gt]? = some (.cells #[.int .i64 a, .slice A n c] 45 (0, 0))) : Fap gt w W := fun k x T fz hx ap => ⟨(h k x T fz hx ap).1, Ap.mk htb (h k x T fz hx ap).2.2 (h k x T fz hx ap).2.1⟩
theorem Fo.below {gt : Nat} {w W W' : World} {v : Value} (h : Fo gt w W v) (b : Below W.heap.size W W') : Fo gt w W' v := fun k x T fz hx ap => ⟨blk_u (h k x T fz hx ap).1 b, (h k x T fz hx ap).2⟩
theorem fo_drew {gt : Nat} {w W : World} {v : Value} (h : Fo gt w W v) : Fo gt w W.drew v := h
theorem Fo.tb {gt : Nat} {w W W' : World} {v : Value} (h : Fo gt w W v) (g : W.grownBy W' (some gt)) : Fo gt w W' v := fun k x T fz hx ap => by
  have h1 := h k x T fz hx ap
  exact ⟨(g.block k (hlt h1.1) (fun e => h1.2.1 (by injection e))).trans h1.1, h1.2⟩
theorem Fo.newer {gt q : Nat} {w W W' : World} {v : Value} (h : Fo gt w W v) (g : W.grownBy W' (some q)) (hq : w.heap.size ≤ q) : Fo gt w W' v := fun k x T fz hx ap => by
  have h1 := h k x T fz hx ap
  exact ⟨(g.block k (hlt h1.1) (fun e => by injection e with e; have := hlt hx; omega)).trans h1.1, h1.2⟩
theorem Fo.row {gt : Nat} {w W W' : World} {v v' : Value} (h : Fo gt w W v) (g : W.grownBy W' v.ownBlock) (o : ∀ q, q < W.heap.size → Ofs v q → Ofs v' q) : Fo gt w W' v' := fun k x T fz hx ap => by
  have h1 := h k x T fz hx ap
  exact ⟨blk_own h1.1 g h1.2.2, h1.2.1, o k (hlt h1.1) h1.2.2⟩
theorem x0_okp (o : Int) (ad : Ad4) (p : Int) : (⟨o, ad, p, 0, false⟩ : Cn).okp := ⟨Int.le_refl 0, by show (0 : Int) ≤ 6; decide⟩
set_option linter.unusedVariables false in
set_option linter.unusedSimpArgs false in
set_option maxRecDepth 100000 in
set_option maxHeartbeats 16000000 in
theorem tnew_lo {rm : Int} (w : World) (h : rm < 1) : Calls Try.prog 9 #[.int .i64 rm] w fun e w' => e = .returned (.tuple #[.pointer none, .int .i64 1]) ∧ Below w.heap.size w w' := by
  have bel := Below.refl w.heap.size w
  go_enter Try.func9, Try.ntmps9
  go_wp2_with fail
  exact bodyPost_ret (v := .tuple #[.pointer none, .int .i64 1]) (by simp [results, Try.results9, go_sem]) rfl ⟨rfl, bel⟩
set_option linter.unusedVariables false in
set_option linter.unusedSimpArgs false in
set_option maxRecDepth 100000 in
set_option maxHeartbeats 16000000 in
theorem tnew_hi {rm : Int} (w : World) (h1 : ¬ rm < 1) (h4 : 256 < rm) : Calls Try.prog 9 #[.int .i64 rm] w fun e w' => e = .returned (.tuple #[.pointer none, .int .i64 1]) ∧ Below w.heap.size w w' := by
  have g1 : decide (rm < 1) = false := decide_eq_false h1
  have g4 : rm > 256 := h4
  clear h1
  have bel := Below.refl w.heap.size w
  go_enter Try.func9, Try.ntmps9
  go_wp2_with fail
  exact bodyPost_ret (v := .tuple #[.pointer none, .int .i64 1]) (by simp [results, Try.results9, go_sem]) rfl ⟨rfl, bel⟩
set_option linter.unusedVariables false in
set_option linter.unusedSimpArgs false in
set_option maxRecDepth 100000 in
set_option maxHeartbeats 16000000 in
theorem tnew_any {rm : Int} (w : World) (h1 : ¬ rm < 1) (h4 : ¬ 256 < rm) : Calls Try.prog 9 #[.int .i64 rm] w fun e w' => ∃ gt, e = .returned (.tuple #[.pointer (some ⟨gt, 0, none⟩), .int .i64 0]) ∧ Tk w.heap.size gt w' ⟨rm, []⟩ ∧ Below w.heap.size w w' := by
  have HOK : Hid (Ts.ok ⟨rm, []⟩) := Lib.hid ⟨(fun e h => by cases h), by show 1 ≤ rm; omega, by show rm ≤ 256; omega, by show ((0 : Nat) : Int) ≤ rm; omega⟩
  have g1 : decide (rm < 1) = false := decide_eq_false h1
  have g4 : decide (rm > 256) = false := decide_eq_false h4
  have g44 : decide (256 < rm) = false := decide_eq_false h4
  clear h1 h4
  have bel := Below.refl w.heap.size w
  go_enter Try.func9, Try.ntmps9
  go_wp2_with (first | ((with_reducible show wpList _ _ _ (⟨some 12, _, _, _, _, _⟩ :: _) _ _); refine wpList_box_n rfl 45 (.tmp 11) rfl #[.int .i64 rm, .slice none 0 0] rfl ?_; intro g12 w1 ge lt hh bb; have otb := Nat.le_trans bel.size ge; replace bel := bel.trans (bb.mono bel.size); have htb := hh; clear hh lt ge bb))
  exact bodyPost_ret (v := .tuple #[.pointer (some ⟨g12, 0, none⟩), .int .i64 0]) (by simp [results, Try.results9, go_sem]) rfl ⟨g12, rfl, ⟨none, 0, 0, htb, otb, World.ownsRow_nil _ _ _ _, HOK.out⟩, bel⟩
set_option linter.unusedVariables false in
set_option linter.unusedSimpArgs false in
set_option maxRecDepth 100000 in
set_option maxHeartbeats 16000000 in
theorem tlen_any {lo gt : Nat} {rm : Int} {l : List Cn} (w : World) (hT : Tk lo gt w ⟨rm, l⟩)  : Calls Try.prog 13 #[.pointer (some ⟨gt, 0, none⟩)] w fun e w' => e = .returned (.int .i64 (l.length : Int)) ∧ Tk lo gt w' ⟨rm, l⟩ ∧ Fap gt w w' ∧ Below lo w w' := by
  have hlo : lo ≤ w.heap.size := hT.lo_le
  have HLO := Lib.hid hlo
  obtain ⟨A, n, c, htb, otb, own, hok⟩ := hT
  dsimp only at htb own
  have off_tb := ofs_type own htb (by decide)
  have hl := row_len (by decide) cnE_len own
  have HLL := Lib.hid hl
  have HOK := Lib.hid hok
  have H32 : Hid (n ≤ 1000) := Lib.hid (by have h1_ := hok.len; have h2_ := hok.r1; simp only at h1_ h2_; omega)
  clear hl hok
  have fo := Fo.refl htb
  have bel := Below.refl lo w
  go_enter Try.func13, Try.ntmps13
  have R6 := cell_lit htb 1 _ rfl
  go_wp2_with fail
  clear R6
  go_ret
  exact ⟨by rw [HLL.out]; rfl, ⟨A, n, c, htb, otb, own, HOK.out⟩, fo.fr htb, bel⟩
set_option linter.unusedVariables false in
set_option linter.unusedSimpArgs false in
set_option maxRecDepth 100000 in
set_option maxHeartbeats 16000000 in
theorem tstate_no {lo gt : Nat} {rm : Int} {l : List Cn} {o p : Int} {ad : Ad4} (w : World) (hT : Tk lo gt w ⟨rm, l⟩) (hN : l.findIdx (isB o ad p) = l.length) : Calls Try.prog 12 #[.pointer (some ⟨gt, 0, none⟩), .int .i64 o, .agg #[.int .u8 (ad.a.toNat : Int), .int .u8 (ad.b.toNat : Int), .int .u8 (ad.c.toNat : Int), .int .u8 (ad.d.toNat : Int)], .int .i64 p] w fun e w' => e = .returned (.int .i64 0) ∧ Tk lo gt w' ⟨rm, l⟩ ∧ Fap gt w w' ∧ Below lo w w' := by
  have hlo : lo ≤ w.heap.size := hT.lo_le
  have HLO := Lib.hid hlo
  obtain ⟨A, n, c, htb, otb, own, hok⟩ := hT
  dsimp only at htb own
  have off_tb := ofs_type own htb (by decide)
  have hl := row_len (by decide) cnE_len own
  have HLL := Lib.hid hl
  have HOK := Lib.hid hok
  have H32 : Hid (n ≤ 1000) := Lib.hid (by have h1_ := hok.len; have h2_ := hok.r1; simp only at h1_ h2_; omega)
  clear hl hok
  have fo := Fo.refl htb
  have HN := Lib.hid hN
  clear hN
  have bel := Below.refl lo w
  go_enter Try.func12, Try.ntmps12
  go_wp2_with (first | ((with_reducible show wpList _ _ _ (⟨some 6, _, _, _, _, _⟩ :: _) _ _); refine wpList_box_n rfl 29 (.tmp 2) rfl #[.int .u8 (ad.a.toNat : Int), .int .u8 (ad.b.toNat : Int), .int .u8 (ad.c.toNat : Int), .int .u8 (ad.d.toNat : Int)] rfl ?_; intro g6 w1 ge lt hh bb; have d_tb_ab := ne_new (hlt htb) ge; have oab := Nat.le_trans (Nat.le_trans hlo bel.size) ge; have off_ab := owk_new own ge; have pn_ab := Nat.le_trans bel.size ge; replace htb := blk_u htb bb; replace own := owk_under own bb; replace fo := fo.below bb; replace bel := bel.trans (bb.mono (Nat.le_trans hlo bel.size)); have hab := hh; clear hh lt ge bb; have R12 := Lib.hid (range_lit hab 0 4 [.int .u8 (ad.a.toNat : Int), .int .u8 (ad.b.toNat : Int), .int .u8 (ad.c.toNat : Int), .int .u8 (ad.d.toNat : Int)] rfl)) | ((with_reducible show wpList _ _ _ (⟨some 12, _, _, _, _, _⟩ :: _) _ _); refine wpList_load_rng 29 (.tmp 6) rfl (by kernel_rfl) _ _ rfl _ R12.out _ Try.underlying29 rfl (by kernel_rfl) ?_))
  try clear R12
  with_reducible refine (find_no _ htb (owk_sle (by decide) cnE_len own).1 H32.out HN.out).mono ?_
  rintro e w2 ⟨rfl, b2⟩
  replace htb := blk_u htb b2
  replace hab := blk_u hab b2
  replace own := owk_under own b2
  replace fo := fo.below b2
  replace bel := bel.trans (b2.mono (Nat.le_trans hlo bel.size))
  clear b2
  go_wp2_with fail
  go_ret
  exact ⟨rfl, ⟨A, n, c, htb, otb, own, HOK.out⟩, fo.fr htb, bel⟩
set_option linter.unusedVariables false in
set_option linter.unusedSimpArgs false in
set_option maxRecDepth 100000 in
set_option maxHeartbeats 16000000 in
theorem tstate_yes {lo gt : Nat} {rm : Int} {l : List Cn} {i : Nat} {x : Cn} {o p : Int} {ad : Ad4} (w : World) (hT : Tk lo gt w ⟨rm, l⟩) (hN : l.findIdx (isB o ad p) = i) (hx : l[i]? = some x) : Calls Try.prog 12 #[.pointer (some ⟨gt, 0, none⟩), .int .i64 o, .agg #[.int .u8 (ad.a.toNat : Int), .int .u8 (ad.b.toNat : Int), .int .u8 (ad.c.toNat : Int), .int .u8 (ad.d.toNat : Int)], .int .i64 p] w fun e w' => e = .returned (.int .i64 x.s) ∧ Tk lo gt w' ⟨rm, l⟩ ∧ Fap gt w w' ∧ Below lo w w' := by
  have hlo : lo ≤ w.heap.size := hT.lo_le
  have HLO := Lib.hid hlo
  obtain ⟨A, n, c, htb, otb, own, hok⟩ := hT
  dsimp only at htb own
  have off_tb := ofs_type own htb (by decide)
  have hl := row_len (by decide) cnE_len own
  have HLL := Lib.hid hl
  have HOK := Lib.hid hok
  have H32 : Hid (n ≤ 1000) := Lib.hid (by have h1_ := hok.len; have h2_ := hok.r1; simp only at h1_ h2_; omega)
  clear hl hok
  have fo := Fo.refl htb
  have HN := Lib.hid hN
  have HX := Lib.hid hx
  have HIL : Hid (i < l.length) := Lib.hid (List.getElem?_eq_some_iff.1 hx).1
  have hin_ : i < n := by have h1_ := (List.getElem?_eq_some_iff.1 hx).1; have h2_ := HLL.out; omega
  have i0 : (0 : Int) ≤ i := by omega
  have i1 : (i : Int) < n := by omega
  obtain ⟨gE, rfl, _⟩ := row_at own (by omega)
  have en := (owk_sle (by decide) cnE_len own).1
  have av_en_tb := owk_av own off_tb
  clear hin_
  clear hN hx
  have bel := Below.refl lo w
  go_enter Try.func12, Try.ntmps12
  go_wp2_with (first | ((with_reducible show wpList _ _ _ (⟨some 6, _, _, _, _, _⟩ :: _) _ _); refine wpList_box_n rfl 29 (.tmp 2) rfl #[.int .u8 (ad.a.toNat : Int), .int .u8 (ad.b.toNat : Int), .int .u8 (ad.c.toNat : Int), .int .u8 (ad.d.toNat : Int)] rfl ?_; intro g6 w1 ge lt hh bb; have d_tb_ab := ne_new (hlt htb) ge; have av_en_ab := en.av_new ge; have oab := Nat.le_trans (Nat.le_trans hlo bel.size) ge; have off_ab := owk_new own ge; have pn_ab := Nat.le_trans bel.size ge; replace htb := blk_u htb bb; replace en := en.below bb; replace own := owk_under own bb; replace fo := fo.below bb; replace bel := bel.trans (bb.mono (Nat.le_trans hlo bel.size)); have hab := hh; clear hh lt ge bb; have R12 := Lib.hid (range_lit hab 0 4 [.int .u8 (ad.a.toNat : Int), .int .u8 (ad.b.toNat : Int), .int .u8 (ad.c.toNat : Int), .int .u8 (ad.d.toNat : Int)] rfl)) | ((with_reducible show wpList _ _ _ (⟨some 12, _, _, _, _, _⟩ :: _) _ _); refine wpList_load_rng 29 (.tmp 6) rfl (by kernel_rfl) _ _ rfl _ R12.out _ Try.underlying29 rfl (by kernel_rfl) ?_))
  try clear R12
  with_reducible refine (find_yes _ htb (owk_sle (by decide) cnE_len own).1 H32.out HN.out HIL.out).mono ?_
  rintro e w2 ⟨rfl, b2⟩
  replace htb := blk_u htb b2
  replace hab := blk_u hab b2
  replace en := en.below b2
  replace own := owk_under own b2
  replace fo := fo.below b2
  replace bel := bel.trans (b2.mono (Nat.le_trans hlo bel.size))
  clear b2
  have R21 := cell_lit htb 1 _ rfl
  have R25 := Sle.zcell en HX.out 6 _ rfl
  go_wp2_with fail
  clear R21 R25
  go_ret
  exact ⟨rfl, ⟨(some ⟨gE, 0, none⟩), n, c, htb, otb, own, HOK.out⟩, fo.fr htb, bel⟩
set_option linter.unusedVariables false in
set_option linter.unusedSimpArgs false in
set_option maxRecDepth 100000 in
set_option maxHeartbeats 16000000 in
theorem tadd_new {lo gt : Nat} {rm : Int} {l : List Cn} {x : Cn} (w : World) (hT : Tk lo gt w ⟨rm, l⟩) (hx : x.okp) (hr : (l.length : Int) < rm) : Calls Try.prog 18 #[.pointer (some ⟨gt, 0, none⟩), .agg #[.int .i64 x.o, .int .u8 (x.ad.a.toNat : Int), .int .u8 (x.ad.b.toNat : Int), .int .u8 (x.ad.c.toNat : Int), .int .u8 (x.ad.d.toNat : Int), .int .i64 x.p, .int .i64 x.s, .bool x.d]] w fun e w' => e = .returned (.tuple #[]) ∧ Tk lo gt w' ⟨rm, l ++ [x]⟩ ∧ Fap gt w w' ∧ Below lo w w' := by
  have hlo : lo ≤ w.heap.size := hT.lo_le
  have HLO := Lib.hid hlo
  obtain ⟨A, n, c, htb, otb, own, hok⟩ := hT
  dsimp only at htb own
  have off_tb := ofs_type own htb (by decide)
  have hl := row_len (by decide) cnE_len own
  have HLL := Lib.hid hl
  have HOK := Lib.hid hok
  have H32 : Hid (n ≤ 1000) := Lib.hid (by have h1_ := hok.len; have h2_ := hok.r1; simp only at h1_ h2_; omega)
  clear hl hok
  have fo := Fo.refl htb
  obtain ⟨ie, hie, hie0, hie1, hie2⟩ := info_parts Try.info_cn
  have HM32 := H32
  have hr2 : decide ((n : Int) ≥ rm) = false := decide_eq_false (by have := HLL.out; omega)
  have hr3 : decide (rm ≤ (n : Int)) = false := decide_eq_false (by have := HLL.out; omega)
  have HOK2 : Hid (Ts.ok ⟨rm, l ++ [x]⟩) := Lib.hid (HOK.out.put hx hr)
  clear hr hx
  have bel := Below.refl lo w
  go_enter Try.func18, Try.ntmps18
  go_wp2_with (first | ((with_reducible show wpList _ _ _ (⟨some 3, _, _, _, _, _⟩ :: _) _ _); refine wpList_box_n rfl 51 (.tmp 1) rfl #[.int .i64 x.o, .int .u8 (x.ad.a.toNat : Int), .int .u8 (x.ad.b.toNat : Int), .int .u8 (x.ad.c.toNat : Int), .int .u8 (x.ad.d.toNat : Int), .int .i64 x.p, .int .i64 x.s, .bool x.d] rfl ?_; intro g3 w1 ge lt hh bb; have d_tb_cb := ne_new (hlt htb) ge; have ocb := Nat.le_trans (Nat.le_trans hlo bel.size) ge; have off_cb := owk_new own ge; have pn_cb := Nat.le_trans bel.size ge; replace htb := blk_u htb bb; replace own := owk_under own bb; replace fo := fo.below bb; replace bel := bel.trans (bb.mono (Nat.le_trans hlo bel.size)); have hcb := hh; clear hh lt ge bb))
  replace bel := bel.drew
  replace htb : w1.drew.heap[gt]? = _ := htb
  replace hcb : w1.drew.heap[g3]? = _ := hcb
  replace own := World.ownsRow.drew own
  replace fo := fo_drew fo
  refine wp_region_held_drew (S := fun W => W.heap[gt]? = some (.cells #[.int .i64 rm, .slice A n c] 45 (0, 0))) (by kernel_rfl) htb (fun hH => ?_)
  generalize w1.drew = w2 at bel htb hcb own fo hH ⊢
  refine wpAnyH_take (i := 0) (v := ?_) rfl (by kernel_rfl) (by kernel_rfl) (by kernel_rfl) (fun _ _ _ h => h) (Or.inl ⟨by rfl, ?_⟩) hH ?_
  rotate_left
  · ((intro W hW; clear hW; go_simp) <;> with_reducible rfl)
  simp only [Act.put, List.getElem_toArray, List.getElem_cons_zero, List.setIfInBounds_toArray, List.set_cons_zero, List.set_cons_succ]
  refine wpAnyH_take (i := 1) (v := ?_) rfl (by kernel_rfl) (by kernel_rfl) (by kernel_rfl) (fun _ _ _ h => h) (Or.inl ⟨by rfl, ?_⟩) hH ?_
  rotate_left
  · ((intro W hW; clear hW; go_simp) <;> with_reducible rfl)
  simp only [Act.put, List.getElem_toArray, List.getElem_cons_zero, List.getElem_cons_succ, List.setIfInBounds_toArray, List.set_cons_zero, List.set_cons_succ]
  refine wpAnyH_take (i := 2) (v := ?_) rfl (by kernel_rfl) (by kernel_rfl) (by kernel_rfl) (fun _ _ _ h => h) (Or.inl ⟨by rfl, ?_⟩) hH ?_
  rotate_left
  · ((intro W hW; clear hW; go_simp) <;> with_reducible rfl)
  simp only [Act.put, List.getElem_toArray, List.getElem_cons_zero, List.getElem_cons_succ, List.setIfInBounds_toArray, List.set_cons_zero, List.set_cons_succ]
  refine wpAnyH_take (i := 3) (v := ?_) rfl (by kernel_rfl) (by kernel_rfl) (by kernel_rfl) (fun _ _ _ h => h) (Or.inl ⟨by rfl, ?_⟩) hH ?_
  rotate_left
  · ((intro W hW; have hk := cell_lit (hW) 1 _ rfl; clear hW; go_simp) <;> with_reducible rfl)
  simp only [Act.put, List.getElem_toArray, List.getElem_cons_zero, List.getElem_cons_succ, List.setIfInBounds_toArray, List.set_cons_zero, List.set_cons_succ]
  refine wpAnyH_take (i := 4) (v := ?_) rfl (by kernel_rfl) (by kernel_rfl) (by kernel_rfl) (fun _ _ _ h => h) (Or.inl ⟨by rfl, ?_⟩) hH ?_
  rotate_left
  · ((intro W hW; clear hW; go_simp) <;> with_reducible rfl)
  simp only [Act.put, List.getElem_toArray, List.getElem_cons_zero, List.getElem_cons_succ, List.setIfInBounds_toArray, List.set_cons_zero, List.set_cons_succ]
  refine wpAnyH_take (i := 5) (v := ?_) rfl (by kernel_rfl) (by kernel_rfl) (by kernel_rfl) (fun _ _ _ h => h) (Or.inl ⟨by rfl, ?_⟩) hH ?_
  rotate_left
  · ((intro W hW; clear hW; go_simp) <;> with_reducible rfl)
  simp only [Act.put, List.getElem_toArray, List.getElem_cons_zero, List.getElem_cons_succ, List.setIfInBounds_toArray, List.set_cons_zero, List.set_cons_succ]
  refine wpAnyH_take (i := 6) (v := ?_) rfl (by kernel_rfl) (by kernel_rfl) (by kernel_rfl) (fun _ _ _ h => h) (Or.inl ⟨by rfl, ?_⟩) hH ?_
  rotate_left
  · ((intro W hW; clear hW; go_simp) <;> with_reducible rfl)
  simp only [Act.put, List.getElem_toArray, List.getElem_cons_zero, List.getElem_cons_succ, List.setIfInBounds_toArray, List.set_cons_zero, List.set_cons_succ]
  refine wpAnyH_take (i := 7) (v := ?_) rfl (by kernel_rfl) (by kernel_rfl) (by kernel_rfl) (fun _ _ _ h => h) (Or.inl ⟨by rfl, ?_⟩) hH ?_
  rotate_left
  · ((intro W hW; clear hW; go_simp) <;> with_reducible rfl)
  simp only [Act.put, List.getElem_toArray, List.getElem_cons_zero, List.getElem_cons_succ, List.setIfInBounds_toArray, List.set_cons_zero, List.set_cons_succ]
  refine wpAnyH_take (i := 8) (v := ?_) rfl (by kernel_rfl) (by kernel_rfl) (by kernel_rfl) (fun _ _ _ h => h) (Or.inl ⟨by rfl, ?_⟩) hH ?_
  rotate_left
  · ((intro W hW; have hk := cell_lit (hW) 0 _ rfl; clear hW; go_simp) <;> with_reducible rfl)
  simp only [Act.put, List.getElem_toArray, List.getElem_cons_zero, List.getElem_cons_succ, List.setIfInBounds_toArray, List.set_cons_zero, List.set_cons_succ]
  refine wpAnyH_take (i := 9) (v := ?_) rfl (by kernel_rfl) (by kernel_rfl) (by kernel_rfl) (fun _ _ _ h => h) (Or.inl ⟨by rfl, ?_⟩) hH ?_
  rotate_left
  · ((intro W hW; clear hW; go_simp) <;> with_reducible rfl)
  simp only [Act.put, List.getElem_toArray, List.getElem_cons_zero, List.getElem_cons_succ, List.setIfInBounds_toArray, List.set_cons_zero, List.set_cons_succ]
  refine wpAnyH_done (by kernel_rfl) ?_ _
  go_wp2_with fail
  replace bel := bel.drew
  replace htb : w2.drew.heap[gt]? = _ := htb
  replace hcb : w2.drew.heap[g3]? = _ := hcb
  replace own := World.ownsRow.drew own
  replace fo := fo_drew fo
  refine wp_region_z 10 (S := fun W => W.heap[gt]? = some (.cells #[.int .i64 rm, .slice A n c] 45 (0, 0)) ∧ W.heap[g3]? = some (.cells #[.int .i64 x.o, .int .u8 (x.ad.a.toNat : Int), .int .u8 (x.ad.b.toNat : Int), .int .u8 (x.ad.c.toNat : Int), .int .u8 (x.ad.d.toNat : Int), .int .i64 x.p, .int .i64 x.s, .bool x.d] 51 (0, 0))) (by kernel_rfl) ⟨htb, hcb⟩ (fun hH => ?_)
  generalize w2.drew = w3 at bel htb hcb own fo hH ⊢
  refine wpAnyZ_take (i := 0) (v := ?_) rfl (by kernel_rfl) (by kernel_rfl) (by kernel_rfl) (fun _ _ _ h => h) (Or.inl ⟨by rfl, ?_⟩) hH ?_
  rotate_left
  · ((intro W hW; clear hW; go_simp) <;> with_reducible rfl)
  simp only [Act.put, List.getElem_toArray, List.getElem_cons_zero, List.setIfInBounds_toArray, List.set_cons_zero, List.set_cons_succ]
  refine wpAnyZ_take (i := 1) (v := ?_) rfl (by kernel_rfl) (by kernel_rfl) (by kernel_rfl) (fun _ _ _ h => h) (Or.inl ⟨by rfl, ?_⟩) hH ?_
  rotate_left
  · ((intro W hW; clear hW; go_simp) <;> with_reducible rfl)
  simp only [Act.put, List.getElem_toArray, List.getElem_cons_zero, List.getElem_cons_succ, List.setIfInBounds_toArray, List.set_cons_zero, List.set_cons_succ]
  refine wpAnyZ_take (i := 2) (v := ?_) rfl (by kernel_rfl) (by kernel_rfl) (by kernel_rfl) (fun _ _ _ h => h) (Or.inl ⟨by rfl, ?_⟩) hH ?_
  rotate_left
  · ((intro W hW; clear hW; go_simp) <;> with_reducible rfl)
  simp only [Act.put, List.getElem_toArray, List.getElem_cons_zero, List.getElem_cons_succ, List.setIfInBounds_toArray, List.set_cons_zero, List.set_cons_succ]
  refine wpAnyZ_take (i := 3) (v := ?_) rfl (by kernel_rfl) (by kernel_rfl) (by kernel_rfl) (fun _ _ _ h => h) (Or.inl ⟨by rfl, ?_⟩) hH ?_
  rotate_left
  · ((intro W hW; clear hW; go_simp) <;> with_reducible rfl)
  simp only [Act.put, List.getElem_toArray, List.getElem_cons_zero, List.getElem_cons_succ, List.setIfInBounds_toArray, List.set_cons_zero, List.set_cons_succ]
  refine wpAnyZ_take (i := 4) (v := ?_) rfl (by kernel_rfl) (by kernel_rfl) (by kernel_rfl) (fun _ _ _ h => h) (Or.inl ⟨by rfl, ?_⟩) hH ?_
  rotate_left
  · ((intro W hW; have hk := cell_lit (hW.1) 1 _ rfl; clear hW; go_simp) <;> with_reducible rfl)
  simp only [Act.put, List.getElem_toArray, List.getElem_cons_zero, List.getElem_cons_succ, List.setIfInBounds_toArray, List.set_cons_zero, List.set_cons_succ]
  refine wpAnyZ_take (i := 5) (v := .agg #[.int .i64 x.o, .int .u8 (x.ad.a.toNat : Int), .int .u8 (x.ad.b.toNat : Int), .int .u8 (x.ad.c.toNat : Int), .int .u8 (x.ad.d.toNat : Int), .int .i64 x.p, .int .i64 x.s, .bool x.d]) rfl (by kernel_rfl) (by kernel_rfl) (by kernel_rfl) (fun _ _ _ h => h) (yieldsIf_load_part (by kernel_rfl) 51 _ rfl g3 0 8 rfl _ 51 (0, 0) (fun W hW => hW.2) _ rfl _ Try.underlying51 rfl (by kernel_rfl)) hH ?_
  simp only [Act.put, List.getElem_toArray, List.getElem_cons_zero, List.getElem_cons_succ, List.setIfInBounds_toArray, List.set_cons_zero, List.set_cons_succ]
  refine wpAnyZ_ready (rs := [6]) (by kernel_rfl) (by simp) ?_
  refine AllReadyZ.cons (o := _) rfl (fun K hK => ?_) AllReadyZ.nil
  simp only [List.getElem_toArray, List.getElem_cons_zero, List.getElem_cons_succ]
  rw [if_pos (by rfl)]
  refine wp_lit_n 43 51 1 _ rfl #[.int .i64 x.o, .int .u8 (x.ad.a.toNat : Int), .int .u8 (x.ad.b.toNat : Int), .int .u8 (x.ad.c.toNat : Int), .int .u8 (x.ad.d.toNat : Int), .int .i64 x.p, .int .i64 x.s, .bool x.d] (.agg #[.int .i64 0, .int .u8 0, .int .u8 0, .int .u8 0, .int .u8 0, .int .i64 0, .int .i64 0, .bool false]) Try.underlying43 (by kernel_rfl) 8 (by kernel_rfl) (by decide) (by kernel_rfl) ?_
  intro g34 w4 ge lt hh bb
  have d_tb_b34 := ne_new (hlt htb) ge
  have d_cb_b34 := ne_new (hlt hcb) ge
  have ob34 := Nat.le_trans (Nat.le_trans hlo bel.size) ge
  have off_b34 := owk_new own ge
  have pn_b34 := Nat.le_trans bel.size ge
  replace htb := blk_u htb bb
  replace hcb := blk_u hcb bb
  replace own := owk_under own bb
  replace fo := fo.below bb
  replace bel := bel.trans (bb.mono (Nat.le_trans hlo bel.size))
  have hb34 := hh
  clear hh lt ge bb
  have vv : Sle cnE 8 w4 (some ⟨g34, 0, none⟩) (1) (1) ([x]) := sle_lit ([x]) (by decide) cnE_len hb34 rfl (by simp [maxLen])
  refine hK.out _ _ ⟨htb, hcb⟩ (fun hH5 => ?_)
  clear hK K
  simp only [Act.put, List.setIfInBounds_toArray, List.set_cons_zero, List.set_cons_succ]
  refine wpAnyZ_ready (rs := [7]) (by kernel_rfl) (by simp) ?_
  refine AllReadyZ.cons (o := _) rfl (fun K hK => ?_) AllReadyZ.nil
  simp only [List.getElem_toArray, List.getElem_cons_zero, List.getElem_cons_succ]
  rw [if_pos (by rfl)]
  refine wp_append_sle (.tmp 32) (.tmp 34) 43 rfl lo 51 ie (.agg #[.int .i64 0, .int .u8 0, .int .u8 0, .int .u8 0, .int .u8 0, .int .i64 0, .int .i64 0, .bool false]) 40 Try.underlying43 hie hie0 hie1 hie2 rfl cnE_one _ n l rfl own (some ⟨g34, 0, none⟩) 1 1 [x] rfl vv (by unfold maxLen; have := HM32.out; omega) (by have := HM32.out; omega) (Nat.le_trans HLO.out bel.size) ?_
  intro v35 w90 own_ bb gw ofw
  obtain ⟨A35, c35, rfl⟩ := owk_val own_
  clear bb
  clear vv
  replace bel := bel.trans (row_bel gw own (Nat.le_trans hlo bel.size))
  have off_tb_ := ofw _ (hlt htb) off_tb
  replace htb := blk_own (v := .slice A n c) htb gw off_tb
  clear off_tb
  have off_tb := off_tb_
  clear off_tb_
  have off_cb_ := ofw _ (hlt hcb) off_cb
  replace hcb := blk_own (v := .slice A n c) hcb gw off_cb
  clear off_cb
  have off_cb := off_cb_
  clear off_cb_
  have off_b34_ := ofw _ (hlt hb34) off_b34
  replace hb34 := blk_own (v := .slice A n c) hb34 gw off_b34
  clear off_b34
  have off_b34 := off_b34_
  clear off_b34_
  replace fo := fo.row gw ofw
  clear own
  have own := own_
  clear own_ gw ofw
  refine hK.out _ _ ⟨htb, hcb⟩ (fun hH6 => ?_)
  clear hK K
  simp only [Act.put, List.setIfInBounds_toArray, List.set_cons_zero, List.set_cons_succ]
  refine wpAnyZ_take (i := 8) (v := ?_) rfl (by kernel_rfl) (by kernel_rfl) (by kernel_rfl) (fun _ _ _ h => h) (Or.inl ⟨by rfl, ?_⟩) hH6 ?_
  rotate_left
  · ((intro W hW; clear hW; go_simp) <;> with_reducible rfl)
  simp only [Act.put, List.getElem_toArray, List.getElem_cons_zero, List.getElem_cons_succ, List.setIfInBounds_toArray, List.set_cons_zero, List.set_cons_succ]
  refine wpAnyZ_take (i := 9) (v := ?_) rfl (by kernel_rfl) (by kernel_rfl) (by kernel_rfl) (fun _ _ _ h => h) (Or.inl ⟨by rfl, ?_⟩) hH6 ?_
  rotate_left
  · ((intro W hW; clear hW; go_simp) <;> with_reducible rfl)
  simp only [Act.put, List.getElem_toArray, List.getElem_cons_zero, List.getElem_cons_succ, List.setIfInBounds_toArray, List.set_cons_zero, List.set_cons_succ]
  refine wpAnyZ_ready (rs := [10]) (by kernel_rfl) (by simp) ?_
  refine AllReadyZ.last (o := _) rfl (fun K hK => ?_)
  simp only [List.getElem_toArray, List.getElem_cons_zero, List.getElem_cons_succ]
  rw [if_pos (by rfl)]
  refine wp_store_part 43 (.tmp 37) (.tmp 35) rfl gt 1 rfl [.slice A35 (n + 1) c35] rfl [.int .i64 rm, .slice A n c] 45 htb (by simp) [.int .i64 rm, .slice A35 (n + 1) c35] rfl (by kernel_rfl) (by rfl) ?_
  intro w7 hq gr
  replace hcb := blk_a hcb gr (ne_symm d_tb_cb)
  replace hb34 := blk_a hb34 gr (ne_symm d_tb_b34)
  replace own := owk_off own off_tb gr
  replace fo := fo.tb gr
  replace bel := below_grown bel gr otb (Nat.le_trans hlo bel.size)
  clear htb
  have htb := hq
  clear hq gr
  refine hK.out _ _ trivial (fun hH8 => ?_)
  clear hK K
  simp only [Act.put]
  refine wpAnyZ_done (by kernel_rfl) ?_ _
  go_wp2_with fail
  exact bodyPost_end (results_none rfl _ _ _) rfl ⟨rfl, ⟨A35, n + 1, c35, htb, otb, own, HOK2.out⟩, fo.fr htb, bel⟩
set_option linter.unusedVariables false in
set_option linter.unusedSimpArgs false in
set_option maxRecDepth 100000 in
set_option maxHeartbeats 16000000 in
theorem tadd_full {lo gt : Nat} {rm : Int} {l : List Cn} {x : Cn} (w : World) (hT : Tk lo gt w ⟨rm, l⟩) (hx : x.okp) (hr : rm ≤ (l.length : Int)) : Calls Try.prog 18 #[.pointer (some ⟨gt, 0, none⟩), .agg #[.int .i64 x.o, .int .u8 (x.ad.a.toNat : Int), .int .u8 (x.ad.b.toNat : Int), .int .u8 (x.ad.c.toNat : Int), .int .u8 (x.ad.d.toNat : Int), .int .i64 x.p, .int .i64 x.s, .bool x.d]] w fun e w' => e = .returned (.tuple #[]) ∧ Tk lo gt w' ⟨rm, l.eraseIdx (least l) ++ [x]⟩ ∧ Fap gt w w' ∧ Below lo w w' := by
  have hlo : lo ≤ w.heap.size := hT.lo_le
  have HLO := Lib.hid hlo
  obtain ⟨A, n, c, htb, otb, own, hok⟩ := hT
  dsimp only at htb own
  have off_tb := ofs_type own htb (by decide)
  have hl := row_len (by decide) cnE_len own
  have HLL := Lib.hid hl
  have HOK := Lib.hid hok
  have H32 : Hid (n ≤ 1000) := Lib.hid (by have h1_ := hok.len; have h2_ := hok.r1; simp only at h1_ h2_; omega)
  clear hl hok
  have fo := Fo.refl htb
  obtain ⟨ie, hie, hie0, hie1, hie2⟩ := info_parts Try.info_cn
  obtain ⟨i, hi⟩ : ∃ i, least l = i := ⟨_, rfl⟩
  have hil : i < l.length := by rw [← hi]; exact least_lt (by have h1_ := HOK.out.r0; have h2_ := HLL.out; simp only at h1_; omega)
  have HI := Lib.hid hi
  have HIL : Hid (i < n) := Lib.hid (by have := HLL.out; omega)
  have HEL := Lib.hid (era_len hil)
  have hw1 : IntKind.i64.wrap ((i : Int) + 1) = (i : Int) + 1 := IntWalk.i64_in _ (by have := HIL.out; have := H32.out; omega)
  obtain ⟨gE, rfl, _⟩ := row_at own (by have := HIL.out; omega)
  have hr2 : (n : Int) ≥ rm := by rw [← HLL.out]; exact hr
  have HOK2 : Hid (Ts.ok ⟨rm, l.eraseIdx (least l) ++ [x]⟩) := Lib.hid ((HOK.out.era (least l)).put hx (by have h1_ := HOK.out.len; have h2_ := era_len (least_lt (l := l) (by have h1_ := HOK.out.r0; have h2_ := HLL.out; simp only at h1_; omega)); simp only at h1_ ⊢; omega))
  clear hi hil hr hx
  have bel := Below.refl lo w
  go_enter Try.func18, Try.ntmps18
  go_wp2_with (first | ((with_reducible show wpList _ _ _ (⟨some 3, _, _, _, _, _⟩ :: _) _ _); refine wpList_box_n rfl 51 (.tmp 1) rfl #[.int .i64 x.o, .int .u8 (x.ad.a.toNat : Int), .int .u8 (x.ad.b.toNat : Int), .int .u8 (x.ad.c.toNat : Int), .int .u8 (x.ad.d.toNat : Int), .int .i64 x.p, .int .i64 x.s, .bool x.d] rfl ?_; intro g3 w1 ge lt hh bb; have d_tb_cb := ne_new (hlt htb) ge; have ocb := Nat.le_trans (Nat.le_trans hlo bel.size) ge; have off_cb := owk_new own ge; have pn_cb := Nat.le_trans bel.size ge; replace htb := blk_u htb bb; replace own := owk_under own bb; replace fo := fo.below bb; replace bel := bel.trans (bb.mono (Nat.le_trans hlo bel.size)); have hcb := hh; clear hh lt ge bb))
  replace bel := bel.drew
  replace htb : w1.drew.heap[gt]? = _ := htb
  replace hcb : w1.drew.heap[g3]? = _ := hcb
  replace own := World.ownsRow.drew own
  replace fo := fo_drew fo
  refine wp_region_held_drew (S := fun W => W.heap[gt]? = some (.cells #[.int .i64 rm, .slice (some ⟨gE, 0, none⟩) n c] 45 (0, 0))) (by kernel_rfl) htb (fun hH => ?_)
  generalize w1.drew = w2 at bel htb hcb own fo hH ⊢
  refine wpAnyH_take (i := 0) (v := ?_) rfl (by kernel_rfl) (by kernel_rfl) (by kernel_rfl) (fun _ _ _ h => h) (Or.inl ⟨by rfl, ?_⟩) hH ?_
  rotate_left
  · ((intro W hW; clear hW; go_simp) <;> with_reducible rfl)
  simp only [Act.put, List.getElem_toArray, List.getElem_cons_zero, List.setIfInBounds_toArray, List.set_cons_zero, List.set_cons_succ]
  refine wpAnyH_take (i := 1) (v := ?_) rfl (by kernel_rfl) (by kernel_rfl) (by kernel_rfl) (fun _ _ _ h => h) (Or.inl ⟨by rfl, ?_⟩) hH ?_
  rotate_left
  · ((intro W hW; clear hW; go_simp) <;> with_reducible rfl)
  simp only [Act.put, List.getElem_toArray, List.getElem_cons_zero, List.getElem_cons_succ, List.setIfInBounds_toArray, List.set_cons_zero, List.set_cons_succ]
  refine wpAnyH_take (i := 2) (v := ?_) rfl (by kernel_rfl) (by kernel_rfl) (by kernel_rfl) (fun _ _ _ h => h) (Or.inl ⟨by rfl, ?_⟩) hH ?_
  rotate_left
  · ((intro W hW; clear hW; go_simp) <;> with_reducible rfl)
  simp only [Act.put, List.getElem_toArray, List.getElem_cons_zero, List.getElem_cons_succ, List.setIfInBounds_toArray, List.set_cons_zero, List.set_cons_succ]
  refine wpAnyH_take (i := 3) (v := ?_) rfl (by kernel_rfl) (by kernel_rfl) (by kernel_rfl) (fun _ _ _ h => h) (Or.inl ⟨by rfl, ?_⟩) hH ?_
  rotate_left
  · ((intro W hW; have hk := cell_lit (hW) 1 _ rfl; clear hW; go_simp) <;> with_reducible rfl)
  simp only [Act.put, List.getElem_toArray, List.getElem_cons_zero, List.getElem_cons_succ, List.setIfInBounds_toArray, List.set_cons_zero, List.set_cons_succ]
  refine wpAnyH_take (i := 4) (v := ?_) rfl (by kernel_rfl) (by kernel_rfl) (by kernel_rfl) (fun _ _ _ h => h) (Or.inl ⟨by rfl, ?_⟩) hH ?_
  rotate_left
  · ((intro W hW; clear hW; go_simp) <;> with_reducible rfl)
  simp only [Act.put, List.getElem_toArray, List.getElem_cons_zero, List.getElem_cons_succ, List.setIfInBounds_toArray, List.set_cons_zero, List.set_cons_succ]
  refine wpAnyH_take (i := 5) (v := ?_) rfl (by kernel_rfl) (by kernel_rfl) (by kernel_rfl) (fun _ _ _ h => h) (Or.inl ⟨by rfl, ?_⟩) hH ?_
  rotate_left
  · ((intro W hW; clear hW; go_simp) <;> with_reducible rfl)
  simp only [Act.put, List.getElem_toArray, List.getElem_cons_zero, List.getElem_cons_succ, List.setIfInBounds_toArray, List.set_cons_zero, List.set_cons_succ]
  refine wpAnyH_take (i := 6) (v := ?_) rfl (by kernel_rfl) (by kernel_rfl) (by kernel_rfl) (fun _ _ _ h => h) (Or.inl ⟨by rfl, ?_⟩) hH ?_
  rotate_left
  · ((intro W hW; clear hW; go_simp) <;> with_reducible rfl)
  simp only [Act.put, List.getElem_toArray, List.getElem_cons_zero, List.getElem_cons_succ, List.setIfInBounds_toArray, List.set_cons_zero, List.set_cons_succ]
  refine wpAnyH_take (i := 7) (v := ?_) rfl (by kernel_rfl) (by kernel_rfl) (by kernel_rfl) (fun _ _ _ h => h) (Or.inl ⟨by rfl, ?_⟩) hH ?_
  rotate_left
  · ((intro W hW; clear hW; go_simp) <;> with_reducible rfl)
  simp only [Act.put, List.getElem_toArray, List.getElem_cons_zero, List.getElem_cons_succ, List.setIfInBounds_toArray, List.set_cons_zero, List.set_cons_succ]
  refine wpAnyH_take (i := 8) (v := ?_) rfl (by kernel_rfl) (by kernel_rfl) (by kernel_rfl) (fun _ _ _ h => h) (Or.inl ⟨by rfl, ?_⟩) hH ?_
  rotate_left
  · ((intro W hW; have hk := cell_lit (hW) 0 _ rfl; clear hW; go_simp) <;> with_reducible rfl)
  simp only [Act.put, List.getElem_toArray, List.getElem_cons_zero, List.getElem_cons_succ, List.setIfInBounds_toArray, List.set_cons_zero, List.set_cons_succ]
  refine wpAnyH_take (i := 9) (v := ?_) rfl (by kernel_rfl) (by kernel_rfl) (by kernel_rfl) (fun _ _ _ h => h) (Or.inl ⟨by rfl, ?_⟩) hH ?_
  rotate_left
  · ((intro W hW; clear hW; go_simp) <;> with_reducible rfl)
  simp only [Act.put, List.getElem_toArray, List.getElem_cons_zero, List.getElem_cons_succ, List.setIfInBounds_toArray, List.set_cons_zero, List.set_cons_succ]
  refine wpAnyH_done (by kernel_rfl) ?_ _
  go_wp2_with fail
  with_reducible refine (least_any _ htb (owk_sle (by decide) cnE_len own).1 H32.out HI.out).mono ?_
  rintro e w3 ⟨rfl, b3⟩
  replace htb := blk_u htb b3
  replace hcb := blk_u hcb b3
  replace own := owk_under own b3
  replace fo := fo.below b3
  replace bel := bel.trans (b3.mono (Nat.le_trans hlo bel.size))
  clear b3
  have R21 := cell_lit htb 1 _ rfl
  go_wp2_with fail
  clear R21
  with_reducible refine (cn_delete _ own HIL.out).mono ?_
  rintro e w4 ⟨m, hm, rfl, own_, gw⟩
  replace bel := bel.trans (row_bel gw own (Nat.le_trans hlo bel.size))
  replace htb := blk_own (v := .slice (some ⟨gE, 0, none⟩) n c) htb gw off_tb
  replace hcb := blk_own (v := .slice (some ⟨gE, 0, none⟩) n c) hcb gw off_cb
  replace fo := fo.row gw (fun _ _ h => h)
  clear own
  have own := own_
  clear own_ gw
  have HM32 : Hid (m ≤ 1000) := Lib.hid (by have := H32.out; omega)
  clear hm
  go_wp2_with (first | ((with_reducible show wpList _ _ _ (⟨none, Op.store _ (.tmp 27) _, _, _, _, _⟩ :: _) _ _); refine wpList_store_part rfl 43 (.tmp 27) (.tmp 25) rfl gt 1 rfl [.slice (some ⟨gE, 0, none⟩) m c] rfl [.int .i64 rm, .slice (some ⟨gE, 0, none⟩) n c] 45 htb (by simp) [.int .i64 rm, .slice (some ⟨gE, 0, none⟩) m c] rfl (by kernel_rfl) (by rfl) ?_; intro w5 hq gr; replace hcb := blk_a hcb gr (ne_symm d_tb_cb); replace own := owk_off own off_tb gr; replace fo := fo.tb gr; replace bel := below_grown bel gr otb (Nat.le_trans hlo bel.size); clear htb; have htb := hq; clear hq gr))
  replace bel := bel.drew
  replace htb : w5.drew.heap[gt]? = _ := htb
  replace hcb : w5.drew.heap[g3]? = _ := hcb
  replace own := World.ownsRow.drew own
  replace fo := fo_drew fo
  refine wp_region_z 10 (S := fun W => W.heap[gt]? = some (.cells #[.int .i64 rm, .slice (some ⟨gE, 0, none⟩) m c] 45 (0, 0)) ∧ W.heap[g3]? = some (.cells #[.int .i64 x.o, .int .u8 (x.ad.a.toNat : Int), .int .u8 (x.ad.b.toNat : Int), .int .u8 (x.ad.c.toNat : Int), .int .u8 (x.ad.d.toNat : Int), .int .i64 x.p, .int .i64 x.s, .bool x.d] 51 (0, 0))) (by kernel_rfl) ⟨htb, hcb⟩ (fun hH => ?_)
  generalize w5.drew = w6 at bel htb hcb own fo hH ⊢
  refine wpAnyZ_take (i := 0) (v := ?_) rfl (by kernel_rfl) (by kernel_rfl) (by kernel_rfl) (fun _ _ _ h => h) (Or.inl ⟨by rfl, ?_⟩) hH ?_
  rotate_left
  · ((intro W hW; clear hW; go_simp) <;> with_reducible rfl)
  simp only [Act.put, List.getElem_toArray, List.getElem_cons_zero, List.setIfInBounds_toArray, List.set_cons_zero, List.set_cons_succ]
  refine wpAnyZ_take (i := 1) (v := ?_) rfl (by kernel_rfl) (by kernel_rfl) (by kernel_rfl) (fun _ _ _ h => h) (Or.inl ⟨by rfl, ?_⟩) hH ?_
  rotate_left
  · ((intro W hW; clear hW; go_simp) <;> with_reducible rfl)
  simp only [Act.put, List.getElem_toArray, List.getElem_cons_zero, List.getElem_cons_succ, List.setIfInBounds_toArray, List.set_cons_zero, List.set_cons_succ]
  refine wpAnyZ_take (i := 2) (v := ?_) rfl (by kernel_rfl) (by kernel_rfl) (by kernel_rfl) (fun _ _ _ h => h) (Or.inl ⟨by rfl, ?_⟩) hH ?_
  rotate_left
  · ((intro W hW; clear hW; go_simp) <;> with_reducible rfl)
  simp only [Act.put, List.getElem_toArray, List.getElem_cons_zero, List.getElem_cons_succ, List.setIfInBounds_toArray, List.set_cons_zero, List.set_cons_succ]
  refine wpAnyZ_take (i := 3) (v := ?_) rfl (by kernel_rfl) (by kernel_rfl) (by kernel_rfl) (fun _ _ _ h => h) (Or.inl ⟨by rfl, ?_⟩) hH ?_
  rotate_left
  · ((intro W hW; clear hW; go_simp) <;> with_reducible rfl)
  simp only [Act.put, List.getElem_toArray, List.getElem_cons_zero, List.getElem_cons_succ, List.setIfInBounds_toArray, List.set_cons_zero, List.set_cons_succ]
  refine wpAnyZ_take (i := 4) (v := ?_) rfl (by kernel_rfl) (by kernel_rfl) (by kernel_rfl) (fun _ _ _ h => h) (Or.inl ⟨by rfl, ?_⟩) hH ?_
  rotate_left
  · ((intro W hW; have hk := cell_lit (hW.1) 1 _ rfl; clear hW; go_simp) <;> with_reducible rfl)
  simp only [Act.put, List.getElem_toArray, List.getElem_cons_zero, List.getElem_cons_succ, List.setIfInBounds_toArray, List.set_cons_zero, List.set_cons_succ]
  refine wpAnyZ_take (i := 5) (v := .agg #[.int .i64 x.o, .int .u8 (x.ad.a.toNat : Int), .int .u8 (x.ad.b.toNat : Int), .int .u8 (x.ad.c.toNat : Int), .int .u8 (x.ad.d.toNat : Int), .int .i64 x.p, .int .i64 x.s, .bool x.d]) rfl (by kernel_rfl) (by kernel_rfl) (by kernel_rfl) (fun _ _ _ h => h) (yieldsIf_load_part (by kernel_rfl) 51 _ rfl g3 0 8 rfl _ 51 (0, 0) (fun W hW => hW.2) _ rfl _ Try.underlying51 rfl (by kernel_rfl)) hH ?_
  simp only [Act.put, List.getElem_toArray, List.getElem_cons_zero, List.getElem_cons_succ, List.setIfInBounds_toArray, List.set_cons_zero, List.set_cons_succ]
  refine wpAnyZ_ready (rs := [6]) (by kernel_rfl) (by simp) ?_
  refine AllReadyZ.cons (o := _) rfl (fun K hK => ?_) AllReadyZ.nil
  simp only [List.getElem_toArray, List.getElem_cons_zero, List.getElem_cons_succ]
  rw [if_pos (by rfl)]
  refine wp_lit_n 43 51 1 _ rfl #[.int .i64 x.o, .int .u8 (x.ad.a.toNat : Int), .int .u8 (x.ad.b.toNat : Int), .int .u8 (x.ad.c.toNat : Int), .int .u8 (x.ad.d.toNat : Int), .int .i64 x.p, .int .i64 x.s, .bool x.d] (.agg #[.int .i64 0, .int .u8 0, .int .u8 0, .int .u8 0, .int .u8 0, .int .i64 0, .int .i64 0, .bool false]) Try.underlying43 (by kernel_rfl) 8 (by kernel_rfl) (by decide) (by kernel_rfl) ?_
  intro g34 w7 ge lt hh bb
  have d_tb_b34 := ne_new (hlt htb) ge
  have d_cb_b34 := ne_new (hlt hcb) ge
  have ob34 := Nat.le_trans (Nat.le_trans hlo bel.size) ge
  have off_b34 := owk_new own ge
  have pn_b34 := Nat.le_trans bel.size ge
  replace htb := blk_u htb bb
  replace hcb := blk_u hcb bb
  replace own := owk_under own bb
  replace fo := fo.below bb
  replace bel := bel.trans (bb.mono (Nat.le_trans hlo bel.size))
  have hb34 := hh
  clear hh lt ge bb
  have vv : Sle cnE 8 w7 (some ⟨g34, 0, none⟩) (1) (1) ([x]) := sle_lit ([x]) (by decide) cnE_len hb34 rfl (by simp [maxLen])
  refine hK.out _ _ ⟨htb, hcb⟩ (fun hH8 => ?_)
  clear hK K
  simp only [Act.put, List.setIfInBounds_toArray, List.set_cons_zero, List.set_cons_succ]
  refine wpAnyZ_ready (rs := [7]) (by kernel_rfl) (by simp) ?_
  refine AllReadyZ.cons (o := _) rfl (fun K hK => ?_) AllReadyZ.nil
  simp only [List.getElem_toArray, List.getElem_cons_zero, List.getElem_cons_succ]
  rw [if_pos (by rfl)]
  refine wp_append_sle (.tmp 32) (.tmp 34) 43 rfl lo 51 ie (.agg #[.int .i64 0, .int .u8 0, .int .u8 0, .int .u8 0, .int .u8 0, .int .i64 0, .int .i64 0, .bool false]) 40 Try.underlying43 hie hie0 hie1 hie2 rfl cnE_one _ m (l.eraseIdx i) rfl own (some ⟨g34, 0, none⟩) 1 1 [x] rfl vv (by unfold maxLen; have := HM32.out; omega) (by have := HM32.out; omega) (Nat.le_trans HLO.out bel.size) ?_
  intro v35 w90 own_ bb gw ofw
  obtain ⟨A35, c35, rfl⟩ := owk_val own_
  clear bb
  clear vv
  replace bel := bel.trans (row_bel gw own (Nat.le_trans hlo bel.size))
  have off_tb_ := ofw _ (hlt htb) off_tb
  replace htb := blk_own (v := .slice (some ⟨gE, 0, none⟩) m c) htb gw off_tb
  clear off_tb
  have off_tb := off_tb_
  clear off_tb_
  have off_cb_ := ofw _ (hlt hcb) off_cb
  replace hcb := blk_own (v := .slice (some ⟨gE, 0, none⟩) m c) hcb gw off_cb
  clear off_cb
  have off_cb := off_cb_
  clear off_cb_
  have off_b34_ := ofw _ (hlt hb34) off_b34
  replace hb34 := blk_own (v := .slice (some ⟨gE, 0, none⟩) m c) hb34 gw off_b34
  clear off_b34
  have off_b34 := off_b34_
  clear off_b34_
  replace fo := fo.row gw ofw
  clear own
  have own := own_
  clear own_ gw ofw
  refine hK.out _ _ ⟨htb, hcb⟩ (fun hH9 => ?_)
  clear hK K
  simp only [Act.put, List.setIfInBounds_toArray, List.set_cons_zero, List.set_cons_succ]
  refine wpAnyZ_take (i := 8) (v := ?_) rfl (by kernel_rfl) (by kernel_rfl) (by kernel_rfl) (fun _ _ _ h => h) (Or.inl ⟨by rfl, ?_⟩) hH9 ?_
  rotate_left
  · ((intro W hW; clear hW; go_simp) <;> with_reducible rfl)
  simp only [Act.put, List.getElem_toArray, List.getElem_cons_zero, List.getElem_cons_succ, List.setIfInBounds_toArray, List.set_cons_zero, List.set_cons_succ]
  refine wpAnyZ_take (i := 9) (v := ?_) rfl (by kernel_rfl) (by kernel_rfl) (by kernel_rfl) (fun _ _ _ h => h) (Or.inl ⟨by rfl, ?_⟩) hH9 ?_
  rotate_left
  · ((intro W hW; clear hW; go_simp) <;> with_reducible rfl)
  simp only [Act.put, List.getElem_toArray, List.getElem_cons_zero, List.getElem_cons_succ, List.setIfInBounds_toArray, List.set_cons_zero, List.set_cons_succ]
  refine wpAnyZ_ready (rs := [10]) (by kernel_rfl) (by simp) ?_
  refine AllReadyZ.last (o := _) rfl (fun K hK => ?_)
  simp only [List.getElem_toArray, List.getElem_cons_zero, List.getElem_cons_succ]
  rw [if_pos (by rfl)]
  refine wp_store_part 43 (.tmp 37) (.tmp 35) rfl gt 1 rfl [.slice A35 (m + 1) c35] rfl [.int .i64 rm, .slice (some ⟨gE, 0, none⟩) m c] 45 htb (by simp) [.int .i64 rm, .slice A35 (m + 1) c35] rfl (by kernel_rfl) (by rfl) ?_
  intro w10 hq gr
  replace hcb := blk_a hcb gr (ne_symm d_tb_cb)
  replace hb34 := blk_a hb34 gr (ne_symm d_tb_b34)
  replace own := owk_off own off_tb gr
  replace fo := fo.tb gr
  replace bel := below_grown bel gr otb (Nat.le_trans hlo bel.size)
  clear htb
  have htb := hq
  clear hq gr
  refine hK.out _ _ trivial (fun hH11 => ?_)
  clear hK K
  simp only [Act.put]
  refine wpAnyZ_done (by kernel_rfl) ?_ _
  go_wp2_with fail
  exact bodyPost_end (results_none rfl _ _ _) rfl ⟨rfl, ⟨A35, m + 1, c35, htb, otb, (by rw [HI.out]; exact own), HOK2.out⟩, fo.fr htb, bel⟩
set_option linter.unusedVariables false in
set_option linter.unusedSimpArgs false in
set_option maxRecDepth 100000 in
set_option maxHeartbeats 16000000 in
theorem tsee_old {lo gt : Nat} {rm : Int} {l : List Cn} {i : Nat} {x : Cn} {o p : Int} {ad : Ad4} {b : Bool} {f : Int} {y : Cn} (w : World) (hT : Tk lo gt w ⟨rm, l⟩) (hN : l.findIdx (isB o ad p) = i) (hx : l[i]? = some x) (hy : fol x b f = y) : Calls Try.prog 10 #[.pointer (some ⟨gt, 0, none⟩), .int .i64 o, .agg #[.int .u8 (ad.a.toNat : Int), .int .u8 (ad.b.toNat : Int), .int .u8 (ad.c.toNat : Int), .int .u8 (ad.d.toNat : Int)], .int .i64 p, .bool b, .agg #[.int .i64 0, .int .i64 0, .int .u32 0, .int .u32 0, .int .i64 f, .int .i64 0, .int .i64 0, .slice none 0 0, .slice none 0 0]] w fun e w' => e = .returned (.int .i64 y.s) ∧ Tk lo gt w' ⟨rm, l.set i y⟩ ∧ Fap gt w w' ∧ Below lo w w' := by
  have hlo : lo ≤ w.heap.size := hT.lo_le
  have HLO := Lib.hid hlo
  obtain ⟨A, n, c, htb, otb, own, hok⟩ := hT
  dsimp only at htb own
  have off_tb := ofs_type own htb (by decide)
  have hl := row_len (by decide) cnE_len own
  have HLL := Lib.hid hl
  have HOK := Lib.hid hok
  have H32 : Hid (n ≤ 1000) := Lib.hid (by have h1_ := hok.len; have h2_ := hok.r1; simp only at h1_ h2_; omega)
  clear hl hok
  have fo := Fo.refl htb
  have HXO : Hid x.okp := Lib.hid (HOK.out.okp x (List.mem_of_getElem? hx))
  have HY := Lib.hid hy
  have HOK2 : Hid (Ts.ok ⟨rm, l.set i y⟩) := Lib.hid (HOK.out.set i (hy ▸ fol_okp HXO.out b f))
  clear hy
  have HN := Lib.hid hN
  have HX := Lib.hid hx
  have HIL : Hid (i < l.length) := Lib.hid (List.getElem?_eq_some_iff.1 hx).1
  have hin_ : i < n := by have h1_ := (List.getElem?_eq_some_iff.1 hx).1; have h2_ := HLL.out; omega
  have i0 : (0 : Int) ≤ i := by omega
  have i1 : (i : Int) < n := by omega
  obtain ⟨gE, rfl, _⟩ := row_at own (by omega)
  have en := (owk_sle (by decide) cnE_len own).1
  have av_en_tb := owk_av own off_tb
  clear hin_
  clear hN hx
  have bel := Below.refl lo w
  go_enter Try.func10, Try.ntmps10
  go_wp2_with (first | ((with_reducible show wpList _ _ _ (⟨some 8, _, _, _, _, _⟩ :: _) _ _); refine wpList_box_n rfl 29 (.tmp 2) rfl #[.int .u8 (ad.a.toNat : Int), .int .u8 (ad.b.toNat : Int), .int .u8 (ad.c.toNat : Int), .int .u8 (ad.d.toNat : Int)] rfl ?_; intro g8 w1 ge lt hh bb; have d_tb_ab := ne_new (hlt htb) ge; have av_en_ab := en.av_new ge; have oab := Nat.le_trans (Nat.le_trans hlo bel.size) ge; have off_ab := owk_new own ge; have pn_ab := Nat.le_trans bel.size ge; replace htb := blk_u htb bb; replace en := en.below bb; replace own := owk_under own bb; replace fo := fo.below bb; replace bel := bel.trans (bb.mono (Nat.le_trans hlo bel.size)); have hab := hh; clear hh lt ge bb) | ((with_reducible show wpList _ _ _ (⟨some 11, _, _, _, _, _⟩ :: _) _ _); refine wpList_box_n rfl 34 (.tmp 5) rfl #[.int .i64 0, .int .i64 0, .int .u32 0, .int .u32 0, .int .i64 f, .int .i64 0, .int .i64 0, .slice none 0 0, .slice none 0 0] rfl ?_; intro g11 w2 ge lt hh bb; have d_tb_sb := ne_new (hlt htb) ge; have d_ab_sb := ne_new (hlt hab) ge; have av_en_sb := en.av_new ge; have osb := Nat.le_trans (Nat.le_trans hlo bel.size) ge; have off_sb := owk_new own ge; have pn_sb := Nat.le_trans bel.size ge; replace htb := blk_u htb bb; replace hab := blk_u hab bb; replace en := en.below bb; replace own := owk_under own bb; replace fo := fo.below bb; replace bel := bel.trans (bb.mono (Nat.le_trans hlo bel.size)); have hsb := hh; clear hh lt ge bb; have R18 := Lib.hid (range_lit hab 0 4 [.int .u8 (ad.a.toNat : Int), .int .u8 (ad.b.toNat : Int), .int .u8 (ad.c.toNat : Int), .int .u8 (ad.d.toNat : Int)] rfl)) | ((with_reducible show wpList _ _ _ (⟨some 18, _, _, _, _, _⟩ :: _) _ _); refine wpList_load_rng 29 (.tmp 8) rfl (by kernel_rfl) _ _ rfl _ R18.out _ Try.underlying29 rfl (by kernel_rfl) ?_) | ((with_reducible show wpList _ _ _ (⟨some 13, _, _, _, _, _⟩ :: _) _ _); refine wpList_new_a rfl 47 rfl #[.int .i64 0, .int .u8 0, .int .u8 0, .int .u8 0, .int .u8 0, .int .i64 0] (by kernel_rfl) ?_; intro g13 w3 ge hh bb; have d_tb_eb := ne_new (hlt htb) ge; have d_ab_eb := ne_new (hlt hab) ge; have d_sb_eb := ne_new (hlt hsb) ge; have av_en_eb := en.av_new ge; have oeb := Nat.le_trans (Nat.le_trans hlo bel.size) ge; have off_eb := owk_new own ge; have pn_eb := Nat.le_trans bel.size ge; replace htb := blk_u htb bb; replace hab := blk_u hab bb; replace hsb := blk_u hsb bb; replace en := en.below bb; replace own := owk_under own bb; replace fo := fo.below bb; replace bel := bel.trans (bb.mono (Nat.le_trans hlo bel.size)); have heb := hh; clear hh ge bb) | ((with_reducible show wpList _ _ _ (⟨none, Op.store _ (.tmp 13) _, _, _, _, _⟩ :: _) _ _); refine wpList_store_blk rfl 47 (.tmp 13) (.tmp 20) rfl g13 rfl _ rfl _ 47 heb (by rfl) (by kernel_rfl) (by kernel_rfl) ?_; intro w4 hq gr; replace en := en.away av_en_eb gr; replace htb := blk_a htb gr d_tb_eb; replace hab := blk_a hab gr d_ab_eb; replace hsb := blk_a hsb gr d_sb_eb; replace own := owk_off own off_eb gr; replace fo := fo.newer gr pn_eb; replace bel := below_grown bel gr oeb (Nat.le_trans hlo bel.size); clear heb; have heb := hq; clear hq gr; have R22 := Lib.hid (range_lit heb 0 6 [.int .i64 o, .int .u8 (ad.a.toNat : Int), .int .u8 (ad.b.toNat : Int), .int .u8 (ad.c.toNat : Int), .int .u8 (ad.d.toNat : Int), .int .i64 p] rfl)) | ((with_reducible show wpList _ _ _ (⟨some 22, _, _, _, _, _⟩ :: _) _ _); refine wpList_load_rng 47 (.tmp 13) rfl (by kernel_rfl) _ _ rfl _ R22.out _ Try.underlying47 rfl (by kernel_rfl) ?_))
  try clear R18
  try clear R22
  with_reducible refine (find_yes _ htb (owk_sle (by decide) cnE_len own).1 H32.out HN.out HIL.out).mono ?_
  rintro e w5 ⟨rfl, b5⟩
  replace htb := blk_u htb b5
  replace hab := blk_u hab b5
  replace hsb := blk_u hsb b5
  replace heb := blk_u heb b5
  replace en := en.below b5
  replace own := owk_under own b5
  replace fo := fo.below b5
  replace bel := bel.trans (b5.mono (Nat.le_trans hlo bel.size))
  clear b5
  have R29 := cell_lit htb 1 _ rfl
  have R35 := cell_lit hsb 4 _ rfl
  go_wp2_with fail
  clear R29 R35
  have HLO_ := Nat.le_trans HLO.out bel.size
  with_reducible refine (follow_el (x := x) (y := y) b f _ HLO_ own HX.out HXO.out HY.out).mono ?_
  rintro e w6 ⟨rfl, own_, gw⟩
  replace bel := bel.trans (row_bel gw own (Nat.le_trans hlo bel.size))
  replace htb := blk_own (v := .slice (some ⟨gE, 0, none⟩) n c) htb gw off_tb
  replace hab := blk_own (v := .slice (some ⟨gE, 0, none⟩) n c) hab gw off_ab
  replace hsb := blk_own (v := .slice (some ⟨gE, 0, none⟩) n c) hsb gw off_sb
  replace heb := blk_own (v := .slice (some ⟨gE, 0, none⟩) n c) heb gw off_eb
  replace fo := fo.row gw (fun _ _ h => h)
  clear own
  have own := own_
  clear own_ gw
  replace en := (owk_sle (by decide) cnE_len own).1
  clear HLO_
  have HX2 := Lib.hid (set_at (y := y) HX.out)
  have R40 := Sle.zcell en HX2.out 6 _ rfl
  go_wp2_with fail
  clear R40
  go_ret
  exact ⟨rfl, ⟨(some ⟨gE, 0, none⟩), n, c, htb, otb, own, HOK2.out⟩, fo.fr htb, bel⟩
set_option linter.unusedVariables false in
set_option linter.unusedSimpArgs false in
set_option maxRecDepth 100000 in
set_option maxHeartbeats 16000000 in
theorem tsee_none {lo gt : Nat} {rm : Int} {l : List Cn} {o p : Int} {ad : Ad4} {b : Bool} {f : Int} {y : Cn} (w : World) (hT : Tk lo gt w ⟨rm, l⟩) (hN : l.findIdx (isB o ad p) = l.length) (hy : fol ⟨o, ad, p, 0, false⟩ b f = y) (h0 : y.s = 0) : Calls Try.prog 10 #[.pointer (some ⟨gt, 0, none⟩), .int .i64 o, .agg #[.int .u8 (ad.a.toNat : Int), .int .u8 (ad.b.toNat : Int), .int .u8 (ad.c.toNat : Int), .int .u8 (ad.d.toNat : Int)], .int .i64 p, .bool b, .agg #[.int .i64 0, .int .i64 0, .int .u32 0, .int .u32 0, .int .i64 f, .int .i64 0, .int .i64 0, .slice none 0 0, .slice none 0 0]] w fun e w' => e = .returned (.int .i64 y.s) ∧ Tk lo gt w' ⟨rm, l⟩ ∧ Fap gt w w' ∧ Below lo w w' := by
  have hlo : lo ≤ w.heap.size := hT.lo_le
  have HLO := Lib.hid hlo
  obtain ⟨A, n, c, htb, otb, own, hok⟩ := hT
  dsimp only at htb own
  have off_tb := ofs_type own htb (by decide)
  have hl := row_len (by decide) cnE_len own
  have HLL := Lib.hid hl
  have HOK := Lib.hid hok
  have H32 : Hid (n ≤ 1000) := Lib.hid (by have h1_ := hok.len; have h2_ := hok.r1; simp only at h1_ h2_; omega)
  clear hl hok
  have fo := Fo.refl htb
  have HY := Lib.hid hy
  clear hy
  have hy0 : (y.s != 0) = false := by rw [h0]; rfl
  have hy1 : (y.s == 0) = true := by rw [h0]; rfl
  clear h0
  have HN := Lib.hid hN
  clear hN
  have bel := Below.refl lo w
  go_enter Try.func10, Try.ntmps10
  go_wp2_with (first | ((with_reducible show wpList _ _ _ (⟨some 8, _, _, _, _, _⟩ :: _) _ _); refine wpList_box_n rfl 29 (.tmp 2) rfl #[.int .u8 (ad.a.toNat : Int), .int .u8 (ad.b.toNat : Int), .int .u8 (ad.c.toNat : Int), .int .u8 (ad.d.toNat : Int)] rfl ?_; intro g8 w1 ge lt hh bb; have d_tb_ab := ne_new (hlt htb) ge; have oab := Nat.le_trans (Nat.le_trans hlo bel.size) ge; have off_ab := owk_new own ge; have pn_ab := Nat.le_trans bel.size ge; replace htb := blk_u htb bb; replace own := owk_under own bb; replace fo := fo.below bb; replace bel := bel.trans (bb.mono (Nat.le_trans hlo bel.size)); have hab := hh; clear hh lt ge bb) | ((with_reducible show wpList _ _ _ (⟨some 11, _, _, _, _, _⟩ :: _) _ _); refine wpList_box_n rfl 34 (.tmp 5) rfl #[.int .i64 0, .int .i64 0, .int .u32 0, .int .u32 0, .int .i64 f, .int .i64 0, .int .i64 0, .slice none 0 0, .slice none 0 0] rfl ?_; intro g11 w2 ge lt hh bb; have d_tb_sb := ne_new (hlt htb) ge; have d_ab_sb := ne_new (hlt hab) ge; have osb := Nat.le_trans (Nat.le_trans hlo bel.size) ge; have off_sb := owk_new own ge; have pn_sb := Nat.le_trans bel.size ge; replace htb := blk_u htb bb; replace hab := blk_u hab bb; replace own := owk_under own bb; replace fo := fo.below bb; replace bel := bel.trans (bb.mono (Nat.le_trans hlo bel.size)); have hsb := hh; clear hh lt ge bb; have R18 := Lib.hid (range_lit hab 0 4 [.int .u8 (ad.a.toNat : Int), .int .u8 (ad.b.toNat : Int), .int .u8 (ad.c.toNat : Int), .int .u8 (ad.d.toNat : Int)] rfl)) | ((with_reducible show wpList _ _ _ (⟨some 18, _, _, _, _, _⟩ :: _) _ _); refine wpList_load_rng 29 (.tmp 8) rfl (by kernel_rfl) _ _ rfl _ R18.out _ Try.underlying29 rfl (by kernel_rfl) ?_) | ((with_reducible show wpList _ _ _ (⟨some 13, _, _, _, _, _⟩ :: _) _ _); refine wpList_new_a rfl 47 rfl #[.int .i64 0, .int .u8 0, .int .u8 0, .int .u8 0, .int .u8 0, .int .i64 0] (by kernel_rfl) ?_; intro g13 w3 ge hh bb; have d_tb_eb := ne_new (hlt htb) ge; have d_ab_eb := ne_new (hlt hab) ge; have d_sb_eb := ne_new (hlt hsb) ge; have oeb := Nat.le_trans (Nat.le_trans hlo bel.size) ge; have off_eb := owk_new own ge; have pn_eb := Nat.le_trans bel.size ge; replace htb := blk_u htb bb; replace hab := blk_u hab bb; replace hsb := blk_u hsb bb; replace own := owk_under own bb; replace fo := fo.below bb; replace bel := bel.trans (bb.mono (Nat.le_trans hlo bel.size)); have heb := hh; clear hh ge bb) | ((with_reducible show wpList _ _ _ (⟨none, Op.store _ (.tmp 13) _, _, _, _, _⟩ :: _) _ _); refine wpList_store_blk rfl 47 (.tmp 13) (.tmp 20) rfl g13 rfl _ rfl _ 47 heb (by rfl) (by kernel_rfl) (by kernel_rfl) ?_; intro w4 hq gr; replace htb := blk_a htb gr d_tb_eb; replace hab := blk_a hab gr d_ab_eb; replace hsb := blk_a hsb gr d_sb_eb; replace own := owk_off own off_eb gr; replace fo := fo.newer gr pn_eb; replace bel := below_grown bel gr oeb (Nat.le_trans hlo bel.size); clear heb; have heb := hq; clear hq gr; have R22 := Lib.hid (range_lit heb 0 6 [.int .i64 o, .int .u8 (ad.a.toNat : Int), .int .u8 (ad.b.toNat : Int), .int .u8 (ad.c.toNat : Int), .int .u8 (ad.d.toNat : Int), .int .i64 p] rfl)) | ((with_reducible show wpList _ _ _ (⟨some 22, _, _, _, _, _⟩ :: _) _ _); refine wpList_load_rng 47 (.tmp 13) rfl (by kernel_rfl) _ _ rfl _ R22.out _ Try.underlying47 rfl (by kernel_rfl) ?_))
  try clear R18
  try clear R22
  with_reducible refine (find_no _ htb (owk_sle (by decide) cnE_len own).1 H32.out HN.out).mono ?_
  rintro e w5 ⟨rfl, b5⟩
  replace htb := blk_u htb b5
  replace hab := blk_u hab b5
  replace hsb := blk_u hsb b5
  replace heb := blk_u heb b5
  replace own := owk_under own b5
  replace fo := fo.below b5
  replace bel := bel.trans (b5.mono (Nat.le_trans hlo bel.size))
  clear b5
  have R41 := Lib.hid (range_lit heb 0 6 [.int .i64 o, .int .u8 (ad.a.toNat : Int), .int .u8 (ad.b.toNat : Int), .int .u8 (ad.c.toNat : Int), .int .u8 (ad.d.toNat : Int), .int .i64 p] rfl)
  go_wp2_with (first | ((with_reducible show wpList _ _ _ (⟨some 41, _, _, _, _, _⟩ :: _) _ _); refine wpList_load_rng 47 (.tmp 13) rfl (by kernel_rfl) _ _ rfl _ R41.out _ Try.underlying47 rfl (by kernel_rfl) ?_) | ((with_reducible show wpList _ _ _ (⟨some 16, _, _, _, _, _⟩ :: _) _ _); refine wpList_new_a rfl 51 rfl #[.int .i64 0, .int .u8 0, .int .u8 0, .int .u8 0, .int .u8 0, .int .i64 0, .int .i64 0, .bool false] (by kernel_rfl) ?_; intro g16 w6 ge hh bb; have d_tb_cb := ne_new (hlt htb) ge; have d_ab_cb := ne_new (hlt hab) ge; have d_sb_cb := ne_new (hlt hsb) ge; have d_eb_cb := ne_new (hlt heb) ge; have ocb := Nat.le_trans (Nat.le_trans hlo bel.size) ge; have off_cb := owk_new own ge; have pn_cb := Nat.le_trans bel.size ge; replace htb := blk_u htb bb; replace hab := blk_u hab bb; replace hsb := blk_u hsb bb; replace heb := blk_u heb bb; replace own := owk_under own bb; replace fo := fo.below bb; replace bel := bel.trans (bb.mono (Nat.le_trans hlo bel.size)); have hcb := hh; clear hh ge bb) | ((with_reducible show wpList _ _ _ (⟨none, Op.store _ (.tmp 16) _, _, _, _, _⟩ :: _) _ _); refine wpList_store_blk rfl 51 (.tmp 16) (.tmp 42) rfl g16 rfl _ rfl _ 51 hcb (by rfl) (by kernel_rfl) (by kernel_rfl) ?_; intro w7 hq gr; replace htb := blk_a htb gr d_tb_cb; replace hab := blk_a hab gr d_ab_cb; replace hsb := blk_a hsb gr d_sb_cb; replace heb := blk_a heb gr d_eb_cb; replace own := owk_off own off_cb gr; replace fo := fo.newer gr pn_cb; replace bel := below_grown bel gr ocb (Nat.le_trans hlo bel.size); clear hcb; have hcb := hq; clear hq gr; have R45 := cell_lit hsb 4 _ rfl))
  try clear R41
  try clear R45
  with_reducible refine (follow_box (x := ⟨o, ad, p, 0, false⟩) (y := y) b f _ hcb (x0_okp o ad p) HY.out).mono ?_
  rintro e w8 ⟨rfl, hq_, b8⟩
  replace htb := blk_a htb b8 d_tb_cb
  replace hab := blk_a hab b8 d_ab_cb
  replace hsb := blk_a hsb b8 d_sb_cb
  replace heb := blk_a heb b8 d_eb_cb
  replace own := owk_off own off_cb b8
  replace fo := fo.newer b8 pn_cb
  replace bel := below_grown bel b8 ocb (Nat.le_trans hlo bel.size)
  clear b8
  clear hcb
  have hcb := hq_
  clear hq_
  have R48 := cell_lit hcb 6 _ rfl
  have R54 := cell_lit hcb 6 _ rfl
  go_wp2_with fail
  clear R48 R54
  go_ret
  exact ⟨rfl, ⟨A, n, c, htb, otb, own, HOK.out⟩, fo.fr htb, bel⟩
set_option linter.unusedVariables false in
set_option linter.unusedSimpArgs false in
set_option maxRecDepth 100000 in
set_option maxHeartbeats 16000000 in
theorem tsee_new {lo gt : Nat} {rm : Int} {l : List Cn} {o p : Int} {ad : Ad4} {b : Bool} {f : Int} {y : Cn} (w : World) (hT : Tk lo gt w ⟨rm, l⟩) (hN : l.findIdx (isB o ad p) = l.length) (hy : fol ⟨o, ad, p, 0, false⟩ b f = y) (h0 : y.s ≠ 0) (hr : (l.length : Int) < rm) : Calls Try.prog 10 #[.pointer (some ⟨gt, 0, none⟩), .int .i64 o, .agg #[.int .u8 (ad.a.toNat : Int), .int .u8 (ad.b.toNat : Int), .int .u8 (ad.c.toNat : Int), .int .u8 (ad.d.toNat : Int)], .int .i64 p, .bool b, .agg #[.int .i64 0, .int .i64 0, .int .u32 0, .int .u32 0, .int .i64 f, .int .i64 0, .int .i64 0, .slice none 0 0, .slice none 0 0]] w fun e w' => e = .returned (.int .i64 y.s) ∧ Tk lo gt w' ⟨rm, l ++ [y]⟩ ∧ Fap gt w w' ∧ Below lo w w' := by
  have hlo : lo ≤ w.heap.size := hT.lo_le
  have HLO := Lib.hid hlo
  obtain ⟨A, n, c, htb, otb, own, hok⟩ := hT
  dsimp only at htb own
  have off_tb := ofs_type own htb (by decide)
  have hl := row_len (by decide) cnE_len own
  have HLL := Lib.hid hl
  have HOK := Lib.hid hok
  have H32 : Hid (n ≤ 1000) := Lib.hid (by have h1_ := hok.len; have h2_ := hok.r1; simp only at h1_ h2_; omega)
  clear hl hok
  have fo := Fo.refl htb
  have HY := Lib.hid hy
  clear hy
  have hy1 : (y.s == 0) = false := by simpa using h0
  have hy0 : (y.s != 0) = true := by simpa using h0
  have HYO : Hid y.okp := Lib.hid (HY.out ▸ fol_okp (x0_okp o ad p) b f)
  have HR := Lib.hid hr
  clear h0 hr
  have HN := Lib.hid hN
  clear hN
  have bel := Below.refl lo w
  go_enter Try.func10, Try.ntmps10
  go_wp2_with (first | ((with_reducible show wpList _ _ _ (⟨some 8, _, _, _, _, _⟩ :: _) _ _); refine wpList_box_n rfl 29 (.tmp 2) rfl #[.int .u8 (ad.a.toNat : Int), .int .u8 (ad.b.toNat : Int), .int .u8 (ad.c.toNat : Int), .int .u8 (ad.d.toNat : Int)] rfl ?_; intro g8 w1 ge lt hh bb; have d_tb_ab := ne_new (hlt htb) ge; have oab := Nat.le_trans (Nat.le_trans hlo bel.size) ge; have off_ab := owk_new own ge; have pn_ab := Nat.le_trans bel.size ge; replace htb := blk_u htb bb; replace own := owk_under own bb; replace fo := fo.below bb; replace bel := bel.trans (bb.mono (Nat.le_trans hlo bel.size)); have hab := hh; clear hh lt ge bb) | ((with_reducible show wpList _ _ _ (⟨some 11, _, _, _, _, _⟩ :: _) _ _); refine wpList_box_n rfl 34 (.tmp 5) rfl #[.int .i64 0, .int .i64 0, .int .u32 0, .int .u32 0, .int .i64 f, .int .i64 0, .int .i64 0, .slice none 0 0, .slice none 0 0] rfl ?_; intro g11 w2 ge lt hh bb; have d_tb_sb := ne_new (hlt htb) ge; have d_ab_sb := ne_new (hlt hab) ge; have osb := Nat.le_trans (Nat.le_trans hlo bel.size) ge; have off_sb := owk_new own ge; have pn_sb := Nat.le_trans bel.size ge; replace htb := blk_u htb bb; replace hab := blk_u hab bb; replace own := owk_under own bb; replace fo := fo.below bb; replace bel := bel.trans (bb.mono (Nat.le_trans hlo bel.size)); have hsb := hh; clear hh lt ge bb; have R18 := Lib.hid (range_lit hab 0 4 [.int .u8 (ad.a.toNat : Int), .int .u8 (ad.b.toNat : Int), .int .u8 (ad.c.toNat : Int), .int .u8 (ad.d.toNat : Int)] rfl)) | ((with_reducible show wpList _ _ _ (⟨some 18, _, _, _, _, _⟩ :: _) _ _); refine wpList_load_rng 29 (.tmp 8) rfl (by kernel_rfl) _ _ rfl _ R18.out _ Try.underlying29 rfl (by kernel_rfl) ?_) | ((with_reducible show wpList _ _ _ (⟨some 13, _, _, _, _, _⟩ :: _) _ _); refine wpList_new_a rfl 47 rfl #[.int .i64 0, .int .u8 0, .int .u8 0, .int .u8 0, .int .u8 0, .int .i64 0] (by kernel_rfl) ?_; intro g13 w3 ge hh bb; have d_tb_eb := ne_new (hlt htb) ge; have d_ab_eb := ne_new (hlt hab) ge; have d_sb_eb := ne_new (hlt hsb) ge; have oeb := Nat.le_trans (Nat.le_trans hlo bel.size) ge; have off_eb := owk_new own ge; have pn_eb := Nat.le_trans bel.size ge; replace htb := blk_u htb bb; replace hab := blk_u hab bb; replace hsb := blk_u hsb bb; replace own := owk_under own bb; replace fo := fo.below bb; replace bel := bel.trans (bb.mono (Nat.le_trans hlo bel.size)); have heb := hh; clear hh ge bb) | ((with_reducible show wpList _ _ _ (⟨none, Op.store _ (.tmp 13) _, _, _, _, _⟩ :: _) _ _); refine wpList_store_blk rfl 47 (.tmp 13) (.tmp 20) rfl g13 rfl _ rfl _ 47 heb (by rfl) (by kernel_rfl) (by kernel_rfl) ?_; intro w4 hq gr; replace htb := blk_a htb gr d_tb_eb; replace hab := blk_a hab gr d_ab_eb; replace hsb := blk_a hsb gr d_sb_eb; replace own := owk_off own off_eb gr; replace fo := fo.newer gr pn_eb; replace bel := below_grown bel gr oeb (Nat.le_trans hlo bel.size); clear heb; have heb := hq; clear hq gr; have R22 := Lib.hid (range_lit heb 0 6 [.int .i64 o, .int .u8 (ad.a.toNat : Int), .int .u8 (ad.b.toNat : Int), .int .u8 (ad.c.toNat : Int), .int .u8 (ad.d.toNat : Int), .int .i64 p] rfl)) | ((with_reducible show wpList _ _ _ (⟨some 22, _, _, _, _, _⟩ :: _) _ _); refine wpList_load_rng 47 (.tmp 13) rfl (by kernel_rfl) _ _ rfl _ R22.out _ Try.underlying47 rfl (by kernel_rfl) ?_))
  try clear R18
  try clear R22
  with_reducible refine (find_no _ htb (owk_sle (by decide) cnE_len own).1 H32.out HN.out).mono ?_
  rintro e w5 ⟨rfl, b5⟩
  replace htb := blk_u htb b5
  replace hab := blk_u hab b5
  replace hsb := blk_u hsb b5
  replace heb := blk_u heb b5
  replace own := owk_under own b5
  replace fo := fo.below b5
  replace bel := bel.trans (b5.mono (Nat.le_trans hlo bel.size))
  clear b5
  have R41 := Lib.hid (range_lit heb 0 6 [.int .i64 o, .int .u8 (ad.a.toNat : Int), .int .u8 (ad.b.toNat : Int), .int .u8 (ad.c.toNat : Int), .int .u8 (ad.d.toNat : Int), .int .i64 p] rfl)
  go_wp2_with (first | ((with_reducible show wpList _ _ _ (⟨some 41, _, _, _, _, _⟩ :: _) _ _); refine wpList_load_rng 47 (.tmp 13) rfl (by kernel_rfl) _ _ rfl _ R41.out _ Try.underlying47 rfl (by kernel_rfl) ?_) | ((with_reducible show wpList _ _ _ (⟨some 16, _, _, _, _, _⟩ :: _) _ _); refine wpList_new_a rfl 51 rfl #[.int .i64 0, .int .u8 0, .int .u8 0, .int .u8 0, .int .u8 0, .int .i64 0, .int .i64 0, .bool false] (by kernel_rfl) ?_; intro g16 w6 ge hh bb; have d_tb_cb := ne_new (hlt htb) ge; have d_ab_cb := ne_new (hlt hab) ge; have d_sb_cb := ne_new (hlt hsb) ge; have d_eb_cb := ne_new (hlt heb) ge; have ocb := Nat.le_trans (Nat.le_trans hlo bel.size) ge; have off_cb := owk_new own ge; have pn_cb := Nat.le_trans bel.size ge; replace htb := blk_u htb bb; replace hab := blk_u hab bb; replace hsb := blk_u hsb bb; replace heb := blk_u heb bb; replace own := owk_under own bb; replace fo := fo.below bb; replace bel := bel.trans (bb.mono (Nat.le_trans hlo bel.size)); have hcb := hh; clear hh ge bb) | ((with_reducible show wpList _ _ _ (⟨none, Op.store _ (.tmp 16) _, _, _, _, _⟩ :: _) _ _); refine wpList_store_blk rfl 51 (.tmp 16) (.tmp 42) rfl g16 rfl _ rfl _ 51 hcb (by rfl) (by kernel_rfl) (by kernel_rfl) ?_; intro w7 hq gr; replace htb := blk_a htb gr d_tb_cb; replace hab := blk_a hab gr d_ab_cb; replace hsb := blk_a hsb gr d_sb_cb; replace heb := blk_a heb gr d_eb_cb; replace own := owk_off own off_cb gr; replace fo := fo.newer gr pn_cb; replace bel := below_grown bel gr ocb (Nat.le_trans hlo bel.size); clear hcb; have hcb := hq; clear hq gr; have R45 := cell_lit hsb 4 _ rfl))
  try clear R41
  try clear R45
  with_reducible refine (follow_box (x := ⟨o, ad, p, 0, false⟩) (y := y) b f _ hcb (x0_okp o ad p) HY.out).mono ?_
  rintro e w8 ⟨rfl, hq_, b8⟩
  replace htb := blk_a htb b8 d_tb_cb
  replace hab := blk_a hab b8 d_ab_cb
  replace hsb := blk_a hsb b8 d_sb_cb
  replace heb := blk_a heb b8 d_eb_cb
  replace own := owk_off own off_cb b8
  replace fo := fo.newer b8 pn_cb
  replace bel := below_grown bel b8 ocb (Nat.le_trans hlo bel.size)
  clear b8
  clear hcb
  have hcb := hq_
  clear hq_
  have R48 := cell_lit hcb 6 _ rfl
  have R51 := Lib.hid (range_lit hcb 0 8 [.int .i64 y.o, .int .u8 (y.ad.a.toNat : Int), .int .u8 (y.ad.b.toNat : Int), .int .u8 (y.ad.c.toNat : Int), .int .u8 (y.ad.d.toNat : Int), .int .i64 y.p, .int .i64 y.s, .bool y.d] rfl)
  go_wp2_with (first | ((with_reducible show wpList _ _ _ (⟨some 51, _, _, _, _, _⟩ :: _) _ _); refine wpList_load_rng 51 (.tmp 16) rfl (by kernel_rfl) _ _ rfl _ R51.out _ Try.underlying51 rfl (by kernel_rfl) ?_))
  try clear R48
  try clear R51
  have ap_ab := Ap.mk htb off_ab (ne_symm d_tb_ab).out
  have ap_sb := Ap.mk htb off_sb (ne_symm d_tb_sb).out
  have ap_eb := Ap.mk htb off_eb (ne_symm d_tb_eb).out
  have ap_cb := Ap.mk htb off_cb (ne_symm d_tb_cb).out
  have fr := fo.fr htb
  have hT : Tk lo gt w8 ⟨rm, l⟩ := ⟨A, n, c, htb, otb, own, HOK.out⟩
  clear htb own off_tb fo
  with_reducible refine (tadd_new _ hT HYO.out HR.out).mono ?_
  rintro e w9 ⟨rfl, hT_, f_, bb⟩
  have x_ := f_ _ _ _ _ hab ap_ab
  replace hab := x_.1
  replace ap_ab := x_.2
  clear x_
  have x_ := f_ _ _ _ _ hsb ap_sb
  replace hsb := x_.1
  replace ap_sb := x_.2
  clear x_
  have x_ := f_ _ _ _ _ heb ap_eb
  replace heb := x_.1
  replace ap_eb := x_.2
  clear x_
  have x_ := f_ _ _ _ _ hcb ap_cb
  replace hcb := x_.1
  replace ap_cb := x_.2
  clear x_
  replace fr := fr.trans f_
  clear hT
  have hT := hT_
  replace bel := bel.trans bb
  clear bb f_ hT_
  have R54 := cell_lit hcb 6 _ rfl
  go_wp2_with fail
  clear R54
  go_ret
  exact ⟨rfl, hT, fr, bel⟩
set_option linter.unusedVariables false in
set_option linter.unusedSimpArgs false in
set_option maxRecDepth 100000 in
set_option maxHeartbeats 16000000 in
theorem tsee_full {lo gt : Nat} {rm : Int} {l : List Cn} {o p : Int} {ad : Ad4} {b : Bool} {f : Int} {y : Cn} (w : World) (hT : Tk lo gt w ⟨rm, l⟩) (hN : l.findIdx (isB o ad p) = l.length) (hy : fol ⟨o, ad, p, 0, false⟩ b f = y) (h0 : y.s ≠ 0) (hr : rm ≤ (l.length : Int)) : Calls Try.prog 10 #[.pointer (some ⟨gt, 0, none⟩), .int .i64 o, .agg #[.int .u8 (ad.a.toNat : Int), .int .u8 (ad.b.toNat : Int), .int .u8 (ad.c.toNat : Int), .int .u8 (ad.d.toNat : Int)], .int .i64 p, .bool b, .agg #[.int .i64 0, .int .i64 0, .int .u32 0, .int .u32 0, .int .i64 f, .int .i64 0, .int .i64 0, .slice none 0 0, .slice none 0 0]] w fun e w' => e = .returned (.int .i64 y.s) ∧ Tk lo gt w' ⟨rm, l.eraseIdx (least l) ++ [y]⟩ ∧ Fap gt w w' ∧ Below lo w w' := by
  have hlo : lo ≤ w.heap.size := hT.lo_le
  have HLO := Lib.hid hlo
  obtain ⟨A, n, c, htb, otb, own, hok⟩ := hT
  dsimp only at htb own
  have off_tb := ofs_type own htb (by decide)
  have hl := row_len (by decide) cnE_len own
  have HLL := Lib.hid hl
  have HOK := Lib.hid hok
  have H32 : Hid (n ≤ 1000) := Lib.hid (by have h1_ := hok.len; have h2_ := hok.r1; simp only at h1_ h2_; omega)
  clear hl hok
  have fo := Fo.refl htb
  have HY := Lib.hid hy
  clear hy
  have hy1 : (y.s == 0) = false := by simpa using h0
  have hy0 : (y.s != 0) = true := by simpa using h0
  have HYO : Hid y.okp := Lib.hid (HY.out ▸ fol_okp (x0_okp o ad p) b f)
  have HR := Lib.hid hr
  clear h0 hr
  have HN := Lib.hid hN
  clear hN
  have bel := Below.refl lo w
  go_enter Try.func10, Try.ntmps10
  go_wp2_with (first | ((with_reducible show wpList _ _ _ (⟨some 8, _, _, _, _, _⟩ :: _) _ _); refine wpList_box_n rfl 29 (.tmp 2) rfl #[.int .u8 (ad.a.toNat : Int), .int .u8 (ad.b.toNat : Int), .int .u8 (ad.c.toNat : Int), .int .u8 (ad.d.toNat : Int)] rfl ?_; intro g8 w1 ge lt hh bb; have d_tb_ab := ne_new (hlt htb) ge; have oab := Nat.le_trans (Nat.le_trans hlo bel.size) ge; have off_ab := owk_new own ge; have pn_ab := Nat.le_trans bel.size ge; replace htb := blk_u htb bb; replace own := owk_under own bb; replace fo := fo.below bb; replace bel := bel.trans (bb.mono (Nat.le_trans hlo bel.size)); have hab := hh; clear hh lt ge bb) | ((with_reducible show wpList _ _ _ (⟨some 11, _, _, _, _, _⟩ :: _) _ _); refine wpList_box_n rfl 34 (.tmp 5) rfl #[.int .i64 0, .int .i64 0, .int .u32 0, .int .u32 0, .int .i64 f, .int .i64 0, .int .i64 0, .slice none 0 0, .slice none 0 0] rfl ?_; intro g11 w2 ge lt hh bb; have d_tb_sb := ne_new (hlt htb) ge; have d_ab_sb := ne_new (hlt hab) ge; have osb := Nat.le_trans (Nat.le_trans hlo bel.size) ge; have off_sb := owk_new own ge; have pn_sb := Nat.le_trans bel.size ge; replace htb := blk_u htb bb; replace hab := blk_u hab bb; replace own := owk_under own bb; replace fo := fo.below bb; replace bel := bel.trans (bb.mono (Nat.le_trans hlo bel.size)); have hsb := hh; clear hh lt ge bb; have R18 := Lib.hid (range_lit hab 0 4 [.int .u8 (ad.a.toNat : Int), .int .u8 (ad.b.toNat : Int), .int .u8 (ad.c.toNat : Int), .int .u8 (ad.d.toNat : Int)] rfl)) | ((with_reducible show wpList _ _ _ (⟨some 18, _, _, _, _, _⟩ :: _) _ _); refine wpList_load_rng 29 (.tmp 8) rfl (by kernel_rfl) _ _ rfl _ R18.out _ Try.underlying29 rfl (by kernel_rfl) ?_) | ((with_reducible show wpList _ _ _ (⟨some 13, _, _, _, _, _⟩ :: _) _ _); refine wpList_new_a rfl 47 rfl #[.int .i64 0, .int .u8 0, .int .u8 0, .int .u8 0, .int .u8 0, .int .i64 0] (by kernel_rfl) ?_; intro g13 w3 ge hh bb; have d_tb_eb := ne_new (hlt htb) ge; have d_ab_eb := ne_new (hlt hab) ge; have d_sb_eb := ne_new (hlt hsb) ge; have oeb := Nat.le_trans (Nat.le_trans hlo bel.size) ge; have off_eb := owk_new own ge; have pn_eb := Nat.le_trans bel.size ge; replace htb := blk_u htb bb; replace hab := blk_u hab bb; replace hsb := blk_u hsb bb; replace own := owk_under own bb; replace fo := fo.below bb; replace bel := bel.trans (bb.mono (Nat.le_trans hlo bel.size)); have heb := hh; clear hh ge bb) | ((with_reducible show wpList _ _ _ (⟨none, Op.store _ (.tmp 13) _, _, _, _, _⟩ :: _) _ _); refine wpList_store_blk rfl 47 (.tmp 13) (.tmp 20) rfl g13 rfl _ rfl _ 47 heb (by rfl) (by kernel_rfl) (by kernel_rfl) ?_; intro w4 hq gr; replace htb := blk_a htb gr d_tb_eb; replace hab := blk_a hab gr d_ab_eb; replace hsb := blk_a hsb gr d_sb_eb; replace own := owk_off own off_eb gr; replace fo := fo.newer gr pn_eb; replace bel := below_grown bel gr oeb (Nat.le_trans hlo bel.size); clear heb; have heb := hq; clear hq gr; have R22 := Lib.hid (range_lit heb 0 6 [.int .i64 o, .int .u8 (ad.a.toNat : Int), .int .u8 (ad.b.toNat : Int), .int .u8 (ad.c.toNat : Int), .int .u8 (ad.d.toNat : Int), .int .i64 p] rfl)) | ((with_reducible show wpList _ _ _ (⟨some 22, _, _, _, _, _⟩ :: _) _ _); refine wpList_load_rng 47 (.tmp 13) rfl (by kernel_rfl) _ _ rfl _ R22.out _ Try.underlying47 rfl (by kernel_rfl) ?_))
  try clear R18
  try clear R22
  with_reducible refine (find_no _ htb (owk_sle (by decide) cnE_len own).1 H32.out HN.out).mono ?_
  rintro e w5 ⟨rfl, b5⟩
  replace htb := blk_u htb b5
  replace hab := blk_u hab b5
  replace hsb := blk_u hsb b5
  replace heb := blk_u heb b5
  replace own := owk_under own b5
  replace fo := fo.below b5
  replace bel := bel.trans (b5.mono (Nat.le_trans hlo bel.size))
  clear b5
  have R41 := Lib.hid (range_lit heb 0 6 [.int .i64 o, .int .u8 (ad.a.toNat : Int), .int .u8 (ad.b.toNat : Int), .int .u8 (ad.c.toNat : Int), .int .u8 (ad.d.toNat : Int), .int .i64 p] rfl)
  go_wp2_with (first | ((with_reducible show wpList _ _ _ (⟨some 41, _, _, _, _, _⟩ :: _) _ _); refine wpList_load_rng 47 (.tmp 13) rfl (by kernel_rfl) _ _ rfl _ R41.out _ Try.underlying47 rfl (by kernel_rfl) ?_) | ((with_reducible show wpList _ _ _ (⟨some 16, _, _, _, _, _⟩ :: _) _ _); refine wpList_new_a rfl 51 rfl #[.int .i64 0, .int .u8 0, .int .u8 0, .int .u8 0, .int .u8 0, .int .i64 0, .int .i64 0, .bool false] (by kernel_rfl) ?_; intro g16 w6 ge hh bb; have d_tb_cb := ne_new (hlt htb) ge; have d_ab_cb := ne_new (hlt hab) ge; have d_sb_cb := ne_new (hlt hsb) ge; have d_eb_cb := ne_new (hlt heb) ge; have ocb := Nat.le_trans (Nat.le_trans hlo bel.size) ge; have off_cb := owk_new own ge; have pn_cb := Nat.le_trans bel.size ge; replace htb := blk_u htb bb; replace hab := blk_u hab bb; replace hsb := blk_u hsb bb; replace heb := blk_u heb bb; replace own := owk_under own bb; replace fo := fo.below bb; replace bel := bel.trans (bb.mono (Nat.le_trans hlo bel.size)); have hcb := hh; clear hh ge bb) | ((with_reducible show wpList _ _ _ (⟨none, Op.store _ (.tmp 16) _, _, _, _, _⟩ :: _) _ _); refine wpList_store_blk rfl 51 (.tmp 16) (.tmp 42) rfl g16 rfl _ rfl _ 51 hcb (by rfl) (by kernel_rfl) (by kernel_rfl) ?_; intro w7 hq gr; replace htb := blk_a htb gr d_tb_cb; replace hab := blk_a hab gr d_ab_cb; replace hsb := blk_a hsb gr d_sb_cb; replace heb := blk_a heb gr d_eb_cb; replace own := owk_off own off_cb gr; replace fo := fo.newer gr pn_cb; replace bel := below_grown bel gr ocb (Nat.le_trans hlo bel.size); clear hcb; have hcb := hq; clear hq gr; have R45 := cell_lit hsb 4 _ rfl))
  try clear R41
  try clear R45
  with_reducible refine (follow_box (x := ⟨o, ad, p, 0, false⟩) (y := y) b f _ hcb (x0_okp o ad p) HY.out).mono ?_
  rintro e w8 ⟨rfl, hq_, b8⟩
  replace htb := blk_a htb b8 d_tb_cb
  replace hab := blk_a hab b8 d_ab_cb
  replace hsb := blk_a hsb b8 d_sb_cb
  replace heb := blk_a heb b8 d_eb_cb
  replace own := owk_off own off_cb b8
  replace fo := fo.newer b8 pn_cb
  replace bel := below_grown bel b8 ocb (Nat.le_trans hlo bel.size)
  clear b8
  clear hcb
  have hcb := hq_
  clear hq_
  have R48 := cell_lit hcb 6 _ rfl
  have R51 := Lib.hid (range_lit hcb 0 8 [.int .i64 y.o, .int .u8 (y.ad.a.toNat : Int), .int .u8 (y.ad.b.toNat : Int), .int .u8 (y.ad.c.toNat : Int), .int .u8 (y.ad.d.toNat : Int), .int .i64 y.p, .int .i64 y.s, .bool y.d] rfl)
  go_wp2_with (first | ((with_reducible show wpList _ _ _ (⟨some 51, _, _, _, _, _⟩ :: _) _ _); refine wpList_load_rng 51 (.tmp 16) rfl (by kernel_rfl) _ _ rfl _ R51.out _ Try.underlying51 rfl (by kernel_rfl) ?_))
  try clear R48
  try clear R51
  have ap_ab := Ap.mk htb off_ab (ne_symm d_tb_ab).out
  have ap_sb := Ap.mk htb off_sb (ne_symm d_tb_sb).out
  have ap_eb := Ap.mk htb off_eb (ne_symm d_tb_eb).out
  have ap_cb := Ap.mk htb off_cb (ne_symm d_tb_cb).out
  have fr := fo.fr htb
  have hT : Tk lo gt w8 ⟨rm, l⟩ := ⟨A, n, c, htb, otb, own, HOK.out⟩
  clear htb own off_tb fo
  with_reducible refine (tadd_full _ hT HYO.out HR.out).mono ?_
  rintro e w9 ⟨rfl, hT_, f_, bb⟩
  have x_ := f_ _ _ _ _ hab ap_ab
  replace hab := x_.1
  replace ap_ab := x_.2
  clear x_
  have x_ := f_ _ _ _ _ hsb ap_sb
  replace hsb := x_.1
  replace ap_sb := x_.2
  clear x_
  have x_ := f_ _ _ _ _ heb ap_eb
  replace heb := x_.1
  replace ap_eb := x_.2
  clear x_
  have x_ := f_ _ _ _ _ hcb ap_cb
  replace hcb := x_.1
  replace ap_cb := x_.2
  clear x_
  replace fr := fr.trans f_
  clear hT
  have hT := hT_
  replace bel := bel.trans bb
  clear bb f_ hT_
  have R54 := cell_lit hcb 6 _ rfl
  go_wp2_with fail
  clear R54
  go_ret
  exact ⟨rfl, hT, fr, bel⟩
end Go.Proofs.Ytjfkeocdojjpgaa
