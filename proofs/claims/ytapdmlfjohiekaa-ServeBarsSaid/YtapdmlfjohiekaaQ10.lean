/- Texts put together: Sv1. -/
import Derived.Test.YtapdmlfjohiekaaQ1
import Derived.Test.YtapdmlfjohiekaaQ9
import Derived.Deep.CutRange
namespace Go.Proofs.Ytapdmlfjohiekaa
open Go.RowKit

/-- A function whose results are two rows of memory. -/
theorem results_cell2_row {P : Program} {fn : Func} {p q : Tmp} {ty tz : TypeId} (h : fn.results = #[.cell p ty, .cell q tz]) (tmps : Array Value) (w : World) (g k : Nat) (T U : TypeId) (cs ds : Array Value) (fr fs : Nat × Nat) (d d2 : TypeDesc)
    (hp : tmps.getD p undef = .pointer (some ⟨g, 0, none⟩)) (hg : w.heap[g]? = some (.cells cs T fr)) (hu : P.underlying ty = some d) (hd : d.isRow = true) (hi : (P.info? ty).map (·.size) = some cs.size)
    (hq : tmps.getD q undef = .pointer (some ⟨k, 0, none⟩)) (hk : w.heap[k]? = some (.cells ds U fs)) (hu2 : P.underlying tz = some d2) (hd2 : d2.isRow = true) (hi2 : (P.info? tz).map (·.size) = some ds.size) :
    (results fn tmps).run P w = .ok (.tuple #[.agg cs, .agg ds]) w := by
  have h1 := run_loadVar_row (P := P) w g T ty cs fr d hg hu (by cases d <;> simp_all) hi
  have h2 := run_loadVar_row (P := P) w k U tz ds fs d2 hk hu2 (by cases d2 <;> simp_all) hi2
  have hp' : tmps[p]?.getD undef = .pointer (some ⟨g, 0, none⟩) := by simpa using hp
  have hq' : tmps[q]?.getD undef = .pointer (some ⟨k, 0, none⟩) := by simpa using hq
  simp only [results, h]
  simp [Sem.run_bind, Result.andThen, hp', hq', asAddr, h1, h2]
set_option linter.unusedVariables false in
set_option linter.unusedSimpArgs false in
set_option maxRecDepth 100000 in
set_option maxHeartbeats 16000000 in
theorem snone_any {a : Ad4} {b : Bool} (w : World) (hb : a.eqB Ad4.zero = b) : Calls Try.prog 45 #[.agg #[.int .u8 (a.a.toNat : Int), .int .u8 (a.b.toNat : Int), .int .u8 (a.c.toNat : Int), .int .u8 (a.d.toNat : Int)]] w fun e w' => e = .returned (.bool b) ∧ Below w.heap.size w w' := by
  have EQ_ : ∀ W, (binOp .eql 28 (.agg #[.int .u8 (a.a.toNat : Int), .int .u8 (a.b.toNat : Int), .int .u8 (a.c.toNat : Int), .int .u8 (a.d.toNat : Int)]) (.agg #[.int .u8 0, .int .u8 0, .int .u8 0, .int .u8 0])).run Try.prog W = .ok (.bool b) W := fun W => by have h_ := eqa_b a Ad4.zero W; rw [hb] at h_; exact h_
  clear hb
  have bel := Below.refl w.heap.size w
  go_enter Try.func45, Try.ntmps45
  go_wp2_with (first | ((with_reducible show wpList _ _ _ (⟨some 1, _, _, _, _, _⟩ :: _) _ _); refine wpList_box_n rfl 28 (.tmp 0) rfl #[.int .u8 (a.a.toNat : Int), .int .u8 (a.b.toNat : Int), .int .u8 (a.c.toNat : Int), .int .u8 (a.d.toNat : Int)] rfl ?_; intro g1 w1 ge lt hh bb; have op := Nat.le_trans bel.size ge; replace bel := bel.trans (bb.mono bel.size); have hp := hh; clear hh lt ge bb; have R3 := Lib.hid (range_lit hp 0 4 [.int .u8 (a.a.toNat : Int), .int .u8 (a.b.toNat : Int), .int .u8 (a.c.toNat : Int), .int .u8 (a.d.toNat : Int)] rfl)) | ((with_reducible show wpList _ _ _ (⟨some 3, _, _, _, _, _⟩ :: _) _ _); refine wpList_load_rng 28 (.tmp 1) rfl (by kernel_rfl) _ _ rfl _ R3.out _ Try.underlying28 rfl (by kernel_rfl) ?_))
  try clear R3
  go_ret
  exact ⟨rfl, bel⟩
set_option linter.unusedVariables false in
set_option linter.unusedSimpArgs false in
set_option maxRecDepth 100000 in
set_option maxHeartbeats 16000000 in
theorem saddr_any (code : Int) (a : Ad4) (w : World) : Calls Try.prog 80 #[.int .i64 code, .agg #[.int .u8 (a.a.toNat : Int), .int .u8 (a.b.toNat : Int), .int .u8 (a.c.toNat : Int), .int .u8 (a.d.toNat : Int)]] w fun e w' => ∃ g, e = .returned (.agg #[.int .i64 code, .slice (some ⟨g, 0, none⟩) 4 4]) ∧ w.heap.size ≤ g ∧ w'.heap[g]? = some (.cells #[.int .u8 (a.a.toNat : Int), .int .u8 (a.b.toNat : Int), .int .u8 (a.c.toNat : Int), .int .u8 (a.d.toNat : Int)] 28 (0, 0)) ∧ Below w.heap.size w w' := by
  have bel := Below.refl w.heap.size w
  go_enter Try.func80, Try.ntmps80
  go_wp2_with (first | ((with_reducible show wpList _ _ _ (⟨some 3, _, _, _, _, _⟩ :: _) _ _); refine wpList_box_n rfl 28 (.tmp 1) rfl #[.int .u8 (a.a.toNat : Int), .int .u8 (a.b.toNat : Int), .int .u8 (a.c.toNat : Int), .int .u8 (a.d.toNat : Int)] rfl ?_; intro g3 w1 ge lt hh bb; have oab := Nat.le_trans bel.size ge; replace bel := bel.trans (bb.mono bel.size); have hab := hh; clear hh lt ge bb) | ((with_reducible show wpList _ _ _ (⟨some 4, _, _, _, _, _⟩ :: _) _ _); refine wpList_new_a rfl 49 rfl #[.int .i64 0, .slice none 0 0] (by kernel_rfl) ?_; intro g4 w2 ge hh bb; have d_ab_z := ne_new (hlt hab) ge; have oz := Nat.le_trans bel.size ge; replace hab := blk_u hab bb; replace bel := bel.trans (bb.mono bel.size); have hz := hh; clear hh ge bb) | ((with_reducible show wpList _ _ _ (⟨none, Op.store _ (.tmp 4) _, _, _, _, _⟩ :: _) _ _); refine wpList_store_blk rfl 49 (.tmp 4) (.tmp 7) rfl g4 rfl _ rfl _ 49 hz (by rfl) (by kernel_rfl) (by kernel_rfl) ?_; intro w3 hq gr; replace hab := blk_a hab gr d_ab_z; replace bel := below_grown bel gr oz bel.size; clear hz; have hz := hq; clear hq gr))
  exact bodyPost_ret (results_cell_row' rfl _ _ _ _ _ _ _ rfl hz Try.underlying49 rfl (by kernel_rfl)) rfl ⟨_, rfl, oab, hab, bel⟩
set_option linter.unusedVariables false in
set_option linter.unusedSimpArgs false in
set_option maxRecDepth 100000 in
set_option maxHeartbeats 16000000 in
theorem snum_any (code x : Int) (w : World) : Calls Try.prog 81 #[.int .i64 code, .int .u32 x] w fun e w' => ∃ g, e = .returned (.agg #[.int .i64 code, .slice (some ⟨g, 0, none⟩) 4 4]) ∧ w.heap.size ≤ g ∧ w'.heap[g]? = some (.cells #[.int .u8 ((byteOf (x / 16777216)).toNat : Int), .int .u8 ((byteOf (x / 65536)).toNat : Int), .int .u8 ((byteOf (x / 256)).toNat : Int), .int .u8 ((byteOf x).toNat : Int)] 5 (0, 0)) ∧ Below w.heap.size w w' := by
  have bel := Below.refl w.heap.size w
  go_enter Try.func81, Try.ntmps81
  go_wp2_with (first | ((with_reducible show wpList _ _ _ (⟨some 4, _, _, _, _, _⟩ :: _) _ _); refine wpList_new_a rfl 49 rfl #[.int .i64 0, .slice none 0 0] (by kernel_rfl) ?_; intro g4 w1 ge hh bb; have oz := Nat.le_trans bel.size ge; replace bel := bel.trans (bb.mono bel.size); have hz := hh; clear hh ge bb) | ((with_reducible show wpList _ _ _ (⟨some 17, _, _, _, _, _⟩ :: _) _ _); refine wpList_lit_n rfl 47 5 4 _ rfl #[.int .u8 (x / 16777216 % 256), .int .u8 (x / 65536 % 256), .int .u8 (x / 256 % 256), .int .u8 (x % 256)] (.int .u8 0) Try.underlying47 (by kernel_rfl) 1 (by kernel_rfl) (by decide) (by kernel_rfl) ?_; intro g17 w2 ge lt hh bb; have hl : w2.heap[g17]? = some (.cells (([byteOf (x / 16777216), byteOf (x / 65536), byteOf (x / 256), byteOf x] : List UInt8).map u8v).toArray 5 (0, 0)) := (by simpa [u8v, byteOf_val] using hh); have snw := own_lit (B := w1.heap.size) ([byteOf (x / 16777216), byteOf (x / 65536), byteOf (x / 256), byteOf x]) hl ge 4 rfl (by simp [maxLen]); have sn := (own_sl snw).1; have snlo := bel.size; clear hl; have snge := ge; have lz_sn := bb.size; have y_sn_z := Lib.hid (hlt hz); have d_z_bn := ne_new (hlt hz) ge; have obn := Nat.le_trans bel.size ge; replace hz := blk_u hz bb; replace bel := bel.trans (bb.mono bel.size); have hbn := hh; clear hh lt ge bb; have av_sn_z := (own_sl snw).2.av y_sn_z.out) | ((with_reducible show wpList _ _ _ (⟨none, Op.store _ (.tmp 4) _, _, _, _, _⟩ :: _) _ _); refine wpList_store_blk rfl 49 (.tmp 4) (.tmp 18) rfl g4 rfl _ rfl _ 49 hz (by rfl) (by kernel_rfl) (by kernel_rfl) ?_; intro w3 hq gr; replace sn := sn.away av_sn_z gr; replace snw := own_away snw y_sn_z.out gr; replace lz_sn := Nat.le_trans lz_sn gr.size; replace hbn := blk_a hbn gr (ne_symm d_z_bn); replace bel := below_grown bel gr oz bel.size; clear hz; have hz := hq; clear hq gr))
  have hbn_ : w3.heap[g17]? = some (Obj.cells #[.int .u8 ((byteOf (x / 16777216)).toNat : Int), .int .u8 ((byteOf (x / 65536)).toNat : Int), .int .u8 ((byteOf (x / 256)).toNat : Int), .int .u8 ((byteOf x).toNat : Int)] 5 (0, 0)) := by simpa [byteOf_val] using hbn
  go_wp2_with fail
  exact bodyPost_ret (results_cell_row' rfl _ _ _ _ _ _ _ rfl hz Try.underlying49 rfl (by kernel_rfl)) rfl ⟨_, rfl, obn, hbn_, bel⟩
/-- Options out of the blocks that hold their bodies. -/
theorem ob_one {w : World} {g : Nat} {v : Value} {x : UInt8} {T : TypeId} (cd : Int) (h : w.heap[g]? = some (.cells #[v] T (0, 0))) (hv : v = u8v x) (hT : T ∉ [84, 101]) : Ob w ⟨cd, some ⟨g, 0, none⟩, 1, 1⟩ (cd, [x]) :=
  ⟨rfl, sl_block h rfl (Nat.le_of_ble_eq_true rfl) (fun j b hj => by
    cases j with
    | zero => simp only [List.getElem?_cons_zero, Option.some.injEq] at hj; subst hj; subst hv; rfl
    | succ j => simp at hj), Nt.of h hT, (Nat.le_of_ble_eq_true rfl : _ ≤ 100000)⟩
theorem ob_four {w : World} {g : Nat} {v0 v1 v2 v3 : Value} {x0 x1 x2 x3 : UInt8} {T : TypeId} (cd : Int) (h : w.heap[g]? = some (.cells #[v0, v1, v2, v3] T (0, 0))) (h0 : v0 = u8v x0) (h1 : v1 = u8v x1) (h2 : v2 = u8v x2) (h3 : v3 = u8v x3) (hT : T ∉ [84, 101]) : Ob w ⟨cd, some ⟨g, 0, none⟩, 4, 4⟩ (cd, [x0, x1, x2, x3]) := by
  subst h0; subst h1; subst h2; subst h3
  exact ⟨rfl, sl_four x0 x1 x2 x3 h rfl rfl rfl rfl, Nt.of h hT, (Nat.le_of_ble_eq_true rfl : _ ≤ 100000)⟩
/-- What lies at a block beyond q is apart from q. -/
theorem av_at {g q o n : Nat} {p : Option Nat} (h : q < g) : Av (some ⟨g, o, p⟩) n q := fun _ a o' p' e => by
  injection e with e
  injection e with e1
  subst e1
  exact Nat.ne_of_gt h
theorem row_av {w : World} {B k q n c : Nat} {A : Option Addr} {T : TypeId} {xs : List Value} (h : w.ownsRow B T k (.slice A n c) n xs) (hq : q < B) : Av A n q := fun hn a o p e => by
  obtain ⟨g, e2, hg, _⟩ := row_at h hn
  rw [e2] at e
  injection e with e
  injection e with e1
  subst e1
  omega
set_option linter.unusedVariables false in
set_option linter.unusedSimpArgs false in
set_option maxRecDepth 100000 in
set_option maxHeartbeats 16000000 in
theorem sopts_nak {gs gp : Nat} {own : Ad4} {mk sc : Int} (w : World) (hsv : w.heap[gs]? = some (.cells #[.pointer (some ⟨gp, 0, none⟩), .int .u8 (own.a.toNat : Int), .int .u8 (own.b.toNat : Int), .int .u8 (own.c.toNat : Int), .int .u8 (own.d.toNat : Int), .int .u32 mk, .int .i64 sc, .slice none 0 0] 64 (0, 0))) (hs0 : 0 ≤ sc) (hs1 : sc < 4294967296) : Calls Try.prog 66 #[.pointer (some ⟨gs, 0, none⟩), .int .u8 6, .bool true] w fun e w' => ∃ A2 c2 hs2, e = .returned (.slice A2 2 c2) ∧ Opv w' A2 2 c2 hs2 [(53, [6]), (54, own.l)] ∧ (∀ q, q < w.heap.size → Oa A2 2 hs2 q) ∧ Below w.heap.size w w' := by
  obtain ⟨io, hio, hio0, hio1, hio2⟩ := info_parts Try.info_opt
  have bel := Below.refl w.heap.size w
  go_enter Try.func66, Try.ntmps66
  go_wp2_with (first | ((with_reducible show wpList _ _ _ (⟨some 9, _, _, _, _, _⟩ :: _) _ _); refine wpList_lit_n rfl 47 5 1 _ rfl #[.int .u8 6] (.int .u8 0) Try.underlying47 (by kernel_rfl) 1 (by kernel_rfl) (by decide) (by kernel_rfl) ?_; intro g9 w1 ge lt hh bb; have hl : w1.heap[g9]? = some (.cells (([6] : List UInt8).map u8v).toArray 5 (0, 0)) := (by simpa [u8v, byteOf_val] using hh); have skw := own_lit (B := w.heap.size) ([6]) hl ge 1 rfl (by simp [maxLen]); have sk := (own_sl skw).1; have sklo := bel.size; clear hl; have skge := ge; have lz_sk := bb.size; have y_sk_sv := Lib.hid (hlt hsv); have d_sv_b9 := ne_new (hlt hsv) ge; have ob9 := Nat.le_trans bel.size ge; replace hsv := blk_u hsv bb; replace bel := bel.trans (bb.mono bel.size); have hb9 := hh; clear hh lt ge bb; have av_sk_sv := (own_sl skw).2.av y_sk_sv.out; have R14 := Lib.hid (range_lit hsv 1 4 [.int .u8 (own.a.toNat : Int), .int .u8 (own.b.toNat : Int), .int .u8 (own.c.toNat : Int), .int .u8 (own.d.toNat : Int)] rfl)) | ((with_reducible show wpList _ _ _ (⟨some 14, _, _, _, _, _⟩ :: _) _ _); refine wpList_load_rng 28 (.tmp 13) rfl (by kernel_rfl) _ _ rfl _ R14.out _ Try.underlying28 rfl (by kernel_rfl) ?_))
  try clear R14
  with_reducible refine (saddr_any _ _ _).mono ?_
  rintro e w2 ⟨gA, rfl, ge, hh, b2⟩
  have d_sv_ba := ne_new (hlt hsv) ge
  have d_b9_ba := ne_new (hlt hb9) ge
  have av_sk_ba := sk.av_new ge
  have of_sk_ba := own_new skw ge
  have oba := Nat.le_trans bel.size ge
  replace hsv := blk_u hsv b2
  replace hb9 := blk_u hb9 b2
  replace sk := sk.below b2
  replace skw := own_under skw b2
  replace lz_sk := Nat.le_trans lz_sk b2.size
  replace bel := bel.trans (b2.mono bel.size)
  have hba := hh
  clear hh ge b2
  go_wp2_with (first | ((with_reducible show wpList _ _ _ (⟨some 16, _, _, _, _, _⟩ :: _) _ _); refine wpList_lit_n rfl 39 49 2 _ rfl #[.int .i64 53, .slice (some ⟨g9, 0, none⟩) 1 1, .int .i64 54, .slice (some ⟨gA, 0, none⟩) 4 4] (.agg #[.int .i64 0, .slice none 0 0]) Try.underlying39 (by kernel_rfl) 2 (by kernel_rfl) (by decide) (by kernel_rfl) ?_; intro g16 w3 ge lt hh bb; have rww := owk_lit (B := w2.heap.size) ([Oh.mk 53 (some ⟨g9, 0, none⟩) 1 1, Oh.mk 54 (some ⟨gA, 0, none⟩) 4 4] : List Oh) opE_len (show w3.heap[g16]? = some (.cells (([Oh.mk 53 (some ⟨g9, 0, none⟩) 1 1, Oh.mk 54 (some ⟨gA, 0, none⟩) 4 4] : List Oh).flatMap opE).toArray 49 (0, 0)) from hh) ge 2 rfl (by simp [maxLen]); have rw := (owk_sle (by decide) opE_len rww).1; have rwlo := bel.size; have rwge := ge; have lz_rw := bb.size; have y_rw_sv := Lib.hid (hlt hsv); have y_rw_b9 := Lib.hid (hlt hb9); have y_rw_ba := Lib.hid (hlt hba); have bl_sk_rw := sk.bl_new; have d_sv_b16 := ne_new (hlt hsv) ge; have d_b9_b16 := ne_new (hlt hb9) ge; have d_ba_b16 := ne_new (hlt hba) ge; have av_sk_b16 := sk.av_new ge; have of_sk_b16 := own_new skw ge; have ob16 := Nat.le_trans bel.size ge; replace hsv := blk_u hsv bb; replace hb9 := blk_u hb9 bb; replace hba := blk_u hba bb; replace sk := sk.below bb; replace skw := own_under skw bb; replace lz_sk := Nat.le_trans lz_sk bb.size; replace bel := bel.trans (bb.mono bel.size); have hb16 := hh; clear hh lt ge bb; have av_rw_sv := (owk_sle (by decide) opE_len rww).2.av y_rw_sv.out; have av_rw_b9 := (owk_sle (by decide) opE_len rww).2.av y_rw_b9.out; have av_rw_ba := (owk_sle (by decide) opE_len rww).2.av y_rw_ba.out))
  go_ret
  exact ⟨_, _, _, rfl, ⟨rw, Nt.row rww (by decide), by decide, ⟨ob_one 53 hb9 rfl (by decide), ⟨ob_four 54 hba rfl rfl rfl rfl (by decide), trivial⟩⟩⟩, fun q_ hq_ => ⟨row_av rww (Nat.lt_of_lt_of_le hq_ rwlo), List.forall_mem_cons.2 ⟨av_at (Nat.lt_of_lt_of_le hq_ ob9), List.forall_mem_cons.2 ⟨av_at (Nat.lt_of_lt_of_le hq_ oba), List.forall_mem_nil _⟩⟩⟩, bel⟩
set_option linter.unusedVariables false in
set_option linter.unusedSimpArgs false in
set_option maxRecDepth 100000 in
set_option maxHeartbeats 16000000 in
theorem sopts_offer {gs gp : Nat} {own : Ad4} {mk sc : Int} (w : World) (hsv : w.heap[gs]? = some (.cells #[.pointer (some ⟨gp, 0, none⟩), .int .u8 (own.a.toNat : Int), .int .u8 (own.b.toNat : Int), .int .u8 (own.c.toNat : Int), .int .u8 (own.d.toNat : Int), .int .u32 mk, .int .i64 sc, .slice none 0 0] 64 (0, 0))) (hs0 : 0 ≤ sc) (hs1 : sc < 4294967296) : Calls Try.prog 66 #[.pointer (some ⟨gs, 0, none⟩), .int .u8 2, .bool true] w fun e w' => ∃ A2 c2 hs2, e = .returned (.slice A2 6 c2) ∧ Opv w' A2 6 c2 hs2 [(53, [2]), (54, own.l), (51, four sc), (1, four mk), (3, own.l), (6, own.l)] ∧ (∀ q, q < w.heap.size → Oa A2 6 hs2 q) ∧ Below w.heap.size w w' := by
  obtain ⟨io, hio, hio0, hio1, hio2⟩ := info_parts Try.info_opt
  have hwr_ : IntKind.u32.wrap sc = sc := by show sc % 4294967296 = sc; omega
  have HS0 := Lib.hid hs0
  have HS1 := Lib.hid hs1
  clear hs0 hs1
  have bel := Below.refl w.heap.size w
  go_enter Try.func66, Try.ntmps66
  go_wp2_with (first | ((with_reducible show wpList _ _ _ (⟨some 9, _, _, _, _, _⟩ :: _) _ _); refine wpList_lit_n rfl 47 5 1 _ rfl #[.int .u8 2] (.int .u8 0) Try.underlying47 (by kernel_rfl) 1 (by kernel_rfl) (by decide) (by kernel_rfl) ?_; intro g9 w1 ge lt hh bb; have hl : w1.heap[g9]? = some (.cells (([2] : List UInt8).map u8v).toArray 5 (0, 0)) := (by simpa [u8v, byteOf_val] using hh); have skw := own_lit (B := w.heap.size) ([2]) hl ge 1 rfl (by simp [maxLen]); have sk := (own_sl skw).1; have sklo := bel.size; clear hl; have skge := ge; have lz_sk := bb.size; have y_sk_sv := Lib.hid (hlt hsv); have d_sv_b9 := ne_new (hlt hsv) ge; have ob9 := Nat.le_trans bel.size ge; replace hsv := blk_u hsv bb; replace bel := bel.trans (bb.mono bel.size); have hb9 := hh; clear hh lt ge bb; have av_sk_sv := (own_sl skw).2.av y_sk_sv.out; have R14 := Lib.hid (range_lit hsv 1 4 [.int .u8 (own.a.toNat : Int), .int .u8 (own.b.toNat : Int), .int .u8 (own.c.toNat : Int), .int .u8 (own.d.toNat : Int)] rfl)) | ((with_reducible show wpList _ _ _ (⟨some 14, _, _, _, _, _⟩ :: _) _ _); refine wpList_load_rng 28 (.tmp 13) rfl (by kernel_rfl) _ _ rfl _ R14.out _ Try.underlying28 rfl (by kernel_rfl) ?_))
  try clear R14
  with_reducible refine (saddr_any _ _ _).mono ?_
  rintro e w2 ⟨gA, rfl, ge, hh, b2⟩
  have d_sv_ba := ne_new (hlt hsv) ge
  have d_b9_ba := ne_new (hlt hb9) ge
  have av_sk_ba := sk.av_new ge
  have of_sk_ba := own_new skw ge
  have oba := Nat.le_trans bel.size ge
  replace hsv := blk_u hsv b2
  replace hb9 := blk_u hb9 b2
  replace sk := sk.below b2
  replace skw := own_under skw b2
  replace lz_sk := Nat.le_trans lz_sk b2.size
  replace bel := bel.trans (b2.mono bel.size)
  have hba := hh
  clear hh ge b2
  go_wp2_with (first | ((with_reducible show wpList _ _ _ (⟨some 16, _, _, _, _, _⟩ :: _) _ _); refine wpList_lit_n rfl 39 49 2 _ rfl #[.int .i64 53, .slice (some ⟨g9, 0, none⟩) 1 1, .int .i64 54, .slice (some ⟨gA, 0, none⟩) 4 4] (.agg #[.int .i64 0, .slice none 0 0]) Try.underlying39 (by kernel_rfl) 2 (by kernel_rfl) (by decide) (by kernel_rfl) ?_; intro g16 w3 ge lt hh bb; have rww := owk_lit (B := w2.heap.size) ([Oh.mk 53 (some ⟨g9, 0, none⟩) 1 1, Oh.mk 54 (some ⟨gA, 0, none⟩) 4 4] : List Oh) opE_len (show w3.heap[g16]? = some (.cells (([Oh.mk 53 (some ⟨g9, 0, none⟩) 1 1, Oh.mk 54 (some ⟨gA, 0, none⟩) 4 4] : List Oh).flatMap opE).toArray 49 (0, 0)) from hh) ge 2 rfl (by simp [maxLen]); have rw := (owk_sle (by decide) opE_len rww).1; have rwlo := bel.size; have rwge := ge; have lz_rw := bb.size; have y_rw_sv := Lib.hid (hlt hsv); have y_rw_b9 := Lib.hid (hlt hb9); have y_rw_ba := Lib.hid (hlt hba); have bl_sk_rw := sk.bl_new; have d_sv_b16 := ne_new (hlt hsv) ge; have d_b9_b16 := ne_new (hlt hb9) ge; have d_ba_b16 := ne_new (hlt hba) ge; have av_sk_b16 := sk.av_new ge; have of_sk_b16 := own_new skw ge; have ob16 := Nat.le_trans bel.size ge; replace hsv := blk_u hsv bb; replace hb9 := blk_u hb9 bb; replace hba := blk_u hba bb; replace sk := sk.below bb; replace skw := own_under skw bb; replace lz_sk := Nat.le_trans lz_sk bb.size; replace bel := bel.trans (bb.mono bel.size); have hb16 := hh; clear hh lt ge bb; have av_rw_sv := (owk_sle (by decide) opE_len rww).2.av y_rw_sv.out; have av_rw_b9 := (owk_sle (by decide) opE_len rww).2.av y_rw_b9.out; have av_rw_ba := (owk_sle (by decide) opE_len rww).2.av y_rw_ba.out; have R25 := cell_lit hsv 6 _ rfl))
  try clear R25
  with_reducible refine (snum_any _ _ _).mono ?_
  rintro e w4 ⟨gB, rfl, ge, hh, b4⟩
  have d_sv_bt := ne_new (hlt hsv) ge
  have d_b9_bt := ne_new (hlt hb9) ge
  have d_ba_bt := ne_new (hlt hba) ge
  have d_b16_bt := ne_new (hlt hb16) ge
  have av_sk_bt := sk.av_new ge
  have of_sk_bt := own_new skw ge
  have av_rw_bt := rw.av_new ge
  have of_rw_bt := owk_new rww ge
  have obt := Nat.le_trans bel.size ge
  replace hsv := blk_u hsv b4
  replace hb9 := blk_u hb9 b4
  replace hba := blk_u hba b4
  replace hb16 := blk_u hb16 b4
  replace sk := sk.below b4
  replace skw := own_under skw b4
  replace rw := rw.below b4
  replace rww := owk_under rww b4
  replace lz_sk := Nat.le_trans lz_sk b4.size
  replace lz_rw := Nat.le_trans lz_rw b4.size
  replace bel := bel.trans (b4.mono bel.size)
  have hbt := hh
  clear hh ge b4
  go_wp2_with (first | ((with_reducible show wpList _ _ _ (⟨some 28, _, _, _, _, _⟩ :: _) _ _); refine wpList_lit_n rfl 39 49 1 _ rfl #[.int .i64 51, .slice (some ⟨gB, 0, none⟩) 4 4] (.agg #[.int .i64 0, .slice none 0 0]) Try.underlying39 (by kernel_rfl) 2 (by kernel_rfl) (by decide) (by kernel_rfl) ?_; intro g28 w5 ge lt hh bb; have d_sv_b28 := ne_new (hlt hsv) ge; have d_b9_b28 := ne_new (hlt hb9) ge; have d_ba_b28 := ne_new (hlt hba) ge; have d_b16_b28 := ne_new (hlt hb16) ge; have d_bt_b28 := ne_new (hlt hbt) ge; have av_sk_b28 := sk.av_new ge; have of_sk_b28 := own_new skw ge; have av_rw_b28 := rw.av_new ge; have of_rw_b28 := owk_new rww ge; have ob28 := Nat.le_trans bel.size ge; replace hsv := blk_u hsv bb; replace hb9 := blk_u hb9 bb; replace hba := blk_u hba bb; replace hb16 := blk_u hb16 bb; replace hbt := blk_u hbt bb; replace sk := sk.below bb; replace skw := own_under skw bb; replace rw := rw.below bb; replace rww := owk_under rww bb; replace lz_sk := Nat.le_trans lz_sk bb.size; replace lz_rw := Nat.le_trans lz_rw bb.size; replace bel := bel.trans (bb.mono bel.size); have hb28 := hh; clear hh lt ge bb; have li : Sle opE 2 w5 (some ⟨g28, 0, none⟩) (1) (1) ([Oh.mk 51 (some ⟨gB, 0, none⟩) 4 4]) := sle_lit ([Oh.mk 51 (some ⟨gB, 0, none⟩) 4 4]) (by decide) opE_len hb28 rfl (by simp [maxLen])) | ((with_reducible show wpList _ _ _ (⟨some 29, _, _, _, _, _⟩ :: _) _ _); refine wpList_append_sle rfl (.tmp 21) (.tmp 28) 39 rfl (w2.heap.size) 49 io (.agg #[.int .i64 0, .slice none 0 0]) 32 Try.underlying39 hio hio0 hio1 hio2 rfl opE_one _ (2) ([Oh.mk 53 (some ⟨g9, 0, none⟩) 1 1, Oh.mk 54 (some ⟨gA, 0, none⟩) 4 4]) rfl rww (some ⟨g28, 0, none⟩) (1) (1) ([Oh.mk 51 (some ⟨gB, 0, none⟩) 4 4]) rfl li (by unfold maxLen; omega) (by omega) lz_rw ?_; intro v29 w6 own_ bb gw ofw; have of29_bt := ofw _ (hlt hbt) of_rw_bt; have of29_b28 := ofw _ (hlt hb28) of_rw_b28; clear ofw; replace sk := sk.under bl_sk_rw bb; clear skw lz_sk; replace li := Sle.off li of_rw_b28 gw; replace hsv := blk_under hsv bb y_rw_sv.out; replace hb9 := blk_under hb9 bb y_rw_b9.out; replace hba := blk_under hba bb y_rw_ba.out; clear hb16; replace hbt := blk_own hbt gw of_rw_bt; replace hb28 := blk_own hb28 gw of_rw_b28; clear gw; replace bel := bel.trans (bb.mono rwlo); have lz_rx := Nat.le_trans lz_rw bb.size; clear bb; clear rw rww lz_rw; replace own_ : w6.ownsRow (w2.heap.size) 49 2 v29 (3) (([Oh.mk 53 (some ⟨g9, 0, none⟩) 1 1, Oh.mk 54 (some ⟨gA, 0, none⟩) 4 4] ++ [Oh.mk 51 (some ⟨gB, 0, none⟩) 4 4] : List Oh).flatMap opE) := own_; obtain ⟨A29, c29, rfl⟩ := owk_val own_; have rxw := own_; have rx := (owk_sle (by decide) opE_len own_).1; have fr_rx := (owk_sle (by decide) opE_len own_).2; clear own_; have av_rx_sv := fr_rx.av y_rw_sv.out; have av_rx_b9 := fr_rx.av y_rw_b9.out; have av_rx_ba := fr_rx.av y_rw_ba.out; have av_rx_bt := owk_av rxw of29_bt; have av_rx_b28 := owk_av rxw of29_b28))
  replace bel := bel.drew
  replace hsv : w6.drew.heap[gs]? = _ := hsv
  replace hb9 : w6.drew.heap[g9]? = _ := hb9
  replace hba : w6.drew.heap[gA]? = _ := hba
  replace hbt : w6.drew.heap[gB]? = _ := hbt
  replace hb28 : w6.drew.heap[g28]? = _ := hb28
  replace sk := sk.drew
  replace li := li.drew
  replace rx := rx.drew
  replace rxw : w6.drew.ownsRow _ _ _ _ _ _ := rxw
  replace lz_rx : _ ≤ w6.drew.heap.size := lz_rx
  refine wp_region_held_drew (S := fun W => W.heap[gs]? = some (.cells #[.pointer (some ⟨gp, 0, none⟩), .int .u8 (own.a.toNat : Int), .int .u8 (own.b.toNat : Int), .int .u8 (own.c.toNat : Int), .int .u8 (own.d.toNat : Int), .int .u32 mk, .int .i64 sc, .slice none 0 0] 64 (0, 0))) (by kernel_rfl) hsv (fun hH => ?_)
  generalize w6.drew = w7 at bel hsv hb9 hba hbt hb28 sk li rx rxw lz_rx hH ⊢
  refine wpAnyH_take (i := 0) (v := ?_) rfl (by kernel_rfl) (by kernel_rfl) (by kernel_rfl) (fun _ _ _ h => h) (Or.inl ⟨by rfl, ?_⟩) hH ?_
  rotate_left
  · ((intro W hW; clear hW; go_simp) <;> with_reducible rfl)
  simp only [Act.put, List.getElem_toArray, List.getElem_cons_zero, List.setIfInBounds_toArray, List.set_cons_zero, List.set_cons_succ]
  refine wpAnyH_take (i := 1) (v := ?_) rfl (by kernel_rfl) (by kernel_rfl) (by kernel_rfl) (fun _ _ _ h => h) (Or.inl ⟨by rfl, ?_⟩) hH ?_
  rotate_left
  · ((intro W hW; clear hW; go_simp) <;> with_reducible rfl)
  simp only [sq3, sq4]
  refine wpAnyH_take (i := 2) (v := ?_) rfl (by kernel_rfl) (by kernel_rfl) (by kernel_rfl) (fun _ _ _ h => h) (Or.inl ⟨by rfl, ?_⟩) hH ?_
  rotate_left
  · ((intro W hW; clear hW; go_simp) <;> with_reducible rfl)
  simp only [sq3, sq4]
  refine wpAnyH_take (i := 3) (v := ?_) rfl (by kernel_rfl) (by kernel_rfl) (by kernel_rfl) (fun _ _ _ h => h) (Or.inl ⟨by rfl, ?_⟩) hH ?_
  rotate_left
  · ((intro W hW; clear hW; go_simp) <;> with_reducible rfl)
  simp only [sq3, sq4]
  refine wpAnyH_take (i := 4) (v := ?_) rfl (by kernel_rfl) (by kernel_rfl) (by kernel_rfl) (fun _ _ _ h => h) (Or.inl ⟨by rfl, ?_⟩) hH ?_
  rotate_left
  · ((intro W hW; have hk := cell_lit (hW) 5 _ rfl; clear hW; go_simp) <;> with_reducible rfl)
  simp only [sq3, sq4]
  refine wpAnyH_take (i := 6) (v := ?_) rfl (by kernel_rfl) (by kernel_rfl) (by kernel_rfl) (fun _ _ _ h => h) (Or.inl ⟨by rfl, ?_⟩) hH ?_
  rotate_left
  · ((intro W hW; clear hW; go_simp) <;> with_reducible rfl)
  simp only [sq3, sq4]
  refine wpAnyH_take (i := 7) (v := ?_) rfl (by kernel_rfl) (by kernel_rfl) (by kernel_rfl) (fun _ _ _ h => h) (Or.inl ⟨by rfl, ?_⟩) hH ?_
  rotate_left
  · ((intro W hW; clear hW; go_simp) <;> with_reducible rfl)
  simp only [sq3, sq4]
  refine wpAnyH_take (i := 8) (v := ?_) rfl (by kernel_rfl) (by kernel_rfl) (by kernel_rfl) (fun _ _ _ h => h) (Or.inl ⟨by rfl, ?_⟩) hH ?_
  rotate_left
  · ((intro W hW; clear hW; go_simp) <;> with_reducible rfl)
  simp only [sq3, sq4]
  refine wpAnyH_take (i := 9) (v := .agg #[.int .u8 (own.a.toNat : Int), .int .u8 (own.b.toNat : Int), .int .u8 (own.c.toNat : Int), .int .u8 (own.d.toNat : Int)]) rfl (by kernel_rfl) (by kernel_rfl) (by kernel_rfl) (fun _ _ _ h => h) (yieldsIf_load_part (by kernel_rfl) 28 _ rfl gs 1 4 rfl _ 64 (0, 0) (fun W hW => hW) _ rfl _ Try.underlying28 rfl (by kernel_rfl)) hH ?_
  simp only [sq3, sq4]
  refine wpAnyH_take (i := 11) (v := ?_) rfl (by kernel_rfl) (by kernel_rfl) (by kernel_rfl) (fun _ _ _ h => h) (Or.inl ⟨by rfl, ?_⟩) hH ?_
  rotate_left
  · ((intro W hW; clear hW; go_simp) <;> with_reducible rfl)
  simp only [sq3, sq4]
  refine wpAnyH_take (i := 12) (v := ?_) rfl (by kernel_rfl) (by kernel_rfl) (by kernel_rfl) (fun _ _ _ h => h) (Or.inl ⟨by rfl, ?_⟩) hH ?_
  rotate_left
  · ((intro W hW; clear hW; go_simp) <;> with_reducible rfl)
  simp only [sq3, sq4]
  refine wpAnyH_take (i := 13) (v := ?_) rfl (by kernel_rfl) (by kernel_rfl) (by kernel_rfl) (fun _ _ _ h => h) (Or.inl ⟨by rfl, ?_⟩) hH ?_
  rotate_left
  · ((intro W hW; clear hW; go_simp) <;> with_reducible rfl)
  simp only [sq3, sq4]
  refine wpAnyH_take (i := 14) (v := .agg #[.int .u8 (own.a.toNat : Int), .int .u8 (own.b.toNat : Int), .int .u8 (own.c.toNat : Int), .int .u8 (own.d.toNat : Int)]) rfl (by kernel_rfl) (by kernel_rfl) (by kernel_rfl) (fun _ _ _ h => h) (yieldsIf_load_part (by kernel_rfl) 28 _ rfl gs 1 4 rfl _ 64 (0, 0) (fun W hW => hW) _ rfl _ Try.underlying28 rfl (by kernel_rfl)) hH ?_
  simp only [sq3, sq4]
  refine wpAnyH_ready (rs := [5]) (by kernel_rfl) (by simp) ?_
  refine AllReadyH.cons (o := _) rfl (fun K hK => ?_) AllReadyH.nil
  simp only [sq3]
  go_simp
  with_reducible refine (snum_any _ _ _).mono ?_
  rintro e w8 ⟨gC, rfl, ge, hh, b8⟩
  dsimp only
  have d_sv_bm := ne_new (hlt hsv) ge
  have d_b9_bm := ne_new (hlt hb9) ge
  have d_ba_bm := ne_new (hlt hba) ge
  have d_bt_bm := ne_new (hlt hbt) ge
  have d_b28_bm := ne_new (hlt hb28) ge
  have av_sk_bm := sk.av_new ge
  have av_li_bm := li.av_new ge
  have av_rx_bm := rx.av_new ge
  have of_rx_bm := owk_new rxw ge
  have obm := Nat.le_trans bel.size ge
  replace hsv := blk_u hsv b8
  replace hb9 := blk_u hb9 b8
  replace hba := blk_u hba b8
  replace hbt := blk_u hbt b8
  replace hb28 := blk_u hb28 b8
  replace sk := sk.below b8
  replace li := li.below b8
  replace rx := rx.below b8
  replace rxw := owk_under rxw b8
  replace lz_rx := Nat.le_trans lz_rx b8.size
  replace bel := bel.trans (b8.mono bel.size)
  have hbm := hh
  clear hh ge b8
  refine hK.out _ _ hsv (fun hH9 => ?_)
  clear hK K
  refine wpAnyH_ready (rs := [10]) (by kernel_rfl) (by simp) ?_
  refine AllReadyH.cons (o := _) rfl (fun K hK => ?_) AllReadyH.nil
  simp only [sq3]
  go_simp
  with_reducible refine (saddr_any _ _ _).mono ?_
  rintro e w10 ⟨gD, rfl, ge, hh, b10⟩
  dsimp only
  have d_sv_br := ne_new (hlt hsv) ge
  have d_b9_br := ne_new (hlt hb9) ge
  have d_ba_br := ne_new (hlt hba) ge
  have d_bt_br := ne_new (hlt hbt) ge
  have d_b28_br := ne_new (hlt hb28) ge
  have d_bm_br := ne_new (hlt hbm) ge
  have av_sk_br := sk.av_new ge
  have av_li_br := li.av_new ge
  have av_rx_br := rx.av_new ge
  have of_rx_br := owk_new rxw ge
  have obr := Nat.le_trans bel.size ge
  replace hsv := blk_u hsv b10
  replace hb9 := blk_u hb9 b10
  replace hba := blk_u hba b10
  replace hbt := blk_u hbt b10
  replace hb28 := blk_u hb28 b10
  replace hbm := blk_u hbm b10
  replace sk := sk.below b10
  replace li := li.below b10
  replace rx := rx.below b10
  replace rxw := owk_under rxw b10
  replace lz_rx := Nat.le_trans lz_rx b10.size
  replace bel := bel.trans (b10.mono bel.size)
  have hbr := hh
  clear hh ge b10
  refine hK.out _ _ hsv (fun hH11 => ?_)
  clear hK K
  refine wpAnyH_ready (rs := [15]) (by kernel_rfl) (by simp) ?_
  refine AllReadyH.cons (o := _) rfl (fun K hK => ?_) AllReadyH.nil
  simp only [sq3]
  go_simp
  with_reducible refine (saddr_any _ _ _).mono ?_
  rintro e w12 ⟨gE, rfl, ge, hh, b12⟩
  dsimp only
  have d_sv_bd := ne_new (hlt hsv) ge
  have d_b9_bd := ne_new (hlt hb9) ge
  have d_ba_bd := ne_new (hlt hba) ge
  have d_bt_bd := ne_new (hlt hbt) ge
  have d_b28_bd := ne_new (hlt hb28) ge
  have d_bm_bd := ne_new (hlt hbm) ge
  have d_br_bd := ne_new (hlt hbr) ge
  have av_sk_bd := sk.av_new ge
  have av_li_bd := li.av_new ge
  have av_rx_bd := rx.av_new ge
  have of_rx_bd := owk_new rxw ge
  have obd := Nat.le_trans bel.size ge
  replace hsv := blk_u hsv b12
  replace hb9 := blk_u hb9 b12
  replace hba := blk_u hba b12
  replace hbt := blk_u hbt b12
  replace hb28 := blk_u hb28 b12
  replace hbm := blk_u hbm b12
  replace hbr := blk_u hbr b12
  replace sk := sk.below b12
  replace li := li.below b12
  replace rx := rx.below b12
  replace rxw := owk_under rxw b12
  replace lz_rx := Nat.le_trans lz_rx b12.size
  replace bel := bel.trans (b12.mono bel.size)
  have hbd := hh
  clear hh ge b12
  refine hK.out _ _ hsv (fun hH13 => ?_)
  clear hK K
  refine wpAnyH_ready (rs := [16]) (by kernel_rfl) (by simp) ?_
  refine AllReadyH.cons (o := _) rfl (fun K hK => ?_) AllReadyH.nil
  simp only [sq3]
  rw [if_pos (by rfl)]
  refine wp_lit_n 39 49 3 _ rfl #[.int .i64 1, .slice (some ⟨gC, 0, none⟩) 4 4, .int .i64 3, .slice (some ⟨gD, 0, none⟩) 4 4, .int .i64 6, .slice (some ⟨gE, 0, none⟩) 4 4] (.agg #[.int .i64 0, .slice none 0 0]) Try.underlying39 (by kernel_rfl) 2 (by kernel_rfl) (by decide) (by kernel_rfl) ?_
  intro g46 w14 ge lt hh bb
  have d_sv_b46 := ne_new (hlt hsv) ge
  have d_b9_b46 := ne_new (hlt hb9) ge
  have d_ba_b46 := ne_new (hlt hba) ge
  have d_bt_b46 := ne_new (hlt hbt) ge
  have d_b28_b46 := ne_new (hlt hb28) ge
  have d_bm_b46 := ne_new (hlt hbm) ge
  have d_br_b46 := ne_new (hlt hbr) ge
  have d_bd_b46 := ne_new (hlt hbd) ge
  have av_sk_b46 := sk.av_new ge
  have av_li_b46 := li.av_new ge
  have av_rx_b46 := rx.av_new ge
  have of_rx_b46 := owk_new rxw ge
  have ob46 := Nat.le_trans bel.size ge
  replace hsv := blk_u hsv bb
  replace hb9 := blk_u hb9 bb
  replace hba := blk_u hba bb
  replace hbt := blk_u hbt bb
  replace hb28 := blk_u hb28 bb
  replace hbm := blk_u hbm bb
  replace hbr := blk_u hbr bb
  replace hbd := blk_u hbd bb
  replace sk := sk.below bb
  replace li := li.below bb
  replace rx := rx.below bb
  replace rxw := owk_under rxw bb
  replace lz_rx := Nat.le_trans lz_rx bb.size
  replace bel := bel.trans (bb.mono bel.size)
  have hb46 := hh
  clear hh lt ge bb
  have lj : Sle opE 2 w14 (some ⟨g46, 0, none⟩) (3) (3) ([Oh.mk 1 (some ⟨gC, 0, none⟩) 4 4, Oh.mk 3 (some ⟨gD, 0, none⟩) 4 4, Oh.mk 6 (some ⟨gE, 0, none⟩) 4 4]) := sle_lit ([Oh.mk 1 (some ⟨gC, 0, none⟩) 4 4, Oh.mk 3 (some ⟨gD, 0, none⟩) 4 4, Oh.mk 6 (some ⟨gE, 0, none⟩) 4 4]) (by decide) opE_len hb46 rfl (by simp [maxLen])
  refine hK.out _ _ hsv (fun hH15 => ?_)
  clear hK K
  simp only [sq4]
  refine wpAnyH_ready (rs := [17]) (by kernel_rfl) (by simp) ?_
  refine AllReadyH.cons (o := _) rfl (fun K hK => ?_) AllReadyH.nil
  simp only [sq3]
  rw [if_pos (by rfl)]
  refine wp_append_sle (.tmp 30) (.tmp 46) 39 rfl (w2.heap.size) 49 io (.agg #[.int .i64 0, .slice none 0 0]) 32 Try.underlying39 hio hio0 hio1 hio2 rfl opE_one _ (3) ([Oh.mk 53 (some ⟨g9, 0, none⟩) 1 1, Oh.mk 54 (some ⟨gA, 0, none⟩) 4 4] ++ [Oh.mk 51 (some ⟨gB, 0, none⟩) 4 4]) rfl rxw (some ⟨g46, 0, none⟩) (3) (3) ([Oh.mk 1 (some ⟨gC, 0, none⟩) 4 4, Oh.mk 3 (some ⟨gD, 0, none⟩) 4 4, Oh.mk 6 (some ⟨gE, 0, none⟩) 4 4]) rfl lj (by unfold maxLen; omega) (by omega) lz_rx ?_
  intro v47 w16 own_ bb gw ofw
  have of47_bt := ofw _ (hlt hbt) of29_bt
  have of47_b28 := ofw _ (hlt hb28) of29_b28
  have of47_bm := ofw _ (hlt hbm) of_rx_bm
  have of47_br := ofw _ (hlt hbr) of_rx_br
  have of47_bd := ofw _ (hlt hbd) of_rx_bd
  have of47_b46 := ofw _ (hlt hb46) of_rx_b46
  clear ofw
  replace sk := sk.under bl_sk_rw bb
  replace li := Sle.off li of29_b28 gw
  replace lj := Sle.off lj of_rx_b46 gw
  replace hsv := blk_under hsv bb y_rw_sv.out
  replace hb9 := blk_under hb9 bb y_rw_b9.out
  replace hba := blk_under hba bb y_rw_ba.out
  replace hbt := blk_own hbt gw of29_bt
  replace hb28 := blk_own hb28 gw of29_b28
  replace hbm := blk_own hbm gw of_rx_bm
  replace hbr := blk_own hbr gw of_rx_br
  replace hbd := blk_own hbd gw of_rx_bd
  replace hb46 := blk_own hb46 gw of_rx_b46
  clear gw
  replace bel := bel.trans (bb.mono rwlo)
  have lz_ry := Nat.le_trans lz_rx bb.size
  clear bb
  clear rx rxw lz_rx
  replace own_ : w16.ownsRow (w2.heap.size) 49 2 v47 (6) (([Oh.mk 53 (some ⟨g9, 0, none⟩) 1 1, Oh.mk 54 (some ⟨gA, 0, none⟩) 4 4] ++ [Oh.mk 51 (some ⟨gB, 0, none⟩) 4 4] ++ [Oh.mk 1 (some ⟨gC, 0, none⟩) 4 4, Oh.mk 3 (some ⟨gD, 0, none⟩) 4 4, Oh.mk 6 (some ⟨gE, 0, none⟩) 4 4] : List Oh).flatMap opE) := own_
  obtain ⟨A47, c47, rfl⟩ := owk_val own_
  have ryw := own_
  have ry := (owk_sle (by decide) opE_len own_).1
  have fr_ry := (owk_sle (by decide) opE_len own_).2
  clear own_
  have av_ry_sv := fr_ry.av y_rw_sv.out
  have av_ry_b9 := fr_ry.av y_rw_b9.out
  have av_ry_ba := fr_ry.av y_rw_ba.out
  have av_ry_bt := owk_av ryw of47_bt
  have av_ry_b28 := owk_av ryw of47_b28
  have av_ry_bm := owk_av ryw of47_bm
  have av_ry_br := owk_av ryw of47_br
  have av_ry_bd := owk_av ryw of47_bd
  have av_ry_b46 := owk_av ryw of47_b46
  refine hK.out _ _ hsv (fun hH17 => ?_)
  clear hK K
  simp only [sq4]
  refine wpAnyH_take (i := 18) (v := ?_) rfl (by kernel_rfl) (by kernel_rfl) (by kernel_rfl) (fun _ _ _ h => h) (Or.inl ⟨by rfl, ?_⟩) hH17 ?_
  rotate_left
  · ((intro W hW; clear hW; go_simp) <;> with_reducible rfl)
  simp only [sq3, sq4]
  refine wpAnyH_done (by kernel_rfl) ?_ _
  go_wp2_with fail
  go_ret
  exact ⟨_, _, _, rfl, ⟨ry, Nt.row ryw (by decide), by decide, ⟨ob_one 53 hb9 rfl (by decide), ⟨ob_four 54 hba rfl rfl rfl rfl (by decide), ⟨ob_four 51 hbt rfl rfl rfl rfl (by decide), ⟨ob_four 1 hbm rfl rfl rfl rfl (by decide), ⟨ob_four 3 hbr rfl rfl rfl rfl (by decide), ⟨ob_four 6 hbd rfl rfl rfl rfl (by decide), trivial⟩⟩⟩⟩⟩⟩⟩, fun q_ hq_ => ⟨row_av ryw (Nat.lt_of_lt_of_le hq_ rwlo), List.forall_mem_cons.2 ⟨av_at (Nat.lt_of_lt_of_le hq_ ob9), List.forall_mem_cons.2 ⟨av_at (Nat.lt_of_lt_of_le hq_ oba), List.forall_mem_cons.2 ⟨av_at (Nat.lt_of_lt_of_le hq_ obt), List.forall_mem_cons.2 ⟨av_at (Nat.lt_of_lt_of_le hq_ obm), List.forall_mem_cons.2 ⟨av_at (Nat.lt_of_lt_of_le hq_ obr), List.forall_mem_cons.2 ⟨av_at (Nat.lt_of_lt_of_le hq_ obd), List.forall_mem_nil _⟩⟩⟩⟩⟩⟩⟩, bel⟩
set_option linter.unusedVariables false in
set_option linter.unusedSimpArgs false in
set_option maxRecDepth 100000 in
set_option maxHeartbeats 16000000 in
theorem sopts_ack {gs gp : Nat} {own : Ad4} {mk sc : Int} (w : World) (hsv : w.heap[gs]? = some (.cells #[.pointer (some ⟨gp, 0, none⟩), .int .u8 (own.a.toNat : Int), .int .u8 (own.b.toNat : Int), .int .u8 (own.c.toNat : Int), .int .u8 (own.d.toNat : Int), .int .u32 mk, .int .i64 sc, .slice none 0 0] 64 (0, 0))) (hs0 : 0 ≤ sc) (hs1 : sc < 4294967296) : Calls Try.prog 66 #[.pointer (some ⟨gs, 0, none⟩), .int .u8 5, .bool true] w fun e w' => ∃ A2 c2 hs2, e = .returned (.slice A2 6 c2) ∧ Opv w' A2 6 c2 hs2 [(53, [5]), (54, own.l), (51, four sc), (1, four mk), (3, own.l), (6, own.l)] ∧ (∀ q, q < w.heap.size → Oa A2 6 hs2 q) ∧ Below w.heap.size w w' := by
  obtain ⟨io, hio, hio0, hio1, hio2⟩ := info_parts Try.info_opt
  have hwr_ : IntKind.u32.wrap sc = sc := by show sc % 4294967296 = sc; omega
  have HS0 := Lib.hid hs0
  have HS1 := Lib.hid hs1
  clear hs0 hs1
  have bel := Below.refl w.heap.size w
  go_enter Try.func66, Try.ntmps66
  go_wp2_with (first | ((with_reducible show wpList _ _ _ (⟨some 9, _, _, _, _, _⟩ :: _) _ _); refine wpList_lit_n rfl 47 5 1 _ rfl #[.int .u8 5] (.int .u8 0) Try.underlying47 (by kernel_rfl) 1 (by kernel_rfl) (by decide) (by kernel_rfl) ?_; intro g9 w1 ge lt hh bb; have hl : w1.heap[g9]? = some (.cells (([5] : List UInt8).map u8v).toArray 5 (0, 0)) := (by simpa [u8v, byteOf_val] using hh); have skw := own_lit (B := w.heap.size) ([5]) hl ge 1 rfl (by simp [maxLen]); have sk := (own_sl skw).1; have sklo := bel.size; clear hl; have skge := ge; have lz_sk := bb.size; have y_sk_sv := Lib.hid (hlt hsv); have d_sv_b9 := ne_new (hlt hsv) ge; have ob9 := Nat.le_trans bel.size ge; replace hsv := blk_u hsv bb; replace bel := bel.trans (bb.mono bel.size); have hb9 := hh; clear hh lt ge bb; have av_sk_sv := (own_sl skw).2.av y_sk_sv.out; have R14 := Lib.hid (range_lit hsv 1 4 [.int .u8 (own.a.toNat : Int), .int .u8 (own.b.toNat : Int), .int .u8 (own.c.toNat : Int), .int .u8 (own.d.toNat : Int)] rfl)) | ((with_reducible show wpList _ _ _ (⟨some 14, _, _, _, _, _⟩ :: _) _ _); refine wpList_load_rng 28 (.tmp 13) rfl (by kernel_rfl) _ _ rfl _ R14.out _ Try.underlying28 rfl (by kernel_rfl) ?_))
  try clear R14
  with_reducible refine (saddr_any _ _ _).mono ?_
  rintro e w2 ⟨gA, rfl, ge, hh, b2⟩
  have d_sv_ba := ne_new (hlt hsv) ge
  have d_b9_ba := ne_new (hlt hb9) ge
  have av_sk_ba := sk.av_new ge
  have of_sk_ba := own_new skw ge
  have oba := Nat.le_trans bel.size ge
  replace hsv := blk_u hsv b2
  replace hb9 := blk_u hb9 b2
  replace sk := sk.below b2
  replace skw := own_under skw b2
  replace lz_sk := Nat.le_trans lz_sk b2.size
  replace bel := bel.trans (b2.mono bel.size)
  have hba := hh
  clear hh ge b2
  go_wp2_with (first | ((with_reducible show wpList _ _ _ (⟨some 16, _, _, _, _, _⟩ :: _) _ _); refine wpList_lit_n rfl 39 49 2 _ rfl #[.int .i64 53, .slice (some ⟨g9, 0, none⟩) 1 1, .int .i64 54, .slice (some ⟨gA, 0, none⟩) 4 4] (.agg #[.int .i64 0, .slice none 0 0]) Try.underlying39 (by kernel_rfl) 2 (by kernel_rfl) (by decide) (by kernel_rfl) ?_; intro g16 w3 ge lt hh bb; have rww := owk_lit (B := w2.heap.size) ([Oh.mk 53 (some ⟨g9, 0, none⟩) 1 1, Oh.mk 54 (some ⟨gA, 0, none⟩) 4 4] : List Oh) opE_len (show w3.heap[g16]? = some (.cells (([Oh.mk 53 (some ⟨g9, 0, none⟩) 1 1, Oh.mk 54 (some ⟨gA, 0, none⟩) 4 4] : List Oh).flatMap opE).toArray 49 (0, 0)) from hh) ge 2 rfl (by simp [maxLen]); have rw := (owk_sle (by decide) opE_len rww).1; have rwlo := bel.size; have rwge := ge; have lz_rw := bb.size; have y_rw_sv := Lib.hid (hlt hsv); have y_rw_b9 := Lib.hid (hlt hb9); have y_rw_ba := Lib.hid (hlt hba); have bl_sk_rw := sk.bl_new; have d_sv_b16 := ne_new (hlt hsv) ge; have d_b9_b16 := ne_new (hlt hb9) ge; have d_ba_b16 := ne_new (hlt hba) ge; have av_sk_b16 := sk.av_new ge; have of_sk_b16 := own_new skw ge; have ob16 := Nat.le_trans bel.size ge; replace hsv := blk_u hsv bb; replace hb9 := blk_u hb9 bb; replace hba := blk_u hba bb; replace sk := sk.below bb; replace skw := own_under skw bb; replace lz_sk := Nat.le_trans lz_sk bb.size; replace bel := bel.trans (bb.mono bel.size); have hb16 := hh; clear hh lt ge bb; have av_rw_sv := (owk_sle (by decide) opE_len rww).2.av y_rw_sv.out; have av_rw_b9 := (owk_sle (by decide) opE_len rww).2.av y_rw_b9.out; have av_rw_ba := (owk_sle (by decide) opE_len rww).2.av y_rw_ba.out; have R25 := cell_lit hsv 6 _ rfl))
  try clear R25
  with_reducible refine (snum_any _ _ _).mono ?_
  rintro e w4 ⟨gB, rfl, ge, hh, b4⟩
  have d_sv_bt := ne_new (hlt hsv) ge
  have d_b9_bt := ne_new (hlt hb9) ge
  have d_ba_bt := ne_new (hlt hba) ge
  have d_b16_bt := ne_new (hlt hb16) ge
  have av_sk_bt := sk.av_new ge
  have of_sk_bt := own_new skw ge
  have av_rw_bt := rw.av_new ge
  have of_rw_bt := owk_new rww ge
  have obt := Nat.le_trans bel.size ge
  replace hsv := blk_u hsv b4
  replace hb9 := blk_u hb9 b4
  replace hba := blk_u hba b4
  replace hb16 := blk_u hb16 b4
  replace sk := sk.below b4
  replace skw := own_under skw b4
  replace rw := rw.below b4
  replace rww := owk_under rww b4
  replace lz_sk := Nat.le_trans lz_sk b4.size
  replace lz_rw := Nat.le_trans lz_rw b4.size
  replace bel := bel.trans (b4.mono bel.size)
  have hbt := hh
  clear hh ge b4
  go_wp2_with (first | ((with_reducible show wpList _ _ _ (⟨some 28, _, _, _, _, _⟩ :: _) _ _); refine wpList_lit_n rfl 39 49 1 _ rfl #[.int .i64 51, .slice (some ⟨gB, 0, none⟩) 4 4] (.agg #[.int .i64 0, .slice none 0 0]) Try.underlying39 (by kernel_rfl) 2 (by kernel_rfl) (by decide) (by kernel_rfl) ?_; intro g28 w5 ge lt hh bb; have d_sv_b28 := ne_new (hlt hsv) ge; have d_b9_b28 := ne_new (hlt hb9) ge; have d_ba_b28 := ne_new (hlt hba) ge; have d_b16_b28 := ne_new (hlt hb16) ge; have d_bt_b28 := ne_new (hlt hbt) ge; have av_sk_b28 := sk.av_new ge; have of_sk_b28 := own_new skw ge; have av_rw_b28 := rw.av_new ge; have of_rw_b28 := owk_new rww ge; have ob28 := Nat.le_trans bel.size ge; replace hsv := blk_u hsv bb; replace hb9 := blk_u hb9 bb; replace hba := blk_u hba bb; replace hb16 := blk_u hb16 bb; replace hbt := blk_u hbt bb; replace sk := sk.below bb; replace skw := own_under skw bb; replace rw := rw.below bb; replace rww := owk_under rww bb; replace lz_sk := Nat.le_trans lz_sk bb.size; replace lz_rw := Nat.le_trans lz_rw bb.size; replace bel := bel.trans (bb.mono bel.size); have hb28 := hh; clear hh lt ge bb; have li : Sle opE 2 w5 (some ⟨g28, 0, none⟩) (1) (1) ([Oh.mk 51 (some ⟨gB, 0, none⟩) 4 4]) := sle_lit ([Oh.mk 51 (some ⟨gB, 0, none⟩) 4 4]) (by decide) opE_len hb28 rfl (by simp [maxLen])) | ((with_reducible show wpList _ _ _ (⟨some 29, _, _, _, _, _⟩ :: _) _ _); refine wpList_append_sle rfl (.tmp 21) (.tmp 28) 39 rfl (w2.heap.size) 49 io (.agg #[.int .i64 0, .slice none 0 0]) 32 Try.underlying39 hio hio0 hio1 hio2 rfl opE_one _ (2) ([Oh.mk 53 (some ⟨g9, 0, none⟩) 1 1, Oh.mk 54 (some ⟨gA, 0, none⟩) 4 4]) rfl rww (some ⟨g28, 0, none⟩) (1) (1) ([Oh.mk 51 (some ⟨gB, 0, none⟩) 4 4]) rfl li (by unfold maxLen; omega) (by omega) lz_rw ?_; intro v29 w6 own_ bb gw ofw; have of29_bt := ofw _ (hlt hbt) of_rw_bt; have of29_b28 := ofw _ (hlt hb28) of_rw_b28; clear ofw; replace sk := sk.under bl_sk_rw bb; clear skw lz_sk; replace li := Sle.off li of_rw_b28 gw; replace hsv := blk_under hsv bb y_rw_sv.out; replace hb9 := blk_under hb9 bb y_rw_b9.out; replace hba := blk_under hba bb y_rw_ba.out; clear hb16; replace hbt := blk_own hbt gw of_rw_bt; replace hb28 := blk_own hb28 gw of_rw_b28; clear gw; replace bel := bel.trans (bb.mono rwlo); have lz_rx := Nat.le_trans lz_rw bb.size; clear bb; clear rw rww lz_rw; replace own_ : w6.ownsRow (w2.heap.size) 49 2 v29 (3) (([Oh.mk 53 (some ⟨g9, 0, none⟩) 1 1, Oh.mk 54 (some ⟨gA, 0, none⟩) 4 4] ++ [Oh.mk 51 (some ⟨gB, 0, none⟩) 4 4] : List Oh).flatMap opE) := own_; obtain ⟨A29, c29, rfl⟩ := owk_val own_; have rxw := own_; have rx := (owk_sle (by decide) opE_len own_).1; have fr_rx := (owk_sle (by decide) opE_len own_).2; clear own_; have av_rx_sv := fr_rx.av y_rw_sv.out; have av_rx_b9 := fr_rx.av y_rw_b9.out; have av_rx_ba := fr_rx.av y_rw_ba.out; have av_rx_bt := owk_av rxw of29_bt; have av_rx_b28 := owk_av rxw of29_b28))
  replace bel := bel.drew
  replace hsv : w6.drew.heap[gs]? = _ := hsv
  replace hb9 : w6.drew.heap[g9]? = _ := hb9
  replace hba : w6.drew.heap[gA]? = _ := hba
  replace hbt : w6.drew.heap[gB]? = _ := hbt
  replace hb28 : w6.drew.heap[g28]? = _ := hb28
  replace sk := sk.drew
  replace li := li.drew
  replace rx := rx.drew
  replace rxw : w6.drew.ownsRow _ _ _ _ _ _ := rxw
  replace lz_rx : _ ≤ w6.drew.heap.size := lz_rx
  refine wp_region_held_drew (S := fun W => W.heap[gs]? = some (.cells #[.pointer (some ⟨gp, 0, none⟩), .int .u8 (own.a.toNat : Int), .int .u8 (own.b.toNat : Int), .int .u8 (own.c.toNat : Int), .int .u8 (own.d.toNat : Int), .int .u32 mk, .int .i64 sc, .slice none 0 0] 64 (0, 0))) (by kernel_rfl) hsv (fun hH => ?_)
  generalize w6.drew = w7 at bel hsv hb9 hba hbt hb28 sk li rx rxw lz_rx hH ⊢
  refine wpAnyH_take (i := 0) (v := ?_) rfl (by kernel_rfl) (by kernel_rfl) (by kernel_rfl) (fun _ _ _ h => h) (Or.inl ⟨by rfl, ?_⟩) hH ?_
  rotate_left
  · ((intro W hW; clear hW; go_simp) <;> with_reducible rfl)
  simp only [Act.put, List.getElem_toArray, List.getElem_cons_zero, List.setIfInBounds_toArray, List.set_cons_zero, List.set_cons_succ]
  refine wpAnyH_take (i := 1) (v := ?_) rfl (by kernel_rfl) (by kernel_rfl) (by kernel_rfl) (fun _ _ _ h => h) (Or.inl ⟨by rfl, ?_⟩) hH ?_
  rotate_left
  · ((intro W hW; clear hW; go_simp) <;> with_reducible rfl)
  simp only [sq3, sq4]
  refine wpAnyH_take (i := 2) (v := ?_) rfl (by kernel_rfl) (by kernel_rfl) (by kernel_rfl) (fun _ _ _ h => h) (Or.inl ⟨by rfl, ?_⟩) hH ?_
  rotate_left
  · ((intro W hW; clear hW; go_simp) <;> with_reducible rfl)
  simp only [sq3, sq4]
  refine wpAnyH_take (i := 3) (v := ?_) rfl (by kernel_rfl) (by kernel_rfl) (by kernel_rfl) (fun _ _ _ h => h) (Or.inl ⟨by rfl, ?_⟩) hH ?_
  rotate_left
  · ((intro W hW; clear hW; go_simp) <;> with_reducible rfl)
  simp only [sq3, sq4]
  refine wpAnyH_take (i := 4) (v := ?_) rfl (by kernel_rfl) (by kernel_rfl) (by kernel_rfl) (fun _ _ _ h => h) (Or.inl ⟨by rfl, ?_⟩) hH ?_
  rotate_left
  · ((intro W hW; have hk := cell_lit (hW) 5 _ rfl; clear hW; go_simp) <;> with_reducible rfl)
  simp only [sq3, sq4]
  refine wpAnyH_take (i := 6) (v := ?_) rfl (by kernel_rfl) (by kernel_rfl) (by kernel_rfl) (fun _ _ _ h => h) (Or.inl ⟨by rfl, ?_⟩) hH ?_
  rotate_left
  · ((intro W hW; clear hW; go_simp) <;> with_reducible rfl)
  simp only [sq3, sq4]
  refine wpAnyH_take (i := 7) (v := ?_) rfl (by kernel_rfl) (by kernel_rfl) (by kernel_rfl) (fun _ _ _ h => h) (Or.inl ⟨by rfl, ?_⟩) hH ?_
  rotate_left
  · ((intro W hW; clear hW; go_simp) <;> with_reducible rfl)
  simp only [sq3, sq4]
  refine wpAnyH_take (i := 8) (v := ?_) rfl (by kernel_rfl) (by kernel_rfl) (by kernel_rfl) (fun _ _ _ h => h) (Or.inl ⟨by rfl, ?_⟩) hH ?_
  rotate_left
  · ((intro W hW; clear hW; go_simp) <;> with_reducible rfl)
  simp only [sq3, sq4]
  refine wpAnyH_take (i := 9) (v := .agg #[.int .u8 (own.a.toNat : Int), .int .u8 (own.b.toNat : Int), .int .u8 (own.c.toNat : Int), .int .u8 (own.d.toNat : Int)]) rfl (by kernel_rfl) (by kernel_rfl) (by kernel_rfl) (fun _ _ _ h => h) (yieldsIf_load_part (by kernel_rfl) 28 _ rfl gs 1 4 rfl _ 64 (0, 0) (fun W hW => hW) _ rfl _ Try.underlying28 rfl (by kernel_rfl)) hH ?_
  simp only [sq3, sq4]
  refine wpAnyH_take (i := 11) (v := ?_) rfl (by kernel_rfl) (by kernel_rfl) (by kernel_rfl) (fun _ _ _ h => h) (Or.inl ⟨by rfl, ?_⟩) hH ?_
  rotate_left
  · ((intro W hW; clear hW; go_simp) <;> with_reducible rfl)
  simp only [sq3, sq4]
  refine wpAnyH_take (i := 12) (v := ?_) rfl (by kernel_rfl) (by kernel_rfl) (by kernel_rfl) (fun _ _ _ h => h) (Or.inl ⟨by rfl, ?_⟩) hH ?_
  rotate_left
  · ((intro W hW; clear hW; go_simp) <;> with_reducible rfl)
  simp only [sq3, sq4]
  refine wpAnyH_take (i := 13) (v := ?_) rfl (by kernel_rfl) (by kernel_rfl) (by kernel_rfl) (fun _ _ _ h => h) (Or.inl ⟨by rfl, ?_⟩) hH ?_
  rotate_left
  · ((intro W hW; clear hW; go_simp) <;> with_reducible rfl)
  simp only [sq3, sq4]
  refine wpAnyH_take (i := 14) (v := .agg #[.int .u8 (own.a.toNat : Int), .int .u8 (own.b.toNat : Int), .int .u8 (own.c.toNat : Int), .int .u8 (own.d.toNat : Int)]) rfl (by kernel_rfl) (by kernel_rfl) (by kernel_rfl) (fun _ _ _ h => h) (yieldsIf_load_part (by kernel_rfl) 28 _ rfl gs 1 4 rfl _ 64 (0, 0) (fun W hW => hW) _ rfl _ Try.underlying28 rfl (by kernel_rfl)) hH ?_
  simp only [sq3, sq4]
  refine wpAnyH_ready (rs := [5]) (by kernel_rfl) (by simp) ?_
  refine AllReadyH.cons (o := _) rfl (fun K hK => ?_) AllReadyH.nil
  simp only [sq3]
  go_simp
  with_reducible refine (snum_any _ _ _).mono ?_
  rintro e w8 ⟨gC, rfl, ge, hh, b8⟩
  dsimp only
  have d_sv_bm := ne_new (hlt hsv) ge
  have d_b9_bm := ne_new (hlt hb9) ge
  have d_ba_bm := ne_new (hlt hba) ge
  have d_bt_bm := ne_new (hlt hbt) ge
  have d_b28_bm := ne_new (hlt hb28) ge
  have av_sk_bm := sk.av_new ge
  have av_li_bm := li.av_new ge
  have av_rx_bm := rx.av_new ge
  have of_rx_bm := owk_new rxw ge
  have obm := Nat.le_trans bel.size ge
  replace hsv := blk_u hsv b8
  replace hb9 := blk_u hb9 b8
  replace hba := blk_u hba b8
  replace hbt := blk_u hbt b8
  replace hb28 := blk_u hb28 b8
  replace sk := sk.below b8
  replace li := li.below b8
  replace rx := rx.below b8
  replace rxw := owk_under rxw b8
  replace lz_rx := Nat.le_trans lz_rx b8.size
  replace bel := bel.trans (b8.mono bel.size)
  have hbm := hh
  clear hh ge b8
  refine hK.out _ _ hsv (fun hH9 => ?_)
  clear hK K
  refine wpAnyH_ready (rs := [10]) (by kernel_rfl) (by simp) ?_
  refine AllReadyH.cons (o := _) rfl (fun K hK => ?_) AllReadyH.nil
  simp only [sq3]
  go_simp
  with_reducible refine (saddr_any _ _ _).mono ?_
  rintro e w10 ⟨gD, rfl, ge, hh, b10⟩
  dsimp only
  have d_sv_br := ne_new (hlt hsv) ge
  have d_b9_br := ne_new (hlt hb9) ge
  have d_ba_br := ne_new (hlt hba) ge
  have d_bt_br := ne_new (hlt hbt) ge
  have d_b28_br := ne_new (hlt hb28) ge
  have d_bm_br := ne_new (hlt hbm) ge
  have av_sk_br := sk.av_new ge
  have av_li_br := li.av_new ge
  have av_rx_br := rx.av_new ge
  have of_rx_br := owk_new rxw ge
  have obr := Nat.le_trans bel.size ge
  replace hsv := blk_u hsv b10
  replace hb9 := blk_u hb9 b10
  replace hba := blk_u hba b10
  replace hbt := blk_u hbt b10
  replace hb28 := blk_u hb28 b10
  replace hbm := blk_u hbm b10
  replace sk := sk.below b10
  replace li := li.below b10
  replace rx := rx.below b10
  replace rxw := owk_under rxw b10
  replace lz_rx := Nat.le_trans lz_rx b10.size
  replace bel := bel.trans (b10.mono bel.size)
  have hbr := hh
  clear hh ge b10
  refine hK.out _ _ hsv (fun hH11 => ?_)
  clear hK K
  refine wpAnyH_ready (rs := [15]) (by kernel_rfl) (by simp) ?_
  refine AllReadyH.cons (o := _) rfl (fun K hK => ?_) AllReadyH.nil
  simp only [sq3]
  go_simp
  with_reducible refine (saddr_any _ _ _).mono ?_
  rintro e w12 ⟨gE, rfl, ge, hh, b12⟩
  dsimp only
  have d_sv_bd := ne_new (hlt hsv) ge
  have d_b9_bd := ne_new (hlt hb9) ge
  have d_ba_bd := ne_new (hlt hba) ge
  have d_bt_bd := ne_new (hlt hbt) ge
  have d_b28_bd := ne_new (hlt hb28) ge
  have d_bm_bd := ne_new (hlt hbm) ge
  have d_br_bd := ne_new (hlt hbr) ge
  have av_sk_bd := sk.av_new ge
  have av_li_bd := li.av_new ge
  have av_rx_bd := rx.av_new ge
  have of_rx_bd := owk_new rxw ge
  have obd := Nat.le_trans bel.size ge
  replace hsv := blk_u hsv b12
  replace hb9 := blk_u hb9 b12
  replace hba := blk_u hba b12
  replace hbt := blk_u hbt b12
  replace hb28 := blk_u hb28 b12
  replace hbm := blk_u hbm b12
  replace hbr := blk_u hbr b12
  replace sk := sk.below b12
  replace li := li.below b12
  replace rx := rx.below b12
  replace rxw := owk_under rxw b12
  replace lz_rx := Nat.le_trans lz_rx b12.size
  replace bel := bel.trans (b12.mono bel.size)
  have hbd := hh
  clear hh ge b12
  refine hK.out _ _ hsv (fun hH13 => ?_)
  clear hK K
  refine wpAnyH_ready (rs := [16]) (by kernel_rfl) (by simp) ?_
  refine AllReadyH.cons (o := _) rfl (fun K hK => ?_) AllReadyH.nil
  simp only [sq3]
  rw [if_pos (by rfl)]
  refine wp_lit_n 39 49 3 _ rfl #[.int .i64 1, .slice (some ⟨gC, 0, none⟩) 4 4, .int .i64 3, .slice (some ⟨gD, 0, none⟩) 4 4, .int .i64 6, .slice (some ⟨gE, 0, none⟩) 4 4] (.agg #[.int .i64 0, .slice none 0 0]) Try.underlying39 (by kernel_rfl) 2 (by kernel_rfl) (by decide) (by kernel_rfl) ?_
  intro g46 w14 ge lt hh bb
  have d_sv_b46 := ne_new (hlt hsv) ge
  have d_b9_b46 := ne_new (hlt hb9) ge
  have d_ba_b46 := ne_new (hlt hba) ge
  have d_bt_b46 := ne_new (hlt hbt) ge
  have d_b28_b46 := ne_new (hlt hb28) ge
  have d_bm_b46 := ne_new (hlt hbm) ge
  have d_br_b46 := ne_new (hlt hbr) ge
  have d_bd_b46 := ne_new (hlt hbd) ge
  have av_sk_b46 := sk.av_new ge
  have av_li_b46 := li.av_new ge
  have av_rx_b46 := rx.av_new ge
  have of_rx_b46 := owk_new rxw ge
  have ob46 := Nat.le_trans bel.size ge
  replace hsv := blk_u hsv bb
  replace hb9 := blk_u hb9 bb
  replace hba := blk_u hba bb
  replace hbt := blk_u hbt bb
  replace hb28 := blk_u hb28 bb
  replace hbm := blk_u hbm bb
  replace hbr := blk_u hbr bb
  replace hbd := blk_u hbd bb
  replace sk := sk.below bb
  replace li := li.below bb
  replace rx := rx.below bb
  replace rxw := owk_under rxw bb
  replace lz_rx := Nat.le_trans lz_rx bb.size
  replace bel := bel.trans (bb.mono bel.size)
  have hb46 := hh
  clear hh lt ge bb
  have lj : Sle opE 2 w14 (some ⟨g46, 0, none⟩) (3) (3) ([Oh.mk 1 (some ⟨gC, 0, none⟩) 4 4, Oh.mk 3 (some ⟨gD, 0, none⟩) 4 4, Oh.mk 6 (some ⟨gE, 0, none⟩) 4 4]) := sle_lit ([Oh.mk 1 (some ⟨gC, 0, none⟩) 4 4, Oh.mk 3 (some ⟨gD, 0, none⟩) 4 4, Oh.mk 6 (some ⟨gE, 0, none⟩) 4 4]) (by decide) opE_len hb46 rfl (by simp [maxLen])
  refine hK.out _ _ hsv (fun hH15 => ?_)
  clear hK K
  simp only [sq4]
  refine wpAnyH_ready (rs := [17]) (by kernel_rfl) (by simp) ?_
  refine AllReadyH.cons (o := _) rfl (fun K hK => ?_) AllReadyH.nil
  simp only [sq3]
  rw [if_pos (by rfl)]
  refine wp_append_sle (.tmp 30) (.tmp 46) 39 rfl (w2.heap.size) 49 io (.agg #[.int .i64 0, .slice none 0 0]) 32 Try.underlying39 hio hio0 hio1 hio2 rfl opE_one _ (3) ([Oh.mk 53 (some ⟨g9, 0, none⟩) 1 1, Oh.mk 54 (some ⟨gA, 0, none⟩) 4 4] ++ [Oh.mk 51 (some ⟨gB, 0, none⟩) 4 4]) rfl rxw (some ⟨g46, 0, none⟩) (3) (3) ([Oh.mk 1 (some ⟨gC, 0, none⟩) 4 4, Oh.mk 3 (some ⟨gD, 0, none⟩) 4 4, Oh.mk 6 (some ⟨gE, 0, none⟩) 4 4]) rfl lj (by unfold maxLen; omega) (by omega) lz_rx ?_
  intro v47 w16 own_ bb gw ofw
  have of47_bt := ofw _ (hlt hbt) of29_bt
  have of47_b28 := ofw _ (hlt hb28) of29_b28
  have of47_bm := ofw _ (hlt hbm) of_rx_bm
  have of47_br := ofw _ (hlt hbr) of_rx_br
  have of47_bd := ofw _ (hlt hbd) of_rx_bd
  have of47_b46 := ofw _ (hlt hb46) of_rx_b46
  clear ofw
  replace sk := sk.under bl_sk_rw bb
  replace li := Sle.off li of29_b28 gw
  replace lj := Sle.off lj of_rx_b46 gw
  replace hsv := blk_under hsv bb y_rw_sv.out
  replace hb9 := blk_under hb9 bb y_rw_b9.out
  replace hba := blk_under hba bb y_rw_ba.out
  replace hbt := blk_own hbt gw of29_bt
  replace hb28 := blk_own hb28 gw of29_b28
  replace hbm := blk_own hbm gw of_rx_bm
  replace hbr := blk_own hbr gw of_rx_br
  replace hbd := blk_own hbd gw of_rx_bd
  replace hb46 := blk_own hb46 gw of_rx_b46
  clear gw
  replace bel := bel.trans (bb.mono rwlo)
  have lz_ry := Nat.le_trans lz_rx bb.size
  clear bb
  clear rx rxw lz_rx
  replace own_ : w16.ownsRow (w2.heap.size) 49 2 v47 (6) (([Oh.mk 53 (some ⟨g9, 0, none⟩) 1 1, Oh.mk 54 (some ⟨gA, 0, none⟩) 4 4] ++ [Oh.mk 51 (some ⟨gB, 0, none⟩) 4 4] ++ [Oh.mk 1 (some ⟨gC, 0, none⟩) 4 4, Oh.mk 3 (some ⟨gD, 0, none⟩) 4 4, Oh.mk 6 (some ⟨gE, 0, none⟩) 4 4] : List Oh).flatMap opE) := own_
  obtain ⟨A47, c47, rfl⟩ := owk_val own_
  have ryw := own_
  have ry := (owk_sle (by decide) opE_len own_).1
  have fr_ry := (owk_sle (by decide) opE_len own_).2
  clear own_
  have av_ry_sv := fr_ry.av y_rw_sv.out
  have av_ry_b9 := fr_ry.av y_rw_b9.out
  have av_ry_ba := fr_ry.av y_rw_ba.out
  have av_ry_bt := owk_av ryw of47_bt
  have av_ry_b28 := owk_av ryw of47_b28
  have av_ry_bm := owk_av ryw of47_bm
  have av_ry_br := owk_av ryw of47_br
  have av_ry_bd := owk_av ryw of47_bd
  have av_ry_b46 := owk_av ryw of47_b46
  refine hK.out _ _ hsv (fun hH17 => ?_)
  clear hK K
  simp only [sq4]
  refine wpAnyH_take (i := 18) (v := ?_) rfl (by kernel_rfl) (by kernel_rfl) (by kernel_rfl) (fun _ _ _ h => h) (Or.inl ⟨by rfl, ?_⟩) hH17 ?_
  rotate_left
  · ((intro W hW; clear hW; go_simp) <;> with_reducible rfl)
  simp only [sq3, sq4]
  refine wpAnyH_done (by kernel_rfl) ?_ _
  go_wp2_with fail
  go_ret
  exact ⟨_, _, _, rfl, ⟨ry, Nt.row ryw (by decide), by decide, ⟨ob_one 53 hb9 rfl (by decide), ⟨ob_four 54 hba rfl rfl rfl rfl (by decide), ⟨ob_four 51 hbt rfl rfl rfl rfl (by decide), ⟨ob_four 1 hbm rfl rfl rfl rfl (by decide), ⟨ob_four 3 hbr rfl rfl rfl rfl (by decide), ⟨ob_four 6 hbd rfl rfl rfl rfl (by decide), trivial⟩⟩⟩⟩⟩⟩⟩, fun q_ hq_ => ⟨row_av ryw (Nat.lt_of_lt_of_le hq_ rwlo), List.forall_mem_cons.2 ⟨av_at (Nat.lt_of_lt_of_le hq_ ob9), List.forall_mem_cons.2 ⟨av_at (Nat.lt_of_lt_of_le hq_ oba), List.forall_mem_cons.2 ⟨av_at (Nat.lt_of_lt_of_le hq_ obt), List.forall_mem_cons.2 ⟨av_at (Nat.lt_of_lt_of_le hq_ obm), List.forall_mem_cons.2 ⟨av_at (Nat.lt_of_lt_of_le hq_ obr), List.forall_mem_cons.2 ⟨av_at (Nat.lt_of_lt_of_le hq_ obd), List.forall_mem_nil _⟩⟩⟩⟩⟩⟩⟩, bel⟩
end Go.Proofs.Ytapdmlfjohiekaa
