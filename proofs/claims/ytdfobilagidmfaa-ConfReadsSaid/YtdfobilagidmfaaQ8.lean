/- Texts put together: Cg5, Cg6. -/
import Derived.Test.YtdfobilagidmfaaQ1
import Derived.Test.YtdfobilagidmfaaQ6
import Derived.Test.YtdfobilagidmfaaQ7
namespace Go.Proofs.Ytdfobilagidmfaa
open Go.RowKit

theorem results_cell2_row {P : Program} {fn : Func} {p q : Tmp} {ty tz : TypeId} (h : fn.results = #[.cell p ty, .cell q tz]) (tmps : Array Value) (w : World) (g k : Nat) (T U : TypeId) (cs ds : Array Value) (fr fs : Nat × Nat) (d d2 : TypeDesc)
    (hp : tmps.getD p undef = .pointer (some ⟨g, 0, none⟩)) (hg : w.heap[g]? = some (.cells cs T fr)) (hu : P.underlying ty = some d) (hd : d.isRow = true) (hi : (P.info? ty).map (·.size) = some cs.size)
    (hq : tmps.getD q undef = .pointer (some ⟨k, 0, none⟩)) (hk : w.heap[k]? = some (.cells ds U fs)) (hu2 : P.underlying tz = some d2) (hd2 : d2.isRow = true) (hi2 : (P.info? tz).map (·.size) = some ds.size) :
    (results fn tmps).run P w = .ok (.tuple #[.agg cs, .agg ds]) w := by
  have h1 := run_loadVar_row (P := P) w g T ty cs fr d hg hu (by cases d <;> simp_all) hi
  have h2 := run_loadVar_row (P := P) w k U tz ds fs d2 hk hu2 (by cases d2 <;> simp_all) hi2
  have hp' : tmps[p]?.getD undef = .pointer (some ⟨g, 0, none⟩) := by simpa using hp
  have hq' : tmps[q]?.getD undef = .pointer (some ⟨k, 0, none⟩) := by simpa using hq
  simp only [results, h]
  simp [Sem.run_bind, Result.andThen, hp', hq', asAddr, h1, h2]
theorem results_cell_tt_row {P : Program} {fn : Func} {p u z : Tmp} {ty : TypeId} (h : fn.results = #[.cell p ty, .tmp u, .tmp z]) (tmps : Array Value) (w : World) (g : Nat) (T : TypeId) (cs : Array Value) (fr : Nat × Nat) (d : TypeDesc)
    (hp : tmps.getD p undef = .pointer (some ⟨g, 0, none⟩)) (hg : w.heap[g]? = some (.cells cs T fr)) (hu : P.underlying ty = some d) (hd : d.isRow = true) (hi : (P.info? ty).map (·.size) = some cs.size) (x y : Value) (hx : tmps.getD u undef = x) (hy : tmps.getD z undef = y) :
    (results fn tmps).run P w = .ok (.tuple #[.agg cs, x, y]) w := by
  have h1 := run_loadVar_row (P := P) w g T ty cs fr d hg hu (by cases d <;> simp_all) hi
  have hp' : tmps[p]?.getD undef = .pointer (some ⟨g, 0, none⟩) := by simpa using hp
  have hx' : tmps[u]?.getD undef = x := by simpa using hx
  have hy' : tmps[z]?.getD undef = y := by simpa using hy
  simp only [results, h]
  simp [Result.andThen, hp', hx', hy', asAddr, h1]
def Ad4.ofN (n : Nat) : Ad4 := ⟨UInt8.ofNat (n / 16777216), UInt8.ofNat (n / 65536 % 256), UInt8.ofNat (n / 256 % 256), UInt8.ofNat (n % 256)⟩
theorem Ad4.ofN_num {n : Nat} (h : n < 4294967296) : (Ad4.ofN n).num = n := by
  unfold Ad4.num Ad4.ofN
  rw [be_abcd]
  simp only [UInt8.toNat_ofNat']
  omega
theorem adr_ofN {n : Nat} (h : n < 4294967296) : adr n = .agg #[.int .u8 ((Ad4.ofN n).a.toNat : Int), .int .u8 ((Ad4.ofN n).b.toNat : Int), .int .u8 ((Ad4.ofN n).c.toNat : Int), .int .u8 ((Ad4.ofN n).d.toNat : Int)] := by rw [← Ad4.cells, Ad4.ofN_num h]
theorem aof_l (n : Nat) (w : World) (hn : n < 4294967296) : Calls Try.prog 57 #[.int .u32 (n : Int)] w fun e w' => e = .returned (.agg #[.int .u8 ((Ad4.ofN n).a.toNat : Int), .int .u8 ((Ad4.ofN n).b.toNat : Int), .int .u8 ((Ad4.ofN n).c.toNat : Int), .int .u8 ((Ad4.ofN n).d.toNat : Int)]) ∧ Below w.heap.size w w' := by
  refine (aof_any n w hn).mono ?_
  rintro e w' ⟨rfl, bel⟩
  exact ⟨by rw [adr_ofN hn], bel⟩
theorem anum_adr (n : Nat) (w : World) (hn : n < 4294967296) : Calls Try.prog 54 #[adr n] w fun e w' => e = .returned (.int .u32 (n : Int)) ∧ Below w.heap.size w w' := by
  rw [adr_ofN hn]
  refine (anum_any _ _ _ _ w).mono ?_
  rintro e w' ⟨rfl, bel⟩
  refine ⟨?_, bel⟩
  rw [show be [(Ad4.ofN n).a, (Ad4.ofN n).b, (Ad4.ofN n).c, (Ad4.ofN n).d] = (Ad4.ofN n).num from rfl, Ad4.ofN_num hn]
theorem u32_wrap (x : Int) : IntKind.u32.wrap x = x % 4294967296 := rfl
/-- The pool's ends that no lines tell. -/
def poolAn (n : Ad4) (bt : Int) : Nat := if bt ≤ 24 then (fN n bt + 100) % 4294967296 else (fN n bt + 2) % 4294967296
def poolZn (n : Ad4) (bt : Int) : Nat := if bt ≤ 24 then (fN n bt + 131) % 4294967296 else (fN n bt + min 33 ((lN n bt + 4294967296 - fN n bt - 1) % 4294967296)) % 4294967296
def poolA (n : Ad4) (bt : Int) : Ad4 := Ad4.ofN (poolAn n bt)
def poolZ (n : Ad4) (bt : Int) : Ad4 := Ad4.ofN (poolZn n bt)
theorem fN_le_lN (n : Ad4) (bt : Int) : fN n bt ≤ lN n bt := by unfold fN lN firstN lastN; exact Nat.le_add_right _ _
theorem min_u32 {P : Program} (D M : Nat) (h : min 33 D = M) (W : World) (ts : Array TypeId) (t : TypeId) : (Builtin.min_ ts t #[.int .u32 33, .int .u32 (D : Int)]).run P W = .ok (.int .u32 (M : Int)) W := by
  rw [run_min_int2]
  subst h
  split
  · rw [Nat.min_eq_right (by omega)]
  · rw [Nat.min_eq_left (by omega)]; rfl
set_option linter.unusedVariables false in
set_option linter.unusedSimpArgs false in
set_option maxRecDepth 100000 in
set_option maxHeartbeats 16000000 in
theorem usualPool_any (n : Ad4) (bt : Int) (w : World) : Calls Try.prog 30 #[.agg #[.int .u8 (n.a.toNat : Int), .int .u8 (n.b.toNat : Int), .int .u8 (n.c.toNat : Int), .int .u8 (n.d.toNat : Int), .int .i64 bt]] w fun e w' => e = .returned (.tuple #[.agg #[.int .u8 ((poolA n bt).a.toNat : Int), .int .u8 ((poolA n bt).b.toNat : Int), .int .u8 ((poolA n bt).c.toNat : Int), .int .u8 ((poolA n bt).d.toNat : Int)], .agg #[.int .u8 ((poolZ n bt).a.toNat : Int), .int .u8 ((poolZ n bt).b.toNat : Int), .int .u8 ((poolZ n bt).c.toNat : Int), .int .u8 ((poolZ n bt).d.toNat : Int)]]) ∧ Below w.heap.size w w' := by
  have bel := Below.refl w.heap.size w
  go_enter Try.func30, Try.ntmps30
  go_wp2_with (first | ((with_reducible show wpList _ _ _ (⟨some 1, _, _, _, _, _⟩ :: _) _ _); refine wpList_box_n rfl 26 (.tmp 0) rfl #[.int .u8 (n.a.toNat : Int), .int .u8 (n.b.toNat : Int), .int .u8 (n.c.toNat : Int), .int .u8 (n.d.toNat : Int), .int .i64 bt] rfl ?_; intro g1 w1 ge lt hh bb; have op := Nat.le_trans bel.size ge; replace bel := bel.trans (bb.mono bel.size); have hp := hh; clear hh lt ge bb) | ((with_reducible show wpList _ _ _ (⟨some 2, _, _, _, _, _⟩ :: _) _ _); refine wpList_new_a rfl 24 rfl #[.int .u8 0, .int .u8 0, .int .u8 0, .int .u8 0] (by kernel_rfl) ?_; intro g2 w2 ge hh bb; have d_p_a := ne_new (hlt hp) ge; have oa := Nat.le_trans bel.size ge; replace hp := blk_u hp bb; replace bel := bel.trans (bb.mono bel.size); have ha := hh; clear hh ge bb) | ((with_reducible show wpList _ _ _ (⟨some 3, _, _, _, _, _⟩ :: _) _ _); refine wpList_new_a rfl 24 rfl #[.int .u8 0, .int .u8 0, .int .u8 0, .int .u8 0] (by kernel_rfl) ?_; intro g3 w3 ge hh bb; have d_p_z := ne_new (hlt hp) ge; have d_a_z := ne_new (hlt ha) ge; have oz := Nat.le_trans bel.size ge; replace hp := blk_u hp bb; replace ha := blk_u ha bb; replace bel := bel.trans (bb.mono bel.size); have hz := hh; clear hh ge bb))
  replace bel := bel.drew
  replace hp : w3.drew.heap[g1]? = _ := hp
  replace ha : w3.drew.heap[g2]? = _ := ha
  replace hz : w3.drew.heap[g3]? = _ := hz
  refine wp_region_held_drew (S := fun W => W.heap[g1]? = some (.cells #[.int .u8 (n.a.toNat : Int), .int .u8 (n.b.toNat : Int), .int .u8 (n.c.toNat : Int), .int .u8 (n.d.toNat : Int), .int .i64 bt] 26 (0, 0))) (by kernel_rfl) hp (fun hH => ?_)
  generalize w3.drew = w4 at bel hp ha hz hH ⊢
  refine wpAnyH_take (i := 0) (v := .agg #[.int .u8 (n.a.toNat : Int), .int .u8 (n.b.toNat : Int), .int .u8 (n.c.toNat : Int), .int .u8 (n.d.toNat : Int), .int .i64 bt]) rfl (by kernel_rfl) (by kernel_rfl) (by kernel_rfl) (fun _ _ _ h => h) (yieldsIf_load_part (by kernel_rfl) 26 _ rfl g1 0 5 rfl _ 26 (0, 0) (fun W hW => hW) _ rfl _ Try.underlying26 rfl (by kernel_rfl)) hH ?_
  simp only [Act.put, List.getElem_toArray, List.getElem_cons_zero, List.setIfInBounds_toArray, List.set_cons_zero, List.set_cons_succ]
  refine wpAnyH_take (i := 3) (v := .agg #[.int .u8 (n.a.toNat : Int), .int .u8 (n.b.toNat : Int), .int .u8 (n.c.toNat : Int), .int .u8 (n.d.toNat : Int), .int .i64 bt]) rfl (by kernel_rfl) (by kernel_rfl) (by kernel_rfl) (fun _ _ _ h => h) (yieldsIf_load_part (by kernel_rfl) 26 _ rfl g1 0 5 rfl _ 26 (0, 0) (fun W hW => hW) _ rfl _ Try.underlying26 rfl (by kernel_rfl)) hH ?_
  simp only [sq3, sq4]
  refine wpAnyH_ready (rs := [1]) (by kernel_rfl) (by simp) ?_
  refine AllReadyH.cons (o := _) rfl (fun K hK => ?_) AllReadyH.nil
  simp only [sq3]
  go_simp
  with_reducible refine (afirst_any _ _ _ _ _ _).mono ?_
  rintro e w5 ⟨rfl, b5⟩
  dsimp only
  replace hp := blk_u hp b5
  replace ha := blk_u ha b5
  replace hz := blk_u hz b5
  replace bel := bel.trans (b5.mono bel.size)
  clear b5
  rw [show firstN (be [n.a, n.b, n.c, n.d]) (clamp bt) = fN n bt from rfl]
  refine hK.out _ _ hp (fun hH6 => ?_)
  clear hK K
  refine wpAnyH_ready (rs := [2]) (by kernel_rfl) (by simp) ?_
  refine AllReadyH.cons (o := _) rfl (fun K hK => ?_) AllReadyH.nil
  simp only [sq3]
  go_simp
  with_reducible refine (anum_adr (fN n bt) _ (fN_lt _ _)).mono ?_
  rintro e w7 ⟨rfl, b7⟩
  dsimp only
  replace hp := blk_u hp b7
  replace ha := blk_u ha b7
  replace hz := blk_u hz b7
  replace bel := bel.trans (b7.mono bel.size)
  clear b7
  refine hK.out _ _ hp (fun hH8 => ?_)
  clear hK K
  refine wpAnyH_ready (rs := [4]) (by kernel_rfl) (by simp) ?_
  refine AllReadyH.cons (o := _) rfl (fun K hK => ?_) AllReadyH.nil
  simp only [sq3]
  go_simp
  with_reducible refine (alast_any _ _ _ _ _ _).mono ?_
  rintro e w9 ⟨rfl, b9⟩
  dsimp only
  replace hp := blk_u hp b9
  replace ha := blk_u ha b9
  replace hz := blk_u hz b9
  replace bel := bel.trans (b9.mono bel.size)
  clear b9
  rw [show lastN (be [n.a, n.b, n.c, n.d]) (clamp bt) = lN n bt from rfl]
  refine hK.out _ _ hp (fun hH10 => ?_)
  clear hK K
  refine wpAnyH_ready (rs := [5]) (by kernel_rfl) (by simp) ?_
  refine AllReadyH.cons (o := _) rfl (fun K hK => ?_) AllReadyH.nil
  simp only [sq3]
  go_simp
  with_reducible refine (anum_adr (lN n bt) _ (lN_lt _ _)).mono ?_
  rintro e w11 ⟨rfl, b11⟩
  dsimp only
  replace hp := blk_u hp b11
  replace ha := blk_u ha b11
  replace hz := blk_u hz b11
  replace bel := bel.trans (b11.mono bel.size)
  clear b11
  refine hK.out _ _ hp (fun hH12 => ?_)
  clear hK K
  refine wpAnyH_take (i := 6) (v := ?_) rfl (by kernel_rfl) (by kernel_rfl) (by kernel_rfl) (fun _ _ _ h => h) (Or.inl ⟨by rfl, ?_⟩) hH12 ?_
  rotate_left
  · ((intro W hW; clear hW; go_simp) <;> with_reducible rfl)
  simp only [sq3, sq4]
  refine wpAnyH_take (i := 7) (v := ?_) rfl (by kernel_rfl) (by kernel_rfl) (by kernel_rfl) (fun _ _ _ h => h) (Or.inl ⟨by rfl, ?_⟩) hH12 ?_
  rotate_left
  · ((intro W hW; clear hW; go_simp) <;> with_reducible rfl)
  simp only [sq3, sq4]
  by_cases hb : bt ≤ 24
  · obtain ⟨ka, hka⟩ : ∃ k, (fN n bt + 100) % 4294967296 = k := ⟨_, rfl⟩
    obtain ⟨kz, hkz⟩ : ∃ k, (fN n bt + 131) % 4294967296 = k := ⟨_, rfl⟩
    have HPA : Hid (poolA n bt = Ad4.ofN ka) := Lib.hid (by unfold poolA poolAn; rw [if_pos hb, hka])
    have HPZ : Hid (poolZ n bt = Ad4.ofN kz) := Lib.hid (by unfold poolZ poolZn; rw [if_pos hb, hkz])
    have hka2 : ka < 4294967296 := by omega
    have hkz2 : kz < 4294967296 := by omega
    have wa : IntKind.u32.wrap ((fN n bt : Int) + 100) = (ka : Int) := by rw [u32_wrap]; omega
    have wz : IntKind.u32.wrap ((fN n bt : Int) + 131) = (kz : Int) := by rw [u32_wrap]; omega
    clear hka hkz
    refine wpAnyH_done (by kernel_rfl) ?_ _
    have R13 := cell_lit hp 4 _ rfl
    go_wp2_with fail
    clear R13
    with_reducible refine (aof_l ka _ hka2).mono ?_
    rintro e w13 ⟨rfl, b13⟩
    replace hp := blk_u hp b13
    replace ha := blk_u ha b13
    replace hz := blk_u hz b13
    replace bel := bel.trans (b13.mono bel.size)
    clear b13
    go_wp2_with fail
    with_reducible refine (aof_l kz _ hkz2).mono ?_
    rintro e w14 ⟨rfl, b14⟩
    replace hp := blk_u hp b14
    replace ha := blk_u ha b14
    replace hz := blk_u hz b14
    replace bel := bel.trans (b14.mono bel.size)
    clear b14
    go_wp2_with (first | ((with_reducible show wpList _ _ _ (⟨none, Op.store _ (.tmp 2) _, _, _, _, _⟩ :: _) _ _); refine wpList_store_blk rfl 24 (.tmp 2) (.tmp 17) rfl g2 rfl _ rfl _ 24 ha (by rfl) (by kernel_rfl) (by kernel_rfl) ?_; intro w15 hq gr; replace hp := blk_a hp gr d_p_a; replace hz := blk_a hz gr (ne_symm d_a_z); replace bel := below_grown bel gr oa bel.size; clear ha; have ha := hq; clear hq gr) | ((with_reducible show wpList _ _ _ (⟨none, Op.store _ (.tmp 3) _, _, _, _, _⟩ :: _) _ _); refine wpList_store_blk rfl 24 (.tmp 3) (.tmp 20) rfl g3 rfl _ rfl _ 24 hz (by rfl) (by kernel_rfl) (by kernel_rfl) ?_; intro w16 hq gr; replace hp := blk_a hp gr d_p_z; replace ha := blk_a ha gr d_a_z; replace bel := below_grown bel gr oz bel.size; clear hz; have hz := hq; clear hq gr))
    exact bodyPost_ret (results_cell2_row rfl _ _ _ _ _ _ _ _ _ _ _ _ rfl ha Try.underlying24 rfl (by kernel_rfl) rfl hz Try.underlying24 rfl (by kernel_rfl)) rfl ⟨by rw [HPA.out, HPZ.out], bel⟩
  · obtain ⟨ka, hka⟩ : ∃ k, (fN n bt + 2) % 4294967296 = k := ⟨_, rfl⟩
    obtain ⟨D, hD⟩ : ∃ k, lN n bt - fN n bt = k := ⟨_, rfl⟩
    obtain ⟨E, hE⟩ : ∃ k, (lN n bt + 4294967296 - fN n bt - 1) % 4294967296 = k := ⟨_, rfl⟩
    obtain ⟨M, hM⟩ : ∃ k, min 33 E = k := ⟨_, rfl⟩
    obtain ⟨kz, hkz⟩ : ∃ k, (fN n bt + M) % 4294967296 = k := ⟨_, rfl⟩
    have hb2 : decide (bt ≤ 24) = false := decide_eq_false hb
    have HPA : Hid (poolA n bt = Ad4.ofN ka) := Lib.hid (by unfold poolA poolAn; rw [if_neg hb, hka])
    have HPZ : Hid (poolZ n bt = Ad4.ofN kz) := Lib.hid (by unfold poolZ poolZn; rw [if_neg hb, hE, hM, hkz])
    have hka2 : ka < 4294967296 := by omega
    have hkz2 : kz < 4294967296 := by omega
    have hle := fN_le_lN n bt
    have hl1 := lN_lt n bt
    have wa : IntKind.u32.wrap ((fN n bt : Int) + 2) = (ka : Int) := by rw [u32_wrap]; omega
    have wd : IntKind.u32.wrap ((lN n bt : Int) - (fN n bt : Int)) = (D : Int) := by rw [u32_wrap]; omega
    have we : IntKind.u32.wrap ((D : Int) - 1) = (E : Int) := by rw [u32_wrap]; omega
    have wm := fun W ts t => min_u32 (P := Try.prog) E M hM W ts t
    have wz : IntKind.u32.wrap ((fN n bt : Int) + (M : Int)) = (kz : Int) := by rw [u32_wrap]; omega
    clear hka hkz hD hE hM hle hl1 hb
    refine wpAnyH_done (by kernel_rfl) ?_ _
    have R13 := cell_lit hp 4 _ rfl
    go_wp2_with fail
    clear R13
    with_reducible refine (aof_l ka _ hka2).mono ?_
    rintro e w13 ⟨rfl, b13⟩
    replace hp := blk_u hp b13
    replace ha := blk_u ha b13
    replace hz := blk_u hz b13
    replace bel := bel.trans (b13.mono bel.size)
    clear b13
    go_wp2_with fail
    with_reducible refine (aof_l kz _ hkz2).mono ?_
    rintro e w14 ⟨rfl, b14⟩
    replace hp := blk_u hp b14
    replace ha := blk_u ha b14
    replace hz := blk_u hz b14
    replace bel := bel.trans (b14.mono bel.size)
    clear b14
    go_wp2_with (first | ((with_reducible show wpList _ _ _ (⟨none, Op.store _ (.tmp 2) _, _, _, _, _⟩ :: _) _ _); refine wpList_store_blk rfl 24 (.tmp 2) (.tmp 23) rfl g2 rfl _ rfl _ 24 ha (by rfl) (by kernel_rfl) (by kernel_rfl) ?_; intro w15 hq gr; replace hp := blk_a hp gr d_p_a; replace hz := blk_a hz gr (ne_symm d_a_z); replace bel := below_grown bel gr oa bel.size; clear ha; have ha := hq; clear hq gr) | ((with_reducible show wpList _ _ _ (⟨none, Op.store _ (.tmp 3) _, _, _, _, _⟩ :: _) _ _); refine wpList_store_blk rfl 24 (.tmp 3) (.tmp 31) rfl g3 rfl _ rfl _ 24 hz (by rfl) (by kernel_rfl) (by kernel_rfl) ?_; intro w16 hq gr; replace hp := blk_a hp gr d_p_z; replace ha := blk_a ha gr d_a_z; replace bel := below_grown bel gr oz bel.size; clear hz; have hz := hq; clear hq gr))
    exact bodyPost_ret (results_cell2_row rfl _ _ _ _ _ _ _ _ _ _ _ _ rfl ha Try.underlying24 rfl (by kernel_rfl) rfl hz Try.underlying24 rfl (by kernel_rfl)) rfl ⟨by rw [HPA.out, HPZ.out], bel⟩
theorem usualPool_lit (w : World) : Calls Try.prog 30 #[.agg #[.int .u8 192, .int .u8 168, .int .u8 1, .int .u8 0, .int .i64 24]] w fun e w' => e = .returned (.tuple #[.agg #[.int .u8 192, .int .u8 168, .int .u8 1, .int .u8 100], .agg #[.int .u8 192, .int .u8 168, .int .u8 1, .int .u8 131]]) ∧ Below w.heap.size w w' := by
  refine (usualPool_any ⟨192, 168, 1, 0⟩ 24 w).mono ?_
  rintro e w' ⟨rfl, bel⟩
  refine ⟨?_, bel⟩
  rw [show poolA ⟨192, 168, 1, 0⟩ 24 = ⟨192, 168, 1, 100⟩ by kernel_rfl, show poolZ ⟨192, 168, 1, 0⟩ 24 = ⟨192, 168, 1, 131⟩ by kernel_rfl]
  rfl
/-- The configuration of the empty text. -/
def usualC : Cf := ⟨⟨192, 168, 1, 1⟩, ⟨192, 168, 1, 0⟩, 24, ⟨2, 0, 0, 0, 0, 1⟩, ⟨2, 0, 0, 0, 0, 2⟩, ⟨192, 168, 1, 100⟩, ⟨192, 168, 1, 131⟩, 3600, ⟨9, 9, 9, 9⟩, 120, 7200, 30, 40000, [], []⟩
set_option linter.unusedVariables false in
set_option linter.unusedSimpArgs false in
set_option maxRecDepth 100000 in
set_option maxHeartbeats 16000000 in
theorem cusual_any (w : World) : Calls Try.prog 15 #[] w fun e w' => e = .returned (.agg #[.int .u8 192, .int .u8 168, .int .u8 1, .int .u8 1, .int .u8 192, .int .u8 168, .int .u8 1, .int .u8 0, .int .i64 24, .int .u8 2, .int .u8 0, .int .u8 0, .int .u8 0, .int .u8 0, .int .u8 1, .int .u8 2, .int .u8 0, .int .u8 0, .int .u8 0, .int .u8 0, .int .u8 2, .int .u8 192, .int .u8 168, .int .u8 1, .int .u8 100, .int .u8 192, .int .u8 168, .int .u8 1, .int .u8 131, .int .i64 3600, .int .u8 9, .int .u8 9, .int .u8 9, .int .u8 9, .int .i64 120, .int .i64 7200, .int .i64 30, .int .i64 40000, .slice none 0 0, .slice none 0 0]) ∧ Below w.heap.size w w' := by
  have bel := Below.refl w.heap.size w
  go_enter Try.func15, Try.ntmps15
  go_wp2_with (first | ((with_reducible show wpList _ _ _ (⟨some 0, _, _, _, _, _⟩ :: _) _ _); refine wpList_new_a rfl 32 rfl #[.int .u8 0, .int .u8 0, .int .u8 0, .int .u8 0, .int .u8 0, .int .u8 0, .int .u8 0, .int .u8 0, .int .i64 0, .int .u8 0, .int .u8 0, .int .u8 0, .int .u8 0, .int .u8 0, .int .u8 0, .int .u8 0, .int .u8 0, .int .u8 0, .int .u8 0, .int .u8 0, .int .u8 0, .int .u8 0, .int .u8 0, .int .u8 0, .int .u8 0, .int .u8 0, .int .u8 0, .int .u8 0, .int .u8 0, .int .i64 0, .int .u8 0, .int .u8 0, .int .u8 0, .int .u8 0, .int .i64 0, .int .i64 0, .int .i64 0, .int .i64 0, .slice none 0 0, .slice none 0 0] (by kernel_rfl) ?_; intro g0 w1 ge hh bb; have or := Nat.le_trans bel.size ge; replace bel := bel.trans (bb.mono bel.size); have hr := hh; clear hh ge bb) | ((with_reducible show wpList _ _ _ (⟨some 1, _, _, _, _, _⟩ :: _) _ _); refine wpList_new_a rfl 32 rfl #[.int .u8 0, .int .u8 0, .int .u8 0, .int .u8 0, .int .u8 0, .int .u8 0, .int .u8 0, .int .u8 0, .int .i64 0, .int .u8 0, .int .u8 0, .int .u8 0, .int .u8 0, .int .u8 0, .int .u8 0, .int .u8 0, .int .u8 0, .int .u8 0, .int .u8 0, .int .u8 0, .int .u8 0, .int .u8 0, .int .u8 0, .int .u8 0, .int .u8 0, .int .u8 0, .int .u8 0, .int .u8 0, .int .u8 0, .int .i64 0, .int .u8 0, .int .u8 0, .int .u8 0, .int .u8 0, .int .i64 0, .int .i64 0, .int .i64 0, .int .i64 0, .slice none 0 0, .slice none 0 0] (by kernel_rfl) ?_; intro g1 w2 ge hh bb; have d_r_c := ne_new (hlt hr) ge; have oc := Nat.le_trans bel.size ge; replace hr := blk_u hr bb; replace bel := bel.trans (bb.mono bel.size); have hc := hh; clear hh ge bb) | ((with_reducible show wpList _ _ _ (⟨none, Op.store _ (.tmp 1) _, _, _, _, _⟩ :: _) _ _); refine wpList_store_blk rfl 32 (.tmp 1) (.tmp 8) rfl g1 rfl _ rfl _ 32 hc (by rfl) (by kernel_rfl) (by kernel_rfl) ?_; intro w3 hq gr; replace hr := blk_a hr gr d_r_c; replace bel := below_grown bel gr oc bel.size; clear hc; have hc := hq; clear hq gr; have R11 := Lib.hid (range_lit hc 4 5 [.int .u8 192, .int .u8 168, .int .u8 1, .int .u8 0, .int .i64 24] rfl)) | ((with_reducible show wpList _ _ _ (⟨some 11, _, _, _, _, _⟩ :: _) _ _); refine wpList_load_rng 26 (.tmp 10) rfl (by kernel_rfl) _ _ rfl _ R11.out _ Try.underlying26 rfl (by kernel_rfl) ?_))
  try clear R11
  with_reducible refine (usualPool_lit _).mono ?_
  rintro e w4 ⟨rfl, b4⟩
  replace hr := blk_u hr b4
  replace hc := blk_u hc b4
  replace bel := bel.trans (b4.mono bel.size)
  clear b4
  go_wp2_with (first | ((with_reducible show wpList _ _ _ (⟨none, Op.store _ (.tmp 15) _, _, _, _, _⟩ :: _) _ _); refine wpList_store_part rfl 24 (.tmp 15) (.tmp 13) rfl g1 21 rfl [.int .u8 192, .int .u8 168, .int .u8 1, .int .u8 100] rfl [.int .u8 192, .int .u8 168, .int .u8 1, .int .u8 1, .int .u8 192, .int .u8 168, .int .u8 1, .int .u8 0, .int .i64 24, .int .u8 2, .int .u8 0, .int .u8 0, .int .u8 0, .int .u8 0, .int .u8 1, .int .u8 2, .int .u8 0, .int .u8 0, .int .u8 0, .int .u8 0, .int .u8 2, .int .u8 0, .int .u8 0, .int .u8 0, .int .u8 0, .int .u8 0, .int .u8 0, .int .u8 0, .int .u8 0, .int .i64 3600, .int .u8 9, .int .u8 9, .int .u8 9, .int .u8 9, .int .i64 120, .int .i64 7200, .int .i64 30, .int .i64 40000, .slice none 0 0, .slice none 0 0] 32 hc (by simp) [.int .u8 192, .int .u8 168, .int .u8 1, .int .u8 1, .int .u8 192, .int .u8 168, .int .u8 1, .int .u8 0, .int .i64 24, .int .u8 2, .int .u8 0, .int .u8 0, .int .u8 0, .int .u8 0, .int .u8 1, .int .u8 2, .int .u8 0, .int .u8 0, .int .u8 0, .int .u8 0, .int .u8 2, .int .u8 192, .int .u8 168, .int .u8 1, .int .u8 100, .int .u8 0, .int .u8 0, .int .u8 0, .int .u8 0, .int .i64 3600, .int .u8 9, .int .u8 9, .int .u8 9, .int .u8 9, .int .i64 120, .int .i64 7200, .int .i64 30, .int .i64 40000, .slice none 0 0, .slice none 0 0] rfl (by kernel_rfl) (by rfl) ?_; intro w5 hq gr; replace hr := blk_a hr gr d_r_c; replace bel := below_grown bel gr oc bel.size; clear hc; have hc := hq; clear hq gr) | ((with_reducible show wpList _ _ _ (⟨none, Op.store _ (.tmp 16) _, _, _, _, _⟩ :: _) _ _); refine wpList_store_part rfl 24 (.tmp 16) (.tmp 14) rfl g1 25 rfl [.int .u8 192, .int .u8 168, .int .u8 1, .int .u8 131] rfl [.int .u8 192, .int .u8 168, .int .u8 1, .int .u8 1, .int .u8 192, .int .u8 168, .int .u8 1, .int .u8 0, .int .i64 24, .int .u8 2, .int .u8 0, .int .u8 0, .int .u8 0, .int .u8 0, .int .u8 1, .int .u8 2, .int .u8 0, .int .u8 0, .int .u8 0, .int .u8 0, .int .u8 2, .int .u8 192, .int .u8 168, .int .u8 1, .int .u8 100, .int .u8 0, .int .u8 0, .int .u8 0, .int .u8 0, .int .i64 3600, .int .u8 9, .int .u8 9, .int .u8 9, .int .u8 9, .int .i64 120, .int .i64 7200, .int .i64 30, .int .i64 40000, .slice none 0 0, .slice none 0 0] 32 hc (by simp) [.int .u8 192, .int .u8 168, .int .u8 1, .int .u8 1, .int .u8 192, .int .u8 168, .int .u8 1, .int .u8 0, .int .i64 24, .int .u8 2, .int .u8 0, .int .u8 0, .int .u8 0, .int .u8 0, .int .u8 1, .int .u8 2, .int .u8 0, .int .u8 0, .int .u8 0, .int .u8 0, .int .u8 2, .int .u8 192, .int .u8 168, .int .u8 1, .int .u8 100, .int .u8 192, .int .u8 168, .int .u8 1, .int .u8 131, .int .i64 3600, .int .u8 9, .int .u8 9, .int .u8 9, .int .u8 9, .int .i64 120, .int .i64 7200, .int .i64 30, .int .i64 40000, .slice none 0 0, .slice none 0 0] rfl (by kernel_rfl) (by rfl) ?_; intro w6 hq gr; replace hr := blk_a hr gr d_r_c; replace bel := below_grown bel gr oc bel.size; clear hc; have hc := hq; clear hq gr; have R17 := Lib.hid (range_lit hc 0 40 [.int .u8 192, .int .u8 168, .int .u8 1, .int .u8 1, .int .u8 192, .int .u8 168, .int .u8 1, .int .u8 0, .int .i64 24, .int .u8 2, .int .u8 0, .int .u8 0, .int .u8 0, .int .u8 0, .int .u8 1, .int .u8 2, .int .u8 0, .int .u8 0, .int .u8 0, .int .u8 0, .int .u8 2, .int .u8 192, .int .u8 168, .int .u8 1, .int .u8 100, .int .u8 192, .int .u8 168, .int .u8 1, .int .u8 131, .int .i64 3600, .int .u8 9, .int .u8 9, .int .u8 9, .int .u8 9, .int .i64 120, .int .i64 7200, .int .i64 30, .int .i64 40000, .slice none 0 0, .slice none 0 0] rfl)) | ((with_reducible show wpList _ _ _ (⟨some 17, _, _, _, _, _⟩ :: _) _ _); refine wpList_load_rng 32 (.tmp 1) rfl (by kernel_rfl) _ _ rfl _ R17.out _ Try.underlying32 rfl (by kernel_rfl) ?_) | ((with_reducible show wpList _ _ _ (⟨none, Op.store _ (.tmp 0) _, _, _, _, _⟩ :: _) _ _); refine wpList_store_blk rfl 32 (.tmp 0) (.tmp 17) rfl g0 rfl _ rfl _ 32 hr (by rfl) (by kernel_rfl) (by kernel_rfl) ?_; intro w7 hq gr; replace hc := blk_a hc gr (ne_symm d_r_c); replace bel := below_grown bel gr or bel.size; clear hr; have hr := hq; clear hq gr))
  try clear R17
  exact bodyPost_ret (results_cell_row' rfl _ _ _ _ _ _ _ rfl hr Try.underlying32 rfl (by kernel_rfl)) rfl ⟨rfl, bel⟩
open Go.RowKit

/-- Two rows of a call's own that share no block. -/
def Apr (v z : Value) : Prop := ∀ g, v.ownBlock = some g → z.ownBlock ≠ some g
theorem Apr.symm {v z : Value} (h : Apr v z) : Apr z v := fun g hz hv => h g hv hz
theorem owk_apart {w w' : World} {B k n : Nat} {e : TypeId} {v z : Value} {xs : List Value} (h : w.ownsRow B e k z n xs) (ap : Apr v z) (gw : w.grownBy w' v.ownBlock) : w'.ownsRow B e k z n xs := by
  refine ⟨h.1, ?_⟩
  rcases h.2 with h2 | ⟨g, cap, cur, e2, hb, hh, h3⟩
  · exact .inl h2
  · have hz : z.ownBlock = some g := by rw [e2]; rfl
    exact .inr ⟨g, cap, cur, e2, hb, (gw.block g (Array.getElem?_eq_some_iff.1 hh).1 (fun e3 => ap g e3.symm hz)).trans hh, h3⟩
theorem apr_new {w : World} {B k n : Nat} {e : TypeId} {v v' z : Value} {xs : List Value} (hz : w.ownsRow B e k z n xs) (ap : Apr v z) (ofw : ∀ g, g < w.heap.size → Ofs v g → Ofs v' g) : Apr v' z := fun g hv hzg =>
  ofw g (hz.lt g hzg).2 (fun g' hg' e => ap g (by rw [← e]; exact hg') hzg) g hv rfl
theorem apr_nil (z : Value) : Apr (.slice none 0 0) z := fun g h => by simp [Value.ownBlock] at h
theorem fxf_one (x : Mc6 × Ad4) : ∀ u ∈ fxf x, u.oneCell' = true := by
  intro u hu
  simp only [fxf, List.mem_cons, List.not_mem_nil, or_false] at hu
  rcases hu with h | h | h | h | h | h | h | h | h | h <;> rw [h] <;> rfl
theorem opf_one (x : Int × Int × Ad4 × Int) : ∀ u ∈ opf x, u.oneCell' = true := by
  intro u hu
  simp only [opf, List.mem_cons, List.not_mem_nil, or_false] at hu
  rcases hu with h | h | h | h | h | h | h <;> rw [h] <;> rfl
/-- The reader at block g: a configuration, names; its three rows lie apart, from lo on. -/
def Rdr (lo gr : Nat) (w : World) (c : Cf) (ns : List (List UInt8)) (m : Nat) : Prop :=
  ∃ (Fx : Option Addr) (nf cf : Nat) (Ox : Option Addr) (nx cx : Nat) (Nx : Option Addr) (nn cn : Nat),
    w.heap[gr]? = some (.cells #[.int .u8 (c.own.a.toNat : Int), .int .u8 (c.own.b.toNat : Int), .int .u8 (c.own.c.toNat : Int), .int .u8 (c.own.d.toNat : Int), .int .u8 (c.lan.a.toNat : Int), .int .u8 (c.lan.b.toNat : Int), .int .u8 (c.lan.c.toNat : Int), .int .u8 (c.lan.d.toNat : Int), .int .i64 c.bits, .int .u8 (c.lanmac.a.toNat : Int), .int .u8 (c.lanmac.b.toNat : Int), .int .u8 (c.lanmac.c.toNat : Int), .int .u8 (c.lanmac.d.toNat : Int), .int .u8 (c.lanmac.e.toNat : Int), .int .u8 (c.lanmac.f.toNat : Int), .int .u8 (c.wanmac.a.toNat : Int), .int .u8 (c.wanmac.b.toNat : Int), .int .u8 (c.wanmac.c.toNat : Int), .int .u8 (c.wanmac.d.toNat : Int), .int .u8 (c.wanmac.e.toNat : Int), .int .u8 (c.wanmac.f.toNat : Int), .int .u8 (c.first.a.toNat : Int), .int .u8 (c.first.b.toNat : Int), .int .u8 (c.first.c.toNat : Int), .int .u8 (c.first.d.toNat : Int), .int .u8 (c.last.a.toNat : Int), .int .u8 (c.last.b.toNat : Int), .int .u8 (c.last.c.toNat : Int), .int .u8 (c.last.d.toNat : Int), .int .i64 c.time, .int .u8 (c.dns.a.toNat : Int), .int .u8 (c.dns.b.toNat : Int), .int .u8 (c.dns.c.toNat : Int), .int .u8 (c.dns.d.toNat : Int), .int .i64 c.udp, .int .i64 c.tcp, .int .i64 c.icmp, .int .i64 c.low, .slice Fx nf cf, .slice Ox nx cx, .slice Nx nn cn] 57 (0, 0)) ∧ lo ≤ gr ∧
    w.ownsRow lo 72 10 (.slice Fx nf cf) nf (c.fixed.flatMap fxf) ∧ w.ownsRow lo 73 7 (.slice Ox nx cx) nx (c.opens.flatMap opf) ∧ w.ownsRow lo 9 1 (.slice Nx nn cn) nn (ns.flatMap stf) ∧
    Ofs (.slice Fx nf cf) gr ∧ Ofs (.slice Ox nx cx) gr ∧ Ofs (.slice Nx nn cn) gr ∧ Apr (.slice Fx nf cf) (.slice Ox nx cx) ∧ Apr (.slice Fx nf cf) (.slice Nx nn cn) ∧ Apr (.slice Ox nx cx) (.slice Nx nn cn) ∧ nf ≤ m ∧ nx ≤ m ∧ nn ≤ m
theorem Rdr.of {lo gr : Nat} {w : World} {c : Cf} {ns : List (List UInt8)} {m : Nat} (h : ∃ (Fx : Option Addr) (nf cf : Nat) (Ox : Option Addr) (nx cx : Nat) (Nx : Option Addr) (nn cn : Nat),
    w.heap[gr]? = some (.cells #[.int .u8 (c.own.a.toNat : Int), .int .u8 (c.own.b.toNat : Int), .int .u8 (c.own.c.toNat : Int), .int .u8 (c.own.d.toNat : Int), .int .u8 (c.lan.a.toNat : Int), .int .u8 (c.lan.b.toNat : Int), .int .u8 (c.lan.c.toNat : Int), .int .u8 (c.lan.d.toNat : Int), .int .i64 c.bits, .int .u8 (c.lanmac.a.toNat : Int), .int .u8 (c.lanmac.b.toNat : Int), .int .u8 (c.lanmac.c.toNat : Int), .int .u8 (c.lanmac.d.toNat : Int), .int .u8 (c.lanmac.e.toNat : Int), .int .u8 (c.lanmac.f.toNat : Int), .int .u8 (c.wanmac.a.toNat : Int), .int .u8 (c.wanmac.b.toNat : Int), .int .u8 (c.wanmac.c.toNat : Int), .int .u8 (c.wanmac.d.toNat : Int), .int .u8 (c.wanmac.e.toNat : Int), .int .u8 (c.wanmac.f.toNat : Int), .int .u8 (c.first.a.toNat : Int), .int .u8 (c.first.b.toNat : Int), .int .u8 (c.first.c.toNat : Int), .int .u8 (c.first.d.toNat : Int), .int .u8 (c.last.a.toNat : Int), .int .u8 (c.last.b.toNat : Int), .int .u8 (c.last.c.toNat : Int), .int .u8 (c.last.d.toNat : Int), .int .i64 c.time, .int .u8 (c.dns.a.toNat : Int), .int .u8 (c.dns.b.toNat : Int), .int .u8 (c.dns.c.toNat : Int), .int .u8 (c.dns.d.toNat : Int), .int .i64 c.udp, .int .i64 c.tcp, .int .i64 c.icmp, .int .i64 c.low, .slice Fx nf cf, .slice Ox nx cx, .slice Nx nn cn] 57 (0, 0)) ∧ lo ≤ gr ∧
    w.ownsRow lo 72 10 (.slice Fx nf cf) nf (c.fixed.flatMap fxf) ∧ w.ownsRow lo 73 7 (.slice Ox nx cx) nx (c.opens.flatMap opf) ∧ w.ownsRow lo 9 1 (.slice Nx nn cn) nn (ns.flatMap stf) ∧
    Ofs (.slice Fx nf cf) gr ∧ Ofs (.slice Ox nx cx) gr ∧ Ofs (.slice Nx nn cn) gr ∧ Apr (.slice Fx nf cf) (.slice Ox nx cx) ∧ Apr (.slice Fx nf cf) (.slice Nx nn cn) ∧ Apr (.slice Ox nx cx) (.slice Nx nn cn) ∧ nf ≤ m ∧ nx ≤ m ∧ nn ≤ m) : Rdr lo gr w c ns m := h
theorem Rdr.below {lo gr : Nat} {w w' : World} {c : Cf} {ns : List (List UInt8)} {m : Nat} (h : Rdr lo gr w c ns m) (b : Below w.heap.size w w') : Rdr lo gr w' c ns m := by
  obtain ⟨Fx, nf, cf, Ox, nx, cx, Nx, nn, cn, h1, h2, h3, h4, h5, h6⟩ := h
  exact ⟨Fx, nf, cf, Ox, nx, cx, Nx, nn, cn, blk_u h1 b, h2, owk_under h3 b, owk_under h4 b, owk_under h5 b, h6⟩
theorem Rdr.more {lo gr : Nat} {w : World} {c : Cf} {ns : List (List UInt8)} {m m' : Nat} (h : Rdr lo gr w c ns m) (hm : m ≤ m') : Rdr lo gr w c ns m' := by
  obtain ⟨Fx, nf, cf, Ox, nx, cx, Nx, nn, cn, h1, h2, h3, h4, h5, h6, h7, h8, h9, h10, h11, h12, h13, h14⟩ := h
  exact ⟨Fx, nf, cf, Ox, nx, cx, Nx, nn, cn, h1, h2, h3, h4, h5, h6, h7, h8, h9, h10, h11, Nat.le_trans h12 hm, Nat.le_trans h13 hm, Nat.le_trans h14 hm⟩
theorem afirst_l (n : Ad4) (bt : Int) (w : World) : Calls Try.prog 55 #[.agg #[.int .u8 (n.a.toNat : Int), .int .u8 (n.b.toNat : Int), .int .u8 (n.c.toNat : Int), .int .u8 (n.d.toNat : Int), .int .i64 bt]] w fun e w' => e = .returned (.agg #[.int .u8 ((Ad4.ofN (fN n bt)).a.toNat : Int), .int .u8 ((Ad4.ofN (fN n bt)).b.toNat : Int), .int .u8 ((Ad4.ofN (fN n bt)).c.toNat : Int), .int .u8 ((Ad4.ofN (fN n bt)).d.toNat : Int)]) ∧ Below w.heap.size w w' := by
  refine (afirst_any _ _ _ _ _ w).mono ?_
  rintro e w' ⟨rfl, bel⟩
  refine ⟨?_, bel⟩
  rw [show firstN (be [n.a, n.b, n.c, n.d]) (clamp bt) = fN n bt from rfl, adr_ofN (fN_lt n bt)]
/-- What read answers for a kind. -/
def valV (k : Nat) (l : List UInt8) : Value :=
  if k = 0 then .iface 3 (.int .i64 (decV l)) else if k = 1 then .iface 24 (.agg #[.int .u8 ((p4 l).a.toNat : Int), .int .u8 ((p4 l).b.toNat : Int), .int .u8 ((p4 l).c.toNat : Int), .int .u8 ((p4 l).d.toNat : Int)]) else if k = 2 then .iface 120 (.agg #[.int .u8 ((nwO l).a.toNat : Int), .int .u8 ((nwO l).b.toNat : Int), .int .u8 ((nwO l).c.toNat : Int), .int .u8 ((nwO l).d.toNat : Int), .int .i64 (nwB l)]) else .iface 28 (.agg #[.int .u8 ((mcl l).a.toNat : Int), .int .u8 ((mcl l).b.toNat : Int), .int .u8 ((mcl l).c.toNat : Int), .int .u8 ((mcl l).d.toNat : Int), .int .u8 ((mcl l).e.toNat : Int), .int .u8 ((mcl l).f.toNat : Int)])
def okV (k : Nat) (l : List UInt8) : Bool := if k = 0 then decOk l else if k = 1 then p4ok l else if k = 2 then nwK l else mcok l
theorem read_any (k : Nat) (hk : k ≤ 3) (l : List UInt8) (w : World) (hlen : l.length ≤ 100000) : Calls Try.prog 67 #[.int .i64 (k : Int), .string ⟨l.toArray⟩] w fun e w' => e = .returned (.tuple #[valV k l, .bool (okV k l)]) ∧ Below w.heap.size w w' := by
  rcases (by omega : k = 0 ∨ k = 1 ∨ k = 2 ∨ k = 3) with rfl | rfl | rfl | rfl
  · exact read0_any l w hlen
  · exact read1_any l w hlen
  · exact read2_any l w hlen
  · exact read3_any l w hlen
/-- A configuration with the value of a line. -/
def Cf.put (c : Cf) (s x : List UInt8) : Cf :=
  if (s == [108, 97, 110]) = true then { c with own := nwO x, lan := Ad4.ofN (fN (nwO x) (nwB x)), bits := nwB x } else
  if (s == [108, 97, 110, 109, 97, 99]) = true then { c with lanmac := mcl x } else
  if (s == [119, 97, 110, 109, 97, 99]) = true then { c with wanmac := mcl x } else
  if (s == [102, 105, 114, 115, 116]) = true then { c with first := p4 x } else
  if (s == [108, 97, 115, 116]) = true then { c with last := p4 x } else
  if (s == [116, 105, 109, 101]) = true then { c with time := decV x } else
  if (s == [100, 110, 115]) = true then { c with dns := p4 x } else
  if (s == [117, 100, 112, 116, 105, 109, 101]) = true then { c with udp := decV x } else
  if (s == [116, 99, 112, 116, 105, 109, 101]) = true then { c with tcp := decV x } else
  if (s == [105, 99, 109, 112, 116, 105, 109, 101]) = true then { c with icmp := decV x } else
  if (s == [108, 111, 119]) = true then { c with low := decV x } else
  c
theorem kind_le {s : List UInt8} {k : Nat} (h : kindK s = some k) : k ≤ 3 := by
  unfold kindK at h
  repeat' (split at h)
  all_goals first | (injection h with h; omega) | cases h
set_option linter.unusedVariables false in
set_option linter.unusedSimpArgs false in
set_option maxRecDepth 100000 in
set_option maxHeartbeats 16000000 in
theorem has_c {lo gr : Nat} {c : Cf} {ns : List (List UInt8)} {m : Nat} (s : List UInt8) (w : World) (hR : Rdr lo gr w c ns m) (hm : m ≤ 100000) : Calls Try.prog 42 #[.pointer (some ⟨gr, 0, none⟩), .string ⟨s.toArray⟩] w fun e w' => e = .returned (.bool (ns.contains s)) ∧ w = w' := by
  obtain ⟨Fx, nf, cf, Ox, nx, cx, Nx, nn, cn, hrd, ord, sFw, sOw, sNw, of_sF_rd, of_sO_rd, of_sN_rd, apFO, apFN, apON, bF, bO, bN⟩ := hR
  have sF := (owk_sle (by decide) fxf_len sFw).1
  have sO := (owk_sle (by decide) opf_len sOw).1
  have sN := (owk_sle (by decide) stf_len sNw).1
  have av_sF_rd := owk_av sFw of_sF_rd
  have av_sO_rd := owk_av sOw of_sO_rd
  have av_sN_rd := owk_av sNw of_sN_rd
  have sFlo := Nat.le_refl lo
  have sOlo := Nat.le_refl lo
  have sNlo := Nat.le_refl lo
  have n0F : (0 : Int) ≤ nf := by omega
  have n0O : (0 : Int) ≤ nx := by omega
  have n0N : (0 : Int) ≤ nn := by omega
  replace hm : nn ≤ 100000 := by omega
  skip
  go_enter Try.func42, Try.ntmps42
  have R8 := cell_lit hrd 40 _ rfl
  go_wp2_with fail
  clear R8
  with_reducible refine (scontains_any _ _ _ ns s _ sN hm).mono ?_
  rintro e _ ⟨rfl, rfl⟩
  obtain ⟨b, HB_⟩ : ∃ b, ns.contains s = b := ⟨_, rfl⟩
  have HB := Lib.hid HB_
  rw [HB_]
  clear HB_
  go_wp2_with fail
  go_ret
  exact ⟨by rw [HB.out]; rfl, rfl⟩
set_option linter.unusedVariables false in
set_option linter.unusedSimpArgs false in
set_option maxRecDepth 100000 in
set_option maxHeartbeats 16000000 in
theorem set_c {lo gr : Nat} {c : Cf} {ns : List (List UInt8)} {m k : Nat} (s x : List UInt8) (w : World) (hlo : lo ≤ w.heap.size) (hR : Rdr lo gr w c ns m) (hk : kindK s = some k) : Calls Try.prog 68 #[.pointer (some ⟨gr, 0, none⟩), .string ⟨s.toArray⟩, valV k x] w fun e w' => e = .returned (.tuple #[]) ∧ Rdr lo gr w' (c.put s x) ns m ∧ Below lo w w' := by
  obtain ⟨Fx, nf, cf, Ox, nx, cx, Nx, nn, cn, hrd, ord, sFw, sOw, sNw, of_sF_rd, of_sO_rd, of_sN_rd, apFO, apFN, apON, bF, bO, bN⟩ := hR
  have sF := (owk_sle (by decide) fxf_len sFw).1
  have sO := (owk_sle (by decide) opf_len sOw).1
  have sN := (owk_sle (by decide) stf_len sNw).1
  have av_sF_rd := owk_av sFw of_sF_rd
  have av_sO_rd := owk_av sOw of_sO_rd
  have av_sN_rd := owk_av sNw of_sN_rd
  have sFlo := Nat.le_refl lo
  have sOlo := Nat.le_refl lo
  have sNlo := Nat.le_refl lo
  have n0F : (0 : Int) ≤ nf := by omega
  have n0O : (0 : Int) ≤ nx := by omega
  have n0N : (0 : Int) ≤ nn := by omega
  have lz_sF : lo ≤ _ := hlo
  have lz_sO : lo ≤ _ := hlo
  have lz_sN : lo ≤ _ := hlo
  have bel := Below.refl lo w
  go_enter Try.func68, Try.ntmps68
  rcases (by decide : ∀ b : Bool, b = true ∨ b = false) (s == [108, 97, 110]) with b0 | b0
  · have hk2 : k = 2 := by have h_ := hk; rw [eq_of_beq b0] at h_; exact (Option.some.inj (show some 2 = some k from h_)).symm
    subst hk2
    have HP : Hid (c.put s x = { c with own := nwO x, lan := Ad4.ofN (fN (nwO x) (nwB x)), bits := nwB x }) := Lib.hid (by unfold Cf.put; rw [if_pos b0])
    have hta : ∀ W, (Instr.typeAssert (valV 2 x) 20 120 false).run Try.prog W = .ok (.agg #[.int .u8 ((nwO x).a.toNat : Int), .int .u8 ((nwO x).b.toNat : Int), .int .u8 ((nwO x).c.toNat : Int), .int .u8 ((nwO x).d.toNat : Int), .int .i64 (nwB x)]) W := fun W => by kernel_rfl
    clear hk
    have R15 := hta
    go_wp2_with (first | ((with_reducible show wpList _ _ _ (⟨some 7, _, _, _, _, _⟩ :: _) _ _); refine wpList_new_a rfl 120 rfl #[.int .u8 0, .int .u8 0, .int .u8 0, .int .u8 0, .int .i64 0] (by kernel_rfl) ?_; intro g7 w1 ge hh bb; have d_rd_n := ne_new (hlt hrd) ge; have av_sF_n := sF.av_new ge; have of_sF_n := owk_new sFw ge; have av_sO_n := sO.av_new ge; have of_sO_n := owk_new sOw ge; have av_sN_n := sN.av_new ge; have of_sN_n := owk_new sNw ge; have on := Nat.le_trans (Nat.le_trans hlo bel.size) ge; replace hrd := blk_u hrd bb; replace sF := sF.below bb; replace sFw := owk_under sFw bb; replace sO := sO.below bb; replace sOw := owk_under sOw bb; replace sN := sN.below bb; replace sNw := owk_under sNw bb; replace lz_sF := Nat.le_trans lz_sF bb.size; replace lz_sO := Nat.le_trans lz_sO bb.size; replace lz_sN := Nat.le_trans lz_sN bb.size; replace bel := bel.trans (bb.mono (Nat.le_trans hlo bel.size)); have hn := hh; clear hh ge bb) | ((with_reducible show wpList _ _ _ (⟨none, Op.store _ (.tmp 7) _, _, _, _, _⟩ :: _) _ _); refine wpList_store_blk rfl 120 (.tmp 7) (.tmp 15) rfl g7 rfl _ rfl _ 120 hn (by rfl) (by kernel_rfl) (by kernel_rfl) ?_; intro w2 hq gr; replace sF := sF.away av_sF_n gr; replace sFw := owk_off sFw of_sF_n gr; replace sO := sO.away av_sO_n gr; replace sOw := owk_off sOw of_sO_n gr; replace sN := sN.away av_sN_n gr; replace sNw := owk_off sNw of_sN_n gr; replace lz_sF := Nat.le_trans lz_sF gr.size; replace lz_sO := Nat.le_trans lz_sO gr.size; replace lz_sN := Nat.le_trans lz_sN gr.size; replace hrd := blk_a hrd gr d_rd_n; replace bel := below_grown bel gr on (Nat.le_trans hlo bel.size); clear hn; have hn := hq; clear hq gr; have R18 := Lib.hid (range_lit hn 0 4 [.int .u8 ((nwO x).a.toNat : Int), .int .u8 ((nwO x).b.toNat : Int), .int .u8 ((nwO x).c.toNat : Int), .int .u8 ((nwO x).d.toNat : Int)] rfl)) | ((with_reducible show wpList _ _ _ (⟨some 18, _, _, _, _, _⟩ :: _) _ _); refine wpList_load_rng 24 (.tmp 17) rfl (by kernel_rfl) _ _ rfl _ R18.out _ Try.underlying24 rfl (by kernel_rfl) ?_) | ((with_reducible show wpList _ _ _ (⟨none, Op.store _ (.tmp 20) _, _, _, _, _⟩ :: _) _ _); refine wpList_store_part rfl 24 (.tmp 20) (.tmp 18) rfl gr 0 rfl [.int .u8 ((nwO x).a.toNat : Int), .int .u8 ((nwO x).b.toNat : Int), .int .u8 ((nwO x).c.toNat : Int), .int .u8 ((nwO x).d.toNat : Int)] rfl [.int .u8 (c.own.a.toNat : Int), .int .u8 (c.own.b.toNat : Int), .int .u8 (c.own.c.toNat : Int), .int .u8 (c.own.d.toNat : Int), .int .u8 (c.lan.a.toNat : Int), .int .u8 (c.lan.b.toNat : Int), .int .u8 (c.lan.c.toNat : Int), .int .u8 (c.lan.d.toNat : Int), .int .i64 c.bits, .int .u8 (c.lanmac.a.toNat : Int), .int .u8 (c.lanmac.b.toNat : Int), .int .u8 (c.lanmac.c.toNat : Int), .int .u8 (c.lanmac.d.toNat : Int), .int .u8 (c.lanmac.e.toNat : Int), .int .u8 (c.lanmac.f.toNat : Int), .int .u8 (c.wanmac.a.toNat : Int), .int .u8 (c.wanmac.b.toNat : Int), .int .u8 (c.wanmac.c.toNat : Int), .int .u8 (c.wanmac.d.toNat : Int), .int .u8 (c.wanmac.e.toNat : Int), .int .u8 (c.wanmac.f.toNat : Int), .int .u8 (c.first.a.toNat : Int), .int .u8 (c.first.b.toNat : Int), .int .u8 (c.first.c.toNat : Int), .int .u8 (c.first.d.toNat : Int), .int .u8 (c.last.a.toNat : Int), .int .u8 (c.last.b.toNat : Int), .int .u8 (c.last.c.toNat : Int), .int .u8 (c.last.d.toNat : Int), .int .i64 c.time, .int .u8 (c.dns.a.toNat : Int), .int .u8 (c.dns.b.toNat : Int), .int .u8 (c.dns.c.toNat : Int), .int .u8 (c.dns.d.toNat : Int), .int .i64 c.udp, .int .i64 c.tcp, .int .i64 c.icmp, .int .i64 c.low, .slice Fx nf cf, .slice Ox nx cx, .slice Nx nn cn] 57 hrd (by simp) [.int .u8 ((nwO x).a.toNat : Int), .int .u8 ((nwO x).b.toNat : Int), .int .u8 ((nwO x).c.toNat : Int), .int .u8 ((nwO x).d.toNat : Int), .int .u8 (c.lan.a.toNat : Int), .int .u8 (c.lan.b.toNat : Int), .int .u8 (c.lan.c.toNat : Int), .int .u8 (c.lan.d.toNat : Int), .int .i64 c.bits, .int .u8 (c.lanmac.a.toNat : Int), .int .u8 (c.lanmac.b.toNat : Int), .int .u8 (c.lanmac.c.toNat : Int), .int .u8 (c.lanmac.d.toNat : Int), .int .u8 (c.lanmac.e.toNat : Int), .int .u8 (c.lanmac.f.toNat : Int), .int .u8 (c.wanmac.a.toNat : Int), .int .u8 (c.wanmac.b.toNat : Int), .int .u8 (c.wanmac.c.toNat : Int), .int .u8 (c.wanmac.d.toNat : Int), .int .u8 (c.wanmac.e.toNat : Int), .int .u8 (c.wanmac.f.toNat : Int), .int .u8 (c.first.a.toNat : Int), .int .u8 (c.first.b.toNat : Int), .int .u8 (c.first.c.toNat : Int), .int .u8 (c.first.d.toNat : Int), .int .u8 (c.last.a.toNat : Int), .int .u8 (c.last.b.toNat : Int), .int .u8 (c.last.c.toNat : Int), .int .u8 (c.last.d.toNat : Int), .int .i64 c.time, .int .u8 (c.dns.a.toNat : Int), .int .u8 (c.dns.b.toNat : Int), .int .u8 (c.dns.c.toNat : Int), .int .u8 (c.dns.d.toNat : Int), .int .i64 c.udp, .int .i64 c.tcp, .int .i64 c.icmp, .int .i64 c.low, .slice Fx nf cf, .slice Ox nx cx, .slice Nx nn cn] rfl (by kernel_rfl) (by rfl) ?_; intro w3 hq gr; replace sF := sF.away av_sF_rd gr; replace sFw := owk_off sFw of_sF_rd gr; replace sO := sO.away av_sO_rd gr; replace sOw := owk_off sOw of_sO_rd gr; replace sN := sN.away av_sN_rd gr; replace sNw := owk_off sNw of_sN_rd gr; replace lz_sF := Nat.le_trans lz_sF gr.size; replace lz_sO := Nat.le_trans lz_sO gr.size; replace lz_sN := Nat.le_trans lz_sN gr.size; replace hn := blk_a hn gr (ne_symm d_rd_n); replace bel := below_grown bel gr ord (Nat.le_trans hlo bel.size); clear hrd; have hrd := hq; clear hq gr))
    try clear R15
    try clear R18
    replace bel := bel.drew
    replace hrd : w3.drew.heap[gr]? = _ := hrd
    replace hn : w3.drew.heap[g7]? = _ := hn
    replace sF := sF.drew
    replace sFw : w3.drew.ownsRow _ _ _ _ _ _ := sFw
    replace lz_sF : _ ≤ w3.drew.heap.size := lz_sF
    replace sO := sO.drew
    replace sOw : w3.drew.ownsRow _ _ _ _ _ _ := sOw
    replace lz_sO : _ ≤ w3.drew.heap.size := lz_sO
    replace sN := sN.drew
    replace sNw : w3.drew.ownsRow _ _ _ _ _ _ := sNw
    replace lz_sN : _ ≤ w3.drew.heap.size := lz_sN
    refine wp_region_held_drew (S := fun W => W.heap[g7]? = some (.cells #[.int .u8 ((nwO x).a.toNat : Int), .int .u8 ((nwO x).b.toNat : Int), .int .u8 ((nwO x).c.toNat : Int), .int .u8 ((nwO x).d.toNat : Int), .int .i64 (nwB x)] 120 (0, 0))) (by kernel_rfl) hn (fun hH => ?_)
    generalize w3.drew = w4 at bel hrd hn sF sO sN sFw sOw sNw lz_sF lz_sO lz_sN hH ⊢
    refine wpAnyH_take (i := 0) (v := ?_) rfl (by kernel_rfl) (by kernel_rfl) (by kernel_rfl) (fun _ _ _ h => h) (Or.inl ⟨by rfl, ?_⟩) hH ?_
    rotate_left
    · ((intro W hW; clear hW; go_simp) <;> with_reducible rfl)
    simp only [Act.put, List.getElem_toArray, List.getElem_cons_zero, List.setIfInBounds_toArray, List.set_cons_zero, List.set_cons_succ]
    refine wpAnyH_take (i := 1) (v := ?_) rfl (by kernel_rfl) (by kernel_rfl) (by kernel_rfl) (fun _ _ _ h => h) (Or.inl ⟨by rfl, ?_⟩) hH ?_
    rotate_left
    · ((intro W hW; clear hW; go_simp) <;> with_reducible rfl)
    simp only [sq3, sq4]
    refine wpAnyH_take (i := 2) (v := .agg #[.int .u8 ((nwO x).a.toNat : Int), .int .u8 ((nwO x).b.toNat : Int), .int .u8 ((nwO x).c.toNat : Int), .int .u8 ((nwO x).d.toNat : Int)]) rfl (by kernel_rfl) (by kernel_rfl) (by kernel_rfl) (fun _ _ _ h => h) (yieldsIf_load_part (by kernel_rfl) 24 _ rfl g7 0 4 rfl _ 120 (0, 0) (fun W hW => hW) _ rfl _ Try.underlying24 rfl (by kernel_rfl)) hH ?_
    simp only [sq3, sq4]
    refine wpAnyH_take (i := 3) (v := ?_) rfl (by kernel_rfl) (by kernel_rfl) (by kernel_rfl) (fun _ _ _ h => h) (Or.inl ⟨by rfl, ?_⟩) hH ?_
    rotate_left
    · ((intro W hW; clear hW; go_simp) <;> with_reducible rfl)
    simp only [sq3, sq4]
    refine wpAnyH_take (i := 4) (v := ?_) rfl (by kernel_rfl) (by kernel_rfl) (by kernel_rfl) (fun _ _ _ h => h) (Or.inl ⟨by rfl, ?_⟩) hH ?_
    rotate_left
    · ((intro W hW; have hk := cell_lit (hW) 4 _ rfl; clear hW; go_simp) <;> with_reducible rfl)
    simp only [sq3, sq4]
    refine wpAnyH_take (i := 5) (v := ?_) rfl (by kernel_rfl) (by kernel_rfl) (by kernel_rfl) (fun _ _ _ h => h) (Or.inl ⟨by rfl, ?_⟩) hH ?_
    rotate_left
    · ((intro W hW; clear hW; go_simp) <;> with_reducible rfl)
    simp only [sq3, sq4]
    refine wpAnyH_take (i := 7) (v := ?_) rfl (by kernel_rfl) (by kernel_rfl) (by kernel_rfl) (fun _ _ _ h => h) (Or.inl ⟨by rfl, ?_⟩) hH ?_
    rotate_left
    · ((intro W hW; clear hW; go_simp) <;> with_reducible rfl)
    simp only [sq3, sq4]
    refine wpAnyH_take (i := 8) (v := ?_) rfl (by kernel_rfl) (by kernel_rfl) (by kernel_rfl) (fun _ _ _ h => h) (Or.inl ⟨by rfl, ?_⟩) hH ?_
    rotate_left
    · ((intro W hW; have hk := cell_lit (hW) 4 _ rfl; clear hW; go_simp) <;> with_reducible rfl)
    simp only [sq3, sq4]
    refine wpAnyH_ready (rs := [6]) (by kernel_rfl) (by simp) ?_
    refine AllReadyH.cons (o := _) rfl (fun K hK => ?_) AllReadyH.nil
    simp only [sq3]
    go_simp
    with_reducible refine (afirst_l _ _ _).mono ?_
    rintro e w5 ⟨rfl, b5⟩
    dsimp only
    replace hrd := blk_u hrd b5
    replace hn := blk_u hn b5
    replace sF := sF.below b5
    replace sFw := owk_under sFw b5
    replace sO := sO.below b5
    replace sOw := owk_under sOw b5
    replace sN := sN.below b5
    replace sNw := owk_under sNw b5
    replace lz_sF := Nat.le_trans lz_sF b5.size
    replace lz_sO := Nat.le_trans lz_sO b5.size
    replace lz_sN := Nat.le_trans lz_sN b5.size
    replace bel := bel.trans (b5.mono (Nat.le_trans hlo bel.size))
    clear b5
    refine hK.out _ _ hn (fun hH6 => ?_)
    clear hK K
    refine wpAnyH_take (i := 9) (v := ?_) rfl (by kernel_rfl) (by kernel_rfl) (by kernel_rfl) (fun _ _ _ h => h) (Or.inl ⟨by rfl, ?_⟩) hH6 ?_
    rotate_left
    · ((intro W hW; clear hW; go_simp) <;> with_reducible rfl)
    simp only [sq3, sq4]
    refine wpAnyH_take (i := 10) (v := ?_) rfl (by kernel_rfl) (by kernel_rfl) (by kernel_rfl) (fun _ _ _ h => h) (Or.inl ⟨by rfl, ?_⟩) hH6 ?_
    rotate_left
    · ((intro W hW; clear hW; go_simp) <;> with_reducible rfl)
    simp only [sq3, sq4]
    refine wpAnyH_take (i := 11) (v := ?_) rfl (by kernel_rfl) (by kernel_rfl) (by kernel_rfl) (fun _ _ _ h => h) (Or.inl ⟨by rfl, ?_⟩) hH6 ?_
    rotate_left
    · ((intro W hW; clear hW; go_simp) <;> with_reducible rfl)
    simp only [sq3, sq4]
    refine wpAnyH_ready (rs := [12]) (by kernel_rfl) (by simp) ?_
    refine AllReadyH.cons (o := _) rfl (fun K hK => ?_) AllReadyH.nil
    simp only [sq3]
    rw [if_pos (by rfl)]
    refine wp_store_part 26 (.tmp 32) (.tmp 30) rfl gr 4 rfl [.int .u8 ((Ad4.ofN (fN (nwO x) (nwB x))).a.toNat : Int), .int .u8 ((Ad4.ofN (fN (nwO x) (nwB x))).b.toNat : Int), .int .u8 ((Ad4.ofN (fN (nwO x) (nwB x))).c.toNat : Int), .int .u8 ((Ad4.ofN (fN (nwO x) (nwB x))).d.toNat : Int), .int .i64 (nwB x)] rfl [.int .u8 ((nwO x).a.toNat : Int), .int .u8 ((nwO x).b.toNat : Int), .int .u8 ((nwO x).c.toNat : Int), .int .u8 ((nwO x).d.toNat : Int), .int .u8 (c.lan.a.toNat : Int), .int .u8 (c.lan.b.toNat : Int), .int .u8 (c.lan.c.toNat : Int), .int .u8 (c.lan.d.toNat : Int), .int .i64 c.bits, .int .u8 (c.lanmac.a.toNat : Int), .int .u8 (c.lanmac.b.toNat : Int), .int .u8 (c.lanmac.c.toNat : Int), .int .u8 (c.lanmac.d.toNat : Int), .int .u8 (c.lanmac.e.toNat : Int), .int .u8 (c.lanmac.f.toNat : Int), .int .u8 (c.wanmac.a.toNat : Int), .int .u8 (c.wanmac.b.toNat : Int), .int .u8 (c.wanmac.c.toNat : Int), .int .u8 (c.wanmac.d.toNat : Int), .int .u8 (c.wanmac.e.toNat : Int), .int .u8 (c.wanmac.f.toNat : Int), .int .u8 (c.first.a.toNat : Int), .int .u8 (c.first.b.toNat : Int), .int .u8 (c.first.c.toNat : Int), .int .u8 (c.first.d.toNat : Int), .int .u8 (c.last.a.toNat : Int), .int .u8 (c.last.b.toNat : Int), .int .u8 (c.last.c.toNat : Int), .int .u8 (c.last.d.toNat : Int), .int .i64 c.time, .int .u8 (c.dns.a.toNat : Int), .int .u8 (c.dns.b.toNat : Int), .int .u8 (c.dns.c.toNat : Int), .int .u8 (c.dns.d.toNat : Int), .int .i64 c.udp, .int .i64 c.tcp, .int .i64 c.icmp, .int .i64 c.low, .slice Fx nf cf, .slice Ox nx cx, .slice Nx nn cn] 57 hrd (by simp) [.int .u8 ((nwO x).a.toNat : Int), .int .u8 ((nwO x).b.toNat : Int), .int .u8 ((nwO x).c.toNat : Int), .int .u8 ((nwO x).d.toNat : Int), .int .u8 ((Ad4.ofN (fN (nwO x) (nwB x))).a.toNat : Int), .int .u8 ((Ad4.ofN (fN (nwO x) (nwB x))).b.toNat : Int), .int .u8 ((Ad4.ofN (fN (nwO x) (nwB x))).c.toNat : Int), .int .u8 ((Ad4.ofN (fN (nwO x) (nwB x))).d.toNat : Int), .int .i64 (nwB x), .int .u8 (c.lanmac.a.toNat : Int), .int .u8 (c.lanmac.b.toNat : Int), .int .u8 (c.lanmac.c.toNat : Int), .int .u8 (c.lanmac.d.toNat : Int), .int .u8 (c.lanmac.e.toNat : Int), .int .u8 (c.lanmac.f.toNat : Int), .int .u8 (c.wanmac.a.toNat : Int), .int .u8 (c.wanmac.b.toNat : Int), .int .u8 (c.wanmac.c.toNat : Int), .int .u8 (c.wanmac.d.toNat : Int), .int .u8 (c.wanmac.e.toNat : Int), .int .u8 (c.wanmac.f.toNat : Int), .int .u8 (c.first.a.toNat : Int), .int .u8 (c.first.b.toNat : Int), .int .u8 (c.first.c.toNat : Int), .int .u8 (c.first.d.toNat : Int), .int .u8 (c.last.a.toNat : Int), .int .u8 (c.last.b.toNat : Int), .int .u8 (c.last.c.toNat : Int), .int .u8 (c.last.d.toNat : Int), .int .i64 c.time, .int .u8 (c.dns.a.toNat : Int), .int .u8 (c.dns.b.toNat : Int), .int .u8 (c.dns.c.toNat : Int), .int .u8 (c.dns.d.toNat : Int), .int .i64 c.udp, .int .i64 c.tcp, .int .i64 c.icmp, .int .i64 c.low, .slice Fx nf cf, .slice Ox nx cx, .slice Nx nn cn] rfl (by kernel_rfl) (by rfl) ?_
    intro w7 hq gr
    replace sF := sF.away av_sF_rd gr
    replace sFw := owk_off sFw of_sF_rd gr
    replace sO := sO.away av_sO_rd gr
    replace sOw := owk_off sOw of_sO_rd gr
    replace sN := sN.away av_sN_rd gr
    replace sNw := owk_off sNw of_sN_rd gr
    replace lz_sF := Nat.le_trans lz_sF gr.size
    replace lz_sO := Nat.le_trans lz_sO gr.size
    replace lz_sN := Nat.le_trans lz_sN gr.size
    replace hn := blk_a hn gr (ne_symm d_rd_n)
    replace bel := below_grown bel gr ord (Nat.le_trans hlo bel.size)
    clear hrd
    have hrd := hq
    clear hq gr
    refine hK.out _ _ hn (fun hH8 => ?_)
    clear hK K
    simp only [Act.put]
    refine wpAnyH_done (by kernel_rfl) ?_ _
    go_wp2_with fail
    exact bodyPost_end (results_none rfl _ _ _) rfl ⟨rfl, ⟨Fx, nf, cf, Ox, nx, cx, Nx, nn, cn, by rw [HP.out]; exact hrd, ord, by rw [HP.out]; exact sFw, by rw [HP.out]; exact sOw, sNw, of_sF_rd, of_sO_rd, of_sN_rd, apFO, apFN, apON, bF, bO, bN⟩, bel⟩
  · rcases (by decide : ∀ b : Bool, b = true ∨ b = false) (s == [108, 97, 110, 109, 97, 99]) with b1 | b1
    · have hk2 : k = 3 := by have h_ := hk; rw [eq_of_beq b1] at h_; exact (Option.some.inj (show some 3 = some k from h_)).symm
      subst hk2
      have HP : Hid (c.put s x = { c with lanmac := mcl x }) := Lib.hid (by unfold Cf.put; rw [if_neg (by rw [b0]; decide), if_pos b1])
      have hta : ∀ W, (Instr.typeAssert (valV 3 x) 20 28 false).run Try.prog W = .ok (.agg #[.int .u8 ((mcl x).a.toNat : Int), .int .u8 ((mcl x).b.toNat : Int), .int .u8 ((mcl x).c.toNat : Int), .int .u8 ((mcl x).d.toNat : Int), .int .u8 ((mcl x).e.toNat : Int), .int .u8 ((mcl x).f.toNat : Int)]) W := fun W => by kernel_rfl
      clear hk
      have R37 := hta
      go_wp2_with (first | ((with_reducible show wpList _ _ _ (⟨none, Op.store _ (.tmp 39) _, _, _, _, _⟩ :: _) _ _); refine wpList_store_part rfl 28 (.tmp 39) (.tmp 37) rfl gr 9 rfl [.int .u8 ((mcl x).a.toNat : Int), .int .u8 ((mcl x).b.toNat : Int), .int .u8 ((mcl x).c.toNat : Int), .int .u8 ((mcl x).d.toNat : Int), .int .u8 ((mcl x).e.toNat : Int), .int .u8 ((mcl x).f.toNat : Int)] rfl [.int .u8 (c.own.a.toNat : Int), .int .u8 (c.own.b.toNat : Int), .int .u8 (c.own.c.toNat : Int), .int .u8 (c.own.d.toNat : Int), .int .u8 (c.lan.a.toNat : Int), .int .u8 (c.lan.b.toNat : Int), .int .u8 (c.lan.c.toNat : Int), .int .u8 (c.lan.d.toNat : Int), .int .i64 c.bits, .int .u8 (c.lanmac.a.toNat : Int), .int .u8 (c.lanmac.b.toNat : Int), .int .u8 (c.lanmac.c.toNat : Int), .int .u8 (c.lanmac.d.toNat : Int), .int .u8 (c.lanmac.e.toNat : Int), .int .u8 (c.lanmac.f.toNat : Int), .int .u8 (c.wanmac.a.toNat : Int), .int .u8 (c.wanmac.b.toNat : Int), .int .u8 (c.wanmac.c.toNat : Int), .int .u8 (c.wanmac.d.toNat : Int), .int .u8 (c.wanmac.e.toNat : Int), .int .u8 (c.wanmac.f.toNat : Int), .int .u8 (c.first.a.toNat : Int), .int .u8 (c.first.b.toNat : Int), .int .u8 (c.first.c.toNat : Int), .int .u8 (c.first.d.toNat : Int), .int .u8 (c.last.a.toNat : Int), .int .u8 (c.last.b.toNat : Int), .int .u8 (c.last.c.toNat : Int), .int .u8 (c.last.d.toNat : Int), .int .i64 c.time, .int .u8 (c.dns.a.toNat : Int), .int .u8 (c.dns.b.toNat : Int), .int .u8 (c.dns.c.toNat : Int), .int .u8 (c.dns.d.toNat : Int), .int .i64 c.udp, .int .i64 c.tcp, .int .i64 c.icmp, .int .i64 c.low, .slice Fx nf cf, .slice Ox nx cx, .slice Nx nn cn] 57 hrd (by simp) [.int .u8 (c.own.a.toNat : Int), .int .u8 (c.own.b.toNat : Int), .int .u8 (c.own.c.toNat : Int), .int .u8 (c.own.d.toNat : Int), .int .u8 (c.lan.a.toNat : Int), .int .u8 (c.lan.b.toNat : Int), .int .u8 (c.lan.c.toNat : Int), .int .u8 (c.lan.d.toNat : Int), .int .i64 c.bits, .int .u8 ((mcl x).a.toNat : Int), .int .u8 ((mcl x).b.toNat : Int), .int .u8 ((mcl x).c.toNat : Int), .int .u8 ((mcl x).d.toNat : Int), .int .u8 ((mcl x).e.toNat : Int), .int .u8 ((mcl x).f.toNat : Int), .int .u8 (c.wanmac.a.toNat : Int), .int .u8 (c.wanmac.b.toNat : Int), .int .u8 (c.wanmac.c.toNat : Int), .int .u8 (c.wanmac.d.toNat : Int), .int .u8 (c.wanmac.e.toNat : Int), .int .u8 (c.wanmac.f.toNat : Int), .int .u8 (c.first.a.toNat : Int), .int .u8 (c.first.b.toNat : Int), .int .u8 (c.first.c.toNat : Int), .int .u8 (c.first.d.toNat : Int), .int .u8 (c.last.a.toNat : Int), .int .u8 (c.last.b.toNat : Int), .int .u8 (c.last.c.toNat : Int), .int .u8 (c.last.d.toNat : Int), .int .i64 c.time, .int .u8 (c.dns.a.toNat : Int), .int .u8 (c.dns.b.toNat : Int), .int .u8 (c.dns.c.toNat : Int), .int .u8 (c.dns.d.toNat : Int), .int .i64 c.udp, .int .i64 c.tcp, .int .i64 c.icmp, .int .i64 c.low, .slice Fx nf cf, .slice Ox nx cx, .slice Nx nn cn] rfl (by kernel_rfl) (by rfl) ?_; intro w1 hq gr; replace sF := sF.away av_sF_rd gr; replace sFw := owk_off sFw of_sF_rd gr; replace sO := sO.away av_sO_rd gr; replace sOw := owk_off sOw of_sO_rd gr; replace sN := sN.away av_sN_rd gr; replace sNw := owk_off sNw of_sN_rd gr; replace lz_sF := Nat.le_trans lz_sF gr.size; replace lz_sO := Nat.le_trans lz_sO gr.size; replace lz_sN := Nat.le_trans lz_sN gr.size; replace bel := below_grown bel gr ord (Nat.le_trans hlo bel.size); clear hrd; have hrd := hq; clear hq gr))
      try clear R37
      exact bodyPost_end (results_none rfl _ _ _) rfl ⟨rfl, ⟨Fx, nf, cf, Ox, nx, cx, Nx, nn, cn, by rw [HP.out]; exact hrd, ord, by rw [HP.out]; exact sFw, by rw [HP.out]; exact sOw, sNw, of_sF_rd, of_sO_rd, of_sN_rd, apFO, apFN, apON, bF, bO, bN⟩, bel⟩
    · rcases (by decide : ∀ b : Bool, b = true ∨ b = false) (s == [119, 97, 110, 109, 97, 99]) with b2 | b2
      · have hk2 : k = 3 := by have h_ := hk; rw [eq_of_beq b2] at h_; exact (Option.some.inj (show some 3 = some k from h_)).symm
        subst hk2
        have HP : Hid (c.put s x = { c with wanmac := mcl x }) := Lib.hid (by unfold Cf.put; rw [if_neg (by rw [b0]; decide), if_neg (by rw [b1]; decide), if_pos b2])
        have hta : ∀ W, (Instr.typeAssert (valV 3 x) 20 28 false).run Try.prog W = .ok (.agg #[.int .u8 ((mcl x).a.toNat : Int), .int .u8 ((mcl x).b.toNat : Int), .int .u8 ((mcl x).c.toNat : Int), .int .u8 ((mcl x).d.toNat : Int), .int .u8 ((mcl x).e.toNat : Int), .int .u8 ((mcl x).f.toNat : Int)]) W := fun W => by kernel_rfl
        clear hk
        have R44 := hta
        go_wp2_with (first | ((with_reducible show wpList _ _ _ (⟨none, Op.store _ (.tmp 46) _, _, _, _, _⟩ :: _) _ _); refine wpList_store_part rfl 28 (.tmp 46) (.tmp 44) rfl gr 15 rfl [.int .u8 ((mcl x).a.toNat : Int), .int .u8 ((mcl x).b.toNat : Int), .int .u8 ((mcl x).c.toNat : Int), .int .u8 ((mcl x).d.toNat : Int), .int .u8 ((mcl x).e.toNat : Int), .int .u8 ((mcl x).f.toNat : Int)] rfl [.int .u8 (c.own.a.toNat : Int), .int .u8 (c.own.b.toNat : Int), .int .u8 (c.own.c.toNat : Int), .int .u8 (c.own.d.toNat : Int), .int .u8 (c.lan.a.toNat : Int), .int .u8 (c.lan.b.toNat : Int), .int .u8 (c.lan.c.toNat : Int), .int .u8 (c.lan.d.toNat : Int), .int .i64 c.bits, .int .u8 (c.lanmac.a.toNat : Int), .int .u8 (c.lanmac.b.toNat : Int), .int .u8 (c.lanmac.c.toNat : Int), .int .u8 (c.lanmac.d.toNat : Int), .int .u8 (c.lanmac.e.toNat : Int), .int .u8 (c.lanmac.f.toNat : Int), .int .u8 (c.wanmac.a.toNat : Int), .int .u8 (c.wanmac.b.toNat : Int), .int .u8 (c.wanmac.c.toNat : Int), .int .u8 (c.wanmac.d.toNat : Int), .int .u8 (c.wanmac.e.toNat : Int), .int .u8 (c.wanmac.f.toNat : Int), .int .u8 (c.first.a.toNat : Int), .int .u8 (c.first.b.toNat : Int), .int .u8 (c.first.c.toNat : Int), .int .u8 (c.first.d.toNat : Int), .int .u8 (c.last.a.toNat : Int), .int .u8 (c.last.b.toNat : Int), .int .u8 (c.last.c.toNat : Int), .int .u8 (c.last.d.toNat : Int), .int .i64 c.time, .int .u8 (c.dns.a.toNat : Int), .int .u8 (c.dns.b.toNat : Int), .int .u8 (c.dns.c.toNat : Int), .int .u8 (c.dns.d.toNat : Int), .int .i64 c.udp, .int .i64 c.tcp, .int .i64 c.icmp, .int .i64 c.low, .slice Fx nf cf, .slice Ox nx cx, .slice Nx nn cn] 57 hrd (by simp) [.int .u8 (c.own.a.toNat : Int), .int .u8 (c.own.b.toNat : Int), .int .u8 (c.own.c.toNat : Int), .int .u8 (c.own.d.toNat : Int), .int .u8 (c.lan.a.toNat : Int), .int .u8 (c.lan.b.toNat : Int), .int .u8 (c.lan.c.toNat : Int), .int .u8 (c.lan.d.toNat : Int), .int .i64 c.bits, .int .u8 (c.lanmac.a.toNat : Int), .int .u8 (c.lanmac.b.toNat : Int), .int .u8 (c.lanmac.c.toNat : Int), .int .u8 (c.lanmac.d.toNat : Int), .int .u8 (c.lanmac.e.toNat : Int), .int .u8 (c.lanmac.f.toNat : Int), .int .u8 ((mcl x).a.toNat : Int), .int .u8 ((mcl x).b.toNat : Int), .int .u8 ((mcl x).c.toNat : Int), .int .u8 ((mcl x).d.toNat : Int), .int .u8 ((mcl x).e.toNat : Int), .int .u8 ((mcl x).f.toNat : Int), .int .u8 (c.first.a.toNat : Int), .int .u8 (c.first.b.toNat : Int), .int .u8 (c.first.c.toNat : Int), .int .u8 (c.first.d.toNat : Int), .int .u8 (c.last.a.toNat : Int), .int .u8 (c.last.b.toNat : Int), .int .u8 (c.last.c.toNat : Int), .int .u8 (c.last.d.toNat : Int), .int .i64 c.time, .int .u8 (c.dns.a.toNat : Int), .int .u8 (c.dns.b.toNat : Int), .int .u8 (c.dns.c.toNat : Int), .int .u8 (c.dns.d.toNat : Int), .int .i64 c.udp, .int .i64 c.tcp, .int .i64 c.icmp, .int .i64 c.low, .slice Fx nf cf, .slice Ox nx cx, .slice Nx nn cn] rfl (by kernel_rfl) (by rfl) ?_; intro w1 hq gr; replace sF := sF.away av_sF_rd gr; replace sFw := owk_off sFw of_sF_rd gr; replace sO := sO.away av_sO_rd gr; replace sOw := owk_off sOw of_sO_rd gr; replace sN := sN.away av_sN_rd gr; replace sNw := owk_off sNw of_sN_rd gr; replace lz_sF := Nat.le_trans lz_sF gr.size; replace lz_sO := Nat.le_trans lz_sO gr.size; replace lz_sN := Nat.le_trans lz_sN gr.size; replace bel := below_grown bel gr ord (Nat.le_trans hlo bel.size); clear hrd; have hrd := hq; clear hq gr))
        try clear R44
        exact bodyPost_end (results_none rfl _ _ _) rfl ⟨rfl, ⟨Fx, nf, cf, Ox, nx, cx, Nx, nn, cn, by rw [HP.out]; exact hrd, ord, by rw [HP.out]; exact sFw, by rw [HP.out]; exact sOw, sNw, of_sF_rd, of_sO_rd, of_sN_rd, apFO, apFN, apON, bF, bO, bN⟩, bel⟩
      · rcases (by decide : ∀ b : Bool, b = true ∨ b = false) (s == [102, 105, 114, 115, 116]) with b3 | b3
        · have hk2 : k = 1 := by have h_ := hk; rw [eq_of_beq b3] at h_; exact (Option.some.inj (show some 1 = some k from h_)).symm
          subst hk2
          have HP : Hid (c.put s x = { c with first := p4 x }) := Lib.hid (by unfold Cf.put; rw [if_neg (by rw [b0]; decide), if_neg (by rw [b1]; decide), if_neg (by rw [b2]; decide), if_pos b3])
          have hta : ∀ W, (Instr.typeAssert (valV 1 x) 20 24 false).run Try.prog W = .ok (.agg #[.int .u8 ((p4 x).a.toNat : Int), .int .u8 ((p4 x).b.toNat : Int), .int .u8 ((p4 x).c.toNat : Int), .int .u8 ((p4 x).d.toNat : Int)]) W := fun W => by kernel_rfl
          clear hk
          have R51 := hta
          go_wp2_with (first | ((with_reducible show wpList _ _ _ (⟨none, Op.store _ (.tmp 53) _, _, _, _, _⟩ :: _) _ _); refine wpList_store_part rfl 24 (.tmp 53) (.tmp 51) rfl gr 21 rfl [.int .u8 ((p4 x).a.toNat : Int), .int .u8 ((p4 x).b.toNat : Int), .int .u8 ((p4 x).c.toNat : Int), .int .u8 ((p4 x).d.toNat : Int)] rfl [.int .u8 (c.own.a.toNat : Int), .int .u8 (c.own.b.toNat : Int), .int .u8 (c.own.c.toNat : Int), .int .u8 (c.own.d.toNat : Int), .int .u8 (c.lan.a.toNat : Int), .int .u8 (c.lan.b.toNat : Int), .int .u8 (c.lan.c.toNat : Int), .int .u8 (c.lan.d.toNat : Int), .int .i64 c.bits, .int .u8 (c.lanmac.a.toNat : Int), .int .u8 (c.lanmac.b.toNat : Int), .int .u8 (c.lanmac.c.toNat : Int), .int .u8 (c.lanmac.d.toNat : Int), .int .u8 (c.lanmac.e.toNat : Int), .int .u8 (c.lanmac.f.toNat : Int), .int .u8 (c.wanmac.a.toNat : Int), .int .u8 (c.wanmac.b.toNat : Int), .int .u8 (c.wanmac.c.toNat : Int), .int .u8 (c.wanmac.d.toNat : Int), .int .u8 (c.wanmac.e.toNat : Int), .int .u8 (c.wanmac.f.toNat : Int), .int .u8 (c.first.a.toNat : Int), .int .u8 (c.first.b.toNat : Int), .int .u8 (c.first.c.toNat : Int), .int .u8 (c.first.d.toNat : Int), .int .u8 (c.last.a.toNat : Int), .int .u8 (c.last.b.toNat : Int), .int .u8 (c.last.c.toNat : Int), .int .u8 (c.last.d.toNat : Int), .int .i64 c.time, .int .u8 (c.dns.a.toNat : Int), .int .u8 (c.dns.b.toNat : Int), .int .u8 (c.dns.c.toNat : Int), .int .u8 (c.dns.d.toNat : Int), .int .i64 c.udp, .int .i64 c.tcp, .int .i64 c.icmp, .int .i64 c.low, .slice Fx nf cf, .slice Ox nx cx, .slice Nx nn cn] 57 hrd (by simp) [.int .u8 (c.own.a.toNat : Int), .int .u8 (c.own.b.toNat : Int), .int .u8 (c.own.c.toNat : Int), .int .u8 (c.own.d.toNat : Int), .int .u8 (c.lan.a.toNat : Int), .int .u8 (c.lan.b.toNat : Int), .int .u8 (c.lan.c.toNat : Int), .int .u8 (c.lan.d.toNat : Int), .int .i64 c.bits, .int .u8 (c.lanmac.a.toNat : Int), .int .u8 (c.lanmac.b.toNat : Int), .int .u8 (c.lanmac.c.toNat : Int), .int .u8 (c.lanmac.d.toNat : Int), .int .u8 (c.lanmac.e.toNat : Int), .int .u8 (c.lanmac.f.toNat : Int), .int .u8 (c.wanmac.a.toNat : Int), .int .u8 (c.wanmac.b.toNat : Int), .int .u8 (c.wanmac.c.toNat : Int), .int .u8 (c.wanmac.d.toNat : Int), .int .u8 (c.wanmac.e.toNat : Int), .int .u8 (c.wanmac.f.toNat : Int), .int .u8 ((p4 x).a.toNat : Int), .int .u8 ((p4 x).b.toNat : Int), .int .u8 ((p4 x).c.toNat : Int), .int .u8 ((p4 x).d.toNat : Int), .int .u8 (c.last.a.toNat : Int), .int .u8 (c.last.b.toNat : Int), .int .u8 (c.last.c.toNat : Int), .int .u8 (c.last.d.toNat : Int), .int .i64 c.time, .int .u8 (c.dns.a.toNat : Int), .int .u8 (c.dns.b.toNat : Int), .int .u8 (c.dns.c.toNat : Int), .int .u8 (c.dns.d.toNat : Int), .int .i64 c.udp, .int .i64 c.tcp, .int .i64 c.icmp, .int .i64 c.low, .slice Fx nf cf, .slice Ox nx cx, .slice Nx nn cn] rfl (by kernel_rfl) (by rfl) ?_; intro w1 hq gr; replace sF := sF.away av_sF_rd gr; replace sFw := owk_off sFw of_sF_rd gr; replace sO := sO.away av_sO_rd gr; replace sOw := owk_off sOw of_sO_rd gr; replace sN := sN.away av_sN_rd gr; replace sNw := owk_off sNw of_sN_rd gr; replace lz_sF := Nat.le_trans lz_sF gr.size; replace lz_sO := Nat.le_trans lz_sO gr.size; replace lz_sN := Nat.le_trans lz_sN gr.size; replace bel := below_grown bel gr ord (Nat.le_trans hlo bel.size); clear hrd; have hrd := hq; clear hq gr))
          try clear R51
          exact bodyPost_end (results_none rfl _ _ _) rfl ⟨rfl, ⟨Fx, nf, cf, Ox, nx, cx, Nx, nn, cn, by rw [HP.out]; exact hrd, ord, by rw [HP.out]; exact sFw, by rw [HP.out]; exact sOw, sNw, of_sF_rd, of_sO_rd, of_sN_rd, apFO, apFN, apON, bF, bO, bN⟩, bel⟩
        · rcases (by decide : ∀ b : Bool, b = true ∨ b = false) (s == [108, 97, 115, 116]) with b4 | b4
          · have hk2 : k = 1 := by have h_ := hk; rw [eq_of_beq b4] at h_; exact (Option.some.inj (show some 1 = some k from h_)).symm
            subst hk2
            have HP : Hid (c.put s x = { c with last := p4 x }) := Lib.hid (by unfold Cf.put; rw [if_neg (by rw [b0]; decide), if_neg (by rw [b1]; decide), if_neg (by rw [b2]; decide), if_neg (by rw [b3]; decide), if_pos b4])
            have hta : ∀ W, (Instr.typeAssert (valV 1 x) 20 24 false).run Try.prog W = .ok (.agg #[.int .u8 ((p4 x).a.toNat : Int), .int .u8 ((p4 x).b.toNat : Int), .int .u8 ((p4 x).c.toNat : Int), .int .u8 ((p4 x).d.toNat : Int)]) W := fun W => by kernel_rfl
            clear hk
            have R58 := hta
            go_wp2_with (first | ((with_reducible show wpList _ _ _ (⟨none, Op.store _ (.tmp 60) _, _, _, _, _⟩ :: _) _ _); refine wpList_store_part rfl 24 (.tmp 60) (.tmp 58) rfl gr 25 rfl [.int .u8 ((p4 x).a.toNat : Int), .int .u8 ((p4 x).b.toNat : Int), .int .u8 ((p4 x).c.toNat : Int), .int .u8 ((p4 x).d.toNat : Int)] rfl [.int .u8 (c.own.a.toNat : Int), .int .u8 (c.own.b.toNat : Int), .int .u8 (c.own.c.toNat : Int), .int .u8 (c.own.d.toNat : Int), .int .u8 (c.lan.a.toNat : Int), .int .u8 (c.lan.b.toNat : Int), .int .u8 (c.lan.c.toNat : Int), .int .u8 (c.lan.d.toNat : Int), .int .i64 c.bits, .int .u8 (c.lanmac.a.toNat : Int), .int .u8 (c.lanmac.b.toNat : Int), .int .u8 (c.lanmac.c.toNat : Int), .int .u8 (c.lanmac.d.toNat : Int), .int .u8 (c.lanmac.e.toNat : Int), .int .u8 (c.lanmac.f.toNat : Int), .int .u8 (c.wanmac.a.toNat : Int), .int .u8 (c.wanmac.b.toNat : Int), .int .u8 (c.wanmac.c.toNat : Int), .int .u8 (c.wanmac.d.toNat : Int), .int .u8 (c.wanmac.e.toNat : Int), .int .u8 (c.wanmac.f.toNat : Int), .int .u8 (c.first.a.toNat : Int), .int .u8 (c.first.b.toNat : Int), .int .u8 (c.first.c.toNat : Int), .int .u8 (c.first.d.toNat : Int), .int .u8 (c.last.a.toNat : Int), .int .u8 (c.last.b.toNat : Int), .int .u8 (c.last.c.toNat : Int), .int .u8 (c.last.d.toNat : Int), .int .i64 c.time, .int .u8 (c.dns.a.toNat : Int), .int .u8 (c.dns.b.toNat : Int), .int .u8 (c.dns.c.toNat : Int), .int .u8 (c.dns.d.toNat : Int), .int .i64 c.udp, .int .i64 c.tcp, .int .i64 c.icmp, .int .i64 c.low, .slice Fx nf cf, .slice Ox nx cx, .slice Nx nn cn] 57 hrd (by simp) [.int .u8 (c.own.a.toNat : Int), .int .u8 (c.own.b.toNat : Int), .int .u8 (c.own.c.toNat : Int), .int .u8 (c.own.d.toNat : Int), .int .u8 (c.lan.a.toNat : Int), .int .u8 (c.lan.b.toNat : Int), .int .u8 (c.lan.c.toNat : Int), .int .u8 (c.lan.d.toNat : Int), .int .i64 c.bits, .int .u8 (c.lanmac.a.toNat : Int), .int .u8 (c.lanmac.b.toNat : Int), .int .u8 (c.lanmac.c.toNat : Int), .int .u8 (c.lanmac.d.toNat : Int), .int .u8 (c.lanmac.e.toNat : Int), .int .u8 (c.lanmac.f.toNat : Int), .int .u8 (c.wanmac.a.toNat : Int), .int .u8 (c.wanmac.b.toNat : Int), .int .u8 (c.wanmac.c.toNat : Int), .int .u8 (c.wanmac.d.toNat : Int), .int .u8 (c.wanmac.e.toNat : Int), .int .u8 (c.wanmac.f.toNat : Int), .int .u8 (c.first.a.toNat : Int), .int .u8 (c.first.b.toNat : Int), .int .u8 (c.first.c.toNat : Int), .int .u8 (c.first.d.toNat : Int), .int .u8 ((p4 x).a.toNat : Int), .int .u8 ((p4 x).b.toNat : Int), .int .u8 ((p4 x).c.toNat : Int), .int .u8 ((p4 x).d.toNat : Int), .int .i64 c.time, .int .u8 (c.dns.a.toNat : Int), .int .u8 (c.dns.b.toNat : Int), .int .u8 (c.dns.c.toNat : Int), .int .u8 (c.dns.d.toNat : Int), .int .i64 c.udp, .int .i64 c.tcp, .int .i64 c.icmp, .int .i64 c.low, .slice Fx nf cf, .slice Ox nx cx, .slice Nx nn cn] rfl (by kernel_rfl) (by rfl) ?_; intro w1 hq gr; replace sF := sF.away av_sF_rd gr; replace sFw := owk_off sFw of_sF_rd gr; replace sO := sO.away av_sO_rd gr; replace sOw := owk_off sOw of_sO_rd gr; replace sN := sN.away av_sN_rd gr; replace sNw := owk_off sNw of_sN_rd gr; replace lz_sF := Nat.le_trans lz_sF gr.size; replace lz_sO := Nat.le_trans lz_sO gr.size; replace lz_sN := Nat.le_trans lz_sN gr.size; replace bel := below_grown bel gr ord (Nat.le_trans hlo bel.size); clear hrd; have hrd := hq; clear hq gr))
            try clear R58
            exact bodyPost_end (results_none rfl _ _ _) rfl ⟨rfl, ⟨Fx, nf, cf, Ox, nx, cx, Nx, nn, cn, by rw [HP.out]; exact hrd, ord, by rw [HP.out]; exact sFw, by rw [HP.out]; exact sOw, sNw, of_sF_rd, of_sO_rd, of_sN_rd, apFO, apFN, apON, bF, bO, bN⟩, bel⟩
          · rcases (by decide : ∀ b : Bool, b = true ∨ b = false) (s == [116, 105, 109, 101]) with b5 | b5
            · have hk2 : k = 0 := by have h_ := hk; rw [eq_of_beq b5] at h_; exact (Option.some.inj (show some 0 = some k from h_)).symm
              subst hk2
              have HP : Hid (c.put s x = { c with time := decV x }) := Lib.hid (by unfold Cf.put; rw [if_neg (by rw [b0]; decide), if_neg (by rw [b1]; decide), if_neg (by rw [b2]; decide), if_neg (by rw [b3]; decide), if_neg (by rw [b4]; decide), if_pos b5])
              have hta : ∀ W, (Instr.typeAssert (valV 0 x) 20 3 false).run Try.prog W = .ok (.int .i64 (decV x)) W := fun W => by kernel_rfl
              clear hk
              have R65 := hta
              go_wp2_with (first | ((with_reducible show wpList _ _ _ (⟨none, Op.store _ (.tmp 67) _, _, _, _, _⟩ :: _) _ _); refine wpList_store_part rfl 3 (.tmp 67) (.tmp 65) rfl gr 29 rfl [.int .i64 (decV x)] rfl [.int .u8 (c.own.a.toNat : Int), .int .u8 (c.own.b.toNat : Int), .int .u8 (c.own.c.toNat : Int), .int .u8 (c.own.d.toNat : Int), .int .u8 (c.lan.a.toNat : Int), .int .u8 (c.lan.b.toNat : Int), .int .u8 (c.lan.c.toNat : Int), .int .u8 (c.lan.d.toNat : Int), .int .i64 c.bits, .int .u8 (c.lanmac.a.toNat : Int), .int .u8 (c.lanmac.b.toNat : Int), .int .u8 (c.lanmac.c.toNat : Int), .int .u8 (c.lanmac.d.toNat : Int), .int .u8 (c.lanmac.e.toNat : Int), .int .u8 (c.lanmac.f.toNat : Int), .int .u8 (c.wanmac.a.toNat : Int), .int .u8 (c.wanmac.b.toNat : Int), .int .u8 (c.wanmac.c.toNat : Int), .int .u8 (c.wanmac.d.toNat : Int), .int .u8 (c.wanmac.e.toNat : Int), .int .u8 (c.wanmac.f.toNat : Int), .int .u8 (c.first.a.toNat : Int), .int .u8 (c.first.b.toNat : Int), .int .u8 (c.first.c.toNat : Int), .int .u8 (c.first.d.toNat : Int), .int .u8 (c.last.a.toNat : Int), .int .u8 (c.last.b.toNat : Int), .int .u8 (c.last.c.toNat : Int), .int .u8 (c.last.d.toNat : Int), .int .i64 c.time, .int .u8 (c.dns.a.toNat : Int), .int .u8 (c.dns.b.toNat : Int), .int .u8 (c.dns.c.toNat : Int), .int .u8 (c.dns.d.toNat : Int), .int .i64 c.udp, .int .i64 c.tcp, .int .i64 c.icmp, .int .i64 c.low, .slice Fx nf cf, .slice Ox nx cx, .slice Nx nn cn] 57 hrd (by simp) [.int .u8 (c.own.a.toNat : Int), .int .u8 (c.own.b.toNat : Int), .int .u8 (c.own.c.toNat : Int), .int .u8 (c.own.d.toNat : Int), .int .u8 (c.lan.a.toNat : Int), .int .u8 (c.lan.b.toNat : Int), .int .u8 (c.lan.c.toNat : Int), .int .u8 (c.lan.d.toNat : Int), .int .i64 c.bits, .int .u8 (c.lanmac.a.toNat : Int), .int .u8 (c.lanmac.b.toNat : Int), .int .u8 (c.lanmac.c.toNat : Int), .int .u8 (c.lanmac.d.toNat : Int), .int .u8 (c.lanmac.e.toNat : Int), .int .u8 (c.lanmac.f.toNat : Int), .int .u8 (c.wanmac.a.toNat : Int), .int .u8 (c.wanmac.b.toNat : Int), .int .u8 (c.wanmac.c.toNat : Int), .int .u8 (c.wanmac.d.toNat : Int), .int .u8 (c.wanmac.e.toNat : Int), .int .u8 (c.wanmac.f.toNat : Int), .int .u8 (c.first.a.toNat : Int), .int .u8 (c.first.b.toNat : Int), .int .u8 (c.first.c.toNat : Int), .int .u8 (c.first.d.toNat : Int), .int .u8 (c.last.a.toNat : Int), .int .u8 (c.last.b.toNat : Int), .int .u8 (c.last.c.toNat : Int), .int .u8 (c.last.d.toNat : Int), .int .i64 (decV x), .int .u8 (c.dns.a.toNat : Int), .int .u8 (c.dns.b.toNat : Int), .int .u8 (c.dns.c.toNat : Int), .int .u8 (c.dns.d.toNat : Int), .int .i64 c.udp, .int .i64 c.tcp, .int .i64 c.icmp, .int .i64 c.low, .slice Fx nf cf, .slice Ox nx cx, .slice Nx nn cn] rfl (by kernel_rfl) (by rfl) ?_; intro w1 hq gr; replace sF := sF.away av_sF_rd gr; replace sFw := owk_off sFw of_sF_rd gr; replace sO := sO.away av_sO_rd gr; replace sOw := owk_off sOw of_sO_rd gr; replace sN := sN.away av_sN_rd gr; replace sNw := owk_off sNw of_sN_rd gr; replace lz_sF := Nat.le_trans lz_sF gr.size; replace lz_sO := Nat.le_trans lz_sO gr.size; replace lz_sN := Nat.le_trans lz_sN gr.size; replace bel := below_grown bel gr ord (Nat.le_trans hlo bel.size); clear hrd; have hrd := hq; clear hq gr))
              try clear R65
              exact bodyPost_end (results_none rfl _ _ _) rfl ⟨rfl, ⟨Fx, nf, cf, Ox, nx, cx, Nx, nn, cn, by rw [HP.out]; exact hrd, ord, by rw [HP.out]; exact sFw, by rw [HP.out]; exact sOw, sNw, of_sF_rd, of_sO_rd, of_sN_rd, apFO, apFN, apON, bF, bO, bN⟩, bel⟩
            · rcases (by decide : ∀ b : Bool, b = true ∨ b = false) (s == [100, 110, 115]) with b6 | b6
              · have hk2 : k = 1 := by have h_ := hk; rw [eq_of_beq b6] at h_; exact (Option.some.inj (show some 1 = some k from h_)).symm
                subst hk2
                have HP : Hid (c.put s x = { c with dns := p4 x }) := Lib.hid (by unfold Cf.put; rw [if_neg (by rw [b0]; decide), if_neg (by rw [b1]; decide), if_neg (by rw [b2]; decide), if_neg (by rw [b3]; decide), if_neg (by rw [b4]; decide), if_neg (by rw [b5]; decide), if_pos b6])
                have hta : ∀ W, (Instr.typeAssert (valV 1 x) 20 24 false).run Try.prog W = .ok (.agg #[.int .u8 ((p4 x).a.toNat : Int), .int .u8 ((p4 x).b.toNat : Int), .int .u8 ((p4 x).c.toNat : Int), .int .u8 ((p4 x).d.toNat : Int)]) W := fun W => by kernel_rfl
                clear hk
                have R72 := hta
                go_wp2_with (first | ((with_reducible show wpList _ _ _ (⟨none, Op.store _ (.tmp 74) _, _, _, _, _⟩ :: _) _ _); refine wpList_store_part rfl 24 (.tmp 74) (.tmp 72) rfl gr 30 rfl [.int .u8 ((p4 x).a.toNat : Int), .int .u8 ((p4 x).b.toNat : Int), .int .u8 ((p4 x).c.toNat : Int), .int .u8 ((p4 x).d.toNat : Int)] rfl [.int .u8 (c.own.a.toNat : Int), .int .u8 (c.own.b.toNat : Int), .int .u8 (c.own.c.toNat : Int), .int .u8 (c.own.d.toNat : Int), .int .u8 (c.lan.a.toNat : Int), .int .u8 (c.lan.b.toNat : Int), .int .u8 (c.lan.c.toNat : Int), .int .u8 (c.lan.d.toNat : Int), .int .i64 c.bits, .int .u8 (c.lanmac.a.toNat : Int), .int .u8 (c.lanmac.b.toNat : Int), .int .u8 (c.lanmac.c.toNat : Int), .int .u8 (c.lanmac.d.toNat : Int), .int .u8 (c.lanmac.e.toNat : Int), .int .u8 (c.lanmac.f.toNat : Int), .int .u8 (c.wanmac.a.toNat : Int), .int .u8 (c.wanmac.b.toNat : Int), .int .u8 (c.wanmac.c.toNat : Int), .int .u8 (c.wanmac.d.toNat : Int), .int .u8 (c.wanmac.e.toNat : Int), .int .u8 (c.wanmac.f.toNat : Int), .int .u8 (c.first.a.toNat : Int), .int .u8 (c.first.b.toNat : Int), .int .u8 (c.first.c.toNat : Int), .int .u8 (c.first.d.toNat : Int), .int .u8 (c.last.a.toNat : Int), .int .u8 (c.last.b.toNat : Int), .int .u8 (c.last.c.toNat : Int), .int .u8 (c.last.d.toNat : Int), .int .i64 c.time, .int .u8 (c.dns.a.toNat : Int), .int .u8 (c.dns.b.toNat : Int), .int .u8 (c.dns.c.toNat : Int), .int .u8 (c.dns.d.toNat : Int), .int .i64 c.udp, .int .i64 c.tcp, .int .i64 c.icmp, .int .i64 c.low, .slice Fx nf cf, .slice Ox nx cx, .slice Nx nn cn] 57 hrd (by simp) [.int .u8 (c.own.a.toNat : Int), .int .u8 (c.own.b.toNat : Int), .int .u8 (c.own.c.toNat : Int), .int .u8 (c.own.d.toNat : Int), .int .u8 (c.lan.a.toNat : Int), .int .u8 (c.lan.b.toNat : Int), .int .u8 (c.lan.c.toNat : Int), .int .u8 (c.lan.d.toNat : Int), .int .i64 c.bits, .int .u8 (c.lanmac.a.toNat : Int), .int .u8 (c.lanmac.b.toNat : Int), .int .u8 (c.lanmac.c.toNat : Int), .int .u8 (c.lanmac.d.toNat : Int), .int .u8 (c.lanmac.e.toNat : Int), .int .u8 (c.lanmac.f.toNat : Int), .int .u8 (c.wanmac.a.toNat : Int), .int .u8 (c.wanmac.b.toNat : Int), .int .u8 (c.wanmac.c.toNat : Int), .int .u8 (c.wanmac.d.toNat : Int), .int .u8 (c.wanmac.e.toNat : Int), .int .u8 (c.wanmac.f.toNat : Int), .int .u8 (c.first.a.toNat : Int), .int .u8 (c.first.b.toNat : Int), .int .u8 (c.first.c.toNat : Int), .int .u8 (c.first.d.toNat : Int), .int .u8 (c.last.a.toNat : Int), .int .u8 (c.last.b.toNat : Int), .int .u8 (c.last.c.toNat : Int), .int .u8 (c.last.d.toNat : Int), .int .i64 c.time, .int .u8 ((p4 x).a.toNat : Int), .int .u8 ((p4 x).b.toNat : Int), .int .u8 ((p4 x).c.toNat : Int), .int .u8 ((p4 x).d.toNat : Int), .int .i64 c.udp, .int .i64 c.tcp, .int .i64 c.icmp, .int .i64 c.low, .slice Fx nf cf, .slice Ox nx cx, .slice Nx nn cn] rfl (by kernel_rfl) (by rfl) ?_; intro w1 hq gr; replace sF := sF.away av_sF_rd gr; replace sFw := owk_off sFw of_sF_rd gr; replace sO := sO.away av_sO_rd gr; replace sOw := owk_off sOw of_sO_rd gr; replace sN := sN.away av_sN_rd gr; replace sNw := owk_off sNw of_sN_rd gr; replace lz_sF := Nat.le_trans lz_sF gr.size; replace lz_sO := Nat.le_trans lz_sO gr.size; replace lz_sN := Nat.le_trans lz_sN gr.size; replace bel := below_grown bel gr ord (Nat.le_trans hlo bel.size); clear hrd; have hrd := hq; clear hq gr))
                try clear R72
                exact bodyPost_end (results_none rfl _ _ _) rfl ⟨rfl, ⟨Fx, nf, cf, Ox, nx, cx, Nx, nn, cn, by rw [HP.out]; exact hrd, ord, by rw [HP.out]; exact sFw, by rw [HP.out]; exact sOw, sNw, of_sF_rd, of_sO_rd, of_sN_rd, apFO, apFN, apON, bF, bO, bN⟩, bel⟩
              · rcases (by decide : ∀ b : Bool, b = true ∨ b = false) (s == [117, 100, 112, 116, 105, 109, 101]) with b7 | b7
                · have hk2 : k = 0 := by have h_ := hk; rw [eq_of_beq b7] at h_; exact (Option.some.inj (show some 0 = some k from h_)).symm
                  subst hk2
                  have HP : Hid (c.put s x = { c with udp := decV x }) := Lib.hid (by unfold Cf.put; rw [if_neg (by rw [b0]; decide), if_neg (by rw [b1]; decide), if_neg (by rw [b2]; decide), if_neg (by rw [b3]; decide), if_neg (by rw [b4]; decide), if_neg (by rw [b5]; decide), if_neg (by rw [b6]; decide), if_pos b7])
                  have hta : ∀ W, (Instr.typeAssert (valV 0 x) 20 3 false).run Try.prog W = .ok (.int .i64 (decV x)) W := fun W => by kernel_rfl
                  clear hk
                  have R79 := hta
                  go_wp2_with (first | ((with_reducible show wpList _ _ _ (⟨none, Op.store _ (.tmp 81) _, _, _, _, _⟩ :: _) _ _); refine wpList_store_part rfl 3 (.tmp 81) (.tmp 79) rfl gr 34 rfl [.int .i64 (decV x)] rfl [.int .u8 (c.own.a.toNat : Int), .int .u8 (c.own.b.toNat : Int), .int .u8 (c.own.c.toNat : Int), .int .u8 (c.own.d.toNat : Int), .int .u8 (c.lan.a.toNat : Int), .int .u8 (c.lan.b.toNat : Int), .int .u8 (c.lan.c.toNat : Int), .int .u8 (c.lan.d.toNat : Int), .int .i64 c.bits, .int .u8 (c.lanmac.a.toNat : Int), .int .u8 (c.lanmac.b.toNat : Int), .int .u8 (c.lanmac.c.toNat : Int), .int .u8 (c.lanmac.d.toNat : Int), .int .u8 (c.lanmac.e.toNat : Int), .int .u8 (c.lanmac.f.toNat : Int), .int .u8 (c.wanmac.a.toNat : Int), .int .u8 (c.wanmac.b.toNat : Int), .int .u8 (c.wanmac.c.toNat : Int), .int .u8 (c.wanmac.d.toNat : Int), .int .u8 (c.wanmac.e.toNat : Int), .int .u8 (c.wanmac.f.toNat : Int), .int .u8 (c.first.a.toNat : Int), .int .u8 (c.first.b.toNat : Int), .int .u8 (c.first.c.toNat : Int), .int .u8 (c.first.d.toNat : Int), .int .u8 (c.last.a.toNat : Int), .int .u8 (c.last.b.toNat : Int), .int .u8 (c.last.c.toNat : Int), .int .u8 (c.last.d.toNat : Int), .int .i64 c.time, .int .u8 (c.dns.a.toNat : Int), .int .u8 (c.dns.b.toNat : Int), .int .u8 (c.dns.c.toNat : Int), .int .u8 (c.dns.d.toNat : Int), .int .i64 c.udp, .int .i64 c.tcp, .int .i64 c.icmp, .int .i64 c.low, .slice Fx nf cf, .slice Ox nx cx, .slice Nx nn cn] 57 hrd (by simp) [.int .u8 (c.own.a.toNat : Int), .int .u8 (c.own.b.toNat : Int), .int .u8 (c.own.c.toNat : Int), .int .u8 (c.own.d.toNat : Int), .int .u8 (c.lan.a.toNat : Int), .int .u8 (c.lan.b.toNat : Int), .int .u8 (c.lan.c.toNat : Int), .int .u8 (c.lan.d.toNat : Int), .int .i64 c.bits, .int .u8 (c.lanmac.a.toNat : Int), .int .u8 (c.lanmac.b.toNat : Int), .int .u8 (c.lanmac.c.toNat : Int), .int .u8 (c.lanmac.d.toNat : Int), .int .u8 (c.lanmac.e.toNat : Int), .int .u8 (c.lanmac.f.toNat : Int), .int .u8 (c.wanmac.a.toNat : Int), .int .u8 (c.wanmac.b.toNat : Int), .int .u8 (c.wanmac.c.toNat : Int), .int .u8 (c.wanmac.d.toNat : Int), .int .u8 (c.wanmac.e.toNat : Int), .int .u8 (c.wanmac.f.toNat : Int), .int .u8 (c.first.a.toNat : Int), .int .u8 (c.first.b.toNat : Int), .int .u8 (c.first.c.toNat : Int), .int .u8 (c.first.d.toNat : Int), .int .u8 (c.last.a.toNat : Int), .int .u8 (c.last.b.toNat : Int), .int .u8 (c.last.c.toNat : Int), .int .u8 (c.last.d.toNat : Int), .int .i64 c.time, .int .u8 (c.dns.a.toNat : Int), .int .u8 (c.dns.b.toNat : Int), .int .u8 (c.dns.c.toNat : Int), .int .u8 (c.dns.d.toNat : Int), .int .i64 (decV x), .int .i64 c.tcp, .int .i64 c.icmp, .int .i64 c.low, .slice Fx nf cf, .slice Ox nx cx, .slice Nx nn cn] rfl (by kernel_rfl) (by rfl) ?_; intro w1 hq gr; replace sF := sF.away av_sF_rd gr; replace sFw := owk_off sFw of_sF_rd gr; replace sO := sO.away av_sO_rd gr; replace sOw := owk_off sOw of_sO_rd gr; replace sN := sN.away av_sN_rd gr; replace sNw := owk_off sNw of_sN_rd gr; replace lz_sF := Nat.le_trans lz_sF gr.size; replace lz_sO := Nat.le_trans lz_sO gr.size; replace lz_sN := Nat.le_trans lz_sN gr.size; replace bel := below_grown bel gr ord (Nat.le_trans hlo bel.size); clear hrd; have hrd := hq; clear hq gr))
                  try clear R79
                  exact bodyPost_end (results_none rfl _ _ _) rfl ⟨rfl, ⟨Fx, nf, cf, Ox, nx, cx, Nx, nn, cn, by rw [HP.out]; exact hrd, ord, by rw [HP.out]; exact sFw, by rw [HP.out]; exact sOw, sNw, of_sF_rd, of_sO_rd, of_sN_rd, apFO, apFN, apON, bF, bO, bN⟩, bel⟩
                · rcases (by decide : ∀ b : Bool, b = true ∨ b = false) (s == [116, 99, 112, 116, 105, 109, 101]) with b8 | b8
                  · have hk2 : k = 0 := by have h_ := hk; rw [eq_of_beq b8] at h_; exact (Option.some.inj (show some 0 = some k from h_)).symm
                    subst hk2
                    have HP : Hid (c.put s x = { c with tcp := decV x }) := Lib.hid (by unfold Cf.put; rw [if_neg (by rw [b0]; decide), if_neg (by rw [b1]; decide), if_neg (by rw [b2]; decide), if_neg (by rw [b3]; decide), if_neg (by rw [b4]; decide), if_neg (by rw [b5]; decide), if_neg (by rw [b6]; decide), if_neg (by rw [b7]; decide), if_pos b8])
                    have hta : ∀ W, (Instr.typeAssert (valV 0 x) 20 3 false).run Try.prog W = .ok (.int .i64 (decV x)) W := fun W => by kernel_rfl
                    clear hk
                    have R86 := hta
                    go_wp2_with (first | ((with_reducible show wpList _ _ _ (⟨none, Op.store _ (.tmp 88) _, _, _, _, _⟩ :: _) _ _); refine wpList_store_part rfl 3 (.tmp 88) (.tmp 86) rfl gr 35 rfl [.int .i64 (decV x)] rfl [.int .u8 (c.own.a.toNat : Int), .int .u8 (c.own.b.toNat : Int), .int .u8 (c.own.c.toNat : Int), .int .u8 (c.own.d.toNat : Int), .int .u8 (c.lan.a.toNat : Int), .int .u8 (c.lan.b.toNat : Int), .int .u8 (c.lan.c.toNat : Int), .int .u8 (c.lan.d.toNat : Int), .int .i64 c.bits, .int .u8 (c.lanmac.a.toNat : Int), .int .u8 (c.lanmac.b.toNat : Int), .int .u8 (c.lanmac.c.toNat : Int), .int .u8 (c.lanmac.d.toNat : Int), .int .u8 (c.lanmac.e.toNat : Int), .int .u8 (c.lanmac.f.toNat : Int), .int .u8 (c.wanmac.a.toNat : Int), .int .u8 (c.wanmac.b.toNat : Int), .int .u8 (c.wanmac.c.toNat : Int), .int .u8 (c.wanmac.d.toNat : Int), .int .u8 (c.wanmac.e.toNat : Int), .int .u8 (c.wanmac.f.toNat : Int), .int .u8 (c.first.a.toNat : Int), .int .u8 (c.first.b.toNat : Int), .int .u8 (c.first.c.toNat : Int), .int .u8 (c.first.d.toNat : Int), .int .u8 (c.last.a.toNat : Int), .int .u8 (c.last.b.toNat : Int), .int .u8 (c.last.c.toNat : Int), .int .u8 (c.last.d.toNat : Int), .int .i64 c.time, .int .u8 (c.dns.a.toNat : Int), .int .u8 (c.dns.b.toNat : Int), .int .u8 (c.dns.c.toNat : Int), .int .u8 (c.dns.d.toNat : Int), .int .i64 c.udp, .int .i64 c.tcp, .int .i64 c.icmp, .int .i64 c.low, .slice Fx nf cf, .slice Ox nx cx, .slice Nx nn cn] 57 hrd (by simp) [.int .u8 (c.own.a.toNat : Int), .int .u8 (c.own.b.toNat : Int), .int .u8 (c.own.c.toNat : Int), .int .u8 (c.own.d.toNat : Int), .int .u8 (c.lan.a.toNat : Int), .int .u8 (c.lan.b.toNat : Int), .int .u8 (c.lan.c.toNat : Int), .int .u8 (c.lan.d.toNat : Int), .int .i64 c.bits, .int .u8 (c.lanmac.a.toNat : Int), .int .u8 (c.lanmac.b.toNat : Int), .int .u8 (c.lanmac.c.toNat : Int), .int .u8 (c.lanmac.d.toNat : Int), .int .u8 (c.lanmac.e.toNat : Int), .int .u8 (c.lanmac.f.toNat : Int), .int .u8 (c.wanmac.a.toNat : Int), .int .u8 (c.wanmac.b.toNat : Int), .int .u8 (c.wanmac.c.toNat : Int), .int .u8 (c.wanmac.d.toNat : Int), .int .u8 (c.wanmac.e.toNat : Int), .int .u8 (c.wanmac.f.toNat : Int), .int .u8 (c.first.a.toNat : Int), .int .u8 (c.first.b.toNat : Int), .int .u8 (c.first.c.toNat : Int), .int .u8 (c.first.d.toNat : Int), .int .u8 (c.last.a.toNat : Int), .int .u8 (c.last.b.toNat : Int), .int .u8 (c.last.c.toNat : Int), .int .u8 (c.last.d.toNat : Int), .int .i64 c.time, .int .u8 (c.dns.a.toNat : Int), .int .u8 (c.dns.b.toNat : Int), .int .u8 (c.dns.c.toNat : Int), .int .u8 (c.dns.d.toNat : Int), .int .i64 c.udp, .int .i64 (decV x), .int .i64 c.icmp, .int .i64 c.low, .slice Fx nf cf, .slice Ox nx cx, .slice Nx nn cn] rfl (by kernel_rfl) (by rfl) ?_; intro w1 hq gr; replace sF := sF.away av_sF_rd gr; replace sFw := owk_off sFw of_sF_rd gr; replace sO := sO.away av_sO_rd gr; replace sOw := owk_off sOw of_sO_rd gr; replace sN := sN.away av_sN_rd gr; replace sNw := owk_off sNw of_sN_rd gr; replace lz_sF := Nat.le_trans lz_sF gr.size; replace lz_sO := Nat.le_trans lz_sO gr.size; replace lz_sN := Nat.le_trans lz_sN gr.size; replace bel := below_grown bel gr ord (Nat.le_trans hlo bel.size); clear hrd; have hrd := hq; clear hq gr))
                    try clear R86
                    exact bodyPost_end (results_none rfl _ _ _) rfl ⟨rfl, ⟨Fx, nf, cf, Ox, nx, cx, Nx, nn, cn, by rw [HP.out]; exact hrd, ord, by rw [HP.out]; exact sFw, by rw [HP.out]; exact sOw, sNw, of_sF_rd, of_sO_rd, of_sN_rd, apFO, apFN, apON, bF, bO, bN⟩, bel⟩
                  · rcases (by decide : ∀ b : Bool, b = true ∨ b = false) (s == [105, 99, 109, 112, 116, 105, 109, 101]) with b9 | b9
                    · have hk2 : k = 0 := by have h_ := hk; rw [eq_of_beq b9] at h_; exact (Option.some.inj (show some 0 = some k from h_)).symm
                      subst hk2
                      have HP : Hid (c.put s x = { c with icmp := decV x }) := Lib.hid (by unfold Cf.put; rw [if_neg (by rw [b0]; decide), if_neg (by rw [b1]; decide), if_neg (by rw [b2]; decide), if_neg (by rw [b3]; decide), if_neg (by rw [b4]; decide), if_neg (by rw [b5]; decide), if_neg (by rw [b6]; decide), if_neg (by rw [b7]; decide), if_neg (by rw [b8]; decide), if_pos b9])
                      have hta : ∀ W, (Instr.typeAssert (valV 0 x) 20 3 false).run Try.prog W = .ok (.int .i64 (decV x)) W := fun W => by kernel_rfl
                      clear hk
                      have R93 := hta
                      go_wp2_with (first | ((with_reducible show wpList _ _ _ (⟨none, Op.store _ (.tmp 95) _, _, _, _, _⟩ :: _) _ _); refine wpList_store_part rfl 3 (.tmp 95) (.tmp 93) rfl gr 36 rfl [.int .i64 (decV x)] rfl [.int .u8 (c.own.a.toNat : Int), .int .u8 (c.own.b.toNat : Int), .int .u8 (c.own.c.toNat : Int), .int .u8 (c.own.d.toNat : Int), .int .u8 (c.lan.a.toNat : Int), .int .u8 (c.lan.b.toNat : Int), .int .u8 (c.lan.c.toNat : Int), .int .u8 (c.lan.d.toNat : Int), .int .i64 c.bits, .int .u8 (c.lanmac.a.toNat : Int), .int .u8 (c.lanmac.b.toNat : Int), .int .u8 (c.lanmac.c.toNat : Int), .int .u8 (c.lanmac.d.toNat : Int), .int .u8 (c.lanmac.e.toNat : Int), .int .u8 (c.lanmac.f.toNat : Int), .int .u8 (c.wanmac.a.toNat : Int), .int .u8 (c.wanmac.b.toNat : Int), .int .u8 (c.wanmac.c.toNat : Int), .int .u8 (c.wanmac.d.toNat : Int), .int .u8 (c.wanmac.e.toNat : Int), .int .u8 (c.wanmac.f.toNat : Int), .int .u8 (c.first.a.toNat : Int), .int .u8 (c.first.b.toNat : Int), .int .u8 (c.first.c.toNat : Int), .int .u8 (c.first.d.toNat : Int), .int .u8 (c.last.a.toNat : Int), .int .u8 (c.last.b.toNat : Int), .int .u8 (c.last.c.toNat : Int), .int .u8 (c.last.d.toNat : Int), .int .i64 c.time, .int .u8 (c.dns.a.toNat : Int), .int .u8 (c.dns.b.toNat : Int), .int .u8 (c.dns.c.toNat : Int), .int .u8 (c.dns.d.toNat : Int), .int .i64 c.udp, .int .i64 c.tcp, .int .i64 c.icmp, .int .i64 c.low, .slice Fx nf cf, .slice Ox nx cx, .slice Nx nn cn] 57 hrd (by simp) [.int .u8 (c.own.a.toNat : Int), .int .u8 (c.own.b.toNat : Int), .int .u8 (c.own.c.toNat : Int), .int .u8 (c.own.d.toNat : Int), .int .u8 (c.lan.a.toNat : Int), .int .u8 (c.lan.b.toNat : Int), .int .u8 (c.lan.c.toNat : Int), .int .u8 (c.lan.d.toNat : Int), .int .i64 c.bits, .int .u8 (c.lanmac.a.toNat : Int), .int .u8 (c.lanmac.b.toNat : Int), .int .u8 (c.lanmac.c.toNat : Int), .int .u8 (c.lanmac.d.toNat : Int), .int .u8 (c.lanmac.e.toNat : Int), .int .u8 (c.lanmac.f.toNat : Int), .int .u8 (c.wanmac.a.toNat : Int), .int .u8 (c.wanmac.b.toNat : Int), .int .u8 (c.wanmac.c.toNat : Int), .int .u8 (c.wanmac.d.toNat : Int), .int .u8 (c.wanmac.e.toNat : Int), .int .u8 (c.wanmac.f.toNat : Int), .int .u8 (c.first.a.toNat : Int), .int .u8 (c.first.b.toNat : Int), .int .u8 (c.first.c.toNat : Int), .int .u8 (c.first.d.toNat : Int), .int .u8 (c.last.a.toNat : Int), .int .u8 (c.last.b.toNat : Int), .int .u8 (c.last.c.toNat : Int), .int .u8 (c.last.d.toNat : Int), .int .i64 c.time, .int .u8 (c.dns.a.toNat : Int), .int .u8 (c.dns.b.toNat : Int), .int .u8 (c.dns.c.toNat : Int), .int .u8 (c.dns.d.toNat : Int), .int .i64 c.udp, .int .i64 c.tcp, .int .i64 (decV x), .int .i64 c.low, .slice Fx nf cf, .slice Ox nx cx, .slice Nx nn cn] rfl (by kernel_rfl) (by rfl) ?_; intro w1 hq gr; replace sF := sF.away av_sF_rd gr; replace sFw := owk_off sFw of_sF_rd gr; replace sO := sO.away av_sO_rd gr; replace sOw := owk_off sOw of_sO_rd gr; replace sN := sN.away av_sN_rd gr; replace sNw := owk_off sNw of_sN_rd gr; replace lz_sF := Nat.le_trans lz_sF gr.size; replace lz_sO := Nat.le_trans lz_sO gr.size; replace lz_sN := Nat.le_trans lz_sN gr.size; replace bel := below_grown bel gr ord (Nat.le_trans hlo bel.size); clear hrd; have hrd := hq; clear hq gr))
                      try clear R93
                      exact bodyPost_end (results_none rfl _ _ _) rfl ⟨rfl, ⟨Fx, nf, cf, Ox, nx, cx, Nx, nn, cn, by rw [HP.out]; exact hrd, ord, by rw [HP.out]; exact sFw, by rw [HP.out]; exact sOw, sNw, of_sF_rd, of_sO_rd, of_sN_rd, apFO, apFN, apON, bF, bO, bN⟩, bel⟩
                    · rcases (by decide : ∀ b : Bool, b = true ∨ b = false) (s == [108, 111, 119]) with b10 | b10
                      · have hk2 : k = 0 := by have h_ := hk; rw [eq_of_beq b10] at h_; exact (Option.some.inj (show some 0 = some k from h_)).symm
                        subst hk2
                        have HP : Hid (c.put s x = { c with low := decV x }) := Lib.hid (by unfold Cf.put; rw [if_neg (by rw [b0]; decide), if_neg (by rw [b1]; decide), if_neg (by rw [b2]; decide), if_neg (by rw [b3]; decide), if_neg (by rw [b4]; decide), if_neg (by rw [b5]; decide), if_neg (by rw [b6]; decide), if_neg (by rw [b7]; decide), if_neg (by rw [b8]; decide), if_neg (by rw [b9]; decide), if_pos b10])
                        have hta : ∀ W, (Instr.typeAssert (valV 0 x) 20 3 false).run Try.prog W = .ok (.int .i64 (decV x)) W := fun W => by kernel_rfl
                        clear hk
                        have R100 := hta
                        go_wp2_with (first | ((with_reducible show wpList _ _ _ (⟨none, Op.store _ (.tmp 102) _, _, _, _, _⟩ :: _) _ _); refine wpList_store_part rfl 3 (.tmp 102) (.tmp 100) rfl gr 37 rfl [.int .i64 (decV x)] rfl [.int .u8 (c.own.a.toNat : Int), .int .u8 (c.own.b.toNat : Int), .int .u8 (c.own.c.toNat : Int), .int .u8 (c.own.d.toNat : Int), .int .u8 (c.lan.a.toNat : Int), .int .u8 (c.lan.b.toNat : Int), .int .u8 (c.lan.c.toNat : Int), .int .u8 (c.lan.d.toNat : Int), .int .i64 c.bits, .int .u8 (c.lanmac.a.toNat : Int), .int .u8 (c.lanmac.b.toNat : Int), .int .u8 (c.lanmac.c.toNat : Int), .int .u8 (c.lanmac.d.toNat : Int), .int .u8 (c.lanmac.e.toNat : Int), .int .u8 (c.lanmac.f.toNat : Int), .int .u8 (c.wanmac.a.toNat : Int), .int .u8 (c.wanmac.b.toNat : Int), .int .u8 (c.wanmac.c.toNat : Int), .int .u8 (c.wanmac.d.toNat : Int), .int .u8 (c.wanmac.e.toNat : Int), .int .u8 (c.wanmac.f.toNat : Int), .int .u8 (c.first.a.toNat : Int), .int .u8 (c.first.b.toNat : Int), .int .u8 (c.first.c.toNat : Int), .int .u8 (c.first.d.toNat : Int), .int .u8 (c.last.a.toNat : Int), .int .u8 (c.last.b.toNat : Int), .int .u8 (c.last.c.toNat : Int), .int .u8 (c.last.d.toNat : Int), .int .i64 c.time, .int .u8 (c.dns.a.toNat : Int), .int .u8 (c.dns.b.toNat : Int), .int .u8 (c.dns.c.toNat : Int), .int .u8 (c.dns.d.toNat : Int), .int .i64 c.udp, .int .i64 c.tcp, .int .i64 c.icmp, .int .i64 c.low, .slice Fx nf cf, .slice Ox nx cx, .slice Nx nn cn] 57 hrd (by simp) [.int .u8 (c.own.a.toNat : Int), .int .u8 (c.own.b.toNat : Int), .int .u8 (c.own.c.toNat : Int), .int .u8 (c.own.d.toNat : Int), .int .u8 (c.lan.a.toNat : Int), .int .u8 (c.lan.b.toNat : Int), .int .u8 (c.lan.c.toNat : Int), .int .u8 (c.lan.d.toNat : Int), .int .i64 c.bits, .int .u8 (c.lanmac.a.toNat : Int), .int .u8 (c.lanmac.b.toNat : Int), .int .u8 (c.lanmac.c.toNat : Int), .int .u8 (c.lanmac.d.toNat : Int), .int .u8 (c.lanmac.e.toNat : Int), .int .u8 (c.lanmac.f.toNat : Int), .int .u8 (c.wanmac.a.toNat : Int), .int .u8 (c.wanmac.b.toNat : Int), .int .u8 (c.wanmac.c.toNat : Int), .int .u8 (c.wanmac.d.toNat : Int), .int .u8 (c.wanmac.e.toNat : Int), .int .u8 (c.wanmac.f.toNat : Int), .int .u8 (c.first.a.toNat : Int), .int .u8 (c.first.b.toNat : Int), .int .u8 (c.first.c.toNat : Int), .int .u8 (c.first.d.toNat : Int), .int .u8 (c.last.a.toNat : Int), .int .u8 (c.last.b.toNat : Int), .int .u8 (c.last.c.toNat : Int), .int .u8 (c.last.d.toNat : Int), .int .i64 c.time, .int .u8 (c.dns.a.toNat : Int), .int .u8 (c.dns.b.toNat : Int), .int .u8 (c.dns.c.toNat : Int), .int .u8 (c.dns.d.toNat : Int), .int .i64 c.udp, .int .i64 c.tcp, .int .i64 c.icmp, .int .i64 (decV x), .slice Fx nf cf, .slice Ox nx cx, .slice Nx nn cn] rfl (by kernel_rfl) (by rfl) ?_; intro w1 hq gr; replace sF := sF.away av_sF_rd gr; replace sFw := owk_off sFw of_sF_rd gr; replace sO := sO.away av_sO_rd gr; replace sOw := owk_off sOw of_sO_rd gr; replace sN := sN.away av_sN_rd gr; replace sNw := owk_off sNw of_sN_rd gr; replace lz_sF := Nat.le_trans lz_sF gr.size; replace lz_sO := Nat.le_trans lz_sO gr.size; replace lz_sN := Nat.le_trans lz_sN gr.size; replace bel := below_grown bel gr ord (Nat.le_trans hlo bel.size); clear hrd; have hrd := hq; clear hq gr))
                        try clear R100
                        exact bodyPost_end (results_none rfl _ _ _) rfl ⟨rfl, ⟨Fx, nf, cf, Ox, nx, cx, Nx, nn, cn, by rw [HP.out]; exact hrd, ord, by rw [HP.out]; exact sFw, by rw [HP.out]; exact sOw, sNw, of_sF_rd, of_sO_rd, of_sN_rd, apFO, apFN, apON, bF, bO, bN⟩, bel⟩
                      · exfalso
                        unfold kindK at hk
                        rw [if_neg (by rw [b0]; decide), if_neg (by rw [b1]; decide), if_neg (by rw [b2]; decide), if_neg (by rw [b3]; decide), if_neg (by rw [b4]; decide), if_neg (by rw [b6]; decide), if_neg (by rw [b5]; decide), if_neg (by rw [b7]; decide), if_neg (by rw [b8]; decide), if_neg (by rw [b9]; decide), if_neg (by rw [b10]; decide)] at hk
                        cases hk
end Go.Proofs.Ytdfobilagidmfaa
