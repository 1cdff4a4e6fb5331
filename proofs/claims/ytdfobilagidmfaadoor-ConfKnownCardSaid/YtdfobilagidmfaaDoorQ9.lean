/- Texts put together: Cg5. -/
import Derived.Test.YtdfobilagidmfaaDoorQ8
namespace Go.Proofs.YtdfobilagidmfaaDoor
open Go.RowKit

theorem results_cell2_row {P : Program} {fn : Func} {p q : Tmp} {ty tz : TypeId} (h : fn.results = #[.cell p ty, .cell q tz]) (tmps : Array Value) (w : World) (g k : Nat) (T U : TypeId) (cs ds : Array Value) (fr fs : Nat × Nat) (d d2 : TypeDesc)
    (hp : tmps.getD p undef = .pointer (some ⟨g, 0, none⟩)) (hg : w.heap[g]? = some (.cells cs T fr)) (hu : P.underlying ty = some d) (hd : d.isRow = true) (hi : (P.info? ty).map (·.size) = some cs.size)
    (hq : tmps.getD q undef = .pointer (some ⟨k, 0, none⟩)) (hk : w.heap[k]? = some (.cells ds U fs)) (hu2 : P.underlying tz = some d2) (hd2 : d2.isRow = true) (hi2 : (P.info? tz).map (·.size) = some ds.size) :
    (results fn tmps).run P w = .ok (.tuple #[.agg cs, .agg ds]) w := by
  have h1 := run_loadVar_row (P := P) w g T ty cs fr d hg hu (by cases d <;> simp_all) hi
  have h2 := run_loadVar_row (P := P) w k U tz ds fs d2 hk hu2 (by cases d2 <;> simp_all) hi2
  have hp' : tmps[p]?.getD undef = .pointer (some ⟨g, 0, none⟩) := by simpa using hp
  have hq' : tmps[q]?.getD undef = .pointer (some ⟨k, 0, none⟩) := by simpa using hq
  simp only [results, h]
  simp [Sem.run_bind, Result.andThen, hp', hq', asAddr, h1, h2]
theorem results_cell_tt_row {P : Program} {fn : Func} {p u z : Tmp} {ty : TypeId} (h : fn.results = #[.cell p ty, .tmp u, .tmp z]) (tmps : Array Value) (w : World) (g : Nat) (T : TypeId) (cs : Array Value) (fr : Nat × Nat) (d : TypeDesc)
    (hp : tmps.getD p undef = .pointer (some ⟨g, 0, none⟩)) (hg : w.heap[g]? = some (.cells cs T fr)) (hu : P.underlying ty = some d) (hd : d.isRow = true) (hi : (P.info? ty).map (·.size) = some cs.size) (x y : Value) (hx : tmps.getD u undef = x) (hy : tmps.getD z undef = y) :
    (results fn tmps).run P w = .ok (.tuple #[.agg cs, x, y]) w := by
  have h1 := run_loadVar_row (P := P) w g T ty cs fr d hg hu (by cases d <;> simp_all) hi
  have hp' : tmps[p]?.getD undef = .pointer (some ⟨g, 0, none⟩) := by simpa using hp
  have hx' : tmps[u]?.getD undef = x := by simpa using hx
  have hy' : tmps[z]?.getD undef = y := by simpa using hy
  simp only [results, h]
  simp [Result.andThen, hp', hx', hy', asAddr, h1]
def Ad4.ofN (n : Nat) : Ad4 := ⟨UInt8.ofNat (n / 16777216), UInt8.ofNat (n / 65536 % 256), UInt8.ofNat (n / 256 % 256), UInt8.ofNat (n % 256)⟩
theorem Ad4.ofN_num {n : Nat} (h : n < 4294967296) : (Ad4.ofN n).num = n := by
  unfold Ad4.num Ad4.ofN
  rw [be_abcd]
  simp only [UInt8.toNat_ofNat']
  omega
theorem adr_ofN {n : Nat} (h : n < 4294967296) : adr n = .agg #[.int .u8 ((Ad4.ofN n).a.toNat : Int), .int .u8 ((Ad4.ofN n).b.toNat : Int), .int .u8 ((Ad4.ofN n).c.toNat : Int), .int .u8 ((Ad4.ofN n).d.toNat : Int)] := by rw [← Ad4.cells, Ad4.ofN_num h]
theorem aof_l (n : Nat) (w : World) (hn : n < 4294967296) : Calls Tryd.prog 48 #[.int .u32 (n : Int)] w fun e w' => e = .returned (.agg #[.int .u8 ((Ad4.ofN n).a.toNat : Int), .int .u8 ((Ad4.ofN n).b.toNat : Int), .int .u8 ((Ad4.ofN n).c.toNat : Int), .int .u8 ((Ad4.ofN n).d.toNat : Int)]) ∧ Below w.heap.size w w' := by
  refine (aof_any n w hn).mono ?_
  rintro e w' ⟨rfl, bel⟩
  exact ⟨by rw [adr_ofN hn], bel⟩
theorem anum_adr (n : Nat) (w : World) (hn : n < 4294967296) : Calls Tryd.prog 17 #[adr n] w fun e w' => e = .returned (.int .u32 (n : Int)) ∧ Below w.heap.size w w' := by
  rw [adr_ofN hn]
  refine (anum_any _ _ _ _ w).mono ?_
  rintro e w' ⟨rfl, bel⟩
  refine ⟨?_, bel⟩
  rw [show be [(Ad4.ofN n).a, (Ad4.ofN n).b, (Ad4.ofN n).c, (Ad4.ofN n).d] = (Ad4.ofN n).num from rfl, Ad4.ofN_num hn]
theorem u32_wrap (x : Int) : IntKind.u32.wrap x = x % 4294967296 := rfl
/-- The pool's ends that no lines tell. -/
def poolAn (n : Ad4) (bt : Int) : Nat := if bt ≤ 24 then (fN n bt + 100) % 4294967296 else (fN n bt + 2) % 4294967296
def poolZn (n : Ad4) (bt : Int) : Nat := if bt ≤ 24 then (fN n bt + 131) % 4294967296 else (fN n bt + min 33 ((lN n bt + 4294967296 - fN n bt - 1) % 4294967296)) % 4294967296
def poolA (n : Ad4) (bt : Int) : Ad4 := Ad4.ofN (poolAn n bt)
def poolZ (n : Ad4) (bt : Int) : Ad4 := Ad4.ofN (poolZn n bt)
theorem fN_le_lN (n : Ad4) (bt : Int) : fN n bt ≤ lN n bt := by unfold fN lN firstN lastN; exact Nat.le_add_right _ _
theorem min_u32 {P : Program} (D M : Nat) (h : min 33 D = M) (W : World) (ts : Array TypeId) (t : TypeId) : (Builtin.min_ ts t #[.int .u32 33, .int .u32 (D : Int)]).run P W = .ok (.int .u32 (M : Int)) W := by
  rw [run_min_int2]
  subst h
  split
  · rw [Nat.min_eq_right (by omega)]
  · rw [Nat.min_eq_left (by omega)]; rfl
set_option linter.unusedVariables false in
set_option linter.unusedSimpArgs false in
set_option maxRecDepth 100000 in
set_option maxHeartbeats 16000000 in
theorem usualPool_any (n : Ad4) (bt : Int) (w : World) : Calls Tryd.prog 50 #[.agg #[.int .u8 (n.a.toNat : Int), .int .u8 (n.b.toNat : Int), .int .u8 (n.c.toNat : Int), .int .u8 (n.d.toNat : Int), .int .i64 bt]] w fun e w' => e = .returned (.tuple #[.agg #[.int .u8 ((poolA n bt).a.toNat : Int), .int .u8 ((poolA n bt).b.toNat : Int), .int .u8 ((poolA n bt).c.toNat : Int), .int .u8 ((poolA n bt).d.toNat : Int)], .agg #[.int .u8 ((poolZ n bt).a.toNat : Int), .int .u8 ((poolZ n bt).b.toNat : Int), .int .u8 ((poolZ n bt).c.toNat : Int), .int .u8 ((poolZ n bt).d.toNat : Int)]]) ∧ Below w.heap.size w w' := by
  have bel := Below.refl w.heap.size w
  go_enter Tryd.func50, Tryd.ntmps50
  go_wp2_with (first | ((with_reducible show wpList _ _ _ (⟨some 1, _, _, _, _, _⟩ :: _) _ _); refine wpList_box_n rfl 26 (.tmp 0) rfl #[.int .u8 (n.a.toNat : Int), .int .u8 (n.b.toNat : Int), .int .u8 (n.c.toNat : Int), .int .u8 (n.d.toNat : Int), .int .i64 bt] rfl ?_; intro g1 w1 ge lt hh bb; have op := Nat.le_trans bel.size ge; replace bel := bel.trans (bb.mono bel.size); have hp := hh; clear hh lt ge bb) | ((with_reducible show wpList _ _ _ (⟨some 2, _, _, _, _, _⟩ :: _) _ _); refine wpList_new_a rfl 24 rfl #[.int .u8 0, .int .u8 0, .int .u8 0, .int .u8 0] (by kernel_rfl) ?_; intro g2 w2 ge hh bb; have d_p_a := ne_new (hlt hp) ge; have oa := Nat.le_trans bel.size ge; replace hp := blk_u hp bb; replace bel := bel.trans (bb.mono bel.size); have ha := hh; clear hh ge bb) | ((with_reducible show wpList _ _ _ (⟨some 3, _, _, _, _, _⟩ :: _) _ _); refine wpList_new_a rfl 24 rfl #[.int .u8 0, .int .u8 0, .int .u8 0, .int .u8 0] (by kernel_rfl) ?_; intro g3 w3 ge hh bb; have d_p_z := ne_new (hlt hp) ge; have d_a_z := ne_new (hlt ha) ge; have oz := Nat.le_trans bel.size ge; replace hp := blk_u hp bb; replace ha := blk_u ha bb; replace bel := bel.trans (bb.mono bel.size); have hz := hh; clear hh ge bb))
  replace bel := bel.drew
  replace hp : w3.drew.heap[g1]? = _ := hp
  replace ha : w3.drew.heap[g2]? = _ := ha
  replace hz : w3.drew.heap[g3]? = _ := hz
  refine wp_region_held_drew (S := fun W => W.heap[g1]? = some (.cells #[.int .u8 (n.a.toNat : Int), .int .u8 (n.b.toNat : Int), .int .u8 (n.c.toNat : Int), .int .u8 (n.d.toNat : Int), .int .i64 bt] 26 (0, 0))) (by kernel_rfl) hp (fun hH => ?_)
  generalize w3.drew = w4 at bel hp ha hz hH ⊢
  refine wpAnyH_take (i := 0) (v := .agg #[.int .u8 (n.a.toNat : Int), .int .u8 (n.b.toNat : Int), .int .u8 (n.c.toNat : Int), .int .u8 (n.d.toNat : Int), .int .i64 bt]) rfl (by kernel_rfl) (by kernel_rfl) (by kernel_rfl) (fun _ _ _ h => h) (yieldsIf_load_part (by kernel_rfl) 26 _ rfl g1 0 5 rfl _ 26 (0, 0) (fun W hW => hW) _ rfl _ Tryd.underlying26 rfl (by kernel_rfl)) hH ?_
  simp only [Act.put, List.getElem_toArray, List.getElem_cons_zero, List.setIfInBounds_toArray, List.set_cons_zero, List.set_cons_succ]
  refine wpAnyH_take (i := 3) (v := .agg #[.int .u8 (n.a.toNat : Int), .int .u8 (n.b.toNat : Int), .int .u8 (n.c.toNat : Int), .int .u8 (n.d.toNat : Int), .int .i64 bt]) rfl (by kernel_rfl) (by kernel_rfl) (by kernel_rfl) (fun _ _ _ h => h) (yieldsIf_load_part (by kernel_rfl) 26 _ rfl g1 0 5 rfl _ 26 (0, 0) (fun W hW => hW) _ rfl _ Tryd.underlying26 rfl (by kernel_rfl)) hH ?_
  simp only [Act.put, List.getElem_toArray, List.getElem_cons_zero, List.getElem_cons_succ, List.setIfInBounds_toArray, List.set_cons_zero, List.set_cons_succ]
  refine wpAnyH_ready (rs := [1]) (by kernel_rfl) (by simp) ?_
  refine AllReadyH.cons (o := _) rfl (fun K hK => ?_) AllReadyH.nil
  simp only [List.getElem_toArray, List.getElem_cons_zero, List.getElem_cons_succ]
  go_simp
  with_reducible refine (afirst_any _ _ _ _ _ _).mono ?_
  rintro e w5 ⟨rfl, b5⟩
  dsimp only
  replace hp := blk_u hp b5
  replace ha := blk_u ha b5
  replace hz := blk_u hz b5
  replace bel := bel.trans (b5.mono bel.size)
  clear b5
  rw [show firstN (be [n.a, n.b, n.c, n.d]) (clamp bt) = fN n bt from rfl]
  refine hK.out _ _ hp (fun hH6 => ?_)
  clear hK K
  refine wpAnyH_ready (rs := [2]) (by kernel_rfl) (by simp) ?_
  refine AllReadyH.cons (o := _) rfl (fun K hK => ?_) AllReadyH.nil
  simp only [List.getElem_toArray, List.getElem_cons_zero, List.getElem_cons_succ]
  go_simp
  with_reducible refine (anum_adr (fN n bt) _ (fN_lt _ _)).mono ?_
  rintro e w7 ⟨rfl, b7⟩
  dsimp only
  replace hp := blk_u hp b7
  replace ha := blk_u ha b7
  replace hz := blk_u hz b7
  replace bel := bel.trans (b7.mono bel.size)
  clear b7
  refine hK.out _ _ hp (fun hH8 => ?_)
  clear hK K
  refine wpAnyH_ready (rs := [4]) (by kernel_rfl) (by simp) ?_
  refine AllReadyH.cons (o := _) rfl (fun K hK => ?_) AllReadyH.nil
  simp only [List.getElem_toArray, List.getElem_cons_zero, List.getElem_cons_succ]
  go_simp
  with_reducible refine (alast_any _ _ _ _ _ _).mono ?_
  rintro e w9 ⟨rfl, b9⟩
  dsimp only
  replace hp := blk_u hp b9
  replace ha := blk_u ha b9
  replace hz := blk_u hz b9
  replace bel := bel.trans (b9.mono bel.size)
  clear b9
  rw [show lastN (be [n.a, n.b, n.c, n.d]) (clamp bt) = lN n bt from rfl]
  refine hK.out _ _ hp (fun hH10 => ?_)
  clear hK K
  refine wpAnyH_ready (rs := [5]) (by kernel_rfl) (by simp) ?_
  refine AllReadyH.cons (o := _) rfl (fun K hK => ?_) AllReadyH.nil
  simp only [List.getElem_toArray, List.getElem_cons_zero, List.getElem_cons_succ]
  go_simp
  with_reducible refine (anum_adr (lN n bt) _ (lN_lt _ _)).mono ?_
  rintro e w11 ⟨rfl, b11⟩
  dsimp only
  replace hp := blk_u hp b11
  replace ha := blk_u ha b11
  replace hz := blk_u hz b11
  replace bel := bel.trans (b11.mono bel.size)
  clear b11
  refine hK.out _ _ hp (fun hH12 => ?_)
  clear hK K
  refine wpAnyH_take (i := 6) (v := ?_) rfl (by kernel_rfl) (by kernel_rfl) (by kernel_rfl) (fun _ _ _ h => h) (Or.inl ⟨by rfl, ?_⟩) hH12 ?_
  rotate_left
  · ((intro W hW; clear hW; go_simp) <;> with_reducible rfl)
  simp only [Act.put, List.getElem_toArray, List.getElem_cons_zero, List.getElem_cons_succ, List.setIfInBounds_toArray, List.set_cons_zero, List.set_cons_succ]
  refine wpAnyH_take (i := 7) (v := ?_) rfl (by kernel_rfl) (by kernel_rfl) (by kernel_rfl) (fun _ _ _ h => h) (Or.inl ⟨by rfl, ?_⟩) hH12 ?_
  rotate_left
  · ((intro W hW; clear hW; go_simp) <;> with_reducible rfl)
  simp only [Act.put, List.getElem_toArray, List.getElem_cons_zero, List.getElem_cons_succ, List.setIfInBounds_toArray, List.set_cons_zero, List.set_cons_succ]
  by_cases hb : bt ≤ 24
  · obtain ⟨ka, hka⟩ : ∃ k, (fN n bt + 100) % 4294967296 = k := ⟨_, rfl⟩
    obtain ⟨kz, hkz⟩ : ∃ k, (fN n bt + 131) % 4294967296 = k := ⟨_, rfl⟩
    have HPA : Hid (poolA n bt = Ad4.ofN ka) := Lib.hid (by unfold poolA poolAn; rw [if_pos hb, hka])
    have HPZ : Hid (poolZ n bt = Ad4.ofN kz) := Lib.hid (by unfold poolZ poolZn; rw [if_pos hb, hkz])
    have hka2 : ka < 4294967296 := by omega
    have hkz2 : kz < 4294967296 := by omega
    have wa : IntKind.u32.wrap ((fN n bt : Int) + 100) = (ka : Int) := by rw [u32_wrap]; omega
    have wz : IntKind.u32.wrap ((fN n bt : Int) + 131) = (kz : Int) := by rw [u32_wrap]; omega
    clear hka hkz
    refine wpAnyH_done (by kernel_rfl) ?_ _
    have R13 := cell_lit hp 4 _ rfl
    go_wp2_with fail
    clear R13
    with_reducible refine (aof_l ka _ hka2).mono ?_
    rintro e w13 ⟨rfl, b13⟩
    replace hp := blk_u hp b13
    replace ha := blk_u ha b13
    replace hz := blk_u hz b13
    replace bel := bel.trans (b13.mono bel.size)
    clear b13
    go_wp2_with fail
    with_reducible refine (aof_l kz _ hkz2).mono ?_
    rintro e w14 ⟨rfl, b14⟩
    replace hp := blk_u hp b14
    replace ha := blk_u ha b14
    replace hz := blk_u hz b14
    replace bel := bel.trans (b14.mono bel.size)
    clear b14
    go_wp2_with (first | ((with_reducible show wpList _ _ _ (⟨none, Op.store _ (.tmp 2) _, _, _, _, _⟩ :: _) _ _); refine wpList_store_blk rfl 24 (.tmp 2) (.tmp 17) rfl g2 rfl _ rfl _ 24 ha (by rfl) (by kernel_rfl) (by kernel_rfl) ?_; intro w15 hq gr; replace hp := blk_a hp gr d_p_a; replace hz := blk_a hz gr (ne_symm d_a_z); replace bel := below_grown bel gr oa bel.size; clear ha; have ha := hq; clear hq gr) | ((with_reducible show wpList _ _ _ (⟨none, Op.store _ (.tmp 3) _, _, _, _, _⟩ :: _) _ _); refine wpList_store_blk rfl 24 (.tmp 3) (.tmp 20) rfl g3 rfl _ rfl _ 24 hz (by rfl) (by kernel_rfl) (by kernel_rfl) ?_; intro w16 hq gr; replace hp := blk_a hp gr d_p_z; replace ha := blk_a ha gr d_a_z; replace bel := below_grown bel gr oz bel.size; clear hz; have hz := hq; clear hq gr))
    exact bodyPost_ret (results_cell2_row rfl _ _ _ _ _ _ _ _ _ _ _ _ rfl ha Tryd.underlying24 rfl (by kernel_rfl) rfl hz Tryd.underlying24 rfl (by kernel_rfl)) rfl ⟨by rw [HPA.out, HPZ.out], bel⟩
  · obtain ⟨ka, hka⟩ : ∃ k, (fN n bt + 2) % 4294967296 = k := ⟨_, rfl⟩
    obtain ⟨D, hD⟩ : ∃ k, lN n bt - fN n bt = k := ⟨_, rfl⟩
    obtain ⟨E, hE⟩ : ∃ k, (lN n bt + 4294967296 - fN n bt - 1) % 4294967296 = k := ⟨_, rfl⟩
    obtain ⟨M, hM⟩ : ∃ k, min 33 E = k := ⟨_, rfl⟩
    obtain ⟨kz, hkz⟩ : ∃ k, (fN n bt + M) % 4294967296 = k := ⟨_, rfl⟩
    have hb2 : decide (bt ≤ 24) = false := decide_eq_false hb
    have HPA : Hid (poolA n bt = Ad4.ofN ka) := Lib.hid (by unfold poolA poolAn; rw [if_neg hb, hka])
    have HPZ : Hid (poolZ n bt = Ad4.ofN kz) := Lib.hid (by unfold poolZ poolZn; rw [if_neg hb, hE, hM, hkz])
    have hka2 : ka < 4294967296 := by omega
    have hkz2 : kz < 4294967296 := by omega
    have hle := fN_le_lN n bt
    have hl1 := lN_lt n bt
    have wa : IntKind.u32.wrap ((fN n bt : Int) + 2) = (ka : Int) := by rw [u32_wrap]; omega
    have wd : IntKind.u32.wrap ((lN n bt : Int) - (fN n bt : Int)) = (D : Int) := by rw [u32_wrap]; omega
    have we : IntKind.u32.wrap ((D : Int) - 1) = (E : Int) := by rw [u32_wrap]; omega
    have wm := fun W ts t => min_u32 (P := Tryd.prog) E M hM W ts t
    have wz : IntKind.u32.wrap ((fN n bt : Int) + (M : Int)) = (kz : Int) := by rw [u32_wrap]; omega
    clear hka hkz hD hE hM hle hl1 hb
    refine wpAnyH_done (by kernel_rfl) ?_ _
    have R13 := cell_lit hp 4 _ rfl
    go_wp2_with fail
    clear R13
    with_reducible refine (aof_l ka _ hka2).mono ?_
    rintro e w13 ⟨rfl, b13⟩
    replace hp := blk_u hp b13
    replace ha := blk_u ha b13
    replace hz := blk_u hz b13
    replace bel := bel.trans (b13.mono bel.size)
    clear b13
    go_wp2_with fail
    with_reducible refine (aof_l kz _ hkz2).mono ?_
    rintro e w14 ⟨rfl, b14⟩
    replace hp := blk_u hp b14
    replace ha := blk_u ha b14
    replace hz := blk_u hz b14
    replace bel := bel.trans (b14.mono bel.size)
    clear b14
    go_wp2_with (first | ((with_reducible show wpList _ _ _ (⟨none, Op.store _ (.tmp 2) _, _, _, _, _⟩ :: _) _ _); refine wpList_store_blk rfl 24 (.tmp 2) (.tmp 23) rfl g2 rfl _ rfl _ 24 ha (by rfl) (by kernel_rfl) (by kernel_rfl) ?_; intro w15 hq gr; replace hp := blk_a hp gr d_p_a; replace hz := blk_a hz gr (ne_symm d_a_z); replace bel := below_grown bel gr oa bel.size; clear ha; have ha := hq; clear hq gr) | ((with_reducible show wpList _ _ _ (⟨none, Op.store _ (.tmp 3) _, _, _, _, _⟩ :: _) _ _); refine wpList_store_blk rfl 24 (.tmp 3) (.tmp 31) rfl g3 rfl _ rfl _ 24 hz (by rfl) (by kernel_rfl) (by kernel_rfl) ?_; intro w16 hq gr; replace hp := blk_a hp gr d_p_z; replace ha := blk_a ha gr d_a_z; replace bel := below_grown bel gr oz bel.size; clear hz; have hz := hq; clear hq gr))
    exact bodyPost_ret (results_cell2_row rfl _ _ _ _ _ _ _ _ _ _ _ _ rfl ha Tryd.underlying24 rfl (by kernel_rfl) rfl hz Tryd.underlying24 rfl (by kernel_rfl)) rfl ⟨by rw [HPA.out, HPZ.out], bel⟩
theorem usualPool_lit (w : World) : Calls Tryd.prog 50 #[.agg #[.int .u8 192, .int .u8 168, .int .u8 1, .int .u8 0, .int .i64 24]] w fun e w' => e = .returned (.tuple #[.agg #[.int .u8 192, .int .u8 168, .int .u8 1, .int .u8 100], .agg #[.int .u8 192, .int .u8 168, .int .u8 1, .int .u8 131]]) ∧ Below w.heap.size w w' := by
  refine (usualPool_any ⟨192, 168, 1, 0⟩ 24 w).mono ?_
  rintro e w' ⟨rfl, bel⟩
  refine ⟨?_, bel⟩
  rw [show poolA ⟨192, 168, 1, 0⟩ 24 = ⟨192, 168, 1, 100⟩ by kernel_rfl, show poolZ ⟨192, 168, 1, 0⟩ 24 = ⟨192, 168, 1, 131⟩ by kernel_rfl]
  rfl
/-- The configuration of the empty text. -/
def usualC : Cf := ⟨⟨192, 168, 1, 1⟩, ⟨192, 168, 1, 0⟩, 24, ⟨2, 0, 0, 0, 0, 1⟩, ⟨2, 0, 0, 0, 0, 2⟩, ⟨192, 168, 1, 100⟩, ⟨192, 168, 1, 131⟩, 3600, ⟨9, 9, 9, 9⟩, 120, 7200, 30, 40000, [], []⟩
set_option linter.unusedVariables false in
set_option linter.unusedSimpArgs false in
set_option maxRecDepth 100000 in
set_option maxHeartbeats 16000000 in
theorem cusual_any (w : World) : Calls Tryd.prog 22 #[] w fun e w' => e = .returned (.agg #[.int .u8 192, .int .u8 168, .int .u8 1, .int .u8 1, .int .u8 192, .int .u8 168, .int .u8 1, .int .u8 0, .int .i64 24, .int .u8 2, .int .u8 0, .int .u8 0, .int .u8 0, .int .u8 0, .int .u8 1, .int .u8 2, .int .u8 0, .int .u8 0, .int .u8 0, .int .u8 0, .int .u8 2, .int .u8 192, .int .u8 168, .int .u8 1, .int .u8 100, .int .u8 192, .int .u8 168, .int .u8 1, .int .u8 131, .int .i64 3600, .int .u8 9, .int .u8 9, .int .u8 9, .int .u8 9, .int .i64 120, .int .i64 7200, .int .i64 30, .int .i64 40000, .slice none 0 0, .slice none 0 0]) ∧ Below w.heap.size w w' := by
  have bel := Below.refl w.heap.size w
  go_enter Tryd.func22, Tryd.ntmps22
  go_wp2_with (first | ((with_reducible show wpList _ _ _ (⟨some 0, _, _, _, _, _⟩ :: _) _ _); refine wpList_new_a rfl 32 rfl #[.int .u8 0, .int .u8 0, .int .u8 0, .int .u8 0, .int .u8 0, .int .u8 0, .int .u8 0, .int .u8 0, .int .i64 0, .int .u8 0, .int .u8 0, .int .u8 0, .int .u8 0, .int .u8 0, .int .u8 0, .int .u8 0, .int .u8 0, .int .u8 0, .int .u8 0, .int .u8 0, .int .u8 0, .int .u8 0, .int .u8 0, .int .u8 0, .int .u8 0, .int .u8 0, .int .u8 0, .int .u8 0, .int .u8 0, .int .i64 0, .int .u8 0, .int .u8 0, .int .u8 0, .int .u8 0, .int .i64 0, .int .i64 0, .int .i64 0, .int .i64 0, .slice none 0 0, .slice none 0 0] (by kernel_rfl) ?_; intro g0 w1 ge hh bb; have or := Nat.le_trans bel.size ge; replace bel := bel.trans (bb.mono bel.size); have hr := hh; clear hh ge bb) | ((with_reducible show wpList _ _ _ (⟨some 1, _, _, _, _, _⟩ :: _) _ _); refine wpList_new_a rfl 32 rfl #[.int .u8 0, .int .u8 0, .int .u8 0, .int .u8 0, .int .u8 0, .int .u8 0, .int .u8 0, .int .u8 0, .int .i64 0, .int .u8 0, .int .u8 0, .int .u8 0, .int .u8 0, .int .u8 0, .int .u8 0, .int .u8 0, .int .u8 0, .int .u8 0, .int .u8 0, .int .u8 0, .int .u8 0, .int .u8 0, .int .u8 0, .int .u8 0, .int .u8 0, .int .u8 0, .int .u8 0, .int .u8 0, .int .u8 0, .int .i64 0, .int .u8 0, .int .u8 0, .int .u8 0, .int .u8 0, .int .i64 0, .int .i64 0, .int .i64 0, .int .i64 0, .slice none 0 0, .slice none 0 0] (by kernel_rfl) ?_; intro g1 w2 ge hh bb; have d_r_c := ne_new (hlt hr) ge; have oc := Nat.le_trans bel.size ge; replace hr := blk_u hr bb; replace bel := bel.trans (bb.mono bel.size); have hc := hh; clear hh ge bb) | ((with_reducible show wpList _ _ _ (⟨none, Op.store _ (.tmp 1) _, _, _, _, _⟩ :: _) _ _); refine wpList_store_blk rfl 32 (.tmp 1) (.tmp 8) rfl g1 rfl _ rfl _ 32 hc (by rfl) (by kernel_rfl) (by kernel_rfl) ?_; intro w3 hq gr; replace hr := blk_a hr gr d_r_c; replace bel := below_grown bel gr oc bel.size; clear hc; have hc := hq; clear hq gr; have R11 := Lib.hid (range_lit hc 4 5 [.int .u8 192, .int .u8 168, .int .u8 1, .int .u8 0, .int .i64 24] rfl)) | ((with_reducible show wpList _ _ _ (⟨some 11, _, _, _, _, _⟩ :: _) _ _); refine wpList_load_rng 26 (.tmp 10) rfl (by kernel_rfl) _ _ rfl _ R11.out _ Tryd.underlying26 rfl (by kernel_rfl) ?_))
  try clear R11
  with_reducible refine (usualPool_lit _).mono ?_
  rintro e w4 ⟨rfl, b4⟩
  replace hr := blk_u hr b4
  replace hc := blk_u hc b4
  replace bel := bel.trans (b4.mono bel.size)
  clear b4
  go_wp2_with (first | ((with_reducible show wpList _ _ _ (⟨none, Op.store _ (.tmp 15) _, _, _, _, _⟩ :: _) _ _); refine wpList_store_part rfl 24 (.tmp 15) (.tmp 13) rfl g1 21 rfl [.int .u8 192, .int .u8 168, .int .u8 1, .int .u8 100] rfl [.int .u8 192, .int .u8 168, .int .u8 1, .int .u8 1, .int .u8 192, .int .u8 168, .int .u8 1, .int .u8 0, .int .i64 24, .int .u8 2, .int .u8 0, .int .u8 0, .int .u8 0, .int .u8 0, .int .u8 1, .int .u8 2, .int .u8 0, .int .u8 0, .int .u8 0, .int .u8 0, .int .u8 2, .int .u8 0, .int .u8 0, .int .u8 0, .int .u8 0, .int .u8 0, .int .u8 0, .int .u8 0, .int .u8 0, .int .i64 3600, .int .u8 9, .int .u8 9, .int .u8 9, .int .u8 9, .int .i64 120, .int .i64 7200, .int .i64 30, .int .i64 40000, .slice none 0 0, .slice none 0 0] 32 hc (by simp) [.int .u8 192, .int .u8 168, .int .u8 1, .int .u8 1, .int .u8 192, .int .u8 168, .int .u8 1, .int .u8 0, .int .i64 24, .int .u8 2, .int .u8 0, .int .u8 0, .int .u8 0, .int .u8 0, .int .u8 1, .int .u8 2, .int .u8 0, .int .u8 0, .int .u8 0, .int .u8 0, .int .u8 2, .int .u8 192, .int .u8 168, .int .u8 1, .int .u8 100, .int .u8 0, .int .u8 0, .int .u8 0, .int .u8 0, .int .i64 3600, .int .u8 9, .int .u8 9, .int .u8 9, .int .u8 9, .int .i64 120, .int .i64 7200, .int .i64 30, .int .i64 40000, .slice none 0 0, .slice none 0 0] rfl (by kernel_rfl) (by rfl) ?_; intro w5 hq gr; replace hr := blk_a hr gr d_r_c; replace bel := below_grown bel gr oc bel.size; clear hc; have hc := hq; clear hq gr) | ((with_reducible show wpList _ _ _ (⟨none, Op.store _ (.tmp 16) _, _, _, _, _⟩ :: _) _ _); refine wpList_store_part rfl 24 (.tmp 16) (.tmp 14) rfl g1 25 rfl [.int .u8 192, .int .u8 168, .int .u8 1, .int .u8 131] rfl [.int .u8 192, .int .u8 168, .int .u8 1, .int .u8 1, .int .u8 192, .int .u8 168, .int .u8 1, .int .u8 0, .int .i64 24, .int .u8 2, .int .u8 0, .int .u8 0, .int .u8 0, .int .u8 0, .int .u8 1, .int .u8 2, .int .u8 0, .int .u8 0, .int .u8 0, .int .u8 0, .int .u8 2, .int .u8 192, .int .u8 168, .int .u8 1, .int .u8 100, .int .u8 0, .int .u8 0, .int .u8 0, .int .u8 0, .int .i64 3600, .int .u8 9, .int .u8 9, .int .u8 9, .int .u8 9, .int .i64 120, .int .i64 7200, .int .i64 30, .int .i64 40000, .slice none 0 0, .slice none 0 0] 32 hc (by simp) [.int .u8 192, .int .u8 168, .int .u8 1, .int .u8 1, .int .u8 192, .int .u8 168, .int .u8 1, .int .u8 0, .int .i64 24, .int .u8 2, .int .u8 0, .int .u8 0, .int .u8 0, .int .u8 0, .int .u8 1, .int .u8 2, .int .u8 0, .int .u8 0, .int .u8 0, .int .u8 0, .int .u8 2, .int .u8 192, .int .u8 168, .int .u8 1, .int .u8 100, .int .u8 192, .int .u8 168, .int .u8 1, .int .u8 131, .int .i64 3600, .int .u8 9, .int .u8 9, .int .u8 9, .int .u8 9, .int .i64 120, .int .i64 7200, .int .i64 30, .int .i64 40000, .slice none 0 0, .slice none 0 0] rfl (by kernel_rfl) (by rfl) ?_; intro w6 hq gr; replace hr := blk_a hr gr d_r_c; replace bel := below_grown bel gr oc bel.size; clear hc; have hc := hq; clear hq gr; have R17 := Lib.hid (range_lit hc 0 40 [.int .u8 192, .int .u8 168, .int .u8 1, .int .u8 1, .int .u8 192, .int .u8 168, .int .u8 1, .int .u8 0, .int .i64 24, .int .u8 2, .int .u8 0, .int .u8 0, .int .u8 0, .int .u8 0, .int .u8 1, .int .u8 2, .int .u8 0, .int .u8 0, .int .u8 0, .int .u8 0, .int .u8 2, .int .u8 192, .int .u8 168, .int .u8 1, .int .u8 100, .int .u8 192, .int .u8 168, .int .u8 1, .int .u8 131, .int .i64 3600, .int .u8 9, .int .u8 9, .int .u8 9, .int .u8 9, .int .i64 120, .int .i64 7200, .int .i64 30, .int .i64 40000, .slice none 0 0, .slice none 0 0] rfl)) | ((with_reducible show wpList _ _ _ (⟨some 17, _, _, _, _, _⟩ :: _) _ _); refine wpList_load_rng 32 (.tmp 1) rfl (by kernel_rfl) _ _ rfl _ R17.out _ Tryd.underlying32 rfl (by kernel_rfl) ?_) | ((with_reducible show wpList _ _ _ (⟨none, Op.store _ (.tmp 0) _, _, _, _, _⟩ :: _) _ _); refine wpList_store_blk rfl 32 (.tmp 0) (.tmp 17) rfl g0 rfl _ rfl _ 32 hr (by rfl) (by kernel_rfl) (by kernel_rfl) ?_; intro w7 hq gr; replace hc := blk_a hc gr (ne_symm d_r_c); replace bel := below_grown bel gr or bel.size; clear hr; have hr := hq; clear hq gr))
  try clear R17
  exact bodyPost_ret (results_cell_row' rfl _ _ _ _ _ _ _ rfl hr Tryd.underlying32 rfl (by kernel_rfl)) rfl ⟨rfl, bel⟩
end Go.Proofs.YtdfobilagidmfaaDoor
