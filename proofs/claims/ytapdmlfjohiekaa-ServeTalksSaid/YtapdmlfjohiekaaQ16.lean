/- Texts put together: Cg5, Sv5, Svf, Svg, Law15, Law15b. -/
import Derived.Test.YtapdmlfjohiekaaQ1
import Derived.Test.YtapdmlfjohiekaaQ11
import Derived.Test.YtapdmlfjohiekaaQ13
import Derived.Test.YtapdmlfjohiekaaQ15
import Derived.LoopN
import Derived.Deep.Cut
namespace Go.Proofs.Ytapdmlfjohiekaa
open Go.RowKit

def Ad4.ofN (n : Nat) : Ad4 := ⟨UInt8.ofNat (n / 16777216), UInt8.ofNat (n / 65536 % 256), UInt8.ofNat (n / 256 % 256), UInt8.ofNat (n % 256)⟩
theorem Ad4.ofN_num {n : Nat} (h : n < 4294967296) : (Ad4.ofN n).num = n := by
  unfold Ad4.num Ad4.ofN
  rw [be_abcd]
  simp only [UInt8.toNat_ofNat']
  omega
theorem adr_ofN {n : Nat} (h : n < 4294967296) : adr n = .agg #[.int .u8 ((Ad4.ofN n).a.toNat : Int), .int .u8 ((Ad4.ofN n).b.toNat : Int), .int .u8 ((Ad4.ofN n).c.toNat : Int), .int .u8 ((Ad4.ofN n).d.toNat : Int)] := by rw [← Ad4.cells, Ad4.ofN_num h]
theorem aof_l (n : Nat) (w : World) (hn : n < 4294967296) : Calls Try.prog 39 #[.int .u32 (n : Int)] w fun e w' => e = .returned (.agg #[.int .u8 ((Ad4.ofN n).a.toNat : Int), .int .u8 ((Ad4.ofN n).b.toNat : Int), .int .u8 ((Ad4.ofN n).c.toNat : Int), .int .u8 ((Ad4.ofN n).d.toNat : Int)]) ∧ Below w.heap.size w w' := by
  refine (aof_any n w hn).mono ?_
  rintro e w' ⟨rfl, bel⟩
  exact ⟨by rw [adr_ofN hn], bel⟩
theorem anum_adr (n : Nat) (w : World) (hn : n < 4294967296) : Calls Try.prog 36 #[adr n] w fun e w' => e = .returned (.int .u32 (n : Int)) ∧ Below w.heap.size w w' := by
  rw [adr_ofN hn]
  refine (anum_any _ _ _ _ w).mono ?_
  rintro e w' ⟨rfl, bel⟩
  refine ⟨?_, bel⟩
  rw [show be [(Ad4.ofN n).a, (Ad4.ofN n).b, (Ad4.ofN n).c, (Ad4.ofN n).d] = (Ad4.ofN n).num from rfl, Ad4.ofN_num hn]
theorem u32_wrap (x : Int) : IntKind.u32.wrap x = x % 4294967296 := rfl
/-- The pool's ends that no lines tell. -/
def poolAn (n : Ad4) (bt : Int) : Nat := if bt ≤ 24 then (fN n bt + 100) % 4294967296 else (fN n bt + 2) % 4294967296
def poolZn (n : Ad4) (bt : Int) : Nat := if bt ≤ 24 then (fN n bt + 131) % 4294967296 else (fN n bt + min 33 ((lN n bt + 4294967296 - fN n bt - 1) % 4294967296)) % 4294967296
def poolA (n : Ad4) (bt : Int) : Ad4 := Ad4.ofN (poolAn n bt)
def poolZ (n : Ad4) (bt : Int) : Ad4 := Ad4.ofN (poolZn n bt)
theorem fN_le_lN (n : Ad4) (bt : Int) : fN n bt ≤ lN n bt := by unfold fN lN firstN lastN; exact Nat.le_add_right _ _
theorem min_u32 {P : Program} (D M : Nat) (h : min 33 D = M) (W : World) (ts : Array TypeId) (t : TypeId) : (Builtin.min_ ts t #[.int .u32 33, .int .u32 (D : Int)]).run P W = .ok (.int .u32 (M : Int)) W := by
  rw [run_min_int2]
  subst h
  split
  · rw [Nat.min_eq_right (by omega)]
  · rw [Nat.min_eq_left (by omega)]; rfl
set_option linter.unusedVariables false in
set_option linter.unusedSimpArgs false in
set_option maxRecDepth 100000 in
set_option maxHeartbeats 16000000 in
theorem usualPool_any (n : Ad4) (bt : Int) (w : World) : Calls Try.prog 19 #[.agg #[.int .u8 (n.a.toNat : Int), .int .u8 (n.b.toNat : Int), .int .u8 (n.c.toNat : Int), .int .u8 (n.d.toNat : Int), .int .i64 bt]] w fun e w' => e = .returned (.tuple #[.agg #[.int .u8 ((poolA n bt).a.toNat : Int), .int .u8 ((poolA n bt).b.toNat : Int), .int .u8 ((poolA n bt).c.toNat : Int), .int .u8 ((poolA n bt).d.toNat : Int)], .agg #[.int .u8 ((poolZ n bt).a.toNat : Int), .int .u8 ((poolZ n bt).b.toNat : Int), .int .u8 ((poolZ n bt).c.toNat : Int), .int .u8 ((poolZ n bt).d.toNat : Int)]]) ∧ Below w.heap.size w w' := by
  have bel := Below.refl w.heap.size w
  go_enter Try.func19, Try.ntmps19
  go_wp2_with (first | ((with_reducible show wpList _ _ _ (⟨some 1, _, _, _, _, _⟩ :: _) _ _); refine wpList_box_n rfl 30 (.tmp 0) rfl #[.int .u8 (n.a.toNat : Int), .int .u8 (n.b.toNat : Int), .int .u8 (n.c.toNat : Int), .int .u8 (n.d.toNat : Int), .int .i64 bt] rfl ?_; intro g1 w1 ge lt hh bb; have op := Nat.le_trans bel.size ge; replace bel := bel.trans (bb.mono bel.size); have hp := hh; clear hh lt ge bb) | ((with_reducible show wpList _ _ _ (⟨some 2, _, _, _, _, _⟩ :: _) _ _); refine wpList_new_a rfl 28 rfl #[.int .u8 0, .int .u8 0, .int .u8 0, .int .u8 0] (by kernel_rfl) ?_; intro g2 w2 ge hh bb; have d_p_a := ne_new (hlt hp) ge; have oa := Nat.le_trans bel.size ge; replace hp := blk_u hp bb; replace bel := bel.trans (bb.mono bel.size); have ha := hh; clear hh ge bb) | ((with_reducible show wpList _ _ _ (⟨some 3, _, _, _, _, _⟩ :: _) _ _); refine wpList_new_a rfl 28 rfl #[.int .u8 0, .int .u8 0, .int .u8 0, .int .u8 0] (by kernel_rfl) ?_; intro g3 w3 ge hh bb; have d_p_z := ne_new (hlt hp) ge; have d_a_z := ne_new (hlt ha) ge; have oz := Nat.le_trans bel.size ge; replace hp := blk_u hp bb; replace ha := blk_u ha bb; replace bel := bel.trans (bb.mono bel.size); have hz := hh; clear hh ge bb))
  replace bel := bel.drew
  replace hp : w3.drew.heap[g1]? = _ := hp
  replace ha : w3.drew.heap[g2]? = _ := ha
  replace hz : w3.drew.heap[g3]? = _ := hz
  refine wp_region_held_drew (S := fun W => W.heap[g1]? = some (.cells #[.int .u8 (n.a.toNat : Int), .int .u8 (n.b.toNat : Int), .int .u8 (n.c.toNat : Int), .int .u8 (n.d.toNat : Int), .int .i64 bt] 30 (0, 0))) (by kernel_rfl) hp (fun hH => ?_)
  generalize w3.drew = w4 at bel hp ha hz hH ⊢
  refine wpAnyH_take (i := 0) (v := .agg #[.int .u8 (n.a.toNat : Int), .int .u8 (n.b.toNat : Int), .int .u8 (n.c.toNat : Int), .int .u8 (n.d.toNat : Int), .int .i64 bt]) rfl (by kernel_rfl) (by kernel_rfl) (by kernel_rfl) (fun _ _ _ h => h) (yieldsIf_load_part (by kernel_rfl) 30 _ rfl g1 0 5 rfl _ 30 (0, 0) (fun W hW => hW) _ rfl _ Try.underlying30 rfl (by kernel_rfl)) hH ?_
  simp only [Act.put, List.getElem_toArray, List.getElem_cons_zero, List.setIfInBounds_toArray, List.set_cons_zero, List.set_cons_succ]
  refine wpAnyH_take (i := 3) (v := .agg #[.int .u8 (n.a.toNat : Int), .int .u8 (n.b.toNat : Int), .int .u8 (n.c.toNat : Int), .int .u8 (n.d.toNat : Int), .int .i64 bt]) rfl (by kernel_rfl) (by kernel_rfl) (by kernel_rfl) (fun _ _ _ h => h) (yieldsIf_load_part (by kernel_rfl) 30 _ rfl g1 0 5 rfl _ 30 (0, 0) (fun W hW => hW) _ rfl _ Try.underlying30 rfl (by kernel_rfl)) hH ?_
  simp only [sq3, sq4]
  refine wpAnyH_ready (rs := [1]) (by kernel_rfl) (by simp) ?_
  refine AllReadyH.cons (o := _) rfl (fun K hK => ?_) AllReadyH.nil
  simp only [sq3]
  go_simp
  with_reducible refine (afirst_any _ _ _ _ _ _).mono ?_
  rintro e w5 ⟨rfl, b5⟩
  dsimp only
  replace hp := blk_u hp b5
  replace ha := blk_u ha b5
  replace hz := blk_u hz b5
  replace bel := bel.trans (b5.mono bel.size)
  clear b5
  rw [show firstN (be [n.a, n.b, n.c, n.d]) (clamp bt) = fN n bt from rfl]
  refine hK.out _ _ hp (fun hH6 => ?_)
  clear hK K
  refine wpAnyH_ready (rs := [2]) (by kernel_rfl) (by simp) ?_
  refine AllReadyH.cons (o := _) rfl (fun K hK => ?_) AllReadyH.nil
  simp only [sq3]
  go_simp
  with_reducible refine (anum_adr (fN n bt) _ (fN_lt _ _)).mono ?_
  rintro e w7 ⟨rfl, b7⟩
  dsimp only
  replace hp := blk_u hp b7
  replace ha := blk_u ha b7
  replace hz := blk_u hz b7
  replace bel := bel.trans (b7.mono bel.size)
  clear b7
  refine hK.out _ _ hp (fun hH8 => ?_)
  clear hK K
  refine wpAnyH_ready (rs := [4]) (by kernel_rfl) (by simp) ?_
  refine AllReadyH.cons (o := _) rfl (fun K hK => ?_) AllReadyH.nil
  simp only [sq3]
  go_simp
  with_reducible refine (alast_any _ _ _ _ _ _).mono ?_
  rintro e w9 ⟨rfl, b9⟩
  dsimp only
  replace hp := blk_u hp b9
  replace ha := blk_u ha b9
  replace hz := blk_u hz b9
  replace bel := bel.trans (b9.mono bel.size)
  clear b9
  rw [show lastN (be [n.a, n.b, n.c, n.d]) (clamp bt) = lN n bt from rfl]
  refine hK.out _ _ hp (fun hH10 => ?_)
  clear hK K
  refine wpAnyH_ready (rs := [5]) (by kernel_rfl) (by simp) ?_
  refine AllReadyH.cons (o := _) rfl (fun K hK => ?_) AllReadyH.nil
  simp only [sq3]
  go_simp
  with_reducible refine (anum_adr (lN n bt) _ (lN_lt _ _)).mono ?_
  rintro e w11 ⟨rfl, b11⟩
  dsimp only
  replace hp := blk_u hp b11
  replace ha := blk_u ha b11
  replace hz := blk_u hz b11
  replace bel := bel.trans (b11.mono bel.size)
  clear b11
  refine hK.out _ _ hp (fun hH12 => ?_)
  clear hK K
  refine wpAnyH_take (i := 6) (v := ?_) rfl (by kernel_rfl) (by kernel_rfl) (by kernel_rfl) (fun _ _ _ h => h) (Or.inl ⟨by rfl, ?_⟩) hH12 ?_
  rotate_left
  · ((intro W hW; clear hW; go_simp) <;> with_reducible rfl)
  simp only [sq3, sq4]
  refine wpAnyH_take (i := 7) (v := ?_) rfl (by kernel_rfl) (by kernel_rfl) (by kernel_rfl) (fun _ _ _ h => h) (Or.inl ⟨by rfl, ?_⟩) hH12 ?_
  rotate_left
  · ((intro W hW; clear hW; go_simp) <;> with_reducible rfl)
  simp only [sq3, sq4]
  by_cases hb : bt ≤ 24
  · obtain ⟨ka, hka⟩ : ∃ k, (fN n bt + 100) % 4294967296 = k := ⟨_, rfl⟩
    obtain ⟨kz, hkz⟩ : ∃ k, (fN n bt + 131) % 4294967296 = k := ⟨_, rfl⟩
    have HPA : Hid (poolA n bt = Ad4.ofN ka) := Lib.hid (by unfold poolA poolAn; rw [if_pos hb, hka])
    have HPZ : Hid (poolZ n bt = Ad4.ofN kz) := Lib.hid (by unfold poolZ poolZn; rw [if_pos hb, hkz])
    have hka2 : ka < 4294967296 := by omega
    have hkz2 : kz < 4294967296 := by omega
    have wa : IntKind.u32.wrap ((fN n bt : Int) + 100) = (ka : Int) := by rw [u32_wrap]; omega
    have wz : IntKind.u32.wrap ((fN n bt : Int) + 131) = (kz : Int) := by rw [u32_wrap]; omega
    clear hka hkz
    refine wpAnyH_done (by kernel_rfl) ?_ _
    have R13 := cell_lit hp 4 _ rfl
    go_wp2_with fail
    clear R13
    with_reducible refine (aof_l ka _ hka2).mono ?_
    rintro e w13 ⟨rfl, b13⟩
    replace hp := blk_u hp b13
    replace ha := blk_u ha b13
    replace hz := blk_u hz b13
    replace bel := bel.trans (b13.mono bel.size)
    clear b13
    go_wp2_with fail
    with_reducible refine (aof_l kz _ hkz2).mono ?_
    rintro e w14 ⟨rfl, b14⟩
    replace hp := blk_u hp b14
    replace ha := blk_u ha b14
    replace hz := blk_u hz b14
    replace bel := bel.trans (b14.mono bel.size)
    clear b14
    go_wp2_with (first | ((with_reducible show wpList _ _ _ (⟨none, Op.store _ (.tmp 2) _, _, _, _, _⟩ :: _) _ _); refine wpList_store_blk rfl 28 (.tmp 2) (.tmp 17) rfl g2 rfl _ rfl _ 28 ha (by rfl) (by kernel_rfl) (by kernel_rfl) ?_; intro w15 hq gr; replace hp := blk_a hp gr d_p_a; replace hz := blk_a hz gr (ne_symm d_a_z); replace bel := below_grown bel gr oa bel.size; clear ha; have ha := hq; clear hq gr) | ((with_reducible show wpList _ _ _ (⟨none, Op.store _ (.tmp 3) _, _, _, _, _⟩ :: _) _ _); refine wpList_store_blk rfl 28 (.tmp 3) (.tmp 20) rfl g3 rfl _ rfl _ 28 hz (by rfl) (by kernel_rfl) (by kernel_rfl) ?_; intro w16 hq gr; replace hp := blk_a hp gr d_p_z; replace ha := blk_a ha gr d_a_z; replace bel := below_grown bel gr oz bel.size; clear hz; have hz := hq; clear hq gr))
    exact bodyPost_ret (results_cell2_row rfl _ _ _ _ _ _ _ _ _ _ _ _ rfl ha Try.underlying28 rfl (by kernel_rfl) rfl hz Try.underlying28 rfl (by kernel_rfl)) rfl ⟨by rw [HPA.out, HPZ.out], bel⟩
  · obtain ⟨ka, hka⟩ : ∃ k, (fN n bt + 2) % 4294967296 = k := ⟨_, rfl⟩
    obtain ⟨D, hD⟩ : ∃ k, lN n bt - fN n bt = k := ⟨_, rfl⟩
    obtain ⟨E, hE⟩ : ∃ k, (lN n bt + 4294967296 - fN n bt - 1) % 4294967296 = k := ⟨_, rfl⟩
    obtain ⟨M, hM⟩ : ∃ k, min 33 E = k := ⟨_, rfl⟩
    obtain ⟨kz, hkz⟩ : ∃ k, (fN n bt + M) % 4294967296 = k := ⟨_, rfl⟩
    have hb2 : decide (bt ≤ 24) = false := decide_eq_false hb
    have HPA : Hid (poolA n bt = Ad4.ofN ka) := Lib.hid (by unfold poolA poolAn; rw [if_neg hb, hka])
    have HPZ : Hid (poolZ n bt = Ad4.ofN kz) := Lib.hid (by unfold poolZ poolZn; rw [if_neg hb, hE, hM, hkz])
    have hka2 : ka < 4294967296 := by omega
    have hkz2 : kz < 4294967296 := by omega
    have hle := fN_le_lN n bt
    have hl1 := lN_lt n bt
    have wa : IntKind.u32.wrap ((fN n bt : Int) + 2) = (ka : Int) := by rw [u32_wrap]; omega
    have wd : IntKind.u32.wrap ((lN n bt : Int) - (fN n bt : Int)) = (D : Int) := by rw [u32_wrap]; omega
    have we : IntKind.u32.wrap ((D : Int) - 1) = (E : Int) := by rw [u32_wrap]; omega
    have wm := fun W ts t => min_u32 (P := Try.prog) E M hM W ts t
    have wz : IntKind.u32.wrap ((fN n bt : Int) + (M : Int)) = (kz : Int) := by rw [u32_wrap]; omega
    clear hka hkz hD hE hM hle hl1 hb
    refine wpAnyH_done (by kernel_rfl) ?_ _
    have R13 := cell_lit hp 4 _ rfl
    go_wp2_with fail
    clear R13
    with_reducible refine (aof_l ka _ hka2).mono ?_
    rintro e w13 ⟨rfl, b13⟩
    replace hp := blk_u hp b13
    replace ha := blk_u ha b13
    replace hz := blk_u hz b13
    replace bel := bel.trans (b13.mono bel.size)
    clear b13
    go_wp2_with fail
    with_reducible refine (aof_l kz _ hkz2).mono ?_
    rintro e w14 ⟨rfl, b14⟩
    replace hp := blk_u hp b14
    replace ha := blk_u ha b14
    replace hz := blk_u hz b14
    replace bel := bel.trans (b14.mono bel.size)
    clear b14
    go_wp2_with (first | ((with_reducible show wpList _ _ _ (⟨none, Op.store _ (.tmp 2) _, _, _, _, _⟩ :: _) _ _); refine wpList_store_blk rfl 28 (.tmp 2) (.tmp 23) rfl g2 rfl _ rfl _ 28 ha (by rfl) (by kernel_rfl) (by kernel_rfl) ?_; intro w15 hq gr; replace hp := blk_a hp gr d_p_a; replace hz := blk_a hz gr (ne_symm d_a_z); replace bel := below_grown bel gr oa bel.size; clear ha; have ha := hq; clear hq gr) | ((with_reducible show wpList _ _ _ (⟨none, Op.store _ (.tmp 3) _, _, _, _, _⟩ :: _) _ _); refine wpList_store_blk rfl 28 (.tmp 3) (.tmp 31) rfl g3 rfl _ rfl _ 28 hz (by rfl) (by kernel_rfl) (by kernel_rfl) ?_; intro w16 hq gr; replace hp := blk_a hp gr d_p_z; replace ha := blk_a ha gr d_a_z; replace bel := below_grown bel gr oz bel.size; clear hz; have hz := hq; clear hq gr))
    exact bodyPost_ret (results_cell2_row rfl _ _ _ _ _ _ _ _ _ _ _ _ rfl ha Try.underlying28 rfl (by kernel_rfl) rfl hz Try.underlying28 rfl (by kernel_rfl)) rfl ⟨by rw [HPA.out, HPZ.out], bel⟩
theorem usualPool_lit (w : World) : Calls Try.prog 19 #[.agg #[.int .u8 192, .int .u8 168, .int .u8 1, .int .u8 0, .int .i64 24]] w fun e w' => e = .returned (.tuple #[.agg #[.int .u8 192, .int .u8 168, .int .u8 1, .int .u8 100], .agg #[.int .u8 192, .int .u8 168, .int .u8 1, .int .u8 131]]) ∧ Below w.heap.size w w' := by
  refine (usualPool_any ⟨192, 168, 1, 0⟩ 24 w).mono ?_
  rintro e w' ⟨rfl, bel⟩
  refine ⟨?_, bel⟩
  rw [show poolA ⟨192, 168, 1, 0⟩ 24 = ⟨192, 168, 1, 100⟩ by kernel_rfl, show poolZ ⟨192, 168, 1, 0⟩ 24 = ⟨192, 168, 1, 131⟩ by kernel_rfl]
  rfl
/-- The configuration of the empty text. -/
def usualC : Cf := ⟨⟨192, 168, 1, 1⟩, ⟨192, 168, 1, 0⟩, 24, ⟨2, 0, 0, 0, 0, 1⟩, ⟨2, 0, 0, 0, 0, 2⟩, ⟨192, 168, 1, 100⟩, ⟨192, 168, 1, 131⟩, 3600, ⟨9, 9, 9, 9⟩, 120, 7200, 30, 40000, [], []⟩
set_option linter.unusedVariables false in
set_option linter.unusedSimpArgs false in
set_option maxRecDepth 100000 in
set_option maxHeartbeats 16000000 in
theorem cusual_any (w : World) : Calls Try.prog 9 #[] w fun e w' => e = .returned (.agg #[.int .u8 192, .int .u8 168, .int .u8 1, .int .u8 1, .int .u8 192, .int .u8 168, .int .u8 1, .int .u8 0, .int .i64 24, .int .u8 2, .int .u8 0, .int .u8 0, .int .u8 0, .int .u8 0, .int .u8 1, .int .u8 2, .int .u8 0, .int .u8 0, .int .u8 0, .int .u8 0, .int .u8 2, .int .u8 192, .int .u8 168, .int .u8 1, .int .u8 100, .int .u8 192, .int .u8 168, .int .u8 1, .int .u8 131, .int .i64 3600, .int .u8 9, .int .u8 9, .int .u8 9, .int .u8 9, .int .i64 120, .int .i64 7200, .int .i64 30, .int .i64 40000, .slice none 0 0, .slice none 0 0]) ∧ Below w.heap.size w w' := by
  have bel := Below.refl w.heap.size w
  go_enter Try.func9, Try.ntmps9
  go_wp2_with (first | ((with_reducible show wpList _ _ _ (⟨some 0, _, _, _, _, _⟩ :: _) _ _); refine wpList_new_a rfl 36 rfl #[.int .u8 0, .int .u8 0, .int .u8 0, .int .u8 0, .int .u8 0, .int .u8 0, .int .u8 0, .int .u8 0, .int .i64 0, .int .u8 0, .int .u8 0, .int .u8 0, .int .u8 0, .int .u8 0, .int .u8 0, .int .u8 0, .int .u8 0, .int .u8 0, .int .u8 0, .int .u8 0, .int .u8 0, .int .u8 0, .int .u8 0, .int .u8 0, .int .u8 0, .int .u8 0, .int .u8 0, .int .u8 0, .int .u8 0, .int .i64 0, .int .u8 0, .int .u8 0, .int .u8 0, .int .u8 0, .int .i64 0, .int .i64 0, .int .i64 0, .int .i64 0, .slice none 0 0, .slice none 0 0] (by kernel_rfl) ?_; intro g0 w1 ge hh bb; have or := Nat.le_trans bel.size ge; replace bel := bel.trans (bb.mono bel.size); have hr := hh; clear hh ge bb) | ((with_reducible show wpList _ _ _ (⟨some 1, _, _, _, _, _⟩ :: _) _ _); refine wpList_new_a rfl 36 rfl #[.int .u8 0, .int .u8 0, .int .u8 0, .int .u8 0, .int .u8 0, .int .u8 0, .int .u8 0, .int .u8 0, .int .i64 0, .int .u8 0, .int .u8 0, .int .u8 0, .int .u8 0, .int .u8 0, .int .u8 0, .int .u8 0, .int .u8 0, .int .u8 0, .int .u8 0, .int .u8 0, .int .u8 0, .int .u8 0, .int .u8 0, .int .u8 0, .int .u8 0, .int .u8 0, .int .u8 0, .int .u8 0, .int .u8 0, .int .i64 0, .int .u8 0, .int .u8 0, .int .u8 0, .int .u8 0, .int .i64 0, .int .i64 0, .int .i64 0, .int .i64 0, .slice none 0 0, .slice none 0 0] (by kernel_rfl) ?_; intro g1 w2 ge hh bb; have d_r_c := ne_new (hlt hr) ge; have oc := Nat.le_trans bel.size ge; replace hr := blk_u hr bb; replace bel := bel.trans (bb.mono bel.size); have hc := hh; clear hh ge bb) | ((with_reducible show wpList _ _ _ (⟨none, Op.store _ (.tmp 1) _, _, _, _, _⟩ :: _) _ _); refine wpList_store_blk rfl 36 (.tmp 1) (.tmp 8) rfl g1 rfl _ rfl _ 36 hc (by rfl) (by kernel_rfl) (by kernel_rfl) ?_; intro w3 hq gr; replace hr := blk_a hr gr d_r_c; replace bel := below_grown bel gr oc bel.size; clear hc; have hc := hq; clear hq gr; have R11 := Lib.hid (range_lit hc 4 5 [.int .u8 192, .int .u8 168, .int .u8 1, .int .u8 0, .int .i64 24] rfl)) | ((with_reducible show wpList _ _ _ (⟨some 11, _, _, _, _, _⟩ :: _) _ _); refine wpList_load_rng 30 (.tmp 10) rfl (by kernel_rfl) _ _ rfl _ R11.out _ Try.underlying30 rfl (by kernel_rfl) ?_))
  try clear R11
  with_reducible refine (usualPool_lit _).mono ?_
  rintro e w4 ⟨rfl, b4⟩
  replace hr := blk_u hr b4
  replace hc := blk_u hc b4
  replace bel := bel.trans (b4.mono bel.size)
  clear b4
  go_wp2_with (first | ((with_reducible show wpList _ _ _ (⟨none, Op.store _ (.tmp 15) _, _, _, _, _⟩ :: _) _ _); refine wpList_store_part rfl 28 (.tmp 15) (.tmp 13) rfl g1 21 rfl [.int .u8 192, .int .u8 168, .int .u8 1, .int .u8 100] rfl [.int .u8 192, .int .u8 168, .int .u8 1, .int .u8 1, .int .u8 192, .int .u8 168, .int .u8 1, .int .u8 0, .int .i64 24, .int .u8 2, .int .u8 0, .int .u8 0, .int .u8 0, .int .u8 0, .int .u8 1, .int .u8 2, .int .u8 0, .int .u8 0, .int .u8 0, .int .u8 0, .int .u8 2, .int .u8 0, .int .u8 0, .int .u8 0, .int .u8 0, .int .u8 0, .int .u8 0, .int .u8 0, .int .u8 0, .int .i64 3600, .int .u8 9, .int .u8 9, .int .u8 9, .int .u8 9, .int .i64 120, .int .i64 7200, .int .i64 30, .int .i64 40000, .slice none 0 0, .slice none 0 0] 36 hc (by simp) [.int .u8 192, .int .u8 168, .int .u8 1, .int .u8 1, .int .u8 192, .int .u8 168, .int .u8 1, .int .u8 0, .int .i64 24, .int .u8 2, .int .u8 0, .int .u8 0, .int .u8 0, .int .u8 0, .int .u8 1, .int .u8 2, .int .u8 0, .int .u8 0, .int .u8 0, .int .u8 0, .int .u8 2, .int .u8 192, .int .u8 168, .int .u8 1, .int .u8 100, .int .u8 0, .int .u8 0, .int .u8 0, .int .u8 0, .int .i64 3600, .int .u8 9, .int .u8 9, .int .u8 9, .int .u8 9, .int .i64 120, .int .i64 7200, .int .i64 30, .int .i64 40000, .slice none 0 0, .slice none 0 0] rfl (by kernel_rfl) (by rfl) ?_; intro w5 hq gr; replace hr := blk_a hr gr d_r_c; replace bel := below_grown bel gr oc bel.size; clear hc; have hc := hq; clear hq gr) | ((with_reducible show wpList _ _ _ (⟨none, Op.store _ (.tmp 16) _, _, _, _, _⟩ :: _) _ _); refine wpList_store_part rfl 28 (.tmp 16) (.tmp 14) rfl g1 25 rfl [.int .u8 192, .int .u8 168, .int .u8 1, .int .u8 131] rfl [.int .u8 192, .int .u8 168, .int .u8 1, .int .u8 1, .int .u8 192, .int .u8 168, .int .u8 1, .int .u8 0, .int .i64 24, .int .u8 2, .int .u8 0, .int .u8 0, .int .u8 0, .int .u8 0, .int .u8 1, .int .u8 2, .int .u8 0, .int .u8 0, .int .u8 0, .int .u8 0, .int .u8 2, .int .u8 192, .int .u8 168, .int .u8 1, .int .u8 100, .int .u8 0, .int .u8 0, .int .u8 0, .int .u8 0, .int .i64 3600, .int .u8 9, .int .u8 9, .int .u8 9, .int .u8 9, .int .i64 120, .int .i64 7200, .int .i64 30, .int .i64 40000, .slice none 0 0, .slice none 0 0] 36 hc (by simp) [.int .u8 192, .int .u8 168, .int .u8 1, .int .u8 1, .int .u8 192, .int .u8 168, .int .u8 1, .int .u8 0, .int .i64 24, .int .u8 2, .int .u8 0, .int .u8 0, .int .u8 0, .int .u8 0, .int .u8 1, .int .u8 2, .int .u8 0, .int .u8 0, .int .u8 0, .int .u8 0, .int .u8 2, .int .u8 192, .int .u8 168, .int .u8 1, .int .u8 100, .int .u8 192, .int .u8 168, .int .u8 1, .int .u8 131, .int .i64 3600, .int .u8 9, .int .u8 9, .int .u8 9, .int .u8 9, .int .i64 120, .int .i64 7200, .int .i64 30, .int .i64 40000, .slice none 0 0, .slice none 0 0] rfl (by kernel_rfl) (by rfl) ?_; intro w6 hq gr; replace hr := blk_a hr gr d_r_c; replace bel := below_grown bel gr oc bel.size; clear hc; have hc := hq; clear hq gr; have R17 := Lib.hid (range_lit hc 0 40 [.int .u8 192, .int .u8 168, .int .u8 1, .int .u8 1, .int .u8 192, .int .u8 168, .int .u8 1, .int .u8 0, .int .i64 24, .int .u8 2, .int .u8 0, .int .u8 0, .int .u8 0, .int .u8 0, .int .u8 1, .int .u8 2, .int .u8 0, .int .u8 0, .int .u8 0, .int .u8 0, .int .u8 2, .int .u8 192, .int .u8 168, .int .u8 1, .int .u8 100, .int .u8 192, .int .u8 168, .int .u8 1, .int .u8 131, .int .i64 3600, .int .u8 9, .int .u8 9, .int .u8 9, .int .u8 9, .int .i64 120, .int .i64 7200, .int .i64 30, .int .i64 40000, .slice none 0 0, .slice none 0 0] rfl)) | ((with_reducible show wpList _ _ _ (⟨some 17, _, _, _, _, _⟩ :: _) _ _); refine wpList_load_rng 36 (.tmp 1) rfl (by kernel_rfl) _ _ rfl _ R17.out _ Try.underlying36 rfl (by kernel_rfl) ?_) | ((with_reducible show wpList _ _ _ (⟨none, Op.store _ (.tmp 0) _, _, _, _, _⟩ :: _) _ _); refine wpList_store_blk rfl 36 (.tmp 0) (.tmp 17) rfl g0 rfl _ rfl _ 36 hr (by rfl) (by kernel_rfl) (by kernel_rfl) ?_; intro w7 hq gr; replace hc := blk_a hc gr (ne_symm d_r_c); replace bel := below_grown bel gr or bel.size; clear hr; have hr := hq; clear hq gr))
  try clear R17
  exact bodyPost_ret (results_cell_row' rfl _ _ _ _ _ _ _ rfl hr Try.underlying36 rfl (by kernel_rfl)) rfl ⟨rfl, bel⟩
open Go.RowKit

theorem ccheck_us (w : World) : Calls Try.prog 17 #[.agg #[.int .u8 192, .int .u8 168, .int .u8 1, .int .u8 1, .int .u8 192, .int .u8 168, .int .u8 1, .int .u8 0, .int .i64 24, .int .u8 2, .int .u8 0, .int .u8 0, .int .u8 0, .int .u8 0, .int .u8 1, .int .u8 2, .int .u8 0, .int .u8 0, .int .u8 0, .int .u8 0, .int .u8 2, .int .u8 192, .int .u8 168, .int .u8 1, .int .u8 100, .int .u8 192, .int .u8 168, .int .u8 1, .int .u8 131, .int .i64 3600, .int .u8 9, .int .u8 9, .int .u8 9, .int .u8 9, .int .i64 120, .int .i64 7200, .int .i64 30, .int .i64 40000, .slice none 0 0, .slice none 0 0]] w fun e w' => e = .returned (.int .i64 0) ∧ Below w.heap.size w w' := by
  have h := ccheck_any usualC none 0 0 none 0 0 w (Sle.nil (f := fxf) (k := 10) (by decide) (fun _ => rfl) w) (Sle.nil (f := opf) (k := 7) (by decide) (fun _ => rfl) w)
  rw [show errC usualC.check = 0 by kernel_rfl] at h
  exact h
def lA (k : Int) : Ad4 := ⟨192, 168, 1, byteOf k⟩
/-- The pool of the usual configuration. -/
def uS0 : St := ⟨0, [], newL [] (lA 100).num ((lA 131).num - (lA 100).num + 1)⟩
theorem pnew_us (w : World) : Calls Try.prog 18 #[.agg #[.int .u8 192, .int .u8 168, .int .u8 1, .int .u8 100], .agg #[.int .u8 192, .int .u8 168, .int .u8 1, .int .u8 131], .slice none 0 0] w fun e w' => ∃ gt, e = .returned (.tuple #[.pointer (some ⟨gt, 0, none⟩), .int .i64 0]) ∧ Pl w.heap.size gt w' uS0 ∧ Below w.heap.size w w' :=
  pnew_nil (x := lA 100) (y := lA 131) w (by decide) (by decide)
set_option linter.unusedVariables false in
set_option linter.unusedSimpArgs false in
set_option maxRecDepth 100000 in
set_option maxHeartbeats 16000000 in
theorem snew_us (w : World) : Calls Try.prog 8 #[.agg #[.int .u8 192, .int .u8 168, .int .u8 1, .int .u8 1, .int .u8 192, .int .u8 168, .int .u8 1, .int .u8 0, .int .i64 24, .int .u8 2, .int .u8 0, .int .u8 0, .int .u8 0, .int .u8 0, .int .u8 1, .int .u8 2, .int .u8 0, .int .u8 0, .int .u8 0, .int .u8 0, .int .u8 2, .int .u8 192, .int .u8 168, .int .u8 1, .int .u8 100, .int .u8 192, .int .u8 168, .int .u8 1, .int .u8 131, .int .i64 3600, .int .u8 9, .int .u8 9, .int .u8 9, .int .u8 9, .int .i64 120, .int .i64 7200, .int .i64 30, .int .i64 40000, .slice none 0 0, .slice none 0 0]] w fun e w' => ∃ gs gp, e = .returned (.tuple #[.pointer (some ⟨gs, 0, none⟩), .int .i64 0]) ∧ Sv w.heap.size gs gp w' ⟨⟨192, 168, 1, 1⟩, 4294967040, 3600⟩ uS0 ∧ Below w.heap.size w w' := by
  have SH_ : ∀ W, (Op.shift BinOp.shl IntKind.u32 4294967295 IntKind.i64 (IntKind.i64.wrap 8)).run Try.prog W = .ok (.int .u32 4294967040) W := fun W => by kernel_rfl
  have bel := Below.refl w.heap.size w
  go_enter Try.func8, Try.ntmps8
  go_wp2_with (first | ((with_reducible show wpList _ _ _ (⟨some 1, _, _, _, _, _⟩ :: _) _ _); refine wpList_box_n rfl 36 (.tmp 0) rfl #[.int .u8 192, .int .u8 168, .int .u8 1, .int .u8 1, .int .u8 192, .int .u8 168, .int .u8 1, .int .u8 0, .int .i64 24, .int .u8 2, .int .u8 0, .int .u8 0, .int .u8 0, .int .u8 0, .int .u8 1, .int .u8 2, .int .u8 0, .int .u8 0, .int .u8 0, .int .u8 0, .int .u8 2, .int .u8 192, .int .u8 168, .int .u8 1, .int .u8 100, .int .u8 192, .int .u8 168, .int .u8 1, .int .u8 131, .int .i64 3600, .int .u8 9, .int .u8 9, .int .u8 9, .int .u8 9, .int .i64 120, .int .i64 7200, .int .i64 30, .int .i64 40000, .slice none 0 0, .slice none 0 0] rfl ?_; intro g1 w1 ge lt hh bb; have ocb := Nat.le_trans bel.size ge; replace bel := bel.trans (bb.mono bel.size); have hcb := hh; clear hh lt ge bb; have R11 := Lib.hid (range_lit hcb 0 40 [.int .u8 192, .int .u8 168, .int .u8 1, .int .u8 1, .int .u8 192, .int .u8 168, .int .u8 1, .int .u8 0, .int .i64 24, .int .u8 2, .int .u8 0, .int .u8 0, .int .u8 0, .int .u8 0, .int .u8 1, .int .u8 2, .int .u8 0, .int .u8 0, .int .u8 0, .int .u8 0, .int .u8 2, .int .u8 192, .int .u8 168, .int .u8 1, .int .u8 100, .int .u8 192, .int .u8 168, .int .u8 1, .int .u8 131, .int .i64 3600, .int .u8 9, .int .u8 9, .int .u8 9, .int .u8 9, .int .i64 120, .int .i64 7200, .int .i64 30, .int .i64 40000, .slice none 0 0, .slice none 0 0] rfl)) | ((with_reducible show wpList _ _ _ (⟨some 11, _, _, _, _, _⟩ :: _) _ _); refine wpList_load_rng 36 (.tmp 1) rfl (by kernel_rfl) _ _ rfl _ R11.out _ Try.underlying36 rfl (by kernel_rfl) ?_))
  try clear R11
  with_reducible refine (ccheck_us _).mono ?_
  rintro e w2 ⟨rfl, b2⟩
  replace hcb := blk_u hcb b2
  replace bel := bel.trans (b2.mono bel.size)
  clear b2
  go_wp2_with fail
  replace bel := bel.drew
  replace hcb : w2.drew.heap[g1]? = _ := hcb
  refine wp_region_held_drew (S := fun W => W.heap[g1]? = some (.cells #[.int .u8 192, .int .u8 168, .int .u8 1, .int .u8 1, .int .u8 192, .int .u8 168, .int .u8 1, .int .u8 0, .int .i64 24, .int .u8 2, .int .u8 0, .int .u8 0, .int .u8 0, .int .u8 0, .int .u8 1, .int .u8 2, .int .u8 0, .int .u8 0, .int .u8 0, .int .u8 0, .int .u8 2, .int .u8 192, .int .u8 168, .int .u8 1, .int .u8 100, .int .u8 192, .int .u8 168, .int .u8 1, .int .u8 131, .int .i64 3600, .int .u8 9, .int .u8 9, .int .u8 9, .int .u8 9, .int .i64 120, .int .i64 7200, .int .i64 30, .int .i64 40000, .slice none 0 0, .slice none 0 0] 36 (0, 0))) (by kernel_rfl) hcb (fun hH => ?_)
  generalize w2.drew = w3 at bel hcb hH ⊢
  refine wpAnyH_take (i := 0) (v := ?_) rfl (by kernel_rfl) (by kernel_rfl) (by kernel_rfl) (fun _ _ _ h => h) (Or.inl ⟨by rfl, ?_⟩) hH ?_
  rotate_left
  · ((intro W hW; clear hW; go_simp) <;> with_reducible rfl)
  simp only [Act.put, List.getElem_toArray, List.getElem_cons_zero, List.setIfInBounds_toArray, List.set_cons_zero, List.set_cons_succ]
  refine wpAnyH_take (i := 1) (v := .agg #[.int .u8 192, .int .u8 168, .int .u8 1, .int .u8 1]) rfl (by kernel_rfl) (by kernel_rfl) (by kernel_rfl) (fun _ _ _ h => h) (yieldsIf_load_part (by kernel_rfl) 28 _ rfl g1 0 4 rfl _ 36 (0, 0) (fun W hW => hW) _ rfl _ Try.underlying28 rfl (by kernel_rfl)) hH ?_
  simp only [sq3, sq4]
  refine wpAnyH_take (i := 2) (v := ?_) rfl (by kernel_rfl) (by kernel_rfl) (by kernel_rfl) (fun _ _ _ h => h) (Or.inl ⟨by rfl, ?_⟩) hH ?_
  rotate_left
  · ((intro W hW; clear hW; go_simp) <;> with_reducible rfl)
  simp only [sq3, sq4]
  refine wpAnyH_take (i := 3) (v := ?_) rfl (by kernel_rfl) (by kernel_rfl) (by kernel_rfl) (fun _ _ _ h => h) (Or.inl ⟨by rfl, ?_⟩) hH ?_
  rotate_left
  · ((intro W hW; clear hW; go_simp) <;> with_reducible rfl)
  simp only [sq3, sq4]
  refine wpAnyH_take (i := 4) (v := ?_) rfl (by kernel_rfl) (by kernel_rfl) (by kernel_rfl) (fun _ _ _ h => h) (Or.inl ⟨by rfl, ?_⟩) hH ?_
  rotate_left
  · ((intro W hW; have hk := cell_lit (hW) 8 _ rfl; clear hW; go_simp) <;> with_reducible rfl)
  simp only [sq3, sq4]
  refine wpAnyH_take (i := 5) (v := ?_) rfl (by kernel_rfl) (by kernel_rfl) (by kernel_rfl) (fun _ _ _ h => h) (Or.inl ⟨by rfl, ?_⟩) hH ?_
  rotate_left
  · ((intro W hW; clear hW; go_simp) <;> with_reducible rfl)
  simp only [sq3, sq4]
  refine wpAnyH_take (i := 6) (v := ?_) rfl (by kernel_rfl) (by kernel_rfl) (by kernel_rfl) (fun _ _ _ h => h) (Or.inl ⟨by rfl, ?_⟩) hH ?_
  rotate_left
  · ((intro W hW; clear hW; go_simp) <;> with_reducible rfl)
  simp only [sq3, sq4]
  refine wpAnyH_take (i := 7) (v := ?_) rfl (by kernel_rfl) (by kernel_rfl) (by kernel_rfl) (fun _ _ _ h => h) (Or.inl ⟨by rfl, ?_⟩) hH ?_
  rotate_left
  · ((intro W hW; clear hW; go_simp) <;> with_reducible rfl)
  simp only [sq3, sq4]
  refine wpAnyH_take (i := 8) (v := ?_) rfl (by kernel_rfl) (by kernel_rfl) (by kernel_rfl) (fun _ _ _ h => h) (Or.inl ⟨by rfl, ?_⟩) hH ?_
  rotate_left
  · ((intro W hW; have hk := cell_lit (hW) 29 _ rfl; clear hW; go_simp) <;> with_reducible rfl)
  simp only [sq3, sq4]
  refine wpAnyH_take (i := 9) (v := ?_) rfl (by kernel_rfl) (by kernel_rfl) (by kernel_rfl) (fun _ _ _ h => h) (Or.inl ⟨by rfl, ?_⟩) hH ?_
  rotate_left
  · ((intro W hW; clear hW; go_simp) <;> with_reducible rfl)
  simp only [sq3, sq4]
  refine wpAnyH_ready (rs := [10]) (by kernel_rfl) (by simp) ?_
  refine AllReadyH.cons (o := _) rfl (fun K hK => ?_) AllReadyH.nil
  simp only [sq3]
  rw [if_pos (by rfl)]
  refine wp_box_n 64 (.tmp 25) rfl #[.pointer none, .int .u8 192, .int .u8 168, .int .u8 1, .int .u8 1, .int .u32 4294967040, .int .i64 3600, .slice none 0 0] rfl ?_
  intro g26 w4 ge lt hh bb
  have d_cb_sv := ne_new (hlt hcb) ge
  have osv := Nat.le_trans bel.size ge
  replace hcb := blk_u hcb bb
  replace bel := bel.trans (bb.mono bel.size)
  have hsv := hh
  clear hh lt ge bb
  refine hK.out _ _ hcb (fun hH5 => ?_)
  clear hK K
  simp only [sq4]
  refine wpAnyH_take (i := 11) (v := ?_) rfl (by kernel_rfl) (by kernel_rfl) (by kernel_rfl) (fun _ _ _ h => h) (Or.inl ⟨by rfl, ?_⟩) hH5 ?_
  rotate_left
  · ((intro W hW; clear hW; go_simp) <;> with_reducible rfl)
  simp only [sq3, sq4]
  refine wpAnyH_done (by kernel_rfl) ?_ _
  have R28 := cell_lit hcb 38 _ rfl
  go_wp2_with fail
  clear R28
  refine wp_loop_rounds 1 ?_
  rw [rounds_succ]
  have R56 := Lib.hid (range_lit hcb 21 4 [.int .u8 192, .int .u8 168, .int .u8 1, .int .u8 100] rfl)
  go_wp2_with (first | ((with_reducible show wpList _ _ _ (⟨some 56, _, _, _, _, _⟩ :: _) _ _); refine wpList_load_rng 28 (.tmp 55) rfl (by kernel_rfl) _ _ rfl _ R56.out _ Try.underlying28 rfl (by kernel_rfl) ?_; have R58 := Lib.hid (range_lit hcb 25 4 [.int .u8 192, .int .u8 168, .int .u8 1, .int .u8 131] rfl)) | ((with_reducible show wpList _ _ _ (⟨some 58, _, _, _, _, _⟩ :: _) _ _); refine wpList_load_rng 28 (.tmp 57) rfl (by kernel_rfl) _ _ rfl _ R58.out _ Try.underlying28 rfl (by kernel_rfl) ?_))
  try clear R56
  try clear R58
  have HLO_ := bel.size
  with_reducible refine (pnew_us _).mono ?_
  rintro e w6 ⟨gp, rfl, hT, b6⟩
  replace hcb := blk_u hcb b6
  replace hsv := blk_u hsv b6
  replace bel := bel.trans (b6.mono bel.size)
  clear b6
  replace hT : Pl w.heap.size gp w6 uS0 := hT.lo_mono HLO_
  clear HLO_
  go_wp2_with (first | ((with_reducible show wpList _ _ _ (⟨none, Op.store _ (.tmp 69) _, _, _, _, _⟩ :: _) _ _); refine wpList_store_part rfl 61 (.tmp 69) (.tmp 67) rfl g26 0 rfl [.pointer (some ⟨gp, 0, none⟩)] rfl [.pointer none, .int .u8 192, .int .u8 168, .int .u8 1, .int .u8 1, .int .u32 4294967040, .int .i64 3600, .slice none 0 0] 64 hsv (by simp) [.pointer (some ⟨gp, 0, none⟩), .int .u8 192, .int .u8 168, .int .u8 1, .int .u8 1, .int .u32 4294967040, .int .i64 3600, .slice none 0 0] rfl (by kernel_rfl) (by rfl) ?_; intro w7 hq gr; replace hcb := blk_a hcb gr d_cb_sv; replace hT := hT.grown gr hsv (by decide) (by decide); replace bel := below_grown bel gr osv bel.size; clear hsv; have hsv := hq; clear hq gr))
  exact bodyPost_ret (v := .tuple #[.pointer (some ⟨g26, 0, none⟩), .int .i64 0]) (by simp [results, Try.results8, go_sem]) rfl ⟨_, _, rfl, ⟨hsv, osv, hT⟩, bel⟩
open Go.RowKit

theorem byteOf_small {k : Nat} (h : k < 256) : (byteOf (k : Int)).toNat = k := by
  have := byteOf_val (k : Int)
  omega
theorem lA_num {k : Nat} (h : k < 256) : (lA (k : Int)).num = 3232235776 + k := by
  have h2 : ∀ b : UInt8, be [192, 168, 1, b] = 3232235776 + b.toNat := by
    intro b
    simp [be]
  show be [192, 168, 1, byteOf (k : Int)] = _
  rw [h2, byteOf_small h]
def mN (i : Nat) : Mc6 := ⟨2, byteOf (i : Int), 0, 0, 0, 0⟩
theorem mN_ne {i j : Nat} (hi : i < 256) (hj : j < 256) (h : i ≠ j) : (mN i).eqB (mN j) = false := Mc6.eqB_no fun e => by
  have h1 : byteOf (i : Int) = byteOf (j : Int) := congrArg Mc6.b e
  have h2 := congrArg UInt8.toNat h1
  rw [byteOf_small hi, byteOf_small hj] at h2
  exact h h2
/-- The address of slot j. -/
def nA (j : Nat) : Ad4 := lA ((100 + j : Nat) : Int)
theorem nA_num {j : Nat} (h : j < 156) : (nA j).num = 3232235776 + (100 + j) := lA_num (by omega)
/-- The n slots that F tells. -/
def Rg (n : Nat) (F : Nat → Sd) : List Sd := (List.range n).map F
theorem Rg.len (n : Nat) (F : Nat → Sd) : (Rg n F).length = n := by unfold Rg; simp
theorem Rg.get {n i : Nat} {F : Nat → Sd} (h : i < n) : (Rg n F)[i]? = some (F i) := by
  unfold Rg
  rw [List.getElem?_map, List.getElem?_range h]; rfl
theorem Rg.of {n i : Nat} {F : Nat → Sd} {x : Sd} (h : (Rg n F)[i]? = some x) : i < n ∧ x = F i := by
  have hi := (List.getElem?_eq_some_iff.1 h).1
  rw [Rg.len] at hi
  rw [Rg.get hi] at h
  cases h
  exact ⟨hi, rfl⟩
theorem Rg.mod {n i : Nat} {F : Nat → Sd} {f : Sd → Sd} : (Rg n F).modify i f = Rg n (fun j => if j = i then f (F j) else F j) := by
  apply List.ext_getElem?
  intro j
  rw [List.getElem?_modify]
  unfold Rg
  rw [List.getElem?_map, List.getElem?_map]
  cases hj : (List.range n)[j]? with
  | none => simp
  | some q =>
    have : q = j := by
      obtain ⟨h1, h2⟩ := List.getElem?_eq_some_iff.1 hj
      simp at h2; exact h2.symm
    subst this
    by_cases e : i = q
    · subst e; simp
    · have e' : ¬ q = i := fun h => e h.symm
      simp [e, e']
theorem Rg.congr {n : Nat} {F G : Nat → Sd} (h : ∀ j, j < n → F j = G j) : Rg n F = Rg n G := by
  unfold Rg
  exact List.map_congr_left fun j hj => h j (List.mem_range.1 hj)
/-- The slots' addresses are 100 and on. -/
def AdF (F : Nat → Sd) : Prop := ∀ j, (F j).ad = nA j
theorem Rg.num {F : Nat → Sd} (h : AdF F) {j : Nat} (hj : j < 100) : (F j).num = 3232235776 + (100 + j) := by
  unfold Sd.num
  rw [h j, nA_num (by omega)]
theorem Rg.srt {n : Nat} {F : Nat → Sd} (h : AdF F) (hn : n ≤ 100) : SSrt (Rg n F) := by
  unfold SSrt
  rw [List.pairwise_iff_getElem]
  intro i j hi hj hij
  rw [Rg.len] at hi hj
  have e : ∀ q (hq : q < n), (Rg n F)[q]'(by rw [Rg.len]; exact hq) = F q := fun q hq => by
    have := Rg.get (F := F) hq
    rw [List.getElem?_eq_getElem (by rw [Rg.len]; exact hq)] at this
    exact Option.some.inj this
  rw [e i hi, e j hj, Rg.num h (by omega), Rg.num h (by omega)]
  omega
theorem Rg.pos {n i : Nat} {F : Nat → Sd} (h : AdF F) (hn : n ≤ 100) (hi : i < n) : sfpos (Rg n F) (nA i).num = i ∧ sfhas (Rg n F) (nA i).num = true :=
  (Rg.srt h hn).found (Rg.get hi) (by unfold Sd.num; rw [h i])
theorem Rg.out {n x : Nat} {F : Nat → Sd} (h : AdF F) (hn : n ≤ 100) (hx : ∀ j, j < n → x ≠ 3232235776 + (100 + j)) : sfhas (Rg n F) x = false := SSrt.none fun e he hne => by
  obtain ⟨j, hj⟩ := List.getElem?_of_mem he
  obtain ⟨h1, rfl⟩ := Rg.of hj
  rw [Rg.num h (by omega)] at hne
  exact hx j h1 hne.symm
theorem Rg.held_none {n : Nat} {F : Nat → Sd} {m : Mc6} {now : Int} (h : ∀ j, j < n → (F j).heldB m now = false) : hldF m now (Rg n F) = none := hldF_none fun q e he => by
  obtain ⟨h1, rfl⟩ := Rg.of he
  exact h q h1
theorem Rg.held {n i : Nat} {F : Nat → Sd} {m : Mc6} {now : Int} (hi : i < n) (h1 : (F i).heldB m now = true) (h : ∀ j, j < i → (F j).heldB m now = false) : hldF m now (Rg n F) = some i := hldF_some (Rg.get hi) h1 fun q e hq he => by
  obtain ⟨_, rfl⟩ := Rg.of he
  exact h q hq
theorem best_none {m : Mc6} {now : Int} {l : List Sd} (h : ∀ (j : Nat) (e : Sd), l[j]? = some e → e.freeB now = false) : ∀ k, bestF m now l k = none := by
  intro k
  induction k with
  | zero => rfl
  | succ k ih =>
    unfold bestF
    cases he : l[k]? with
    | none => exact ih
    | some e =>
      simp only
      rw [ih]
      simp [betB, h k e he]
theorem best_is {m : Mc6} {now : Int} {l : List Sd} {i : Nat} {x : Sd} (hx : l[i]? = some x) (hf : x.freeB now = true) (h : ∀ (j : Nat) (e : Sd), l[j]? = some e → e.freeB now = true → (j < i → x.rank m < e.rank m) ∧ (i < j → x.rank m ≤ e.rank m)) : bestF m now l l.length = some i := by
  have hi := (List.getElem?_eq_some_iff.1 hx).1
  have lo : ∀ k, k ≤ i → bestF m now l k = none ∨ ∃ (j : Nat) (e : Sd), bestF m now l k = some j ∧ l[j]? = some e ∧ x.rank m < e.rank m := by
    intro k
    induction k with
    | zero => intro _; exact .inl rfl
    | succ k ih =>
      intro hk
      obtain ⟨e, he⟩ : ∃ e, l[k]? = some e := ⟨_, List.getElem?_eq_getElem (by omega)⟩
      unfold bestF
      rw [he]
      simp only
      by_cases hb : betB m now l (bestF m now l k) e = true
      · rw [if_pos hb]
        have hfe : e.freeB now = true := by unfold betB at hb; simp only [Bool.and_eq_true] at hb; exact hb.1
        exact .inr ⟨k, e, rfl, he, (h k e he hfe).1 (by omega)⟩
      · rw [if_neg hb]
        exact ih (by omega)
  have hi : ∀ k, i < k → k ≤ l.length → bestF m now l k = some i := by
    intro k
    induction k with
    | zero => intro h0; omega
    | succ k ih =>
      intro hk hkl
      obtain ⟨e, he⟩ : ∃ e, l[k]? = some e := ⟨_, List.getElem?_eq_getElem (by omega)⟩
      unfold bestF
      rw [he]
      simp only
      rcases Nat.lt_or_ge i k with h1 | h1
      · rw [ih h1 (by omega)]
        have : betB m now l (some i) e = false := by
          unfold betB
          cases hfe : e.freeB now with
          | false => rfl
          | true =>
            have := (h k e he hfe).2 h1
            simp [hx]; omega
        rw [if_neg (by rw [this]; decide)]
      · obtain rfl : k = i := by omega
        rw [hx] at he
        cases he
        rcases lo k (Nat.le_refl _) with h2 | ⟨j, y, h2, h3, h4⟩
        · rw [if_pos (by rw [h2]; unfold betB; rw [hf]; rfl)]
        · rw [if_pos (by rw [h2]; unfold betB; rw [hf]; simp [h3, h4])]
  exact hi l.length ‹_› (Nat.le_refl _)
theorem Rg.best {n i : Nat} {F : Nat → Sd} {m : Mc6} {now : Int} (hi : i < n) (hf : (F i).freeB now = true) (h : ∀ j, j < n → (F j).freeB now = true → (j < i → (F i).rank m < (F j).rank m) ∧ (i < j → (F i).rank m ≤ (F j).rank m)) : bestF m now (Rg n F) (Rg n F).length = some i := best_is (Rg.get hi) hf fun j e he hfe => by
  obtain ⟨h1, rfl⟩ := Rg.of he
  exact h j h1 hfe
theorem Rg.full {n : Nat} {F : Nat → Sd} {m : Mc6} {now : Int} (h : ∀ j, j < n → (F j).freeB now = false) (k : Nat) : bestF m now (Rg n F) k = none := best_none (fun j e he => by
  obtain ⟨h1, rfl⟩ := Rg.of he
  exact h j h1) k
/-- A pool of n addresses from 100 on. -/
def nilF (j : Nat) : Sd := slot0 (nA j)
theorem nilF_ad : AdF nilF := fun _ => rfl
theorem pool_n (n : Nat) (hn : n ≤ 100) : newL [] (nA 0).num n = Rg n nilF := by
  have h100 : (nA 0).num = 3232235876 := nA_num (by omega)
  rw [h100]
  induction n with
  | zero => rfl
  | succ n ih =>
    have ih := ih (by omega)
    show addL (newL [] 3232235876 n) (adOf (3232235876 + n)) = _
    rw [ih]
    have e : adOf (3232235876 + n) = nA n := Ad4.num_inj (by rw [adOf_num (by omega), nA_num (by omega)]; omega)
    rw [e]
    unfold addL
    have hno : sfhas (Rg n nilF) (nA n).num = false := by
      rw [nA_num (by omega)]
      exact Rg.out nilF_ad (by omega) (fun j hj => by omega)
    rw [hno, if_neg (by decide)]
    have hp : sfpos (Rg n nilF) (slot0 (nA n)).num = n := by
      show sfpos (Rg n nilF) (nA n).num = n
      rw [nA_num (by omega)]
      refine sfpos_of (by rw [Rg.len]; exact Nat.le_refl _) (fun j e hj he => ?_) (fun j e hj he => ?_)
      · obtain ⟨h1, rfl⟩ := Rg.of he
        rw [Rg.num nilF_ad (by omega)]; omega
      · obtain ⟨h1, rfl⟩ := Rg.of he
        omega
    unfold sins
    rw [hp, List.take_of_length_le (Nat.le_of_eq (Rg.len n nilF)), List.drop_eq_nil_of_le (Nat.le_of_eq (Rg.len n nilF))]
    unfold Rg
    rw [List.range_succ, List.map_append]
    rfl
theorem pool_new {q : Nat} (hq : q < 64) : newL [] (nA 0).num ((nA q).num - (nA 0).num + 1) = Rg (q + 1) nilF := by
  rw [show (nA q).num - (nA 0).num + 1 = q + 1 by rw [nA_num (by omega), nA_num (by omega)]; omega]
  exact pool_n (q + 1) (by omega)
theorem padv_0 {t : Int} (h0 : 0 ≤ t) (h1 : t ≤ 1099511627776) : padv 0 t = t := by
  unfold padv
  split <;> omega
theorem padv_self (t : Int) : padv t t = t := by
  unfold padv
  split <;> omega
theorem homeF_nil (m : Mc6) : homeF [] m = none := rfl
section
variable {n : Nat} {F : Nat → Sd} {now t : Int} {m : Mc6} {wa : Ad4}
/-- What is wanted may not be had. -/
def noWant (n : Nat) (F : Nat → Sd) (wa : Ad4) (now : Int) : Prop := sfhas (Rg n F) wa.num = false ∨ ∃ x, (Rg n F)[sfpos (Rg n F) wa.num]? = some x ∧ x.freeB now = false
theorem noWant.out {now : Int} (h : sfhas (Rg n F) wa.num = false) : noWant n F wa now := .inl h
theorem rg_offer_best {i : Nat} (hi : i < n) (h : hldF m (padv now t) (Rg n F) = none) (hw : noWant n F wa (padv now t)) (hb : bestF m (padv now t) (Rg n F) (Rg n F).length = some i) : offerS ⟨now, [], Rg n F⟩ m wa t = ((F i).ad, 0) := by
  unfold offerS
  have hn' : (St.adv ⟨now, [], Rg n F⟩ t).now = padv now t := rfl
  rcases hw with hw | ⟨x, hx, hw⟩
  · simp only [hn', homeF_nil, h, hw, Bool.false_and, Bool.false_eq_true, if_false, hb, Rg.get hi, Option.map_some, Option.getD_some]
  · simp only [hn', homeF_nil, h, hx, hw, Bool.and_false, Bool.false_eq_true, if_false, hb, Rg.get hi, Option.map_some, Option.getD_some]
theorem rg_offer_full (h : hldF m (padv now t) (Rg n F) = none) (hw : noWant n F wa (padv now t)) (hb : bestF m (padv now t) (Rg n F) (Rg n F).length = none) : offerS ⟨now, [], Rg n F⟩ m wa t = (Ad4.zero, 7) := by
  unfold offerS
  have hn' : (St.adv ⟨now, [], Rg n F⟩ t).now = padv now t := rfl
  rcases hw with hw | ⟨x, hx, hw⟩
  · simp only [hn', homeF_nil, h, hw, Bool.false_and, Bool.false_eq_true, if_false, hb]
  · simp only [hn', homeF_nil, h, hx, hw, Bool.and_false, Bool.false_eq_true, if_false, hb]
theorem rg_may {i : Nat} (ha : AdF F) (hn : n ≤ 100) (hi : i < n) (hx : (F i).fx = false) : mayE ⟨now, [], Rg n F⟩ m (nA i) = if (!(F i).freeB now && !(F i).heldB m now) = true then 8 else 0 := by
  unfold mayE
  have hp := Rg.pos ha hn hi
  simp only [homeF_nil, hp.1, hp.2, Rg.get hi, hx, if_true, Bool.false_eq_true, if_false]
def upF (F : Nat → Sd) (i : Nat) (y : Sd) (j : Nat) : Sd := if j = i then y else F j
theorem upF_ad {i : Nat} {y : Sd} (ha : AdF F) (hy : y.ad = (F i).ad) : AdF (upF F i y) := fun j => by
  unfold upF
  by_cases e : j = i
  · subst e; rw [if_pos rfl, hy, ha j]
  · rw [if_neg e, ha j]
theorem upF_at {i : Nat} {y : Sd} : upF F i y i = y := if_pos rfl
theorem upF_no {i j : Nat} {y : Sd} (h : j ≠ i) : upF F i y j = F j := if_neg h
theorem Rg.modify {i : Nat} {f : Sd → Sd} : (Rg n F).modify i f = Rg n (upF F i (f (F i))) := by
  rw [Rg.mod]
  apply Rg.congr
  intro j _
  unfold upF
  by_cases e : j = i
  · subst e; simp
  · simp [e]
theorem rg_take {i : Nat} {secs : Int} (ha : AdF F) (hn : n ≤ 100) (hi : i < n) (hx : (F i).fx = false) (hp : permB secs = true) (hf : (F i).freeB (padv now t) = true) (h : hldF m (padv now t) (Rg n F) = none) :
    takeS ⟨now, [], Rg n F⟩ m (nA i) t secs = (0, ⟨padv now t, [], Rg n (upF F i ⟨m, nA i, padv now t + secs, false, true, false, (F i).br⟩)⟩) := by
  have hm : mayE (St.adv ⟨now, [], Rg n F⟩ t) m (nA i) = 0 := by
    show mayE ⟨padv now t, [], Rg n F⟩ m _ = 0
    rw [rg_may ha hn hi hx, hf]; rfl
  unfold takeS
  rw [hp, if_pos rfl, hm, if_pos (by decide)]
  have hl : slPut (endL m (St.adv ⟨now, [], Rg n F⟩ t).now (St.l ⟨now, [], Rg n F⟩)) m (nA i) ((St.adv ⟨now, [], Rg n F⟩ t).now + secs) = Rg n (upF F i ⟨m, nA i, padv now t + secs, false, true, false, (F i).br⟩) := by
    show slPut (endL m (padv now t) (Rg n F)) m _ (padv now t + secs) = _
    unfold endL
    rw [h]
    unfold slPut
    rw [(Rg.pos ha hn hi).1, Rg.modify, hx]
  rw [hl]
  rfl
theorem rg_take_no {i : Nat} {secs : Int} (ha : AdF F) (hn : n ≤ 100) (hi : i < n) (hx : (F i).fx = false) (hp : permB secs = true) (hf : (F i).freeB (padv now t) = false) (hh : (F i).heldB m (padv now t) = false) :
    takeS ⟨now, [], Rg n F⟩ m (nA i) t secs = (8, ⟨padv now t, [], Rg n F⟩) := by
  have hm : mayE (St.adv ⟨now, [], Rg n F⟩ t) m (nA i) = 8 := by
    show mayE ⟨padv now t, [], Rg n F⟩ m _ = 8
    rw [rg_may ha hn hi hx, hf, hh]; rfl
  unfold takeS
  rw [hp, if_pos rfl, hm, if_neg (by decide)]
  rfl
theorem rg_bar {i : Nat} {secs : Int} (ha : AdF F) (hn : n ≤ 100) (hi : i < n) (hx : (F i).fx = false) (hp : permB secs = true) : barB ⟨now, [], Rg n F⟩ (nA i) secs = true ∧ barS ⟨now, [], Rg n F⟩ (nA i) t secs = ⟨padv now t, [], Rg n (upF F i { F i with u := 0, br := padv now t + secs })⟩ := by
  have hq := Rg.pos ha hn hi
  have hb : barB ⟨now, [], Rg n F⟩ (nA i) secs = true := by
    unfold barB
    simp only [hq.1, hq.2, Rg.get hi, hx, hp, Bool.not_false, Bool.and_self]
  refine ⟨hb, ?_⟩
  unfold barS
  rw [hb, if_pos rfl]
  have hn' : (St.adv ⟨now, [], Rg n F⟩ t).now = padv now t := rfl
  simp only [hq.1, Rg.modify, hn']
  rfl
end
/-- A slot that nobody has had. -/
theorem slot0_free {a : Ad4} {now : Int} (h : 0 ≤ now) : (slot0 a).freeB now = true := by
  have h1 : decide (now < 0) = false := decide_eq_false (by omega)
  have h2 : decide ((0 : Int) ≤ now) = true := decide_eq_true h
  show (!false && (!decide (now < 0) && decide ((0 : Int) ≤ now))) = true
  rw [h1, h2]; rfl
theorem slot0_held {a : Ad4} {m : Mc6} {now : Int} (h : 0 ≤ now) : (slot0 a).heldB m now = false := by
  have h1 : decide (now < 0) = false := decide_eq_false (by omega)
  show (decide (now < 0) && _) = false
  rw [h1]; rfl
theorem nil_held {n : Nat} {m : Mc6} {now : Int} (h : 0 ≤ now) : hldF m now (Rg n nilF) = none := Rg.held_none fun _ _ => slot0_held h
theorem perm_of {secs : Int} (h1 : 1 ≤ secs) (h2 : secs ≤ 1000000000) : permB secs = true := by
  unfold permB
  rw [decide_eq_true h1, decide_eq_true h2]; rfl
theorem zero_out {n : Nat} {F : Nat → Sd} (ha : AdF F) (hn : n ≤ 100) {now : Int} : noWant n F Ad4.zero now := noWant.out (Rg.out ha hn (fun j _ => by show be [0, 0, 0, 0] ≠ _; simp [be]; omega))
open Go.RowKit

theorem hid_adv (s : St) (h : padv s.now 0 = s.now) : s.adv 0 = s := by
  obtain ⟨n, hs, l⟩ := s
  show (⟨padv n 0, hs, l⟩ : St) = ⟨n, hs, l⟩
  rw [h]
/-- The first k have the first k addresses. -/
def tkF (k j : Nat) : Sd := if j < k then ⟨mN j, nA j, 3600, false, true, false, 0⟩ else slot0 (nA j)
def tkS (k : Nat) : St := ⟨0, [], Rg 32 (tkF k)⟩
theorem tkF_ad (k : Nat) : AdF (tkF k) := fun j => by
  unfold tkF
  split <;> rfl
theorem tkF_old {k j : Nat} (h : j < k) : tkF k j = ⟨mN j, nA j, 3600, false, true, false, 0⟩ := if_pos h
theorem tkF_new {k j : Nat} (h : ¬ j < k) : tkF k j = slot0 (nA j) := if_neg h
theorem uS0_nil : uS0 = ⟨0, [], Rg 32 nilF⟩ := by
  have h : newL [] (lA 100).num ((lA 131).num - (lA 100).num + 1) = Rg 32 nilF := pool_new (q := 31) (by omega)
  unfold uS0
  rw [h]
theorem uS0_is : uS0 = tkS 0 := by
  rw [uS0_nil]
  have h : Rg 32 nilF = Rg 32 (tkF 0) := Rg.congr fun j _ => (tkF_new (by omega)).symm
  unfold tkS
  rw [h]
theorem tk_adv (k : Nat) : (tkS k).adv 0 = tkS k := hid_adv _ (padv_self 0)
theorem old_live {m : Mc6} {a : Ad4} {u now br : Int} {f l r : Bool} (h : now < u) : (⟨m, a, u, f, l, r, br⟩ : Sd).liveB now = true := decide_eq_true h
theorem old_dead {m : Mc6} {a : Ad4} {u now br : Int} {f l r : Bool} (h : u ≤ now) : (⟨m, a, u, f, l, r, br⟩ : Sd).liveB now = false := decide_eq_false (by show ¬ now < u; omega)
theorem tk_held {k : Nat} {i : Nat} (hi : i < 100) (hk : k ≤ i) : hldF (mN i) (padv 0 0) (Rg 32 (tkF k)) = none := Rg.held_none fun j hj => by
  rw [padv_self]
  by_cases h : j < k
  · rw [tkF_old h]
    show (decide ((0 : Int) < 3600) && (mN j).eqB (mN i)) = false
    rw [mN_ne (by omega) (by omega) (by omega), Bool.and_false]
  · rw [tkF_new h]
    exact slot0_held (by omega)
theorem tk_busy {k j : Nat} (h : j < k) : (tkF k j).freeB (padv 0 0) = false := by
  rw [tkF_old h, padv_self]; rfl
theorem tk_free {k j : Nat} (h : ¬ j < k) : (tkF k j).freeB (padv 0 0) = true := by
  rw [tkF_new h, padv_self]; exact slot0_free (by omega)
theorem talk_offer {i : Nat} (hi : i < 32) : offerS (tkS i) (mN i) Ad4.zero 0 = (nA i, 0) := by
  have h := rg_offer_best (F := tkF i) (n := 32) (now := 0) (t := 0) (m := mN i) (wa := Ad4.zero) hi (tk_held (by omega) (Nat.le_refl i)) (zero_out (tkF_ad i) (by omega))
    (Rg.best hi (tk_free (by omega)) (fun j hj hf => ⟨fun hji => absurd hf (by rw [tk_busy hji]; exact Bool.false_ne_true), fun hji => by
      rw [tkF_new (k := i) (j := i) (by omega), tkF_new (k := i) (j := j) (by omega)]; exact Int.le_refl _⟩))
  rw [tkF_ad i i] at h
  exact h
theorem talk_full {i : Nat} (hi : 32 ≤ i) (h2 : i < 100) : offerS (tkS 32) (mN i) Ad4.zero 0 = (Ad4.zero, 7) :=
  rg_offer_full (F := tkF 32) (n := 32) (now := 0) (t := 0) (m := mN i) (wa := Ad4.zero) (tk_held h2 hi) (zero_out (tkF_ad 32) (by omega)) (Rg.full (fun j hj => tk_busy hj) _)
theorem talk_take {i : Nat} (hi : i < 32) : takeS (tkS i) (mN i) (nA i) 0 3600 = (0, tkS (i + 1)) := by
  have h := rg_take (F := tkF i) (n := 32) (now := 0) (t := 0) (m := mN i) (secs := 3600) (tkF_ad i) (by omega) hi (by rw [tkF_new (by omega)]; rfl) (perm_of (by omega) (by omega)) (tk_free (by omega)) (tk_held (by omega) (Nat.le_refl i))
  have e : Rg 32 (upF (tkF i) i ⟨mN i, nA i, padv 0 0 + 3600, false, true, false, (tkF i i).br⟩) = Rg 32 (tkF (i + 1)) := Rg.congr fun j hj => by
    by_cases h : j = i
    · subst h
      rw [upF_at, tkF_new (k := j) (j := j) (by omega), tkF_old (by omega), padv_self]; rfl
    · rw [upF_no h]
      by_cases h2 : j < i
      · rw [tkF_old h2, tkF_old (by omega)]
      · rw [tkF_new h2, tkF_new (by omega)]
  rw [e, padv_self] at h
  exact h
theorem all_any {now : Int} {n i : Nat} {F : Nat → Sd} (ha : AdF F) (hi : i < n) (h : (F i).liveB now = true) : (allO now (Rg n F)).any (fun e => e.ad.eqB (nA i)) = true := by
  rw [List.any_eq_true]
  refine ⟨(F i).lease, List.mem_map_of_mem (List.mem_filter.2 ⟨List.mem_of_getElem? (Rg.get hi), h⟩), ?_⟩
  show (F i).ad.eqB (nA i) = true
  rw [ha i]; exact Ad4.eqB_self _
theorem talk_holds {i : Nat} (hi : i < 32) : (allO ((tkS (i + 1)).adv 0).now (tkS (i + 1)).l).any (fun e => e.ad.eqB (nA i)) = true :=
  all_any (tkF_ad _) hi (by rw [tk_adv, tkF_old (by omega)]; rfl)
theorem len_filt {n : Nat} {F : Nat → Sd} {p : Sd → Bool} {q : Nat → Bool} (h : ∀ j, j < n → p (F j) = q j) : ((Rg n F).filter p).length = (List.range n).countP q := by
  unfold Rg
  rw [← List.countP_eq_length_filter, List.countP_map]
  exact List.countP_congr fun j hj => by
    show p (F j) = true ↔ _
    rw [h j (List.mem_range.1 hj)]
theorem cnt_32 : ∀ k, k ≤ 32 → (List.range 32).countP (fun j => decide (j < k)) = k := by decide
theorem cnt_0 : (List.range 32).countP (fun _ => false) = 0 := by decide
theorem talk_all {k : Nat} {t : Int} (hk : k ≤ 32) (h0 : 0 ≤ t) (h1 : t < 3600) : (allO ((tkS k).adv t).now (tkS k).l).length = k := by
  have hn : ((tkS k).adv t).now = t := padv_0 h0 (by omega)
  rw [hn]
  unfold allO
  rw [List.length_map]
  refine (len_filt (q := fun j => decide (j < k)) fun j hj => ?_).trans (cnt_32 k hk)
  by_cases h : j < k
  · rw [tkF_old h, decide_eq_true h]; exact old_live (by omega)
  · rw [tkF_new h, decide_eq_false h]; exact old_dead (by omega)
theorem talk_none {k : Nat} {t : Int} (h1 : 3600 ≤ t) (h2 : t ≤ 10000) : (allO ((tkS k).adv t).now (tkS k).l).length = 0 := by
  have hn : ((tkS k).adv t).now = t := padv_0 (by omega) (by omega)
  rw [hn]
  unfold allO
  rw [List.length_map]
  refine (len_filt (q := fun _ => false) fun j hj => ?_).trans cnt_0
  by_cases h : j < k
  · rw [tkF_old h]; exact old_dead (by omega)
  · rw [tkF_new h]; exact old_dead (by omega)
theorem tk_now {k : Nat} {t : Int} (h0 : 0 ≤ t) (h2 : t ≤ 10000) : (((tkS k).adv t).adv t).now = t := by
  show padv (padv 0 t) t = t
  rw [padv_0 h0 (by omega), padv_self]
theorem talk_over {k : Nat} {t : Int} (hk : k ≤ 32) (h1 : 3600 ≤ t) (h2 : t ≤ 10000) : (tickO (((tkS k).adv t).adv t).now ((tkS k).adv t).l).length = k := by
  rw [tk_now (by omega) h2]
  unfold tickO
  rw [List.length_map]
  refine (len_filt (q := fun j => decide (j < k)) fun j hj => ?_).trans (cnt_32 k hk)
  by_cases h : j < k
  · rw [tkF_old h, decide_eq_true h]
    show (true && (!false && !(decide (t < 3600)))) = true
    rw [decide_eq_false (by omega)]; rfl
  · rw [tkF_new h, decide_eq_false h]; rfl
theorem talk_not {k : Nat} {t : Int} (h0 : 0 ≤ t) (h1 : t < 3600) : (tickO (((tkS k).adv t).adv t).now ((tkS k).adv t).l).length = 0 := by
  rw [tk_now h0 (by omega)]
  unfold tickO
  rw [List.length_map]
  refine (len_filt (q := fun _ => false) fun j hj => ?_).trans cnt_0
  by_cases h : j < k
  · rw [tkF_old h]
    show (true && (!false && !(decide (t < 3600)))) = false
    rw [decide_eq_true h1]; rfl
  · rw [tkF_new h]; rfl
/-- One host, its address, until when. -/
def mB : Mc6 := ⟨2, 9, 0, 0, 0, 0⟩
def m8 : Mc6 := ⟨2, 8, 0, 0, 0, 0⟩
def reF (i : Nat) (u : Int) : Nat → Sd := upF nilF i ⟨mB, nA i, u, false, true, false, 0⟩
def reS (i : Nat) (u t : Int) : St := ⟨t, [], Rg 32 (reF i u)⟩
theorem reF_ad (i : Nat) (u : Int) : AdF (reF i u) := upF_ad nilF_ad rfl
theorem nil_free (j : Nat) {now : Int} (h : 0 ≤ now) : (nilF j).freeB now = true := slot0_free h
theorem re_take {i : Nat} (hi : i < 32) : takeS uS0 mB (nA i) 0 3600 = (0, reS i 3600 0) := by
  rw [uS0_nil]
  have h := rg_take (F := nilF) (n := 32) (now := 0) (t := 0) (m := mB) (secs := 3600) nilF_ad (by omega) hi rfl (perm_of (by omega) (by omega)) (nil_free i (by rw [padv_self]; omega)) (nil_held (by rw [padv_self]; omega))
  rw [padv_self] at h
  exact h
/-- An address that its host declined. -/
def baF : Nat → Sd := upF nilF 0 ⟨mB, nA 0, 0, false, true, false, 600⟩
def baS : St := ⟨0, [], Rg 32 baF⟩
theorem baF_ad : AdF baF := upF_ad nilF_ad rfl
theorem rg_of {n : Nat} {F : Nat → Sd} {now t : Int} {m : Mc6} {i : Nat} (hi : i < n) (h : hldF m (padv now t) (Rg n F) = some i) : ofS ⟨now, [], Rg n F⟩ m t = ((F i).ad, true) := by
  unfold ofS
  have hn : (St.adv ⟨now, [], Rg n F⟩ t).now = padv now t := rfl
  simp only [hn, h, Rg.get hi, Option.map_some, Option.getD_some]
theorem ba_of : ofS (reS 0 3600 0) mB 0 = (nA 0, true) := by
  have h : hldF mB (padv 0 0) (Rg 32 (reF 0 3600)) = some 0 := Rg.held (by omega) (by rw [padv_self]; unfold reF; rw [upF_at]; kernel_rfl) (fun j hj => by omega)
  have h2 := rg_of (F := reF 0 3600) (n := 32) (by omega) h
  rw [reF_ad] at h2
  exact h2
theorem ba_bar : barB ((reS 0 3600 0).adv 0) (nA 0) 600 = true ∧ barS ((reS 0 3600 0).adv 0) (nA 0) 0 600 = baS := by
  have hadv : (reS 0 3600 0).adv 0 = reS 0 3600 0 := hid_adv _ (padv_self 0)
  rw [hadv]
  have h := rg_bar (F := reF 0 3600) (n := 32) (now := 0) (t := 0) (i := 0) (secs := 600) (reF_ad _ _) (by omega) (by omega) (by unfold reF; rw [upF_at]) (perm_of (by omega) (by omega))
  refine ⟨h.1, h.2.trans ?_⟩
  rw [padv_self]
  have e : Rg 32 (upF (reF 0 3600) 0 { reF 0 3600 0 with u := 0, br := 0 + 600 }) = Rg 32 baF := Rg.congr fun j _ => by
    by_cases e : j = 0
    · subst e; unfold baF reF; rw [upF_at, upF_at, upF_at]; rfl
    · unfold baF reF; rw [upF_no e, upF_no e, upF_no e]
  unfold baS
  rw [e]
theorem ba_late {t : Int} (h0 : 600 ≤ t) (h1 : t ≤ 3000) : (takeS baS m8 (nA 0) t 3600).1 = 0 := by
  have hp : padv 0 t = t := padv_0 (by omega) (by omega)
  have h := rg_take (F := baF) (n := 32) (now := 0) (t := t) (m := m8) (i := 0) (secs := 3600) baF_ad (by omega) (by omega) (by unfold baF; rw [upF_at]) (perm_of (by omega) (by omega)) (by
      rw [hp]; unfold baF; rw [upF_at]
      show (!false && (!(decide (t < 0)) && decide (600 ≤ t))) = true
      rw [decide_eq_false (by omega), decide_eq_true h0]; rfl) (Rg.held_none fun j hj => by
      rw [hp]; unfold baF
      by_cases e : j = 0
      · subst e; rw [upF_at]
        show (decide (t < 0) && _) = false
        rw [decide_eq_false (by omega)]; rfl
      · rw [upF_no e]; exact slot0_held (by omega))
  unfold baS
  rw [h]
theorem ba_soon {t : Int} (h0 : 0 ≤ t) (h1 : t < 600) : (takeS baS m8 (nA 0) t 3600).1 = 8 := by
  have hp : padv 0 t = t := padv_0 h0 (by omega)
  have h := rg_take_no (F := baF) (n := 32) (now := 0) (t := t) (m := m8) (i := 0) (secs := 3600) baF_ad (by omega) (by omega) (by unfold baF; rw [upF_at]) (perm_of (by omega) (by omega)) (by
      rw [hp]; unfold baF; rw [upF_at]
      show (!false && (!(decide (t < 0)) && decide (600 ≤ t))) = false
      rw [decide_eq_false (by omega), decide_eq_false (by omega)]; rfl) (by
      rw [hp]; unfold baF; rw [upF_at]
      show (decide (t < 0) && _) = false
      rw [decide_eq_false (by omega)]; rfl)
  unfold baS
  rw [h]
theorem aw_1 : offerS uS0 mB Ad4.zero 0 = (lA 100, 0) := by kernel_rfl
open Go.RowKit

set_option maxRecDepth 100000 in
theorem lg_disc9 {lo gs gp : Nat} {A : Option Addr} {c : Nat} {hs : List Oh} (w : World) (hT : Sv lo gs gp w ⟨⟨192, 168, 1, 1⟩, 4294967040, 3600⟩ uS0) (hO : Opv w A 1 c hs [(53, [1])])  : Calls Try.prog 10 #[.pointer (some ⟨gs, 0, none⟩), .agg #[.int .i64 1, .int .i64 0, .int .u32 7, .int .i64 0, .int .i64 0, .int .u8 0, .int .u8 0, .int .u8 0, .int .u8 0, .int .u8 0, .int .u8 0, .int .u8 0, .int .u8 0, .int .u8 0, .int .u8 0, .int .u8 0, .int .u8 0, .int .u8 0, .int .u8 0, .int .u8 0, .int .u8 0, .int .u8 2, .int .u8 9, .int .u8 0, .int .u8 0, .int .u8 0, .int .u8 0, .slice A 1 c], .int .i64 0] w fun e w' => ∃ A2 c2 hs2, e = .returned (.tuple #[.agg #[.int .i64 2, .int .i64 0, .int .u32 7, .int .i64 0, .int .i64 0, .int .u8 0, .int .u8 0, .int .u8 0, .int .u8 0, .int .u8 192, .int .u8 168, .int .u8 1, .int .u8 100, .int .u8 192, .int .u8 168, .int .u8 1, .int .u8 1, .int .u8 0, .int .u8 0, .int .u8 0, .int .u8 0, .int .u8 2, .int .u8 9, .int .u8 0, .int .u8 0, .int .u8 0, .int .u8 0, .slice A2 6 c2, .int .u8 2, .int .u8 9, .int .u8 0, .int .u8 0, .int .u8 0, .int .u8 0, .int .u8 192, .int .u8 168, .int .u8 1, .int .u8 100], .bool true]) ∧ Opv w' A2 6 c2 hs2 [(53, [2]), (54, (⟨192, 168, 1, 1⟩ : Ad4).l), (51, four 3600), (1, four 4294967040), (3, (⟨192, 168, 1, 1⟩ : Ad4).l), (6, (⟨192, 168, 1, 1⟩ : Ad4).l)] ∧ (∀ q, q < w.heap.size → Oa A2 6 hs2 q) ∧ Sv lo gs gp w' ⟨⟨192, 168, 1, 1⟩, 4294967040, 3600⟩ (uS0.adv 0) ∧ Kt [84, 101] w w' ∧ Below lo w w' := by
  have h_ := sget_offer_your (wa := Ad4.zero) (a := lA 100) (h := ⟨1, 0, 7, 0, 0, 0, 0, 0, 0, 0, 0, 0, 0, 0, 0, 0, 0, 0, 0, 0, 0, 2, 9, 0, 0, 0, 0⟩) w hT hO (by kernel_rfl) (by omega) (by omega) (by kernel_rfl) (b := false) (by kernel_rfl) aw_1 (by kernel_rfl) (by kernel_rfl)
  exact h_
set_option linter.unusedVariables false in
set_option linter.unusedSimpArgs false in
set_option maxRecDepth 100000 in
set_option maxHeartbeats 16000000 in
theorem sawake_any (w : World) : Calls Try.prog 7 #[] w fun e w' => e = .returned (.bool true) ∧ Below w.heap.size w w' := by
  have e35 : ∀ W, (binOp .eql 28 (.agg #[.int .u8 192, .int .u8 168, .int .u8 1, .int .u8 100]) (.agg #[.int .u8 192, .int .u8 168, .int .u8 1, .int .u8 100])).run Try.prog W = .ok (.bool true) W := fun W => by kernel_rfl
  have e61 : ∀ W, (binOp .eql 32 (.agg #[.int .u8 2, .int .u8 9, .int .u8 0, .int .u8 0, .int .u8 0, .int .u8 0]) (.agg #[.int .u8 2, .int .u8 9, .int .u8 0, .int .u8 0, .int .u8 0, .int .u8 0])).run Try.prog W = .ok (.bool true) W := fun W => by kernel_rfl
  have bel := Below.refl w.heap.size w
  go_enter Try.func7, Try.ntmps7
  go_wp2_with fail
  with_reducible refine (cusual_any _).mono ?_
  rintro e w1 ⟨rfl, b1⟩
  replace bel := bel.trans (b1.mono bel.size)
  clear b1
  go_wp2_with fail
  have HLO_ := bel.size
  with_reducible refine (snew_us _).mono ?_
  rintro e w2 ⟨gs, gp, rfl, hT, b2⟩
  replace bel := bel.trans (b2.mono bel.size)
  clear b2
  replace hT : Sv w.heap.size gs gp w2 ⟨⟨192, 168, 1, 1⟩, 4294967040, 3600⟩ uS0 := hT.lo_mono HLO_
  clear HLO_
  go_wp2_with fail
  have hwz := bel.size
  with_reducible refine (ldisc_o _).mono ?_
  rintro e w3 ⟨Aw, cw, hw, rfl, hO, fP, b3⟩
  replace hT := hT.below b3
  replace bel := bel.trans (b3.mono bel.size)
  clear b3
  have fO : ∀ q, q < w.heap.size → Oa Aw 1 hw q := fun q_ hq_ => fP q_ (Nat.lt_of_lt_of_le hq_ hwz)
  clear hwz
  
  clear fP
  go_wp2_with fail
  go_wp2_with fail
  have hwz := bel.size
  with_reducible refine (lg_disc9 _ hT hO).mono ?_
  rintro e w4 ⟨A2, c2, hs2, rfl, hP, fP, hT_, k_, bb⟩
  replace hO := hO.kt k_
  clear hT
  have hT := hT_
  replace bel := bel.trans bb
  clear bb k_ hT_
  have fA : ∀ q, q < w.heap.size → Oa A2 6 hs2 q := fun q_ hq_ => fP q_ (Nat.lt_of_lt_of_le hq_ hwz)
  clear hwz
  
  clear fP
  go_wp2_with (first | ((with_reducible show wpList _ _ _ (⟨some 3, _, _, _, _, _⟩ :: _) _ _); refine wpList_new_a rfl 43 rfl #[.int .i64 0, .int .i64 0, .int .u32 0, .int .i64 0, .int .i64 0, .int .u8 0, .int .u8 0, .int .u8 0, .int .u8 0, .int .u8 0, .int .u8 0, .int .u8 0, .int .u8 0, .int .u8 0, .int .u8 0, .int .u8 0, .int .u8 0, .int .u8 0, .int .u8 0, .int .u8 0, .int .u8 0, .int .u8 0, .int .u8 0, .int .u8 0, .int .u8 0, .int .u8 0, .int .u8 0, .slice none 0 0, .int .u8 0, .int .u8 0, .int .u8 0, .int .u8 0, .int .u8 0, .int .u8 0, .int .u8 0, .int .u8 0, .int .u8 0, .int .u8 0] (by kernel_rfl) ?_; intro g3 w5 ge hh bb; have oab := Nat.le_trans bel.size ge; have oa_ab := hO.oa ge; have ob_ab := hP.oa ge; replace hT := hT.below bb; replace hO := hO.below bb; replace hP := hP.below bb; replace bel := bel.trans (bb.mono bel.size); have hab := hh; clear hh ge bb) | ((with_reducible show wpList _ _ _ (⟨none, Op.store _ (.tmp 3) _, _, _, _, _⟩ :: _) _ _); refine wpList_store_blk rfl 43 (.tmp 3) (.tmp 21) rfl g3 rfl _ rfl _ 43 hab (by rfl) (by kernel_rfl) (by kernel_rfl) ?_; intro w6 hq gr; replace hT := hT.grown gr hab (by decide); replace hO := hO.away oa_ab gr; replace hP := hP.away ob_ab gr; replace bel := below_grown bel gr oab bel.size; clear hab; have hab := hq; clear hq gr; have R26 := Lib.hid (range_lit hab 0 28 [.int .i64 2, .int .i64 0, .int .u32 7, .int .i64 0, .int .i64 0, .int .u8 0, .int .u8 0, .int .u8 0, .int .u8 0, .int .u8 192, .int .u8 168, .int .u8 1, .int .u8 100, .int .u8 192, .int .u8 168, .int .u8 1, .int .u8 1, .int .u8 0, .int .u8 0, .int .u8 0, .int .u8 0, .int .u8 2, .int .u8 9, .int .u8 0, .int .u8 0, .int .u8 0, .int .u8 0, .slice A2 6 c2] rfl)) | ((with_reducible show wpList _ _ _ (⟨some 26, _, _, _, _, _⟩ :: _) _ _); refine wpList_load_rng 41 (.tmp 25) rfl (by kernel_rfl) _ _ rfl _ R26.out _ Try.underlying41 rfl (by kernel_rfl) ?_))
  try clear R26
  with_reducible refine (ltype_a (k := 2) _ hP (by kernel_rfl)).mono ?_
  rintro e w7 ⟨rfl, b7⟩
  replace hab := blk_u hab b7
  replace hT := hT.below b7
  replace hO := hO.below b7
  replace hP := hP.below b7
  replace bel := bel.trans (b7.mono bel.size)
  clear b7
  have R33 := Lib.hid (range_lit hab 9 4 [.int .u8 192, .int .u8 168, .int .u8 1, .int .u8 100] rfl)
  go_wp2_with (first | ((with_reducible show wpList _ _ _ (⟨some 33, _, _, _, _, _⟩ :: _) _ _); refine wpList_load_rng 28 (.tmp 32) rfl (by kernel_rfl) _ _ rfl _ R33.out _ Try.underlying28 rfl (by kernel_rfl) ?_; have R40 := cell_lit hab 0 _ rfl; have R46 := cell_lit hab 2 _ rfl; have R51 := Lib.hid (range_lit hab 34 4 [.int .u8 192, .int .u8 168, .int .u8 1, .int .u8 100] rfl)) | ((with_reducible show wpList _ _ _ (⟨some 51, _, _, _, _, _⟩ :: _) _ _); refine wpList_load_rng 28 (.tmp 50) rfl (by kernel_rfl) _ _ rfl _ R51.out _ Try.underlying28 rfl (by kernel_rfl) ?_; have R54 := Lib.hid (range_lit hab 9 4 [.int .u8 192, .int .u8 168, .int .u8 1, .int .u8 100] rfl)) | ((with_reducible show wpList _ _ _ (⟨some 54, _, _, _, _, _⟩ :: _) _ _); refine wpList_load_rng 28 (.tmp 53) rfl (by kernel_rfl) _ _ rfl _ R54.out _ Try.underlying28 rfl (by kernel_rfl) ?_; have R59 := Lib.hid (range_lit hab 28 6 [.int .u8 2, .int .u8 9, .int .u8 0, .int .u8 0, .int .u8 0, .int .u8 0] rfl)) | ((with_reducible show wpList _ _ _ (⟨some 59, _, _, _, _, _⟩ :: _) _ _); refine wpList_load_rng 32 (.tmp 58) rfl (by kernel_rfl) _ _ rfl _ R59.out _ Try.underlying32 rfl (by kernel_rfl) ?_))
  try clear R33
  try clear R40
  try clear R46
  try clear R51
  try clear R54
  try clear R59
  go_ret
  exact ⟨rfl, bel⟩
open Go.RowKit

set_option maxRecDepth 100000 in
theorem lg_bar1 {lo gs gp : Nat} {A : Option Addr} {c : Nat} {hs : List Oh} (w : World) (hT : Sv lo gs gp w ⟨⟨192, 168, 1, 1⟩, 4294967040, 3600⟩ uS0) (hO : Opv w A 2 c hs [(53, [3]), (50, [192, 168, 1, 100])])  : Calls Try.prog 10 #[.pointer (some ⟨gs, 0, none⟩), .agg #[.int .i64 1, .int .i64 0, .int .u32 8, .int .i64 0, .int .i64 0, .int .u8 0, .int .u8 0, .int .u8 0, .int .u8 0, .int .u8 0, .int .u8 0, .int .u8 0, .int .u8 0, .int .u8 0, .int .u8 0, .int .u8 0, .int .u8 0, .int .u8 0, .int .u8 0, .int .u8 0, .int .u8 0, .int .u8 2, .int .u8 9, .int .u8 0, .int .u8 0, .int .u8 0, .int .u8 0, .slice A 2 c], .int .i64 0] w fun e w' => ∃ A2 c2 hs2, e = .returned (.tuple #[.agg #[.int .i64 2, .int .i64 0, .int .u32 8, .int .i64 0, .int .i64 0, .int .u8 0, .int .u8 0, .int .u8 0, .int .u8 0, .int .u8 192, .int .u8 168, .int .u8 1, .int .u8 100, .int .u8 192, .int .u8 168, .int .u8 1, .int .u8 1, .int .u8 0, .int .u8 0, .int .u8 0, .int .u8 0, .int .u8 2, .int .u8 9, .int .u8 0, .int .u8 0, .int .u8 0, .int .u8 0, .slice A2 6 c2, .int .u8 2, .int .u8 9, .int .u8 0, .int .u8 0, .int .u8 0, .int .u8 0, .int .u8 192, .int .u8 168, .int .u8 1, .int .u8 100], .bool true]) ∧ Opv w' A2 6 c2 hs2 [(53, [5]), (54, (⟨192, 168, 1, 1⟩ : Ad4).l), (51, four 3600), (1, four 4294967040), (3, (⟨192, 168, 1, 1⟩ : Ad4).l), (6, (⟨192, 168, 1, 1⟩ : Ad4).l)] ∧ (∀ q, q < w.heap.size → Oa A2 6 hs2 q) ∧ Sv lo gs gp w' ⟨⟨192, 168, 1, 1⟩, 4294967040, 3600⟩ (reS 0 3600 0) ∧ Kt [84, 101] w w' ∧ Below lo w w' := by
  have h_ := sget_opt_your (sa := Ad4.zero) (a := lA 100) (h := ⟨1, 0, 8, 0, 0, 0, 0, 0, 0, 0, 0, 0, 0, 0, 0, 0, 0, 0, 0, 0, 0, 2, 9, 0, 0, 0, 0⟩) w hT hO (by kernel_rfl) (by omega) (by omega) (by kernel_rfl) (by kernel_rfl) (by kernel_rfl) (by kernel_rfl) (re_take (i := 0) (by omega)) (by kernel_rfl) (by kernel_rfl)
  exact h_
set_option maxRecDepth 100000 in
theorem lg_bar2 {lo gs gp : Nat} {A : Option Addr} {c : Nat} {hs : List Oh} (w : World) (hT : Sv lo gs gp w ⟨⟨192, 168, 1, 1⟩, 4294967040, 3600⟩ (reS 0 3600 0)) (hO : Opv w A 2 c hs [(53, [4]), (50, [192, 168, 1, 100])])  : Calls Try.prog 10 #[.pointer (some ⟨gs, 0, none⟩), .agg #[.int .i64 1, .int .i64 0, .int .u32 8, .int .i64 0, .int .i64 0, .int .u8 0, .int .u8 0, .int .u8 0, .int .u8 0, .int .u8 0, .int .u8 0, .int .u8 0, .int .u8 0, .int .u8 0, .int .u8 0, .int .u8 0, .int .u8 0, .int .u8 0, .int .u8 0, .int .u8 0, .int .u8 0, .int .u8 2, .int .u8 9, .int .u8 0, .int .u8 0, .int .u8 0, .int .u8 0, .slice A 2 c], .int .i64 0] w fun e w' => e = .returned (.tuple #[.agg #[.int .i64 0, .int .i64 0, .int .u32 0, .int .i64 0, .int .i64 0, .int .u8 0, .int .u8 0, .int .u8 0, .int .u8 0, .int .u8 0, .int .u8 0, .int .u8 0, .int .u8 0, .int .u8 0, .int .u8 0, .int .u8 0, .int .u8 0, .int .u8 0, .int .u8 0, .int .u8 0, .int .u8 0, .int .u8 0, .int .u8 0, .int .u8 0, .int .u8 0, .int .u8 0, .int .u8 0, .slice none 0 0, .int .u8 0, .int .u8 0, .int .u8 0, .int .u8 0, .int .u8 0, .int .u8 0, .int .u8 0, .int .u8 0, .int .u8 0, .int .u8 0], .bool false]) ∧ Sv lo gs gp w' ⟨⟨192, 168, 1, 1⟩, 4294967040, 3600⟩ (barS ((reS 0 3600 0).adv 0) (nA 0) 0 600) ∧ Kt [84, 101] w w' ∧ Below lo w w' := by
  have h_ := sget_bar (a := lA 100) (bb2 := true) (h := ⟨1, 0, 8, 0, 0, 0, 0, 0, 0, 0, 0, 0, 0, 0, 0, 0, 0, 0, 0, 0, 0, 2, 9, 0, 0, 0, 0⟩) w hT hO (by kernel_rfl) (by kernel_rfl) (by kernel_rfl) ba_of ba_bar.1
  exact h_
set_option maxRecDepth 100000 in
theorem lg_bar3 {lo gs gp : Nat} {A : Option Addr} {c : Nat} {hs : List Oh} {t : Int} (w : World) (hT : Sv lo gs gp w ⟨⟨192, 168, 1, 1⟩, 4294967040, 3600⟩ baS) (hO : Opv w A 2 c hs [(53, [3]), (50, [192, 168, 1, 100])]) (h0 : 0 ≤ t) (h1 : t < 600) : Calls Try.prog 10 #[.pointer (some ⟨gs, 0, none⟩), .agg #[.int .i64 1, .int .i64 0, .int .u32 8, .int .i64 0, .int .i64 0, .int .u8 0, .int .u8 0, .int .u8 0, .int .u8 0, .int .u8 0, .int .u8 0, .int .u8 0, .int .u8 0, .int .u8 0, .int .u8 0, .int .u8 0, .int .u8 0, .int .u8 0, .int .u8 0, .int .u8 0, .int .u8 0, .int .u8 2, .int .u8 8, .int .u8 0, .int .u8 0, .int .u8 0, .int .u8 0, .slice A 2 c], .int .i64 t] w fun e w' => ∃ A2 c2 hs2, e = .returned (.tuple #[.agg #[.int .i64 2, .int .i64 0, .int .u32 8, .int .i64 0, .int .i64 0, .int .u8 0, .int .u8 0, .int .u8 0, .int .u8 0, .int .u8 0, .int .u8 0, .int .u8 0, .int .u8 0, .int .u8 192, .int .u8 168, .int .u8 1, .int .u8 1, .int .u8 0, .int .u8 0, .int .u8 0, .int .u8 0, .int .u8 2, .int .u8 8, .int .u8 0, .int .u8 0, .int .u8 0, .int .u8 0, .slice A2 2 c2, .int .u8 255, .int .u8 255, .int .u8 255, .int .u8 255, .int .u8 255, .int .u8 255, .int .u8 255, .int .u8 255, .int .u8 255, .int .u8 255], .bool true]) ∧ Opv w' A2 2 c2 hs2 [(53, [6]), (54, (⟨192, 168, 1, 1⟩ : Ad4).l)] ∧ (∀ q, q < w.heap.size → Oa A2 2 hs2 q) ∧ Sv lo gs gp w' ⟨⟨192, 168, 1, 1⟩, 4294967040, 3600⟩ (takeS baS m8 (nA 0) t 3600).2 ∧ Kt [84, 101] w w' ∧ Below lo w w' := by
  have h_ := sget_opt_nak (sa := Ad4.zero) (a := lA 100) (r := 8) (h := ⟨1, 0, 8, 0, 0, 0, 0, 0, 0, 0, 0, 0, 0, 0, 0, 0, 0, 0, 0, 0, 0, 2, 8, 0, 0, 0, 0⟩) w hT hO (by kernel_rfl) (by omega) (by omega) (by kernel_rfl) (by kernel_rfl) (by kernel_rfl) (by kernel_rfl) (Prod.ext (ba_soon h0 h1) rfl) (by kernel_rfl)
  exact h_
set_option maxRecDepth 100000 in
theorem lg_bar4 {lo gs gp : Nat} {A : Option Addr} {c : Nat} {hs : List Oh} {t : Int} (w : World) (hT : Sv lo gs gp w ⟨⟨192, 168, 1, 1⟩, 4294967040, 3600⟩ baS) (hO : Opv w A 2 c hs [(53, [3]), (50, [192, 168, 1, 100])]) (h0 : 600 ≤ t) (h1 : t ≤ 3000) : Calls Try.prog 10 #[.pointer (some ⟨gs, 0, none⟩), .agg #[.int .i64 1, .int .i64 0, .int .u32 8, .int .i64 0, .int .i64 0, .int .u8 0, .int .u8 0, .int .u8 0, .int .u8 0, .int .u8 0, .int .u8 0, .int .u8 0, .int .u8 0, .int .u8 0, .int .u8 0, .int .u8 0, .int .u8 0, .int .u8 0, .int .u8 0, .int .u8 0, .int .u8 0, .int .u8 2, .int .u8 8, .int .u8 0, .int .u8 0, .int .u8 0, .int .u8 0, .slice A 2 c], .int .i64 t] w fun e w' => ∃ A2 c2 hs2, e = .returned (.tuple #[.agg #[.int .i64 2, .int .i64 0, .int .u32 8, .int .i64 0, .int .i64 0, .int .u8 0, .int .u8 0, .int .u8 0, .int .u8 0, .int .u8 192, .int .u8 168, .int .u8 1, .int .u8 100, .int .u8 192, .int .u8 168, .int .u8 1, .int .u8 1, .int .u8 0, .int .u8 0, .int .u8 0, .int .u8 0, .int .u8 2, .int .u8 8, .int .u8 0, .int .u8 0, .int .u8 0, .int .u8 0, .slice A2 6 c2, .int .u8 2, .int .u8 8, .int .u8 0, .int .u8 0, .int .u8 0, .int .u8 0, .int .u8 192, .int .u8 168, .int .u8 1, .int .u8 100], .bool true]) ∧ Opv w' A2 6 c2 hs2 [(53, [5]), (54, (⟨192, 168, 1, 1⟩ : Ad4).l), (51, four 3600), (1, four 4294967040), (3, (⟨192, 168, 1, 1⟩ : Ad4).l), (6, (⟨192, 168, 1, 1⟩ : Ad4).l)] ∧ (∀ q, q < w.heap.size → Oa A2 6 hs2 q) ∧ Sv lo gs gp w' ⟨⟨192, 168, 1, 1⟩, 4294967040, 3600⟩ (takeS baS m8 (nA 0) t 3600).2 ∧ Kt [84, 101] w w' ∧ Below lo w w' := by
  have h_ := sget_opt_your (sa := Ad4.zero) (a := lA 100) (h := ⟨1, 0, 8, 0, 0, 0, 0, 0, 0, 0, 0, 0, 0, 0, 0, 0, 0, 0, 0, 0, 0, 2, 8, 0, 0, 0, 0⟩) w hT hO (by kernel_rfl) (by omega) (by omega) (by kernel_rfl) (by kernel_rfl) (by kernel_rfl) (by kernel_rfl) (Prod.ext (ba_late h0 h1) rfl) (by kernel_rfl) (by kernel_rfl)
  exact h_
set_option linter.unusedVariables false in
set_option linter.unusedSimpArgs false in
set_option maxRecDepth 100000 in
set_option maxHeartbeats 16000000 in
theorem serveBars_walk (later : Int) (w : World) : Calls Try.prog 6 #[.int .i64 later] w fun e w' => e = .returned (.bool true) ∧ Below w.heap.size w w' := by
  have bel := Below.refl w.heap.size w
  go_enter Try.func6, Try.ntmps6
  go_wp2_with fail
  with_reducible refine (sawake_any _).mono ?_
  rintro e w1 ⟨rfl, b1⟩
  replace bel := bel.trans (b1.mono bel.size)
  clear b1
  by_cases c0 : later < 0
  · go_wp2_with fail
    go_ret
    exact ⟨rfl, bel⟩
  have Hc0 : Hid (0 ≤ later) := Lib.hid (by omega)
  replace c0 : decide (later < 0) = false := decide_eq_false c0
  by_cases c1 : 3000 < later
  · go_wp2_with fail
    go_ret
    exact ⟨rfl, bel⟩
  have Hc1 : Hid (later ≤ 3000) := Lib.hid (by omega)
  replace c1 : decide (3000 < later) = false := decide_eq_false c1
  go_wp2_with fail
  with_reducible refine (cusual_any _).mono ?_
  rintro e w2 ⟨rfl, b2⟩
  replace bel := bel.trans (b2.mono bel.size)
  clear b2
  go_wp2_with fail
  have HLO_ := bel.size
  with_reducible refine (snew_us _).mono ?_
  rintro e w3 ⟨gs, gp, rfl, hT, b3⟩
  replace bel := bel.trans (b3.mono bel.size)
  clear b3
  replace hT : Sv w.heap.size gs gp w3 ⟨⟨192, 168, 1, 1⟩, 4294967040, 3600⟩ uS0 := hT.lo_mono HLO_
  clear HLO_
  go_wp2_with (first | ((with_reducible show wpList _ _ _ (⟨some 5, _, _, _, _, _⟩ :: _) _ _); refine wpList_new_a rfl 32 rfl #[.int .u8 0, .int .u8 0, .int .u8 0, .int .u8 0, .int .u8 0, .int .u8 0] (by kernel_rfl) ?_; intro g5 w4 ge hh bb; have omb := Nat.le_trans bel.size ge; replace hT := hT.below bb; replace bel := bel.trans (bb.mono bel.size); have hmb := hh; clear hh ge bb) | ((with_reducible show wpList _ _ _ (⟨some 6, _, _, _, _, _⟩ :: _) _ _); refine wpList_new_a rfl 28 rfl #[.int .u8 0, .int .u8 0, .int .u8 0, .int .u8 0] (by kernel_rfl) ?_; intro g6 w5 ge hh bb; have d_mb_xb := ne_new (hlt hmb) ge; have oxb := Nat.le_trans bel.size ge; replace hmb := blk_u hmb bb; replace hT := hT.below bb; replace bel := bel.trans (bb.mono bel.size); have hxb := hh; clear hh ge bb) | ((with_reducible show wpList _ _ _ (⟨none, Op.store _ (.tmp 5) _, _, _, _, _⟩ :: _) _ _); refine wpList_store_blk rfl 32 (.tmp 5) (.tmp 26) rfl g5 rfl _ rfl _ 32 hmb (by rfl) (by kernel_rfl) (by kernel_rfl) ?_; intro w6 hq gr; replace hxb := blk_a hxb gr (ne_symm d_mb_xb); replace hT := hT.grown gr hmb (by decide); replace bel := below_grown bel gr omb bel.size; clear hmb; have hmb := hq; clear hq gr) | ((with_reducible show wpList _ _ _ (⟨none, Op.store _ (.tmp 6) _, _, _, _, _⟩ :: _) _ _); refine wpList_store_blk rfl 28 (.tmp 6) (.tmp 27) rfl g6 rfl _ rfl _ 28 hxb (by rfl) (by kernel_rfl) (by kernel_rfl) ?_; intro w7 hq gr; replace hmb := blk_a hmb gr d_mb_xb; replace hT := hT.grown gr hxb (by decide); replace bel := below_grown bel gr oxb bel.size; clear hxb; have hxb := hq; clear hq gr; have R29 := Lib.hid (range_lit hmb 0 6 [.int .u8 2, .int .u8 9, .int .u8 0, .int .u8 0, .int .u8 0, .int .u8 0] rfl)) | ((with_reducible show wpList _ _ _ (⟨some 29, _, _, _, _, _⟩ :: _) _ _); refine wpList_load_rng 32 (.tmp 5) rfl (by kernel_rfl) _ _ rfl _ R29.out _ Try.underlying32 rfl (by kernel_rfl) ?_; have R30 := Lib.hid (range_lit hxb 0 4 [.int .u8 192, .int .u8 168, .int .u8 1, .int .u8 100] rfl)) | ((with_reducible show wpList _ _ _ (⟨some 30, _, _, _, _, _⟩ :: _) _ _); refine wpList_load_rng 28 (.tmp 6) rfl (by kernel_rfl) _ _ rfl _ R30.out _ Try.underlying28 rfl (by kernel_rfl) ?_))
  try clear R29
  try clear R30
  have sp_mb := hlt hmb
  have sp_xb := hlt hxb
  have hwz := bel.size
  with_reducible refine (lwant_o (b0 := 192) (b1 := 168) (b2 := 1) (b3 := 100) _ rfl rfl rfl rfl).mono ?_
  rintro e w8 ⟨Awa, cwa, hwa, rfl, hO, fP, b8⟩
  replace hmb := blk_u hmb b8
  replace hxb := blk_u hxb b8
  replace hT := hT.below b8
  replace bel := bel.trans (b8.mono bel.size)
  clear b8
  have fOa : ∀ q, q < w.heap.size → Oa Awa 2 hwa q := fun q_ hq_ => fP q_ (Nat.lt_of_lt_of_le hq_ hwz)
  clear hwz
  have oa_mb := fP _ sp_mb
  have oa_xb := fP _ sp_xb
  clear sp_mb sp_xb
  clear fP
  go_wp2_with fail
  go_wp2_with fail
  have sp_mb := hlt hmb
  have sp_xb := hlt hxb
  have hwz := bel.size
  with_reducible refine (lg_bar1 _ hT hO).mono ?_
  rintro e w9 ⟨A2a, c2a, hs2a, rfl, hPa, fP, hT_, k_, bb⟩
  replace hmb := Kt.blk k_ hmb (by decide)
  replace hxb := Kt.blk k_ hxb (by decide)
  replace hO := hO.kt k_
  clear hT
  have hT := hT_
  replace bel := bel.trans bb
  clear bb k_ hT_
  have fAa : ∀ q, q < w.heap.size → Oa A2a 6 hs2a q := fun q_ hq_ => fP q_ (Nat.lt_of_lt_of_le hq_ hwz)
  clear hwz
  have oba_mb := fP _ sp_mb
  have oba_xb := fP _ sp_xb
  clear sp_mb sp_xb
  clear fP
  clear hO
  clear hPa
  have R33 := Lib.hid (range_lit hmb 0 6 [.int .u8 2, .int .u8 9, .int .u8 0, .int .u8 0, .int .u8 0, .int .u8 0] rfl)
  go_wp2_with (first | ((with_reducible show wpList _ _ _ (⟨some 33, _, _, _, _, _⟩ :: _) _ _); refine wpList_load_rng 32 (.tmp 5) rfl (by kernel_rfl) _ _ rfl _ R33.out _ Try.underlying32 rfl (by kernel_rfl) ?_; have R34 := Lib.hid (range_lit hxb 0 4 [.int .u8 192, .int .u8 168, .int .u8 1, .int .u8 100] rfl)) | ((with_reducible show wpList _ _ _ (⟨some 34, _, _, _, _, _⟩ :: _) _ _); refine wpList_load_rng 28 (.tmp 6) rfl (by kernel_rfl) _ _ rfl _ R34.out _ Try.underlying28 rfl (by kernel_rfl) ?_))
  try clear R33
  try clear R34
  have hwz := bel.size
  have sp_mb := hlt hmb
  have sp_xb := hlt hxb
  with_reducible refine (lwant_b _).mono ?_
  rintro e w10 ⟨g_vr, g_vk, g_vx, rfl, l0_, l1_, l2_, hvr, hvk, hvx, d_vk_vr, d_vx_vr, d_vx_vk, b10⟩
  replace hmb := blk_u hmb b10
  replace hxb := blk_u hxb b10
  replace hT := hT.below b10
  replace bel := bel.trans (b10.mono bel.size)
  clear b10
  have d_mb_vr := ne_new sp_mb l0_
  have d_mb_vk := ne_new sp_mb l1_
  have d_mb_vx := ne_new sp_mb l2_
  have d_xb_vr := ne_new sp_xb l0_
  have d_xb_vk := ne_new sp_xb l1_
  have d_xb_vx := ne_new sp_xb l2_
  have ovr := Nat.le_trans hwz l0_
  have ovk := Nat.le_trans hwz l1_
  have ovx := Nat.le_trans hwz l2_
  clear hwz l0_ l1_ l2_ sp_mb sp_xb
  go_wp2_with (first | ((with_reducible show wpList _ _ _ (⟨some 7, _, _, _, _, _⟩ :: _) _ _); refine wpList_new_a rfl 41 rfl #[.int .i64 0, .int .i64 0, .int .u32 0, .int .i64 0, .int .i64 0, .int .u8 0, .int .u8 0, .int .u8 0, .int .u8 0, .int .u8 0, .int .u8 0, .int .u8 0, .int .u8 0, .int .u8 0, .int .u8 0, .int .u8 0, .int .u8 0, .int .u8 0, .int .u8 0, .int .u8 0, .int .u8 0, .int .u8 0, .int .u8 0, .int .u8 0, .int .u8 0, .int .u8 0, .int .u8 0, .slice none 0 0] (by kernel_rfl) ?_; intro g7 w11 ge hh bb; have d_mb_db := ne_new (hlt hmb) ge; have d_xb_db := ne_new (hlt hxb) ge; have d_vr_db := ne_new (hlt hvr) ge; have d_vk_db := ne_new (hlt hvk) ge; have d_vx_db := ne_new (hlt hvx) ge; have odb := Nat.le_trans bel.size ge; replace hmb := blk_u hmb bb; replace hxb := blk_u hxb bb; replace hvr := blk_u hvr bb; replace hvk := blk_u hvk bb; replace hvx := blk_u hvx bb; replace hT := hT.below bb; replace bel := bel.trans (bb.mono bel.size); have hdb := hh; clear hh ge bb) | ((with_reducible show wpList _ _ _ (⟨none, Op.store _ (.tmp 7) _, _, _, _, _⟩ :: _) _ _); refine wpList_store_blk rfl 41 (.tmp 7) (.tmp 35) rfl g7 rfl _ rfl _ 41 hdb (by rfl) (by kernel_rfl) (by kernel_rfl) ?_; intro w12 hq gr; replace hmb := blk_a hmb gr d_mb_db; replace hxb := blk_a hxb gr d_xb_db; replace hvr := blk_a hvr gr d_vr_db; replace hvk := blk_a hvk gr d_vk_db; replace hvx := blk_a hvx gr d_vx_db; replace hT := hT.grown gr hdb (by decide); replace bel := below_grown bel gr odb bel.size; clear hdb; have hdb := hq; clear hq gr; have R37 := cell_lit hdb 27 _ rfl) | ((with_reducible show wpList _ _ _ (⟨some 38, _, _, _, _, _⟩ :: _) _ _); refine wpList_lit_n rfl 47 5 1 _ rfl #[.int .u8 4] (.int .u8 0) Try.underlying47 (by kernel_rfl) 1 (by kernel_rfl) (by decide) (by kernel_rfl) ?_; intro g38 w13 ge lt hh bb; have hl : w13.heap[g38]? = some (.cells (([4] : List UInt8).map u8v).toArray 5 (0, 0)) := (by simpa [u8v, byteOf_val] using hh); have skw := own_lit (B := w12.heap.size) ([4]) hl ge 1 rfl (by simp [maxLen]); have sk := (own_sl skw).1; have sklo := bel.size; clear hl; have skge := ge; have lz_sk := bb.size; have y_sk_mb := Lib.hid (hlt hmb); have y_sk_xb := Lib.hid (hlt hxb); have y_sk_vr := Lib.hid (hlt hvr); have y_sk_vk := Lib.hid (hlt hvk); have y_sk_vx := Lib.hid (hlt hvx); have y_sk_db := Lib.hid (hlt hdb); have d_mb_bk := ne_new (hlt hmb) ge; have d_xb_bk := ne_new (hlt hxb) ge; have d_vr_bk := ne_new (hlt hvr) ge; have d_vk_bk := ne_new (hlt hvk) ge; have d_vx_bk := ne_new (hlt hvx) ge; have d_db_bk := ne_new (hlt hdb) ge; have obk := Nat.le_trans bel.size ge; replace hmb := blk_u hmb bb; replace hxb := blk_u hxb bb; replace hvr := blk_u hvr bb; replace hvk := blk_u hvk bb; replace hvx := blk_u hvx bb; replace hdb := blk_u hdb bb; replace hT := hT.below bb; replace bel := bel.trans (bb.mono bel.size); have hbk := hh; clear hh lt ge bb; have av_sk_mb := (own_sl skw).2.av y_sk_mb.out; have av_sk_xb := (own_sl skw).2.av y_sk_xb.out; have av_sk_vr := (own_sl skw).2.av y_sk_vr.out; have av_sk_vk := (own_sl skw).2.av y_sk_vk.out; have av_sk_vx := (own_sl skw).2.av y_sk_vx.out; have av_sk_db := (own_sl skw).2.av y_sk_db.out) | ((with_reducible show wpList _ _ _ (⟨none, Op.store _ (.tmp 40) _, _, _, _, _⟩ :: _) _ _); refine wpList_store_part rfl 47 (.tmp 40) (.tmp 38) rfl g_vr 1 rfl [.slice (some ⟨g38, 0, none⟩) 1 1] rfl [.int .i64 53, .slice (some ⟨g_vk, 0, none⟩) 1 1, .int .i64 50, .slice (some ⟨g_vx, 0, none⟩) 4 4] 49 hvr (by simp) [.int .i64 53, .slice (some ⟨g38, 0, none⟩) 1 1, .int .i64 50, .slice (some ⟨g_vx, 0, none⟩) 4 4] rfl (by kernel_rfl) (by rfl) ?_; intro w14 hq gr; replace sk := sk.away av_sk_vr gr; replace skw := own_away skw y_sk_vr.out gr; replace lz_sk := Nat.le_trans lz_sk gr.size; replace hmb := blk_a hmb gr d_mb_vr; replace hxb := blk_a hxb gr d_xb_vr; replace hvk := blk_a hvk gr d_vk_vr; replace hvx := blk_a hvx gr d_vx_vr; replace hdb := blk_a hdb gr (ne_symm d_vr_db); replace hbk := blk_a hbk gr (ne_symm d_vr_bk); replace hT := hT.grown gr hvr (by decide); replace bel := below_grown bel gr ovr bel.size; clear hvr; have hvr := hq; clear hq gr; have R43 := Lib.hid (range_lit hdb 0 28 [.int .i64 1, .int .i64 0, .int .u32 8, .int .i64 0, .int .i64 0, .int .u8 0, .int .u8 0, .int .u8 0, .int .u8 0, .int .u8 0, .int .u8 0, .int .u8 0, .int .u8 0, .int .u8 0, .int .u8 0, .int .u8 0, .int .u8 0, .int .u8 0, .int .u8 0, .int .u8 0, .int .u8 0, .int .u8 2, .int .u8 9, .int .u8 0, .int .u8 0, .int .u8 0, .int .u8 0, .slice (some ⟨g_vr, 0, none⟩) 2 2] rfl)) | ((with_reducible show wpList _ _ _ (⟨some 43, _, _, _, _, _⟩ :: _) _ _); refine wpList_load_rng 41 (.tmp 7) rfl (by kernel_rfl) _ _ rfl _ R43.out _ Try.underlying41 rfl (by kernel_rfl) ?_))
  try clear R37
  try clear R43
  have hO := os_two (x := ⟨53, some ⟨g38, 0, none⟩, 1, 1⟩) (y := ⟨50, some ⟨g_vx, 0, none⟩, 4, 4⟩) hvr (ob_one (x := 4) 53 hbk rfl (by decide)) (ob_four (x0 := 192) (x1 := 168) (x2 := 1) (x3 := 100) 50 hvx rfl rfl rfl rfl (by decide))
  go_wp2_with fail
  with_reducible refine (lg_bar2 _ hT hO).mono ?_
  rintro e w15 ⟨rfl, hT_, k_, bb⟩
  replace hmb := Kt.blk k_ hmb (by decide)
  replace hxb := Kt.blk k_ hxb (by decide)
  replace hvr := Kt.blk k_ hvr (by decide)
  replace hvk := Kt.blk k_ hvk (by decide)
  replace hvx := Kt.blk k_ hvx (by decide)
  replace hdb := Kt.blk k_ hdb (by decide)
  replace hbk := Kt.blk k_ hbk (by decide)
  clear sk skw lz_sk
  clear hT
  have hT := hT_
  replace bel := bel.trans bb
  clear bb k_ hT_
  clear hO
  rw [ba_bar.2] at hT
  go_wp2_with (first | ((with_reducible show wpList _ _ _ (⟨some 8, _, _, _, _, _⟩ :: _) _ _); refine wpList_new_a rfl 43 rfl #[.int .i64 0, .int .i64 0, .int .u32 0, .int .i64 0, .int .i64 0, .int .u8 0, .int .u8 0, .int .u8 0, .int .u8 0, .int .u8 0, .int .u8 0, .int .u8 0, .int .u8 0, .int .u8 0, .int .u8 0, .int .u8 0, .int .u8 0, .int .u8 0, .int .u8 0, .int .u8 0, .int .u8 0, .int .u8 0, .int .u8 0, .int .u8 0, .int .u8 0, .int .u8 0, .int .u8 0, .slice none 0 0, .int .u8 0, .int .u8 0, .int .u8 0, .int .u8 0, .int .u8 0, .int .u8 0, .int .u8 0, .int .u8 0, .int .u8 0, .int .u8 0] (by kernel_rfl) ?_; intro g8 w16 ge hh bb; have d_mb_yd := ne_new (hlt hmb) ge; have d_xb_yd := ne_new (hlt hxb) ge; have d_vr_yd := ne_new (hlt hvr) ge; have d_vk_yd := ne_new (hlt hvk) ge; have d_vx_yd := ne_new (hlt hvx) ge; have d_db_yd := ne_new (hlt hdb) ge; have d_bk_yd := ne_new (hlt hbk) ge; have oyd := Nat.le_trans bel.size ge; replace hmb := blk_u hmb bb; replace hxb := blk_u hxb bb; replace hvr := blk_u hvr bb; replace hvk := blk_u hvk bb; replace hvx := blk_u hvx bb; replace hdb := blk_u hdb bb; replace hbk := blk_u hbk bb; replace hT := hT.below bb; replace bel := bel.trans (bb.mono bel.size); have hyd := hh; clear hh ge bb) | ((with_reducible show wpList _ _ _ (⟨none, Op.store _ (.tmp 8) _, _, _, _, _⟩ :: _) _ _); refine wpList_store_blk rfl 43 (.tmp 8) (.tmp 45) rfl g8 rfl _ rfl _ 43 hyd (by rfl) (by kernel_rfl) (by kernel_rfl) ?_; intro w17 hq gr; replace hmb := blk_a hmb gr d_mb_yd; replace hxb := blk_a hxb gr d_xb_yd; replace hvr := blk_a hvr gr d_vr_yd; replace hvk := blk_a hvk gr d_vk_yd; replace hvx := blk_a hvx gr d_vx_yd; replace hdb := blk_a hdb gr d_db_yd; replace hbk := blk_a hbk gr d_bk_yd; replace hT := hT.grown gr hyd (by decide); replace bel := below_grown bel gr oyd bel.size; clear hyd; have hyd := hq; clear hq gr; have R50 := Lib.hid (range_lit hxb 0 4 [.int .u8 192, .int .u8 168, .int .u8 1, .int .u8 100] rfl)) | ((with_reducible show wpList _ _ _ (⟨some 50, _, _, _, _, _⟩ :: _) _ _); refine wpList_load_rng 28 (.tmp 6) rfl (by kernel_rfl) _ _ rfl _ R50.out _ Try.underlying28 rfl (by kernel_rfl) ?_))
  try clear R50
  have sp_mb := hlt hmb
  have sp_xb := hlt hxb
  have sp_vr := hlt hvr
  have sp_vk := hlt hvk
  have sp_vx := hlt hvx
  have sp_db := hlt hdb
  have sp_bk := hlt hbk
  have sp_yd := hlt hyd
  have hwz := bel.size
  with_reducible refine (lwant_o (b0 := 192) (b1 := 168) (b2 := 1) (b3 := 100) _ rfl rfl rfl rfl).mono ?_
  rintro e w18 ⟨Awb, cwb, hwb, rfl, hO, fP, b18⟩
  replace hmb := blk_u hmb b18
  replace hxb := blk_u hxb b18
  replace hvr := blk_u hvr b18
  replace hvk := blk_u hvk b18
  replace hvx := blk_u hvx b18
  replace hdb := blk_u hdb b18
  replace hbk := blk_u hbk b18
  replace hyd := blk_u hyd b18
  replace hT := hT.below b18
  replace bel := bel.trans (b18.mono bel.size)
  clear b18
  have fOb : ∀ q, q < w.heap.size → Oa Awb 2 hwb q := fun q_ hq_ => fP q_ (Nat.lt_of_lt_of_le hq_ hwz)
  clear hwz
  have oa_mb := fP _ sp_mb
  have oa_xb := fP _ sp_xb
  have oa_vr := fP _ sp_vr
  have oa_vk := fP _ sp_vk
  have oa_vx := fP _ sp_vx
  have oa_db := fP _ sp_db
  have oa_bk := fP _ sp_bk
  have oa_yd := fP _ sp_yd
  clear sp_mb sp_xb sp_vr sp_vk sp_vx sp_db sp_bk sp_yd
  clear fP
  by_cases hl : 600 ≤ later
  · have HL1 : Hid (600 ≤ later) := Lib.hid hl
    have HL2 : Hid (later ≤ 3000) := Hc1
    go_wp2_with fail
    go_wp2_with fail
    have sp_mb := hlt hmb
    have sp_xb := hlt hxb
    have sp_vr := hlt hvr
    have sp_vk := hlt hvk
    have sp_vx := hlt hvx
    have sp_db := hlt hdb
    have sp_bk := hlt hbk
    have sp_yd := hlt hyd
    have hwz := bel.size
    with_reducible refine (lg_bar4 _ hT hO HL1.out HL2.out).mono ?_
    rintro e w19 ⟨A2c, c2c, hs2c, rfl, hP, fP, hT_, k_, bb⟩
    replace hmb := Kt.blk k_ hmb (by decide)
    replace hxb := Kt.blk k_ hxb (by decide)
    replace hvr := Kt.blk k_ hvr (by decide)
    replace hvk := Kt.blk k_ hvk (by decide)
    replace hvx := Kt.blk k_ hvx (by decide)
    replace hdb := Kt.blk k_ hdb (by decide)
    replace hbk := Kt.blk k_ hbk (by decide)
    replace hyd := Kt.blk k_ hyd (by decide)
    replace hO := hO.kt k_
    clear hT
    have hT := hT_
    replace bel := bel.trans bb
    clear bb k_ hT_
    have fAc : ∀ q, q < w.heap.size → Oa A2c 6 hs2c q := fun q_ hq_ => fP q_ (Nat.lt_of_lt_of_le hq_ hwz)
    clear hwz
    have ob_mb := fP _ sp_mb
    have ob_xb := fP _ sp_xb
    have ob_vr := fP _ sp_vr
    have ob_vk := fP _ sp_vk
    have ob_vx := fP _ sp_vx
    have ob_db := fP _ sp_db
    have ob_bk := fP _ sp_bk
    have ob_yd := fP _ sp_yd
    clear sp_mb sp_xb sp_vr sp_vk sp_vx sp_db sp_bk sp_yd
    clear fP
    clear hO
    go_wp2_with (first | ((with_reducible show wpList _ _ _ (⟨some 10, _, _, _, _, _⟩ :: _) _ _); refine wpList_new_a rfl 43 rfl #[.int .i64 0, .int .i64 0, .int .u32 0, .int .i64 0, .int .i64 0, .int .u8 0, .int .u8 0, .int .u8 0, .int .u8 0, .int .u8 0, .int .u8 0, .int .u8 0, .int .u8 0, .int .u8 0, .int .u8 0, .int .u8 0, .int .u8 0, .int .u8 0, .int .u8 0, .int .u8 0, .int .u8 0, .int .u8 0, .int .u8 0, .int .u8 0, .int .u8 0, .int .u8 0, .int .u8 0, .slice none 0 0, .int .u8 0, .int .u8 0, .int .u8 0, .int .u8 0, .int .u8 0, .int .u8 0, .int .u8 0, .int .u8 0, .int .u8 0, .int .u8 0] (by kernel_rfl) ?_; intro g10 w20 ge hh bb; have d_mb_yb := ne_new (hlt hmb) ge; have d_xb_yb := ne_new (hlt hxb) ge; have d_vr_yb := ne_new (hlt hvr) ge; have d_vk_yb := ne_new (hlt hvk) ge; have d_vx_yb := ne_new (hlt hvx) ge; have d_db_yb := ne_new (hlt hdb) ge; have d_bk_yb := ne_new (hlt hbk) ge; have d_yd_yb := ne_new (hlt hyd) ge; have oyb := Nat.le_trans bel.size ge; have ob_yb := hP.oa ge; replace hmb := blk_u hmb bb; replace hxb := blk_u hxb bb; replace hvr := blk_u hvr bb; replace hvk := blk_u hvk bb; replace hvx := blk_u hvx bb; replace hdb := blk_u hdb bb; replace hbk := blk_u hbk bb; replace hyd := blk_u hyd bb; replace hT := hT.below bb; replace hP := hP.below bb; replace bel := bel.trans (bb.mono bel.size); have hyb := hh; clear hh ge bb) | ((with_reducible show wpList _ _ _ (⟨none, Op.store _ (.tmp 10) _, _, _, _, _⟩ :: _) _ _); refine wpList_store_blk rfl 43 (.tmp 10) (.tmp 54) rfl g10 rfl _ rfl _ 43 hyb (by rfl) (by kernel_rfl) (by kernel_rfl) ?_; intro w21 hq gr; replace hmb := blk_a hmb gr d_mb_yb; replace hxb := blk_a hxb gr d_xb_yb; replace hvr := blk_a hvr gr d_vr_yb; replace hvk := blk_a hvk gr d_vk_yb; replace hvx := blk_a hvx gr d_vx_yb; replace hdb := blk_a hdb gr d_db_yb; replace hbk := blk_a hbk gr d_bk_yb; replace hyd := blk_a hyd gr d_yd_yb; replace hT := hT.grown gr hyb (by decide); replace hP := hP.away ob_yb gr; replace bel := below_grown bel gr oyb bel.size; clear hyb; have hyb := hq; clear hq gr; have R65 := Lib.hid (range_lit hyb 0 28 [.int .i64 2, .int .i64 0, .int .u32 8, .int .i64 0, .int .i64 0, .int .u8 0, .int .u8 0, .int .u8 0, .int .u8 0, .int .u8 192, .int .u8 168, .int .u8 1, .int .u8 100, .int .u8 192, .int .u8 168, .int .u8 1, .int .u8 1, .int .u8 0, .int .u8 0, .int .u8 0, .int .u8 0, .int .u8 2, .int .u8 8, .int .u8 0, .int .u8 0, .int .u8 0, .int .u8 0, .slice A2c 6 c2c] rfl)) | ((with_reducible show wpList _ _ _ (⟨some 65, _, _, _, _, _⟩ :: _) _ _); refine wpList_load_rng 41 (.tmp 64) rfl (by kernel_rfl) _ _ rfl _ R65.out _ Try.underlying41 rfl (by kernel_rfl) ?_))
    try clear R65
    with_reducible refine (ltype_a (k := 5) _ hP (by kernel_rfl)).mono ?_
    rintro e w22 ⟨rfl, b22⟩
    replace hmb := blk_u hmb b22
    replace hxb := blk_u hxb b22
    replace hvr := blk_u hvr b22
    replace hvk := blk_u hvk b22
    replace hvx := blk_u hvx b22
    replace hdb := blk_u hdb b22
    replace hbk := blk_u hbk b22
    replace hyd := blk_u hyd b22
    replace hyb := blk_u hyb b22
    replace hT := hT.below b22
    replace hP := hP.below b22
    replace bel := bel.trans (b22.mono bel.size)
    clear b22
    go_wp2_with fail
    go_ret
    exact ⟨rfl, bel⟩
  have HL0 : Hid (0 ≤ later) := Hc0
  have HL1 : Hid (later < 600) := Lib.hid (by omega)
  replace hl : decide (600 ≤ later) = false := decide_eq_false hl
  go_wp2_with fail
  go_wp2_with fail
  have sp_mb := hlt hmb
  have sp_xb := hlt hxb
  have sp_vr := hlt hvr
  have sp_vk := hlt hvk
  have sp_vx := hlt hvx
  have sp_db := hlt hdb
  have sp_bk := hlt hbk
  have sp_yd := hlt hyd
  have hwz := bel.size
  with_reducible refine (lg_bar3 _ hT hO HL0.out HL1.out).mono ?_
  rintro e w19 ⟨A2c, c2c, hs2c, rfl, hP, fP, hT_, k_, bb⟩
  replace hmb := Kt.blk k_ hmb (by decide)
  replace hxb := Kt.blk k_ hxb (by decide)
  replace hvr := Kt.blk k_ hvr (by decide)
  replace hvk := Kt.blk k_ hvk (by decide)
  replace hvx := Kt.blk k_ hvx (by decide)
  replace hdb := Kt.blk k_ hdb (by decide)
  replace hbk := Kt.blk k_ hbk (by decide)
  replace hyd := Kt.blk k_ hyd (by decide)
  replace hO := hO.kt k_
  clear hT
  have hT := hT_
  replace bel := bel.trans bb
  clear bb k_ hT_
  have fAc : ∀ q, q < w.heap.size → Oa A2c 2 hs2c q := fun q_ hq_ => fP q_ (Nat.lt_of_lt_of_le hq_ hwz)
  clear hwz
  have ob_mb := fP _ sp_mb
  have ob_xb := fP _ sp_xb
  have ob_vr := fP _ sp_vr
  have ob_vk := fP _ sp_vk
  have ob_vx := fP _ sp_vx
  have ob_db := fP _ sp_db
  have ob_bk := fP _ sp_bk
  have ob_yd := fP _ sp_yd
  clear sp_mb sp_xb sp_vr sp_vk sp_vx sp_db sp_bk sp_yd
  clear fP
  clear hO
  go_wp2_with (first | ((with_reducible show wpList _ _ _ (⟨some 10, _, _, _, _, _⟩ :: _) _ _); refine wpList_new_a rfl 43 rfl #[.int .i64 0, .int .i64 0, .int .u32 0, .int .i64 0, .int .i64 0, .int .u8 0, .int .u8 0, .int .u8 0, .int .u8 0, .int .u8 0, .int .u8 0, .int .u8 0, .int .u8 0, .int .u8 0, .int .u8 0, .int .u8 0, .int .u8 0, .int .u8 0, .int .u8 0, .int .u8 0, .int .u8 0, .int .u8 0, .int .u8 0, .int .u8 0, .int .u8 0, .int .u8 0, .int .u8 0, .slice none 0 0, .int .u8 0, .int .u8 0, .int .u8 0, .int .u8 0, .int .u8 0, .int .u8 0, .int .u8 0, .int .u8 0, .int .u8 0, .int .u8 0] (by kernel_rfl) ?_; intro g10 w20 ge hh bb; have d_mb_yb := ne_new (hlt hmb) ge; have d_xb_yb := ne_new (hlt hxb) ge; have d_vr_yb := ne_new (hlt hvr) ge; have d_vk_yb := ne_new (hlt hvk) ge; have d_vx_yb := ne_new (hlt hvx) ge; have d_db_yb := ne_new (hlt hdb) ge; have d_bk_yb := ne_new (hlt hbk) ge; have d_yd_yb := ne_new (hlt hyd) ge; have oyb := Nat.le_trans bel.size ge; have ob_yb := hP.oa ge; replace hmb := blk_u hmb bb; replace hxb := blk_u hxb bb; replace hvr := blk_u hvr bb; replace hvk := blk_u hvk bb; replace hvx := blk_u hvx bb; replace hdb := blk_u hdb bb; replace hbk := blk_u hbk bb; replace hyd := blk_u hyd bb; replace hT := hT.below bb; replace hP := hP.below bb; replace bel := bel.trans (bb.mono bel.size); have hyb := hh; clear hh ge bb) | ((with_reducible show wpList _ _ _ (⟨none, Op.store _ (.tmp 10) _, _, _, _, _⟩ :: _) _ _); refine wpList_store_blk rfl 43 (.tmp 10) (.tmp 54) rfl g10 rfl _ rfl _ 43 hyb (by rfl) (by kernel_rfl) (by kernel_rfl) ?_; intro w21 hq gr; replace hmb := blk_a hmb gr d_mb_yb; replace hxb := blk_a hxb gr d_xb_yb; replace hvr := blk_a hvr gr d_vr_yb; replace hvk := blk_a hvk gr d_vk_yb; replace hvx := blk_a hvx gr d_vx_yb; replace hdb := blk_a hdb gr d_db_yb; replace hbk := blk_a hbk gr d_bk_yb; replace hyd := blk_a hyd gr d_yd_yb; replace hT := hT.grown gr hyb (by decide); replace hP := hP.away ob_yb gr; replace bel := below_grown bel gr oyb bel.size; clear hyb; have hyb := hq; clear hq gr; have R65 := Lib.hid (range_lit hyb 0 28 [.int .i64 2, .int .i64 0, .int .u32 8, .int .i64 0, .int .i64 0, .int .u8 0, .int .u8 0, .int .u8 0, .int .u8 0, .int .u8 0, .int .u8 0, .int .u8 0, .int .u8 0, .int .u8 192, .int .u8 168, .int .u8 1, .int .u8 1, .int .u8 0, .int .u8 0, .int .u8 0, .int .u8 0, .int .u8 2, .int .u8 8, .int .u8 0, .int .u8 0, .int .u8 0, .int .u8 0, .slice A2c 2 c2c] rfl)) | ((with_reducible show wpList _ _ _ (⟨some 65, _, _, _, _, _⟩ :: _) _ _); refine wpList_load_rng 41 (.tmp 64) rfl (by kernel_rfl) _ _ rfl _ R65.out _ Try.underlying41 rfl (by kernel_rfl) ?_))
  try clear R65
  with_reducible refine (ltype_a (k := 6) _ hP (by kernel_rfl)).mono ?_
  rintro e w22 ⟨rfl, b22⟩
  replace hmb := blk_u hmb b22
  replace hxb := blk_u hxb b22
  replace hvr := blk_u hvr b22
  replace hvk := blk_u hvk b22
  replace hvx := blk_u hvx b22
  replace hdb := blk_u hdb b22
  replace hbk := blk_u hbk b22
  replace hyd := blk_u hyd b22
  replace hyb := blk_u hyb b22
  replace hT := hT.below b22
  replace hP := hP.below b22
  replace bel := bel.trans (b22.mono bel.size)
  clear b22
  go_wp2_with fail
  go_ret
  exact ⟨rfl, bel⟩
end Go.Proofs.Ytapdmlfjohiekaa
