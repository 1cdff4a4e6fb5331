/- Texts put together: Cg5, Sv5, Svf, Svg, Law15, Sv4. -/
import Derived.Test.YtapdmlfjohiekaaK1
import Derived.Test.YtapdmlfjohiekaaK11
import Derived.Test.YtapdmlfjohiekaaK13
import Derived.Test.YtapdmlfjohiekaaK15
import Derived.LoopN
import Derived.Deep.Cut
import Derived.Deep.LoopGhost
namespace Go.Proofs.Ytapdmlfjohiekaa
open Go.RowKit

def Ad4.ofN (n : Nat) : Ad4 := ⟨UInt8.ofNat (n / 16777216), UInt8.ofNat (n / 65536 % 256), UInt8.ofNat (n / 256 % 256), UInt8.ofNat (n % 256)⟩
theorem Ad4.ofN_num {n : Nat} (h : n < 4294967296) : (Ad4.ofN n).num = n := by
  unfold Ad4.num Ad4.ofN
  rw [be_abcd]
  simp only [UInt8.toNat_ofNat']
  omega
theorem adr_ofN {n : Nat} (h : n < 4294967296) : adr n = .agg #[.int .u8 ((Ad4.ofN n).a.toNat : Int), .int .u8 ((Ad4.ofN n).b.toNat : Int), .int .u8 ((Ad4.ofN n).c.toNat : Int), .int .u8 ((Ad4.ofN n).d.toNat : Int)] := by rw [← Ad4.cells, Ad4.ofN_num h]
theorem aof_l (n : Nat) (w : World) (hn : n < 4294967296) : Calls Try.prog 39 #[.int .u32 (n : Int)] w fun e w' => e = .returned (.agg #[.int .u8 ((Ad4.ofN n).a.toNat : Int), .int .u8 ((Ad4.ofN n).b.toNat : Int), .int .u8 ((Ad4.ofN n).c.toNat : Int), .int .u8 ((Ad4.ofN n).d.toNat : Int)]) ∧ Below w.heap.size w w' := by
  refine (aof_any n w hn).mono ?_
  rintro e w' ⟨rfl, bel⟩
  exact ⟨by rw [adr_ofN hn], bel⟩
theorem anum_adr (n : Nat) (w : World) (hn : n < 4294967296) : Calls Try.prog 36 #[adr n] w fun e w' => e = .returned (.int .u32 (n : Int)) ∧ Below w.heap.size w w' := by
  rw [adr_ofN hn]
  refine (anum_any _ _ _ _ w).mono ?_
  rintro e w' ⟨rfl, bel⟩
  refine ⟨?_, bel⟩
  rw [show be [(Ad4.ofN n).a, (Ad4.ofN n).b, (Ad4.ofN n).c, (Ad4.ofN n).d] = (Ad4.ofN n).num from rfl, Ad4.ofN_num hn]
theorem u32_wrap (x : Int) : IntKind.u32.wrap x = x % 4294967296 := rfl
/-- The pool's ends that no lines tell. -/
def poolAn (n : Ad4) (bt : Int) : Nat := if bt ≤ 24 then (fN n bt + 100) % 4294967296 else (fN n bt + 2) % 4294967296
def poolZn (n : Ad4) (bt : Int) : Nat := if bt ≤ 24 then (fN n bt + 131) % 4294967296 else (fN n bt + min 33 ((lN n bt + 4294967296 - fN n bt - 1) % 4294967296)) % 4294967296
def poolA (n : Ad4) (bt : Int) : Ad4 := Ad4.ofN (poolAn n bt)
def poolZ (n : Ad4) (bt : Int) : Ad4 := Ad4.ofN (poolZn n bt)
theorem fN_le_lN (n : Ad4) (bt : Int) : fN n bt ≤ lN n bt := by unfold fN lN firstN lastN; exact Nat.le_add_right _ _
theorem min_u32 {P : Program} (D M : Nat) (h : min 33 D = M) (W : World) (ts : Array TypeId) (t : TypeId) : (Builtin.min_ ts t #[.int .u32 33, .int .u32 (D : Int)]).run P W = .ok (.int .u32 (M : Int)) W := by
  rw [run_min_int2]
  subst h
  split
  · rw [Nat.min_eq_right (by omega)]
  · rw [Nat.min_eq_left (by omega)]; rfl
set_option linter.unusedVariables false in
set_option linter.unusedSimpArgs false in
set_option maxRecDepth 100000 in
set_option maxHeartbeats 16000000 in
theorem usualPool_any (n : Ad4) (bt : Int) (w : World) : Calls Try.prog 19 #[.agg #[.int .u8 (n.a.toNat : Int), .int .u8 (n.b.toNat : Int), .int .u8 (n.c.toNat : Int), .int .u8 (n.d.toNat : Int), .int .i64 bt]] w fun e w' => e = .returned (.tuple #[.agg #[.int .u8 ((poolA n bt).a.toNat : Int), .int .u8 ((poolA n bt).b.toNat : Int), .int .u8 ((poolA n bt).c.toNat : Int), .int .u8 ((poolA n bt).d.toNat : Int)], .agg #[.int .u8 ((poolZ n bt).a.toNat : Int), .int .u8 ((poolZ n bt).b.toNat : Int), .int .u8 ((poolZ n bt).c.toNat : Int), .int .u8 ((poolZ n bt).d.toNat : Int)]]) ∧ Below w.heap.size w w' := by
  have bel := Below.refl w.heap.size w
  go_enter Try.func19, Try.ntmps19
  go_wp2_with (first | ((with_reducible show wpList _ _ _ (⟨some 1, _, _, _, _, _⟩ :: _) _ _); refine wpList_box_n rfl 30 (.tmp 0) rfl #[.int .u8 (n.a.toNat : Int), .int .u8 (n.b.toNat : Int), .int .u8 (n.c.toNat : Int), .int .u8 (n.d.toNat : Int), .int .i64 bt] rfl ?_; intro g1 w1 ge lt hh bb; have op := Nat.le_trans bel.size ge; replace bel := bel.trans (bb.mono bel.size); have hp := hh; clear hh lt ge bb) | ((with_reducible show wpList _ _ _ (⟨some 2, _, _, _, _, _⟩ :: _) _ _); refine wpList_new_a rfl 28 rfl #[.int .u8 0, .int .u8 0, .int .u8 0, .int .u8 0] (by kernel_rfl) ?_; intro g2 w2 ge hh bb; have d_p_a := ne_new (hlt hp) ge; have oa := Nat.le_trans bel.size ge; replace hp := blk_u hp bb; replace bel := bel.trans (bb.mono bel.size); have ha := hh; clear hh ge bb) | ((with_reducible show wpList _ _ _ (⟨some 3, _, _, _, _, _⟩ :: _) _ _); refine wpList_new_a rfl 28 rfl #[.int .u8 0, .int .u8 0, .int .u8 0, .int .u8 0] (by kernel_rfl) ?_; intro g3 w3 ge hh bb; have d_p_z := ne_new (hlt hp) ge; have d_a_z := ne_new (hlt ha) ge; have oz := Nat.le_trans bel.size ge; replace hp := blk_u hp bb; replace ha := blk_u ha bb; replace bel := bel.trans (bb.mono bel.size); have hz := hh; clear hh ge bb))
  replace bel := bel.drew
  replace hp : w3.drew.heap[g1]? = _ := hp
  replace ha : w3.drew.heap[g2]? = _ := ha
  replace hz : w3.drew.heap[g3]? = _ := hz
  refine wp_region_held_drew (S := fun W => W.heap[g1]? = some (.cells #[.int .u8 (n.a.toNat : Int), .int .u8 (n.b.toNat : Int), .int .u8 (n.c.toNat : Int), .int .u8 (n.d.toNat : Int), .int .i64 bt] 30 (0, 0))) (by kernel_rfl) hp (fun hH => ?_)
  generalize w3.drew = w4 at bel hp ha hz hH ⊢
  refine wpAnyH_take (i := 0) (v := .agg #[.int .u8 (n.a.toNat : Int), .int .u8 (n.b.toNat : Int), .int .u8 (n.c.toNat : Int), .int .u8 (n.d.toNat : Int), .int .i64 bt]) rfl (by kernel_rfl) (by kernel_rfl) (by kernel_rfl) (fun _ _ _ h => h) (yieldsIf_load_part (by kernel_rfl) 30 _ rfl g1 0 5 rfl _ 30 (0, 0) (fun W hW => hW) _ rfl _ Try.underlying30 rfl (by kernel_rfl)) hH ?_
  simp only [Act.put, List.getElem_toArray, List.getElem_cons_zero, List.setIfInBounds_toArray, List.set_cons_zero, List.set_cons_succ]
  refine wpAnyH_take (i := 3) (v := .agg #[.int .u8 (n.a.toNat : Int), .int .u8 (n.b.toNat : Int), .int .u8 (n.c.toNat : Int), .int .u8 (n.d.toNat : Int), .int .i64 bt]) rfl (by kernel_rfl) (by kernel_rfl) (by kernel_rfl) (fun _ _ _ h => h) (yieldsIf_load_part (by kernel_rfl) 30 _ rfl g1 0 5 rfl _ 30 (0, 0) (fun W hW => hW) _ rfl _ Try.underlying30 rfl (by kernel_rfl)) hH ?_
  simp only [sq3, sq4]
  refine wpAnyH_ready (rs := [1]) (by kernel_rfl) (by simp) ?_
  refine AllReadyH.cons (o := _) rfl (fun K hK => ?_) AllReadyH.nil
  simp only [sq3]
  go_simp
  with_reducible refine (afirst_any _ _ _ _ _ _).mono ?_
  rintro e w5 ⟨rfl, b5⟩
  dsimp only
  replace hp := blk_u hp b5
  replace ha := blk_u ha b5
  replace hz := blk_u hz b5
  replace bel := bel.trans (b5.mono bel.size)
  clear b5
  rw [show firstN (be [n.a, n.b, n.c, n.d]) (clamp bt) = fN n bt from rfl]
  refine hK.out _ _ hp (fun hH6 => ?_)
  clear hK K
  refine wpAnyH_ready (rs := [2]) (by kernel_rfl) (by simp) ?_
  refine AllReadyH.cons (o := _) rfl (fun K hK => ?_) AllReadyH.nil
  simp only [sq3]
  go_simp
  with_reducible refine (anum_adr (fN n bt) _ (fN_lt _ _)).mono ?_
  rintro e w7 ⟨rfl, b7⟩
  dsimp only
  replace hp := blk_u hp b7
  replace ha := blk_u ha b7
  replace hz := blk_u hz b7
  replace bel := bel.trans (b7.mono bel.size)
  clear b7
  refine hK.out _ _ hp (fun hH8 => ?_)
  clear hK K
  refine wpAnyH_ready (rs := [4]) (by kernel_rfl) (by simp) ?_
  refine AllReadyH.cons (o := _) rfl (fun K hK => ?_) AllReadyH.nil
  simp only [sq3]
  go_simp
  with_reducible refine (alast_any _ _ _ _ _ _).mono ?_
  rintro e w9 ⟨rfl, b9⟩
  dsimp only
  replace hp := blk_u hp b9
  replace ha := blk_u ha b9
  replace hz := blk_u hz b9
  replace bel := bel.trans (b9.mono bel.size)
  clear b9
  rw [show lastN (be [n.a, n.b, n.c, n.d]) (clamp bt) = lN n bt from rfl]
  refine hK.out _ _ hp (fun hH10 => ?_)
  clear hK K
  refine wpAnyH_ready (rs := [5]) (by kernel_rfl) (by simp) ?_
  refine AllReadyH.cons (o := _) rfl (fun K hK => ?_) AllReadyH.nil
  simp only [sq3]
  go_simp
  with_reducible refine (anum_adr (lN n bt) _ (lN_lt _ _)).mono ?_
  rintro e w11 ⟨rfl, b11⟩
  dsimp only
  replace hp := blk_u hp b11
  replace ha := blk_u ha b11
  replace hz := blk_u hz b11
  replace bel := bel.trans (b11.mono bel.size)
  clear b11
  refine hK.out _ _ hp (fun hH12 => ?_)
  clear hK K
  refine wpAnyH_take (i := 6) (v := ?_) rfl (by kernel_rfl) (by kernel_rfl) (by kernel_rfl) (fun _ _ _ h => h) (Or.inl ⟨by rfl, ?_⟩) hH12 ?_
  rotate_left
  · ((intro W hW; clear hW; go_simp) <;> with_reducible rfl)
  simp only [sq3, sq4]
  refine wpAnyH_take (i := 7) (v := ?_) rfl (by kernel_rfl) (by kernel_rfl) (by kernel_rfl) (fun _ _ _ h => h) (Or.inl ⟨by rfl, ?_⟩) hH12 ?_
  rotate_left
  · ((intro W hW; clear hW; go_simp) <;> with_reducible rfl)
  simp only [sq3, sq4]
  by_cases hb : bt ≤ 24
  · obtain ⟨ka, hka⟩ : ∃ k, (fN n bt + 100) % 4294967296 = k := ⟨_, rfl⟩
    obtain ⟨kz, hkz⟩ : ∃ k, (fN n bt + 131) % 4294967296 = k := ⟨_, rfl⟩
    have HPA : Hid (poolA n bt = Ad4.ofN ka) := Lib.hid (by unfold poolA poolAn; rw [if_pos hb, hka])
    have HPZ : Hid (poolZ n bt = Ad4.ofN kz) := Lib.hid (by unfold poolZ poolZn; rw [if_pos hb, hkz])
    have hka2 : ka < 4294967296 := by omega
    have hkz2 : kz < 4294967296 := by omega
    have wa : IntKind.u32.wrap ((fN n bt : Int) + 100) = (ka : Int) := by rw [u32_wrap]; omega
    have wz : IntKind.u32.wrap ((fN n bt : Int) + 131) = (kz : Int) := by rw [u32_wrap]; omega
    clear hka hkz
    refine wpAnyH_done (by kernel_rfl) ?_ _
    have R13 := cell_lit hp 4 _ rfl
    go_wp2_with fail
    clear R13
    with_reducible refine (aof_l ka _ hka2).mono ?_
    rintro e w13 ⟨rfl, b13⟩
    replace hp := blk_u hp b13
    replace ha := blk_u ha b13
    replace hz := blk_u hz b13
    replace bel := bel.trans (b13.mono bel.size)
    clear b13
    go_wp2_with fail
    with_reducible refine (aof_l kz _ hkz2).mono ?_
    rintro e w14 ⟨rfl, b14⟩
    replace hp := blk_u hp b14
    replace ha := blk_u ha b14
    replace hz := blk_u hz b14
    replace bel := bel.trans (b14.mono bel.size)
    clear b14
    go_wp2_with (first | ((with_reducible show wpList _ _ _ (⟨none, Op.store _ (.tmp 2) _, _, _, _, _⟩ :: _) _ _); refine wpList_store_blk rfl 28 (.tmp 2) (.tmp 17) rfl g2 rfl _ rfl _ 28 ha (by rfl) (by kernel_rfl) (by kernel_rfl) ?_; intro w15 hq gr; replace hp := blk_a hp gr d_p_a; replace hz := blk_a hz gr (ne_symm d_a_z); replace bel := below_grown bel gr oa bel.size; clear ha; have ha := hq; clear hq gr) | ((with_reducible show wpList _ _ _ (⟨none, Op.store _ (.tmp 3) _, _, _, _, _⟩ :: _) _ _); refine wpList_store_blk rfl 28 (.tmp 3) (.tmp 20) rfl g3 rfl _ rfl _ 28 hz (by rfl) (by kernel_rfl) (by kernel_rfl) ?_; intro w16 hq gr; replace hp := blk_a hp gr d_p_z; replace ha := blk_a ha gr d_a_z; replace bel := below_grown bel gr oz bel.size; clear hz; have hz := hq; clear hq gr))
    exact bodyPost_ret (results_cell2_row rfl _ _ _ _ _ _ _ _ _ _ _ _ rfl ha Try.underlying28 rfl (by kernel_rfl) rfl hz Try.underlying28 rfl (by kernel_rfl)) rfl ⟨by rw [HPA.out, HPZ.out], bel⟩
  · obtain ⟨ka, hka⟩ : ∃ k, (fN n bt + 2) % 4294967296 = k := ⟨_, rfl⟩
    obtain ⟨D, hD⟩ : ∃ k, lN n bt - fN n bt = k := ⟨_, rfl⟩
    obtain ⟨E, hE⟩ : ∃ k, (lN n bt + 4294967296 - fN n bt - 1) % 4294967296 = k := ⟨_, rfl⟩
    obtain ⟨M, hM⟩ : ∃ k, min 33 E = k := ⟨_, rfl⟩
    obtain ⟨kz, hkz⟩ : ∃ k, (fN n bt + M) % 4294967296 = k := ⟨_, rfl⟩
    have hb2 : decide (bt ≤ 24) = false := decide_eq_false hb
    have HPA : Hid (poolA n bt = Ad4.ofN ka) := Lib.hid (by unfold poolA poolAn; rw [if_neg hb, hka])
    have HPZ : Hid (poolZ n bt = Ad4.ofN kz) := Lib.hid (by unfold poolZ poolZn; rw [if_neg hb, hE, hM, hkz])
    have hka2 : ka < 4294967296 := by omega
    have hkz2 : kz < 4294967296 := by omega
    have hle := fN_le_lN n bt
    have hl1 := lN_lt n bt
    have wa : IntKind.u32.wrap ((fN n bt : Int) + 2) = (ka : Int) := by rw [u32_wrap]; omega
    have wd : IntKind.u32.wrap ((lN n bt : Int) - (fN n bt : Int)) = (D : Int) := by rw [u32_wrap]; omega
    have we : IntKind.u32.wrap ((D : Int) - 1) = (E : Int) := by rw [u32_wrap]; omega
    have wm := fun W ts t => min_u32 (P := Try.prog) E M hM W ts t
    have wz : IntKind.u32.wrap ((fN n bt : Int) + (M : Int)) = (kz : Int) := by rw [u32_wrap]; omega
    clear hka hkz hD hE hM hle hl1 hb
    refine wpAnyH_done (by kernel_rfl) ?_ _
    have R13 := cell_lit hp 4 _ rfl
    go_wp2_with fail
    clear R13
    with_reducible refine (aof_l ka _ hka2).mono ?_
    rintro e w13 ⟨rfl, b13⟩
    replace hp := blk_u hp b13
    replace ha := blk_u ha b13
    replace hz := blk_u hz b13
    replace bel := bel.trans (b13.mono bel.size)
    clear b13
    go_wp2_with fail
    with_reducible refine (aof_l kz _ hkz2).mono ?_
    rintro e w14 ⟨rfl, b14⟩
    replace hp := blk_u hp b14
    replace ha := blk_u ha b14
    replace hz := blk_u hz b14
    replace bel := bel.trans (b14.mono bel.size)
    clear b14
    go_wp2_with (first | ((with_reducible show wpList _ _ _ (⟨none, Op.store _ (.tmp 2) _, _, _, _, _⟩ :: _) _ _); refine wpList_store_blk rfl 28 (.tmp 2) (.tmp 23) rfl g2 rfl _ rfl _ 28 ha (by rfl) (by kernel_rfl) (by kernel_rfl) ?_; intro w15 hq gr; replace hp := blk_a hp gr d_p_a; replace hz := blk_a hz gr (ne_symm d_a_z); replace bel := below_grown bel gr oa bel.size; clear ha; have ha := hq; clear hq gr) | ((with_reducible show wpList _ _ _ (⟨none, Op.store _ (.tmp 3) _, _, _, _, _⟩ :: _) _ _); refine wpList_store_blk rfl 28 (.tmp 3) (.tmp 31) rfl g3 rfl _ rfl _ 28 hz (by rfl) (by kernel_rfl) (by kernel_rfl) ?_; intro w16 hq gr; replace hp := blk_a hp gr d_p_z; replace ha := blk_a ha gr d_a_z; replace bel := below_grown bel gr oz bel.size; clear hz; have hz := hq; clear hq gr))
    exact bodyPost_ret (results_cell2_row rfl _ _ _ _ _ _ _ _ _ _ _ _ rfl ha Try.underlying28 rfl (by kernel_rfl) rfl hz Try.underlying28 rfl (by kernel_rfl)) rfl ⟨by rw [HPA.out, HPZ.out], bel⟩
theorem usualPool_lit (w : World) : Calls Try.prog 19 #[.agg #[.int .u8 192, .int .u8 168, .int .u8 1, .int .u8 0, .int .i64 24]] w fun e w' => e = .returned (.tuple #[.agg #[.int .u8 192, .int .u8 168, .int .u8 1, .int .u8 100], .agg #[.int .u8 192, .int .u8 168, .int .u8 1, .int .u8 131]]) ∧ Below w.heap.size w w' := by
  refine (usualPool_any ⟨192, 168, 1, 0⟩ 24 w).mono ?_
  rintro e w' ⟨rfl, bel⟩
  refine ⟨?_, bel⟩
  rw [show poolA ⟨192, 168, 1, 0⟩ 24 = ⟨192, 168, 1, 100⟩ by kernel_rfl, show poolZ ⟨192, 168, 1, 0⟩ 24 = ⟨192, 168, 1, 131⟩ by kernel_rfl]
  rfl
/-- The configuration of the empty text. -/
def usualC : Cf := ⟨⟨192, 168, 1, 1⟩, ⟨192, 168, 1, 0⟩, 24, ⟨2, 0, 0, 0, 0, 1⟩, ⟨2, 0, 0, 0, 0, 2⟩, ⟨192, 168, 1, 100⟩, ⟨192, 168, 1, 131⟩, 3600, ⟨9, 9, 9, 9⟩, 120, 7200, 30, 40000, [], []⟩
set_option linter.unusedVariables false in
set_option linter.unusedSimpArgs false in
set_option maxRecDepth 100000 in
set_option maxHeartbeats 16000000 in
theorem cusual_any (w : World) : Calls Try.prog 9 #[] w fun e w' => e = .returned (.agg #[.int .u8 192, .int .u8 168, .int .u8 1, .int .u8 1, .int .u8 192, .int .u8 168, .int .u8 1, .int .u8 0, .int .i64 24, .int .u8 2, .int .u8 0, .int .u8 0, .int .u8 0, .int .u8 0, .int .u8 1, .int .u8 2, .int .u8 0, .int .u8 0, .int .u8 0, .int .u8 0, .int .u8 2, .int .u8 192, .int .u8 168, .int .u8 1, .int .u8 100, .int .u8 192, .int .u8 168, .int .u8 1, .int .u8 131, .int .i64 3600, .int .u8 9, .int .u8 9, .int .u8 9, .int .u8 9, .int .i64 120, .int .i64 7200, .int .i64 30, .int .i64 40000, .slice none 0 0, .slice none 0 0]) ∧ Below w.heap.size w w' := by
  have bel := Below.refl w.heap.size w
  go_enter Try.func9, Try.ntmps9
  go_wp2_with (first | ((with_reducible show wpList _ _ _ (⟨some 0, _, _, _, _, _⟩ :: _) _ _); refine wpList_new_a rfl 36 rfl #[.int .u8 0, .int .u8 0, .int .u8 0, .int .u8 0, .int .u8 0, .int .u8 0, .int .u8 0, .int .u8 0, .int .i64 0, .int .u8 0, .int .u8 0, .int .u8 0, .int .u8 0, .int .u8 0, .int .u8 0, .int .u8 0, .int .u8 0, .int .u8 0, .int .u8 0, .int .u8 0, .int .u8 0, .int .u8 0, .int .u8 0, .int .u8 0, .int .u8 0, .int .u8 0, .int .u8 0, .int .u8 0, .int .u8 0, .int .i64 0, .int .u8 0, .int .u8 0, .int .u8 0, .int .u8 0, .int .i64 0, .int .i64 0, .int .i64 0, .int .i64 0, .slice none 0 0, .slice none 0 0] (by kernel_rfl) ?_; intro g0 w1 ge hh bb; have or := Nat.le_trans bel.size ge; replace bel := bel.trans (bb.mono bel.size); have hr := hh; clear hh ge bb) | ((with_reducible show wpList _ _ _ (⟨some 1, _, _, _, _, _⟩ :: _) _ _); refine wpList_new_a rfl 36 rfl #[.int .u8 0, .int .u8 0, .int .u8 0, .int .u8 0, .int .u8 0, .int .u8 0, .int .u8 0, .int .u8 0, .int .i64 0, .int .u8 0, .int .u8 0, .int .u8 0, .int .u8 0, .int .u8 0, .int .u8 0, .int .u8 0, .int .u8 0, .int .u8 0, .int .u8 0, .int .u8 0, .int .u8 0, .int .u8 0, .int .u8 0, .int .u8 0, .int .u8 0, .int .u8 0, .int .u8 0, .int .u8 0, .int .u8 0, .int .i64 0, .int .u8 0, .int .u8 0, .int .u8 0, .int .u8 0, .int .i64 0, .int .i64 0, .int .i64 0, .int .i64 0, .slice none 0 0, .slice none 0 0] (by kernel_rfl) ?_; intro g1 w2 ge hh bb; have d_r_c := ne_new (hlt hr) ge; have oc := Nat.le_trans bel.size ge; replace hr := blk_u hr bb; replace bel := bel.trans (bb.mono bel.size); have hc := hh; clear hh ge bb) | ((with_reducible show wpList _ _ _ (⟨none, Op.store _ (.tmp 1) _, _, _, _, _⟩ :: _) _ _); refine wpList_store_blk rfl 36 (.tmp 1) (.tmp 8) rfl g1 rfl _ rfl _ 36 hc (by rfl) (by kernel_rfl) (by kernel_rfl) ?_; intro w3 hq gr; replace hr := blk_a hr gr d_r_c; replace bel := below_grown bel gr oc bel.size; clear hc; have hc := hq; clear hq gr; have R11 := Lib.hid (range_lit hc 4 5 [.int .u8 192, .int .u8 168, .int .u8 1, .int .u8 0, .int .i64 24] rfl)) | ((with_reducible show wpList _ _ _ (⟨some 11, _, _, _, _, _⟩ :: _) _ _); refine wpList_load_rng 30 (.tmp 10) rfl (by kernel_rfl) _ _ rfl _ R11.out _ Try.underlying30 rfl (by kernel_rfl) ?_))
  try clear R11
  with_reducible refine (usualPool_lit _).mono ?_
  rintro e w4 ⟨rfl, b4⟩
  replace hr := blk_u hr b4
  replace hc := blk_u hc b4
  replace bel := bel.trans (b4.mono bel.size)
  clear b4
  go_wp2_with (first | ((with_reducible show wpList _ _ _ (⟨none, Op.store _ (.tmp 15) _, _, _, _, _⟩ :: _) _ _); refine wpList_store_part rfl 28 (.tmp 15) (.tmp 13) rfl g1 21 rfl [.int .u8 192, .int .u8 168, .int .u8 1, .int .u8 100] rfl [.int .u8 192, .int .u8 168, .int .u8 1, .int .u8 1, .int .u8 192, .int .u8 168, .int .u8 1, .int .u8 0, .int .i64 24, .int .u8 2, .int .u8 0, .int .u8 0, .int .u8 0, .int .u8 0, .int .u8 1, .int .u8 2, .int .u8 0, .int .u8 0, .int .u8 0, .int .u8 0, .int .u8 2, .int .u8 0, .int .u8 0, .int .u8 0, .int .u8 0, .int .u8 0, .int .u8 0, .int .u8 0, .int .u8 0, .int .i64 3600, .int .u8 9, .int .u8 9, .int .u8 9, .int .u8 9, .int .i64 120, .int .i64 7200, .int .i64 30, .int .i64 40000, .slice none 0 0, .slice none 0 0] 36 hc (by simp) [.int .u8 192, .int .u8 168, .int .u8 1, .int .u8 1, .int .u8 192, .int .u8 168, .int .u8 1, .int .u8 0, .int .i64 24, .int .u8 2, .int .u8 0, .int .u8 0, .int .u8 0, .int .u8 0, .int .u8 1, .int .u8 2, .int .u8 0, .int .u8 0, .int .u8 0, .int .u8 0, .int .u8 2, .int .u8 192, .int .u8 168, .int .u8 1, .int .u8 100, .int .u8 0, .int .u8 0, .int .u8 0, .int .u8 0, .int .i64 3600, .int .u8 9, .int .u8 9, .int .u8 9, .int .u8 9, .int .i64 120, .int .i64 7200, .int .i64 30, .int .i64 40000, .slice none 0 0, .slice none 0 0] rfl (by kernel_rfl) (by rfl) ?_; intro w5 hq gr; replace hr := blk_a hr gr d_r_c; replace bel := below_grown bel gr oc bel.size; clear hc; have hc := hq; clear hq gr) | ((with_reducible show wpList _ _ _ (⟨none, Op.store _ (.tmp 16) _, _, _, _, _⟩ :: _) _ _); refine wpList_store_part rfl 28 (.tmp 16) (.tmp 14) rfl g1 25 rfl [.int .u8 192, .int .u8 168, .int .u8 1, .int .u8 131] rfl [.int .u8 192, .int .u8 168, .int .u8 1, .int .u8 1, .int .u8 192, .int .u8 168, .int .u8 1, .int .u8 0, .int .i64 24, .int .u8 2, .int .u8 0, .int .u8 0, .int .u8 0, .int .u8 0, .int .u8 1, .int .u8 2, .int .u8 0, .int .u8 0, .int .u8 0, .int .u8 0, .int .u8 2, .int .u8 192, .int .u8 168, .int .u8 1, .int .u8 100, .int .u8 0, .int .u8 0, .int .u8 0, .int .u8 0, .int .i64 3600, .int .u8 9, .int .u8 9, .int .u8 9, .int .u8 9, .int .i64 120, .int .i64 7200, .int .i64 30, .int .i64 40000, .slice none 0 0, .slice none 0 0] 36 hc (by simp) [.int .u8 192, .int .u8 168, .int .u8 1, .int .u8 1, .int .u8 192, .int .u8 168, .int .u8 1, .int .u8 0, .int .i64 24, .int .u8 2, .int .u8 0, .int .u8 0, .int .u8 0, .int .u8 0, .int .u8 1, .int .u8 2, .int .u8 0, .int .u8 0, .int .u8 0, .int .u8 0, .int .u8 2, .int .u8 192, .int .u8 168, .int .u8 1, .int .u8 100, .int .u8 192, .int .u8 168, .int .u8 1, .int .u8 131, .int .i64 3600, .int .u8 9, .int .u8 9, .int .u8 9, .int .u8 9, .int .i64 120, .int .i64 7200, .int .i64 30, .int .i64 40000, .slice none 0 0, .slice none 0 0] rfl (by kernel_rfl) (by rfl) ?_; intro w6 hq gr; replace hr := blk_a hr gr d_r_c; replace bel := below_grown bel gr oc bel.size; clear hc; have hc := hq; clear hq gr; have R17 := Lib.hid (range_lit hc 0 40 [.int .u8 192, .int .u8 168, .int .u8 1, .int .u8 1, .int .u8 192, .int .u8 168, .int .u8 1, .int .u8 0, .int .i64 24, .int .u8 2, .int .u8 0, .int .u8 0, .int .u8 0, .int .u8 0, .int .u8 1, .int .u8 2, .int .u8 0, .int .u8 0, .int .u8 0, .int .u8 0, .int .u8 2, .int .u8 192, .int .u8 168, .int .u8 1, .int .u8 100, .int .u8 192, .int .u8 168, .int .u8 1, .int .u8 131, .int .i64 3600, .int .u8 9, .int .u8 9, .int .u8 9, .int .u8 9, .int .i64 120, .int .i64 7200, .int .i64 30, .int .i64 40000, .slice none 0 0, .slice none 0 0] rfl)) | ((with_reducible show wpList _ _ _ (⟨some 17, _, _, _, _, _⟩ :: _) _ _); refine wpList_load_rng 36 (.tmp 1) rfl (by kernel_rfl) _ _ rfl _ R17.out _ Try.underlying36 rfl (by kernel_rfl) ?_) | ((with_reducible show wpList _ _ _ (⟨none, Op.store _ (.tmp 0) _, _, _, _, _⟩ :: _) _ _); refine wpList_store_blk rfl 36 (.tmp 0) (.tmp 17) rfl g0 rfl _ rfl _ 36 hr (by rfl) (by kernel_rfl) (by kernel_rfl) ?_; intro w7 hq gr; replace hc := blk_a hc gr (ne_symm d_r_c); replace bel := below_grown bel gr or bel.size; clear hr; have hr := hq; clear hq gr))
  try clear R17
  exact bodyPost_ret (results_cell_row' rfl _ _ _ _ _ _ _ rfl hr Try.underlying36 rfl (by kernel_rfl)) rfl ⟨rfl, bel⟩
open Go.RowKit

theorem ccheck_us (w : World) : Calls Try.prog 17 #[.agg #[.int .u8 192, .int .u8 168, .int .u8 1, .int .u8 1, .int .u8 192, .int .u8 168, .int .u8 1, .int .u8 0, .int .i64 24, .int .u8 2, .int .u8 0, .int .u8 0, .int .u8 0, .int .u8 0, .int .u8 1, .int .u8 2, .int .u8 0, .int .u8 0, .int .u8 0, .int .u8 0, .int .u8 2, .int .u8 192, .int .u8 168, .int .u8 1, .int .u8 100, .int .u8 192, .int .u8 168, .int .u8 1, .int .u8 131, .int .i64 3600, .int .u8 9, .int .u8 9, .int .u8 9, .int .u8 9, .int .i64 120, .int .i64 7200, .int .i64 30, .int .i64 40000, .slice none 0 0, .slice none 0 0]] w fun e w' => e = .returned (.int .i64 0) ∧ Below w.heap.size w w' := by
  have h := ccheck_any usualC none 0 0 none 0 0 w (Sle.nil (f := fxf) (k := 10) (by decide) (fun _ => rfl) w) (Sle.nil (f := opf) (k := 7) (by decide) (fun _ => rfl) w)
  rw [show errC usualC.check = 0 by kernel_rfl] at h
  exact h
def zeroC : Cf := ⟨⟨0, 0, 0, 0⟩, ⟨0, 0, 0, 0⟩, 0, ⟨0, 0, 0, 0, 0, 0⟩, ⟨0, 0, 0, 0, 0, 0⟩, ⟨0, 0, 0, 0⟩, ⟨0, 0, 0, 0⟩, 0, ⟨0, 0, 0, 0⟩, 0, 0, 0, 0, [], []⟩
theorem ccheck_zero (w : World) : Calls Try.prog 17 #[.agg #[.int .u8 0, .int .u8 0, .int .u8 0, .int .u8 0, .int .u8 0, .int .u8 0, .int .u8 0, .int .u8 0, .int .i64 0, .int .u8 0, .int .u8 0, .int .u8 0, .int .u8 0, .int .u8 0, .int .u8 0, .int .u8 0, .int .u8 0, .int .u8 0, .int .u8 0, .int .u8 0, .int .u8 0, .int .u8 0, .int .u8 0, .int .u8 0, .int .u8 0, .int .u8 0, .int .u8 0, .int .u8 0, .int .u8 0, .int .i64 0, .int .u8 0, .int .u8 0, .int .u8 0, .int .u8 0, .int .i64 0, .int .i64 0, .int .i64 0, .int .i64 0, .slice none 0 0, .slice none 0 0]] w fun e w' => e = .returned (.int .i64 1) ∧ Below w.heap.size w w' := by
  have h := ccheck_any zeroC none 0 0 none 0 0 w (Sle.nil (f := fxf) (k := 10) (by decide) (fun _ => rfl) w) (Sle.nil (f := opf) (k := 7) (by decide) (fun _ => rfl) w)
  rw [show errC zeroC.check = 1 by kernel_rfl] at h
  exact h
def lA (k : Int) : Ad4 := ⟨192, 168, 1, byteOf k⟩
/-- The pool of the usual configuration. -/
def uS0 : St := ⟨0, [], newL [] (lA 100).num ((lA 131).num - (lA 100).num + 1)⟩
theorem pnew_us (w : World) : Calls Try.prog 18 #[.agg #[.int .u8 192, .int .u8 168, .int .u8 1, .int .u8 100], .agg #[.int .u8 192, .int .u8 168, .int .u8 1, .int .u8 131], .slice none 0 0] w fun e w' => ∃ gt, e = .returned (.tuple #[.pointer (some ⟨gt, 0, none⟩), .int .i64 0]) ∧ Pl w.heap.size gt w' uS0 ∧ Below w.heap.size w w' :=
  pnew_nil (x := lA 100) (y := lA 131) w (by decide) (by decide)
set_option linter.unusedVariables false in
set_option linter.unusedSimpArgs false in
set_option maxRecDepth 100000 in
set_option maxHeartbeats 16000000 in
theorem snew_us (w : World) : Calls Try.prog 8 #[.agg #[.int .u8 192, .int .u8 168, .int .u8 1, .int .u8 1, .int .u8 192, .int .u8 168, .int .u8 1, .int .u8 0, .int .i64 24, .int .u8 2, .int .u8 0, .int .u8 0, .int .u8 0, .int .u8 0, .int .u8 1, .int .u8 2, .int .u8 0, .int .u8 0, .int .u8 0, .int .u8 0, .int .u8 2, .int .u8 192, .int .u8 168, .int .u8 1, .int .u8 100, .int .u8 192, .int .u8 168, .int .u8 1, .int .u8 131, .int .i64 3600, .int .u8 9, .int .u8 9, .int .u8 9, .int .u8 9, .int .i64 120, .int .i64 7200, .int .i64 30, .int .i64 40000, .slice none 0 0, .slice none 0 0]] w fun e w' => ∃ gs gp, e = .returned (.tuple #[.pointer (some ⟨gs, 0, none⟩), .int .i64 0]) ∧ Sv w.heap.size gs gp w' ⟨⟨192, 168, 1, 1⟩, 4294967040, 3600⟩ uS0 ∧ Below w.heap.size w w' := by
  have SH_ : ∀ W, (Op.shift BinOp.shl IntKind.u32 4294967295 IntKind.i64 (IntKind.i64.wrap 8)).run Try.prog W = .ok (.int .u32 4294967040) W := fun W => by kernel_rfl
  have bel := Below.refl w.heap.size w
  go_enter Try.func8, Try.ntmps8
  go_wp2_with (first | ((with_reducible show wpList _ _ _ (⟨some 1, _, _, _, _, _⟩ :: _) _ _); refine wpList_box_n rfl 36 (.tmp 0) rfl #[.int .u8 192, .int .u8 168, .int .u8 1, .int .u8 1, .int .u8 192, .int .u8 168, .int .u8 1, .int .u8 0, .int .i64 24, .int .u8 2, .int .u8 0, .int .u8 0, .int .u8 0, .int .u8 0, .int .u8 1, .int .u8 2, .int .u8 0, .int .u8 0, .int .u8 0, .int .u8 0, .int .u8 2, .int .u8 192, .int .u8 168, .int .u8 1, .int .u8 100, .int .u8 192, .int .u8 168, .int .u8 1, .int .u8 131, .int .i64 3600, .int .u8 9, .int .u8 9, .int .u8 9, .int .u8 9, .int .i64 120, .int .i64 7200, .int .i64 30, .int .i64 40000, .slice none 0 0, .slice none 0 0] rfl ?_; intro g1 w1 ge lt hh bb; have ocb := Nat.le_trans bel.size ge; replace bel := bel.trans (bb.mono bel.size); have hcb := hh; clear hh lt ge bb; have R11 := Lib.hid (range_lit hcb 0 40 [.int .u8 192, .int .u8 168, .int .u8 1, .int .u8 1, .int .u8 192, .int .u8 168, .int .u8 1, .int .u8 0, .int .i64 24, .int .u8 2, .int .u8 0, .int .u8 0, .int .u8 0, .int .u8 0, .int .u8 1, .int .u8 2, .int .u8 0, .int .u8 0, .int .u8 0, .int .u8 0, .int .u8 2, .int .u8 192, .int .u8 168, .int .u8 1, .int .u8 100, .int .u8 192, .int .u8 168, .int .u8 1, .int .u8 131, .int .i64 3600, .int .u8 9, .int .u8 9, .int .u8 9, .int .u8 9, .int .i64 120, .int .i64 7200, .int .i64 30, .int .i64 40000, .slice none 0 0, .slice none 0 0] rfl)) | ((with_reducible show wpList _ _ _ (⟨some 11, _, _, _, _, _⟩ :: _) _ _); refine wpList_load_rng 36 (.tmp 1) rfl (by kernel_rfl) _ _ rfl _ R11.out _ Try.underlying36 rfl (by kernel_rfl) ?_))
  try clear R11
  with_reducible refine (ccheck_us _).mono ?_
  rintro e w2 ⟨rfl, b2⟩
  replace hcb := blk_u hcb b2
  replace bel := bel.trans (b2.mono bel.size)
  clear b2
  go_wp2_with fail
  replace bel := bel.drew
  replace hcb : w2.drew.heap[g1]? = _ := hcb
  refine wp_region_held_drew (S := fun W => W.heap[g1]? = some (.cells #[.int .u8 192, .int .u8 168, .int .u8 1, .int .u8 1, .int .u8 192, .int .u8 168, .int .u8 1, .int .u8 0, .int .i64 24, .int .u8 2, .int .u8 0, .int .u8 0, .int .u8 0, .int .u8 0, .int .u8 1, .int .u8 2, .int .u8 0, .int .u8 0, .int .u8 0, .int .u8 0, .int .u8 2, .int .u8 192, .int .u8 168, .int .u8 1, .int .u8 100, .int .u8 192, .int .u8 168, .int .u8 1, .int .u8 131, .int .i64 3600, .int .u8 9, .int .u8 9, .int .u8 9, .int .u8 9, .int .i64 120, .int .i64 7200, .int .i64 30, .int .i64 40000, .slice none 0 0, .slice none 0 0] 36 (0, 0))) (by kernel_rfl) hcb (fun hH => ?_)
  generalize w2.drew = w3 at bel hcb hH ⊢
  refine wpAnyH_take (i := 0) (v := ?_) rfl (by kernel_rfl) (by kernel_rfl) (by kernel_rfl) (fun _ _ _ h => h) (Or.inl ⟨by rfl, ?_⟩) hH ?_
  rotate_left
  · ((intro W hW; clear hW; go_simp) <;> with_reducible rfl)
  simp only [Act.put, List.getElem_toArray, List.getElem_cons_zero, List.setIfInBounds_toArray, List.set_cons_zero, List.set_cons_succ]
  refine wpAnyH_take (i := 1) (v := .agg #[.int .u8 192, .int .u8 168, .int .u8 1, .int .u8 1]) rfl (by kernel_rfl) (by kernel_rfl) (by kernel_rfl) (fun _ _ _ h => h) (yieldsIf_load_part (by kernel_rfl) 28 _ rfl g1 0 4 rfl _ 36 (0, 0) (fun W hW => hW) _ rfl _ Try.underlying28 rfl (by kernel_rfl)) hH ?_
  simp only [sq3, sq4]
  refine wpAnyH_take (i := 2) (v := ?_) rfl (by kernel_rfl) (by kernel_rfl) (by kernel_rfl) (fun _ _ _ h => h) (Or.inl ⟨by rfl, ?_⟩) hH ?_
  rotate_left
  · ((intro W hW; clear hW; go_simp) <;> with_reducible rfl)
  simp only [sq3, sq4]
  refine wpAnyH_take (i := 3) (v := ?_) rfl (by kernel_rfl) (by kernel_rfl) (by kernel_rfl) (fun _ _ _ h => h) (Or.inl ⟨by rfl, ?_⟩) hH ?_
  rotate_left
  · ((intro W hW; clear hW; go_simp) <;> with_reducible rfl)
  simp only [sq3, sq4]
  refine wpAnyH_take (i := 4) (v := ?_) rfl (by kernel_rfl) (by kernel_rfl) (by kernel_rfl) (fun _ _ _ h => h) (Or.inl ⟨by rfl, ?_⟩) hH ?_
  rotate_left
  · ((intro W hW; have hk := cell_lit (hW) 8 _ rfl; clear hW; go_simp) <;> with_reducible rfl)
  simp only [sq3, sq4]
  refine wpAnyH_take (i := 5) (v := ?_) rfl (by kernel_rfl) (by kernel_rfl) (by kernel_rfl) (fun _ _ _ h => h) (Or.inl ⟨by rfl, ?_⟩) hH ?_
  rotate_left
  · ((intro W hW; clear hW; go_simp) <;> with_reducible rfl)
  simp only [sq3, sq4]
  refine wpAnyH_take (i := 6) (v := ?_) rfl (by kernel_rfl) (by kernel_rfl) (by kernel_rfl) (fun _ _ _ h => h) (Or.inl ⟨by rfl, ?_⟩) hH ?_
  rotate_left
  · ((intro W hW; clear hW; go_simp) <;> with_reducible rfl)
  simp only [sq3, sq4]
  refine wpAnyH_take (i := 7) (v := ?_) rfl (by kernel_rfl) (by kernel_rfl) (by kernel_rfl) (fun _ _ _ h => h) (Or.inl ⟨by rfl, ?_⟩) hH ?_
  rotate_left
  · ((intro W hW; clear hW; go_simp) <;> with_reducible rfl)
  simp only [sq3, sq4]
  refine wpAnyH_take (i := 8) (v := ?_) rfl (by kernel_rfl) (by kernel_rfl) (by kernel_rfl) (fun _ _ _ h => h) (Or.inl ⟨by rfl, ?_⟩) hH ?_
  rotate_left
  · ((intro W hW; have hk := cell_lit (hW) 29 _ rfl; clear hW; go_simp) <;> with_reducible rfl)
  simp only [sq3, sq4]
  refine wpAnyH_take (i := 9) (v := ?_) rfl (by kernel_rfl) (by kernel_rfl) (by kernel_rfl) (fun _ _ _ h => h) (Or.inl ⟨by rfl, ?_⟩) hH ?_
  rotate_left
  · ((intro W hW; clear hW; go_simp) <;> with_reducible rfl)
  simp only [sq3, sq4]
  refine wpAnyH_ready (rs := [10]) (by kernel_rfl) (by simp) ?_
  refine AllReadyH.cons (o := _) rfl (fun K hK => ?_) AllReadyH.nil
  simp only [sq3]
  rw [if_pos (by rfl)]
  refine wp_box_n 64 (.tmp 25) rfl #[.pointer none, .int .u8 192, .int .u8 168, .int .u8 1, .int .u8 1, .int .u32 4294967040, .int .i64 3600, .slice none 0 0] rfl ?_
  intro g26 w4 ge lt hh bb
  have d_cb_sv := ne_new (hlt hcb) ge
  have osv := Nat.le_trans bel.size ge
  replace hcb := blk_u hcb bb
  replace bel := bel.trans (bb.mono bel.size)
  have hsv := hh
  clear hh lt ge bb
  refine hK.out _ _ hcb (fun hH5 => ?_)
  clear hK K
  simp only [sq4]
  refine wpAnyH_take (i := 11) (v := ?_) rfl (by kernel_rfl) (by kernel_rfl) (by kernel_rfl) (fun _ _ _ h => h) (Or.inl ⟨by rfl, ?_⟩) hH5 ?_
  rotate_left
  · ((intro W hW; clear hW; go_simp) <;> with_reducible rfl)
  simp only [sq3, sq4]
  refine wpAnyH_done (by kernel_rfl) ?_ _
  have R28 := cell_lit hcb 38 _ rfl
  go_wp2_with fail
  clear R28
  refine wp_loop_rounds 1 ?_
  rw [rounds_succ]
  have R56 := Lib.hid (range_lit hcb 21 4 [.int .u8 192, .int .u8 168, .int .u8 1, .int .u8 100] rfl)
  go_wp2_with (first | ((with_reducible show wpList _ _ _ (⟨some 56, _, _, _, _, _⟩ :: _) _ _); refine wpList_load_rng 28 (.tmp 55) rfl (by kernel_rfl) _ _ rfl _ R56.out _ Try.underlying28 rfl (by kernel_rfl) ?_; have R58 := Lib.hid (range_lit hcb 25 4 [.int .u8 192, .int .u8 168, .int .u8 1, .int .u8 131] rfl)) | ((with_reducible show wpList _ _ _ (⟨some 58, _, _, _, _, _⟩ :: _) _ _); refine wpList_load_rng 28 (.tmp 57) rfl (by kernel_rfl) _ _ rfl _ R58.out _ Try.underlying28 rfl (by kernel_rfl) ?_))
  try clear R56
  try clear R58
  have HLO_ := bel.size
  with_reducible refine (pnew_us _).mono ?_
  rintro e w6 ⟨gp, rfl, hT, b6⟩
  replace hcb := blk_u hcb b6
  replace hsv := blk_u hsv b6
  replace bel := bel.trans (b6.mono bel.size)
  clear b6
  replace hT : Pl w.heap.size gp w6 uS0 := hT.lo_mono HLO_
  clear HLO_
  go_wp2_with (first | ((with_reducible show wpList _ _ _ (⟨none, Op.store _ (.tmp 69) _, _, _, _, _⟩ :: _) _ _); refine wpList_store_part rfl 61 (.tmp 69) (.tmp 67) rfl g26 0 rfl [.pointer (some ⟨gp, 0, none⟩)] rfl [.pointer none, .int .u8 192, .int .u8 168, .int .u8 1, .int .u8 1, .int .u32 4294967040, .int .i64 3600, .slice none 0 0] 64 hsv (by simp) [.pointer (some ⟨gp, 0, none⟩), .int .u8 192, .int .u8 168, .int .u8 1, .int .u8 1, .int .u32 4294967040, .int .i64 3600, .slice none 0 0] rfl (by kernel_rfl) (by rfl) ?_; intro w7 hq gr; replace hcb := blk_a hcb gr d_cb_sv; replace hT := hT.grown gr hsv (by decide) (by decide); replace bel := below_grown bel gr osv bel.size; clear hsv; have hsv := hq; clear hq gr))
  exact bodyPost_ret (v := .tuple #[.pointer (some ⟨g26, 0, none⟩), .int .i64 0]) (by simp [results, Try.results8, go_sem]) rfl ⟨_, _, rfl, ⟨hsv, osv, hT⟩, bel⟩
set_option linter.unusedVariables false in
set_option linter.unusedSimpArgs false in
set_option maxRecDepth 100000 in
set_option maxHeartbeats 16000000 in
theorem snew_zero (w : World) : Calls Try.prog 8 #[.agg #[.int .u8 0, .int .u8 0, .int .u8 0, .int .u8 0, .int .u8 0, .int .u8 0, .int .u8 0, .int .u8 0, .int .i64 0, .int .u8 0, .int .u8 0, .int .u8 0, .int .u8 0, .int .u8 0, .int .u8 0, .int .u8 0, .int .u8 0, .int .u8 0, .int .u8 0, .int .u8 0, .int .u8 0, .int .u8 0, .int .u8 0, .int .u8 0, .int .u8 0, .int .u8 0, .int .u8 0, .int .u8 0, .int .u8 0, .int .i64 0, .int .u8 0, .int .u8 0, .int .u8 0, .int .u8 0, .int .i64 0, .int .i64 0, .int .i64 0, .int .i64 0, .slice none 0 0, .slice none 0 0]] w fun e w' => e = .returned (.tuple #[.pointer none, .int .i64 1]) ∧ Below w.heap.size w w' := by
  have bel := Below.refl w.heap.size w
  go_enter Try.func8, Try.ntmps8
  go_wp2_with (first | ((with_reducible show wpList _ _ _ (⟨some 1, _, _, _, _, _⟩ :: _) _ _); refine wpList_box_n rfl 36 (.tmp 0) rfl #[.int .u8 0, .int .u8 0, .int .u8 0, .int .u8 0, .int .u8 0, .int .u8 0, .int .u8 0, .int .u8 0, .int .i64 0, .int .u8 0, .int .u8 0, .int .u8 0, .int .u8 0, .int .u8 0, .int .u8 0, .int .u8 0, .int .u8 0, .int .u8 0, .int .u8 0, .int .u8 0, .int .u8 0, .int .u8 0, .int .u8 0, .int .u8 0, .int .u8 0, .int .u8 0, .int .u8 0, .int .u8 0, .int .u8 0, .int .i64 0, .int .u8 0, .int .u8 0, .int .u8 0, .int .u8 0, .int .i64 0, .int .i64 0, .int .i64 0, .int .i64 0, .slice none 0 0, .slice none 0 0] rfl ?_; intro g1 w1 ge lt hh bb; have ocb := Nat.le_trans bel.size ge; replace bel := bel.trans (bb.mono bel.size); have hcb := hh; clear hh lt ge bb; have R11 := Lib.hid (range_lit hcb 0 40 [.int .u8 0, .int .u8 0, .int .u8 0, .int .u8 0, .int .u8 0, .int .u8 0, .int .u8 0, .int .u8 0, .int .i64 0, .int .u8 0, .int .u8 0, .int .u8 0, .int .u8 0, .int .u8 0, .int .u8 0, .int .u8 0, .int .u8 0, .int .u8 0, .int .u8 0, .int .u8 0, .int .u8 0, .int .u8 0, .int .u8 0, .int .u8 0, .int .u8 0, .int .u8 0, .int .u8 0, .int .u8 0, .int .u8 0, .int .i64 0, .int .u8 0, .int .u8 0, .int .u8 0, .int .u8 0, .int .i64 0, .int .i64 0, .int .i64 0, .int .i64 0, .slice none 0 0, .slice none 0 0] rfl)) | ((with_reducible show wpList _ _ _ (⟨some 11, _, _, _, _, _⟩ :: _) _ _); refine wpList_load_rng 36 (.tmp 1) rfl (by kernel_rfl) _ _ rfl _ R11.out _ Try.underlying36 rfl (by kernel_rfl) ?_))
  try clear R11
  with_reducible refine (ccheck_zero _).mono ?_
  rintro e w2 ⟨rfl, b2⟩
  replace hcb := blk_u hcb b2
  replace bel := bel.trans (b2.mono bel.size)
  clear b2
  go_wp2_with fail
  exact bodyPost_ret (v := .tuple #[.pointer none, .int .i64 1]) (by simp [results, Try.results8, go_sem]) rfl ⟨rfl, bel⟩
open Go.RowKit

theorem byteOf_small {k : Nat} (h : k < 256) : (byteOf (k : Int)).toNat = k := by
  have := byteOf_val (k : Int)
  omega
theorem lA_num {k : Nat} (h : k < 256) : (lA (k : Int)).num = 3232235776 + k := by
  have h2 : ∀ b : UInt8, be [192, 168, 1, b] = 3232235776 + b.toNat := by
    intro b
    simp [be]
  show be [192, 168, 1, byteOf (k : Int)] = _
  rw [h2, byteOf_small h]
/-- The address of slot j. -/
def nA (j : Nat) : Ad4 := lA ((100 + j : Nat) : Int)
theorem nA_num {j : Nat} (h : j < 156) : (nA j).num = 3232235776 + (100 + j) := lA_num (by omega)
/-- The n slots that F tells. -/
def Rg (n : Nat) (F : Nat → Sd) : List Sd := (List.range n).map F
theorem Rg.len (n : Nat) (F : Nat → Sd) : (Rg n F).length = n := by unfold Rg; simp
theorem Rg.get {n i : Nat} {F : Nat → Sd} (h : i < n) : (Rg n F)[i]? = some (F i) := by
  unfold Rg
  rw [List.getElem?_map, List.getElem?_range h]; rfl
theorem Rg.of {n i : Nat} {F : Nat → Sd} {x : Sd} (h : (Rg n F)[i]? = some x) : i < n ∧ x = F i := by
  have hi := (List.getElem?_eq_some_iff.1 h).1
  rw [Rg.len] at hi
  rw [Rg.get hi] at h
  cases h
  exact ⟨hi, rfl⟩
theorem Rg.mod {n i : Nat} {F : Nat → Sd} {f : Sd → Sd} : (Rg n F).modify i f = Rg n (fun j => if j = i then f (F j) else F j) := by
  apply List.ext_getElem?
  intro j
  rw [List.getElem?_modify]
  unfold Rg
  rw [List.getElem?_map, List.getElem?_map]
  cases hj : (List.range n)[j]? with
  | none => simp
  | some q =>
    have : q = j := by
      obtain ⟨h1, h2⟩ := List.getElem?_eq_some_iff.1 hj
      simp at h2; exact h2.symm
    subst this
    by_cases e : i = q
    · subst e; simp
    · have e' : ¬ q = i := fun h => e h.symm
      simp [e, e']
theorem Rg.congr {n : Nat} {F G : Nat → Sd} (h : ∀ j, j < n → F j = G j) : Rg n F = Rg n G := by
  unfold Rg
  exact List.map_congr_left fun j hj => h j (List.mem_range.1 hj)
/-- The slots' addresses are 100 and on. -/
def AdF (F : Nat → Sd) : Prop := ∀ j, (F j).ad = nA j
theorem Rg.num {F : Nat → Sd} (h : AdF F) {j : Nat} (hj : j < 100) : (F j).num = 3232235776 + (100 + j) := by
  unfold Sd.num
  rw [h j, nA_num (by omega)]
theorem Rg.srt {n : Nat} {F : Nat → Sd} (h : AdF F) (hn : n ≤ 100) : SSrt (Rg n F) := by
  unfold SSrt
  rw [List.pairwise_iff_getElem]
  intro i j hi hj hij
  rw [Rg.len] at hi hj
  have e : ∀ q (hq : q < n), (Rg n F)[q]'(by rw [Rg.len]; exact hq) = F q := fun q hq => by
    have := Rg.get (F := F) hq
    rw [List.getElem?_eq_getElem (by rw [Rg.len]; exact hq)] at this
    exact Option.some.inj this
  rw [e i hi, e j hj, Rg.num h (by omega), Rg.num h (by omega)]
  omega
theorem Rg.pos {n i : Nat} {F : Nat → Sd} (h : AdF F) (hn : n ≤ 100) (hi : i < n) : sfpos (Rg n F) (nA i).num = i ∧ sfhas (Rg n F) (nA i).num = true :=
  (Rg.srt h hn).found (Rg.get hi) (by unfold Sd.num; rw [h i])
theorem Rg.out {n x : Nat} {F : Nat → Sd} (h : AdF F) (hn : n ≤ 100) (hx : ∀ j, j < n → x ≠ 3232235776 + (100 + j)) : sfhas (Rg n F) x = false := SSrt.none fun e he hne => by
  obtain ⟨j, hj⟩ := List.getElem?_of_mem he
  obtain ⟨h1, rfl⟩ := Rg.of hj
  rw [Rg.num h (by omega)] at hne
  exact hx j h1 hne.symm
theorem best_is {m : Mc6} {now : Int} {l : List Sd} {i : Nat} {x : Sd} (hx : l[i]? = some x) (hf : x.freeB now = true) (h : ∀ (j : Nat) (e : Sd), l[j]? = some e → e.freeB now = true → (j < i → x.rank m < e.rank m) ∧ (i < j → x.rank m ≤ e.rank m)) : bestF m now l l.length = some i := by
  have hi := (List.getElem?_eq_some_iff.1 hx).1
  have lo : ∀ k, k ≤ i → bestF m now l k = none ∨ ∃ (j : Nat) (e : Sd), bestF m now l k = some j ∧ l[j]? = some e ∧ x.rank m < e.rank m := by
    intro k
    induction k with
    | zero => intro _; exact .inl rfl
    | succ k ih =>
      intro hk
      obtain ⟨e, he⟩ : ∃ e, l[k]? = some e := ⟨_, List.getElem?_eq_getElem (by omega)⟩
      unfold bestF
      rw [he]
      simp only
      by_cases hb : betB m now l (bestF m now l k) e = true
      · rw [if_pos hb]
        have hfe : e.freeB now = true := by unfold betB at hb; simp only [Bool.and_eq_true] at hb; exact hb.1
        exact .inr ⟨k, e, rfl, he, (h k e he hfe).1 (by omega)⟩
      · rw [if_neg hb]
        exact ih (by omega)
  have hi : ∀ k, i < k → k ≤ l.length → bestF m now l k = some i := by
    intro k
    induction k with
    | zero => intro h0; omega
    | succ k ih =>
      intro hk hkl
      obtain ⟨e, he⟩ : ∃ e, l[k]? = some e := ⟨_, List.getElem?_eq_getElem (by omega)⟩
      unfold bestF
      rw [he]
      simp only
      rcases Nat.lt_or_ge i k with h1 | h1
      · rw [ih h1 (by omega)]
        have : betB m now l (some i) e = false := by
          unfold betB
          cases hfe : e.freeB now with
          | false => rfl
          | true =>
            have := (h k e he hfe).2 h1
            simp [hx]; omega
        rw [if_neg (by rw [this]; decide)]
      · obtain rfl : k = i := by omega
        rw [hx] at he
        cases he
        rcases lo k (Nat.le_refl _) with h2 | ⟨j, y, h2, h3, h4⟩
        · rw [if_pos (by rw [h2]; unfold betB; rw [hf]; rfl)]
        · rw [if_pos (by rw [h2]; unfold betB; rw [hf]; simp [h3, h4])]
  exact hi l.length ‹_› (Nat.le_refl _)
theorem Rg.best {n i : Nat} {F : Nat → Sd} {m : Mc6} {now : Int} (hi : i < n) (hf : (F i).freeB now = true) (h : ∀ j, j < n → (F j).freeB now = true → (j < i → (F i).rank m < (F j).rank m) ∧ (i < j → (F i).rank m ≤ (F j).rank m)) : bestF m now (Rg n F) (Rg n F).length = some i := best_is (Rg.get hi) hf fun j e he hfe => by
  obtain ⟨h1, rfl⟩ := Rg.of he
  exact h j h1 hfe
section
variable {n : Nat} {F : Nat → Sd} {now t : Int} {m : Mc6} {wa : Ad4}
/-- What is wanted may not be had. -/
def noWant (n : Nat) (F : Nat → Sd) (wa : Ad4) (now : Int) : Prop := sfhas (Rg n F) wa.num = false ∨ ∃ x, (Rg n F)[sfpos (Rg n F) wa.num]? = some x ∧ x.freeB now = false
theorem noWant.out {now : Int} (h : sfhas (Rg n F) wa.num = false) : noWant n F wa now := .inl h
def upF (F : Nat → Sd) (i : Nat) (y : Sd) (j : Nat) : Sd := if j = i then y else F j
theorem Rg.modify {i : Nat} {f : Sd → Sd} : (Rg n F).modify i f = Rg n (upF F i (f (F i))) := by
  rw [Rg.mod]
  apply Rg.congr
  intro j _
  unfold upF
  by_cases e : j = i
  · subst e; simp
  · simp [e]
end
open Go.RowKit

/-- One host, its address, until when. -/
def mB : Mc6 := ⟨2, 9, 0, 0, 0, 0⟩
def m8 : Mc6 := ⟨2, 8, 0, 0, 0, 0⟩
/-- The states of ServeKnown. -/
def knS1 : St := (takeS uS0 mB (lA 105) 0 3600).2
def knS2 : St := (takeS knS1 m8 (lA 105) 0 3600).2
def knS3 : St := knS2.adv 0
def knS4 : St := endS knS3 mB (lA 105)
def knS5 : St := { knS4.adv 0 with l := tickL (knS4.adv 0).now knS4.l }
theorem kn_1 : takeS uS0 mB (lA 105) 0 3600 = (0, knS1) := by kernel_rfl
theorem kn_2 : takeS knS1 m8 (lA 105) 0 3600 = (8, knS2) := by kernel_rfl
theorem kn_3 : (allO (knS2.adv 0).now knS2.l).any (fun e => e.ad.eqB (lA 105)) = true := by kernel_rfl
theorem kn_4 : endB knS3 mB (lA 105) = true := by kernel_rfl
theorem kn_5 : tickO (knS4.adv 0).now knS4.l = [⟨mB, lA 105, 0⟩] ∧ [(⟨mB, lA 105, 0⟩ : Le)].length = 1 := ⟨by kernel_rfl, rfl⟩
theorem kn_6 : allO (knS5.adv 0).now knS5.l = [] ∧ ([] : List Le).length = 0 := ⟨by kernel_rfl, rfl⟩
theorem aw_1 : offerS uS0 mB Ad4.zero 0 = (lA 100, 0) := by kernel_rfl
open Go.RowKit

set_option maxRecDepth 100000 in
theorem lg_disc9 {lo gs gp : Nat} {A : Option Addr} {c : Nat} {hs : List Oh} (w : World) (hT : Sv lo gs gp w ⟨⟨192, 168, 1, 1⟩, 4294967040, 3600⟩ uS0) (hO : Opv w A 1 c hs [(53, [1])])  : Calls Try.prog 10 #[.pointer (some ⟨gs, 0, none⟩), .agg #[.int .i64 1, .int .i64 0, .int .u32 7, .int .i64 0, .int .i64 0, .int .u8 0, .int .u8 0, .int .u8 0, .int .u8 0, .int .u8 0, .int .u8 0, .int .u8 0, .int .u8 0, .int .u8 0, .int .u8 0, .int .u8 0, .int .u8 0, .int .u8 0, .int .u8 0, .int .u8 0, .int .u8 0, .int .u8 2, .int .u8 9, .int .u8 0, .int .u8 0, .int .u8 0, .int .u8 0, .slice A 1 c], .int .i64 0] w fun e w' => ∃ A2 c2 hs2, e = .returned (.tuple #[.agg #[.int .i64 2, .int .i64 0, .int .u32 7, .int .i64 0, .int .i64 0, .int .u8 0, .int .u8 0, .int .u8 0, .int .u8 0, .int .u8 192, .int .u8 168, .int .u8 1, .int .u8 100, .int .u8 192, .int .u8 168, .int .u8 1, .int .u8 1, .int .u8 0, .int .u8 0, .int .u8 0, .int .u8 0, .int .u8 2, .int .u8 9, .int .u8 0, .int .u8 0, .int .u8 0, .int .u8 0, .slice A2 6 c2, .int .u8 2, .int .u8 9, .int .u8 0, .int .u8 0, .int .u8 0, .int .u8 0, .int .u8 192, .int .u8 168, .int .u8 1, .int .u8 100], .bool true]) ∧ Opv w' A2 6 c2 hs2 [(53, [2]), (54, (⟨192, 168, 1, 1⟩ : Ad4).l), (51, four 3600), (1, four 4294967040), (3, (⟨192, 168, 1, 1⟩ : Ad4).l), (6, (⟨192, 168, 1, 1⟩ : Ad4).l)] ∧ (∀ q, q < w.heap.size → Oa A2 6 hs2 q) ∧ Sv lo gs gp w' ⟨⟨192, 168, 1, 1⟩, 4294967040, 3600⟩ (uS0.adv 0) ∧ Kt [84, 101] w w' ∧ Below lo w w' := by
  have h_ := sget_offer_your (wa := Ad4.zero) (a := lA 100) (h := ⟨1, 0, 7, 0, 0, 0, 0, 0, 0, 0, 0, 0, 0, 0, 0, 0, 0, 0, 0, 0, 0, 2, 9, 0, 0, 0, 0⟩) w hT hO (by kernel_rfl) (by omega) (by omega) (by kernel_rfl) (b := false) (by kernel_rfl) aw_1 (by kernel_rfl) (by kernel_rfl)
  exact h_
set_option linter.unusedVariables false in
set_option linter.unusedSimpArgs false in
set_option maxRecDepth 100000 in
set_option maxHeartbeats 16000000 in
theorem sawake_any (w : World) : Calls Try.prog 7 #[] w fun e w' => e = .returned (.bool true) ∧ Below w.heap.size w w' := by
  have e35 : ∀ W, (binOp .eql 28 (.agg #[.int .u8 192, .int .u8 168, .int .u8 1, .int .u8 100]) (.agg #[.int .u8 192, .int .u8 168, .int .u8 1, .int .u8 100])).run Try.prog W = .ok (.bool true) W := fun W => by kernel_rfl
  have e61 : ∀ W, (binOp .eql 32 (.agg #[.int .u8 2, .int .u8 9, .int .u8 0, .int .u8 0, .int .u8 0, .int .u8 0]) (.agg #[.int .u8 2, .int .u8 9, .int .u8 0, .int .u8 0, .int .u8 0, .int .u8 0])).run Try.prog W = .ok (.bool true) W := fun W => by kernel_rfl
  have bel := Below.refl w.heap.size w
  go_enter Try.func7, Try.ntmps7
  go_wp2_with fail
  with_reducible refine (cusual_any _).mono ?_
  rintro e w1 ⟨rfl, b1⟩
  replace bel := bel.trans (b1.mono bel.size)
  clear b1
  go_wp2_with fail
  have HLO_ := bel.size
  with_reducible refine (snew_us _).mono ?_
  rintro e w2 ⟨gs, gp, rfl, hT, b2⟩
  replace bel := bel.trans (b2.mono bel.size)
  clear b2
  replace hT : Sv w.heap.size gs gp w2 ⟨⟨192, 168, 1, 1⟩, 4294967040, 3600⟩ uS0 := hT.lo_mono HLO_
  clear HLO_
  go_wp2_with fail
  have hwz := bel.size
  with_reducible refine (ldisc_o _).mono ?_
  rintro e w3 ⟨Aw, cw, hw, rfl, hO, fP, b3⟩
  replace hT := hT.below b3
  replace bel := bel.trans (b3.mono bel.size)
  clear b3
  have fO : ∀ q, q < w.heap.size → Oa Aw 1 hw q := fun q_ hq_ => fP q_ (Nat.lt_of_lt_of_le hq_ hwz)
  clear hwz
  
  clear fP
  go_wp2_with fail
  go_wp2_with fail
  have hwz := bel.size
  with_reducible refine (lg_disc9 _ hT hO).mono ?_
  rintro e w4 ⟨A2, c2, hs2, rfl, hP, fP, hT_, k_, bb⟩
  replace hO := hO.kt k_
  clear hT
  have hT := hT_
  replace bel := bel.trans bb
  clear bb k_ hT_
  have fA : ∀ q, q < w.heap.size → Oa A2 6 hs2 q := fun q_ hq_ => fP q_ (Nat.lt_of_lt_of_le hq_ hwz)
  clear hwz
  
  clear fP
  go_wp2_with (first | ((with_reducible show wpList _ _ _ (⟨some 3, _, _, _, _, _⟩ :: _) _ _); refine wpList_new_a rfl 43 rfl #[.int .i64 0, .int .i64 0, .int .u32 0, .int .i64 0, .int .i64 0, .int .u8 0, .int .u8 0, .int .u8 0, .int .u8 0, .int .u8 0, .int .u8 0, .int .u8 0, .int .u8 0, .int .u8 0, .int .u8 0, .int .u8 0, .int .u8 0, .int .u8 0, .int .u8 0, .int .u8 0, .int .u8 0, .int .u8 0, .int .u8 0, .int .u8 0, .int .u8 0, .int .u8 0, .int .u8 0, .slice none 0 0, .int .u8 0, .int .u8 0, .int .u8 0, .int .u8 0, .int .u8 0, .int .u8 0, .int .u8 0, .int .u8 0, .int .u8 0, .int .u8 0] (by kernel_rfl) ?_; intro g3 w5 ge hh bb; have oab := Nat.le_trans bel.size ge; have oa_ab := hO.oa ge; have ob_ab := hP.oa ge; replace hT := hT.below bb; replace hO := hO.below bb; replace hP := hP.below bb; replace bel := bel.trans (bb.mono bel.size); have hab := hh; clear hh ge bb) | ((with_reducible show wpList _ _ _ (⟨none, Op.store _ (.tmp 3) _, _, _, _, _⟩ :: _) _ _); refine wpList_store_blk rfl 43 (.tmp 3) (.tmp 21) rfl g3 rfl _ rfl _ 43 hab (by rfl) (by kernel_rfl) (by kernel_rfl) ?_; intro w6 hq gr; replace hT := hT.grown gr hab (by decide); replace hO := hO.away oa_ab gr; replace hP := hP.away ob_ab gr; replace bel := below_grown bel gr oab bel.size; clear hab; have hab := hq; clear hq gr; have R26 := Lib.hid (range_lit hab 0 28 [.int .i64 2, .int .i64 0, .int .u32 7, .int .i64 0, .int .i64 0, .int .u8 0, .int .u8 0, .int .u8 0, .int .u8 0, .int .u8 192, .int .u8 168, .int .u8 1, .int .u8 100, .int .u8 192, .int .u8 168, .int .u8 1, .int .u8 1, .int .u8 0, .int .u8 0, .int .u8 0, .int .u8 0, .int .u8 2, .int .u8 9, .int .u8 0, .int .u8 0, .int .u8 0, .int .u8 0, .slice A2 6 c2] rfl)) | ((with_reducible show wpList _ _ _ (⟨some 26, _, _, _, _, _⟩ :: _) _ _); refine wpList_load_rng 41 (.tmp 25) rfl (by kernel_rfl) _ _ rfl _ R26.out _ Try.underlying41 rfl (by kernel_rfl) ?_))
  try clear R26
  with_reducible refine (ltype_a (k := 2) _ hP (by kernel_rfl)).mono ?_
  rintro e w7 ⟨rfl, b7⟩
  replace hab := blk_u hab b7
  replace hT := hT.below b7
  replace hO := hO.below b7
  replace hP := hP.below b7
  replace bel := bel.trans (b7.mono bel.size)
  clear b7
  have R33 := Lib.hid (range_lit hab 9 4 [.int .u8 192, .int .u8 168, .int .u8 1, .int .u8 100] rfl)
  go_wp2_with (first | ((with_reducible show wpList _ _ _ (⟨some 33, _, _, _, _, _⟩ :: _) _ _); refine wpList_load_rng 28 (.tmp 32) rfl (by kernel_rfl) _ _ rfl _ R33.out _ Try.underlying28 rfl (by kernel_rfl) ?_; have R40 := cell_lit hab 0 _ rfl; have R46 := cell_lit hab 2 _ rfl; have R51 := Lib.hid (range_lit hab 34 4 [.int .u8 192, .int .u8 168, .int .u8 1, .int .u8 100] rfl)) | ((with_reducible show wpList _ _ _ (⟨some 51, _, _, _, _, _⟩ :: _) _ _); refine wpList_load_rng 28 (.tmp 50) rfl (by kernel_rfl) _ _ rfl _ R51.out _ Try.underlying28 rfl (by kernel_rfl) ?_; have R54 := Lib.hid (range_lit hab 9 4 [.int .u8 192, .int .u8 168, .int .u8 1, .int .u8 100] rfl)) | ((with_reducible show wpList _ _ _ (⟨some 54, _, _, _, _, _⟩ :: _) _ _); refine wpList_load_rng 28 (.tmp 53) rfl (by kernel_rfl) _ _ rfl _ R54.out _ Try.underlying28 rfl (by kernel_rfl) ?_; have R59 := Lib.hid (range_lit hab 28 6 [.int .u8 2, .int .u8 9, .int .u8 0, .int .u8 0, .int .u8 0, .int .u8 0] rfl)) | ((with_reducible show wpList _ _ _ (⟨some 59, _, _, _, _, _⟩ :: _) _ _); refine wpList_load_rng 32 (.tmp 58) rfl (by kernel_rfl) _ _ rfl _ R59.out _ Try.underlying32 rfl (by kernel_rfl) ?_))
  try clear R33
  try clear R40
  try clear R46
  try clear R51
  try clear R54
  try clear R59
  go_ret
  exact ⟨rfl, bel⟩
open Go.RowKit

set_option linter.unusedVariables false in
set_option linter.unusedSimpArgs false in
set_option maxRecDepth 100000 in
set_option maxHeartbeats 16000000 in
theorem sholdf_any {gb : Nat} {a : Ad4} {b : Bool} (x : Le) (w : World) (hpb : w.heap[gb]? = some (.cells #[.int .u8 (a.a.toNat : Int), .int .u8 (a.b.toNat : Int), .int .u8 (a.c.toNat : Int), .int .u8 (a.d.toNat : Int)] 28 (0, 0))) (hb : x.ad.eqB a = b) : Calls Try.prog 28 #[.agg #[.int .u8 (x.m.a.toNat : Int), .int .u8 (x.m.b.toNat : Int), .int .u8 (x.m.c.toNat : Int), .int .u8 (x.m.d.toNat : Int), .int .u8 (x.m.e.toNat : Int), .int .u8 (x.m.f.toNat : Int), .int .u8 (x.ad.a.toNat : Int), .int .u8 (x.ad.b.toNat : Int), .int .u8 (x.ad.c.toNat : Int), .int .u8 (x.ad.d.toNat : Int), .int .i64 x.u], .pointer (some ⟨gb, 0, none⟩)] w fun e w' => e = .returned (.bool b) ∧ Below w.heap.size w w' := by
  have EQ_ : ∀ W, (binOp .eql 28 (.agg #[.int .u8 (x.ad.a.toNat : Int), .int .u8 (x.ad.b.toNat : Int), .int .u8 (x.ad.c.toNat : Int), .int .u8 (x.ad.d.toNat : Int)]) (.agg #[.int .u8 (a.a.toNat : Int), .int .u8 (a.b.toNat : Int), .int .u8 (a.c.toNat : Int), .int .u8 (a.d.toNat : Int)])).run Try.prog W = .ok (.bool b) W := fun W => by have h_ := eqa_b x.ad a W; rw [hb] at h_; exact h_
  clear hb
  have bel := Below.refl w.heap.size w
  go_enter Try.func28, Try.ntmps28
  go_wp2_with (first | ((with_reducible show wpList _ _ _ (⟨some 2, _, _, _, _, _⟩ :: _) _ _); refine wpList_box_n rfl 56 (.tmp 0) rfl #[.int .u8 (x.m.a.toNat : Int), .int .u8 (x.m.b.toNat : Int), .int .u8 (x.m.c.toNat : Int), .int .u8 (x.m.d.toNat : Int), .int .u8 (x.m.e.toNat : Int), .int .u8 (x.m.f.toNat : Int), .int .u8 (x.ad.a.toNat : Int), .int .u8 (x.ad.b.toNat : Int), .int .u8 (x.ad.c.toNat : Int), .int .u8 (x.ad.d.toNat : Int), .int .i64 x.u] rfl ?_; intro g2 w1 ge lt hh bb; have d_pb_eb := ne_new (hlt hpb) ge; have oeb := Nat.le_trans bel.size ge; replace hpb := blk_u hpb bb; replace bel := bel.trans (bb.mono bel.size); have heb := hh; clear hh lt ge bb; have R5 := Lib.hid (range_lit heb 6 4 [.int .u8 (x.ad.a.toNat : Int), .int .u8 (x.ad.b.toNat : Int), .int .u8 (x.ad.c.toNat : Int), .int .u8 (x.ad.d.toNat : Int)] rfl)) | ((with_reducible show wpList _ _ _ (⟨some 5, _, _, _, _, _⟩ :: _) _ _); refine wpList_load_rng 28 (.tmp 4) rfl (by kernel_rfl) _ _ rfl _ R5.out _ Try.underlying28 rfl (by kernel_rfl) ?_; have R6 := Lib.hid (range_lit hpb 0 4 [.int .u8 (a.a.toNat : Int), .int .u8 (a.b.toNat : Int), .int .u8 (a.c.toNat : Int), .int .u8 (a.d.toNat : Int)] rfl)) | ((with_reducible show wpList _ _ _ (⟨some 6, _, _, _, _, _⟩ :: _) _ _); refine wpList_load_rng 28 (.tmp 1) rfl (by kernel_rfl) _ _ rfl _ R6.out _ Try.underlying28 rfl (by kernel_rfl) ?_))
  try clear R5
  try clear R6
  go_ret
  exact ⟨rfl, bel⟩
set_option linter.unusedVariables false in
set_option linter.unusedSimpArgs false in
set_option maxRecDepth 100000 in
set_option maxHeartbeats 16000000 in
theorem sidx_none {gb gE n c : Nat} {a : Ad4} {l : List Le} (w : World) (hpb : w.heap[gb]? = some (.cells #[.int .u8 (a.a.toNat : Int), .int .u8 (a.b.toNat : Int), .int .u8 (a.c.toNat : Int), .int .u8 (a.d.toNat : Int)] 28 (0, 0))) (en : Sle leE 11 w (some ⟨gE, 0, none⟩) n c l) (hn : n ≤ 1000) (hN : ∀ e ∈ l, e.ad.eqB a = false) : Calls Try.prog 51 #[.slice (some ⟨gE, 0, none⟩) n c, .func (.func 28) #[] #[.pointer (some ⟨gb, 0, none⟩)]] w fun e w' => e = .returned (.int .i64 (-1)) ∧ Below w.heap.size w w' := by
  have HL := Lib.hid en.1
  have hn0 : (n : Int) ≤ 1000 := by omega
  have HN := Lib.hid hN
  clear hN
  have bel := Below.refl w.heap.size w
  go_enter Try.func51, Try.ntmps51
  go_wp2_with fail
  go_loopg [8] (n) (fun gk s8 wr => ∃ k : Nat, gk = n - k ∧ k ≤ n ∧ s8 = .int .i64 (k : Int) ∧ wr.heap[gb]? = some (.cells #[.int .u8 (a.a.toNat : Int), .int .u8 (a.b.toNat : Int), .int .u8 (a.c.toNat : Int), .int .u8 (a.d.toNat : Int)] 28 (0, 0)) ∧ Sle leE 11 wr (some ⟨gE, 0, none⟩) (n) (c) (l) ∧ Below w.heap.size w wr)
  case atStart => exact ⟨0, Nat.sub_zero _, Nat.zero_le _, rfl, hpb, en, bel⟩
  case round =>
    clear hpb en bel
    obtain ⟨k, HGK, hkn, rfl, hpb, en, bel⟩ := hrel
    have HGK_ := Lib.hid HGK
    clear HGK
    by_cases h : k < n
    rotate_left
    · obtain rfl : k = n := by omega
      replace h : decide (k < k) = false := decide_eq_false (by omega)
      go_wp2_with fail
      go_ret
      exact ⟨rfl, bel⟩
    obtain ⟨e, hx⟩ : ∃ e, l[k]? = some e := ⟨_, List.getElem?_eq_getElem (by have := HL.out; omega)⟩
    have k0 : (0 : Int) ≤ k := by omega
    have k1 : (k : Int) < n := by omega
    have HX := Lib.hid hx
    clear hx
    have HG : Hid (e.ad.eqB a = false) := Lib.hid (HN.out e (List.mem_of_getElem? HX.out))
    have R15 := Lib.hid (Sle.zrange0 en HX.out 11 [.int .u8 (e.m.a.toNat : Int), .int .u8 (e.m.b.toNat : Int), .int .u8 (e.m.c.toNat : Int), .int .u8 (e.m.d.toNat : Int), .int .u8 (e.m.e.toNat : Int), .int .u8 (e.m.f.toNat : Int), .int .u8 (e.ad.a.toNat : Int), .int .u8 (e.ad.b.toNat : Int), .int .u8 (e.ad.c.toNat : Int), .int .u8 (e.ad.d.toNat : Int), .int .i64 e.u] rfl)
    go_wp2_with (first | ((with_reducible show wpList _ _ _ (⟨some 15, _, _, _, _, _⟩ :: _) _ _); refine wpList_load_rng 56 (.tmp 14) rfl (by kernel_rfl) _ _ rfl _ R15.out _ Try.underlying56 rfl (by kernel_rfl) ?_))
    try clear R15
    with_reducible refine (sholdf_any e _ hpb HG.out).mono ?_
    rintro e w1 ⟨rfl, b1⟩
    replace hpb := blk_u hpb b1
    replace en := en.below b1
    replace bel := bel.trans (b1.mono bel.size)
    clear b1
    go_wp2_with fail
    go_roundg (n - (k + 1))
    case measure => have := HGK_.out; omega
    case rel => exact ⟨k + 1, rfl, by omega, by go_num, hpb, en, bel⟩
set_option linter.unusedVariables false in
set_option linter.unusedSimpArgs false in
set_option maxRecDepth 100000 in
set_option maxHeartbeats 16000000 in
theorem sidx_some {gb gE n c i : Nat} {a : Ad4} {l : List Le} (w : World) (hpb : w.heap[gb]? = some (.cells #[.int .u8 (a.a.toNat : Int), .int .u8 (a.b.toNat : Int), .int .u8 (a.c.toNat : Int), .int .u8 (a.d.toNat : Int)] 28 (0, 0))) (en : Sle leE 11 w (some ⟨gE, 0, none⟩) n c l) (hn : n ≤ 1000) {x : Le} (hx : l[i]? = some x) (hg : x.ad.eqB a = true) (hN : ∀ j e, j < i → l[j]? = some e → e.ad.eqB a = false) : Calls Try.prog 51 #[.slice (some ⟨gE, 0, none⟩) n c, .func (.func 28) #[] #[.pointer (some ⟨gb, 0, none⟩)]] w fun e w' => e = .returned (.int .i64 (i : Int)) ∧ Below w.heap.size w w' := by
  have HL := Lib.hid en.1
  have hn0 : (n : Int) ≤ 1000 := by omega
  have HIN : Hid (i < n) := Lib.hid (by have := (List.getElem?_eq_some_iff.1 hx).1; have h_ := en.1; omega)
  have HN := Lib.hid hN
  have HXI := Lib.hid hx
  have HGI := Lib.hid hg
  clear hN hx hg
  have bel := Below.refl w.heap.size w
  go_enter Try.func51, Try.ntmps51
  go_wp2_with fail
  go_loopg [8] (n) (fun gk s8 wr => ∃ k : Nat, gk = n - k ∧ k ≤ i ∧ s8 = .int .i64 (k : Int) ∧ wr.heap[gb]? = some (.cells #[.int .u8 (a.a.toNat : Int), .int .u8 (a.b.toNat : Int), .int .u8 (a.c.toNat : Int), .int .u8 (a.d.toNat : Int)] 28 (0, 0)) ∧ Sle leE 11 wr (some ⟨gE, 0, none⟩) (n) (c) (l) ∧ Below w.heap.size w wr)
  case atStart => exact ⟨0, Nat.sub_zero _, Nat.zero_le _, rfl, hpb, en, bel⟩
  case round =>
    clear hpb en bel
    obtain ⟨k, HGK, hkn, rfl, hpb, en, bel⟩ := hrel
    have HGK_ := Lib.hid HGK
    clear HGK
    by_cases h : k < n
    rotate_left
    · exfalso
      have := HIN.out
      omega
    obtain ⟨e, hx⟩ : ∃ e, l[k]? = some e := ⟨_, List.getElem?_eq_getElem (by have := HL.out; omega)⟩
    have k0 : (0 : Int) ≤ k := by omega
    have k1 : (k : Int) < n := by omega
    have HX := Lib.hid hx
    clear hx
    by_cases h2 : k < i
    rotate_left
    · obtain rfl : k = i := by omega
      obtain rfl : e = x := Option.some.inj (HX.out.symm.trans HXI.out)
      have HG := HGI
      have R15 := Lib.hid (Sle.zrange0 en HX.out 11 [.int .u8 (e.m.a.toNat : Int), .int .u8 (e.m.b.toNat : Int), .int .u8 (e.m.c.toNat : Int), .int .u8 (e.m.d.toNat : Int), .int .u8 (e.m.e.toNat : Int), .int .u8 (e.m.f.toNat : Int), .int .u8 (e.ad.a.toNat : Int), .int .u8 (e.ad.b.toNat : Int), .int .u8 (e.ad.c.toNat : Int), .int .u8 (e.ad.d.toNat : Int), .int .i64 e.u] rfl)
      go_wp2_with (first | ((with_reducible show wpList _ _ _ (⟨some 15, _, _, _, _, _⟩ :: _) _ _); refine wpList_load_rng 56 (.tmp 14) rfl (by kernel_rfl) _ _ rfl _ R15.out _ Try.underlying56 rfl (by kernel_rfl) ?_))
      try clear R15
      with_reducible refine (sholdf_any e _ hpb HG.out).mono ?_
      rintro e w1 ⟨rfl, b1⟩
      replace hpb := blk_u hpb b1
      replace en := en.below b1
      replace bel := bel.trans (b1.mono bel.size)
      clear b1
      go_wp2_with fail
      go_ret
      exact ⟨rfl, bel⟩
    have HG : Hid (e.ad.eqB a = false) := Lib.hid (HN.out k e h2 HX.out)
    have R15 := Lib.hid (Sle.zrange0 en HX.out 11 [.int .u8 (e.m.a.toNat : Int), .int .u8 (e.m.b.toNat : Int), .int .u8 (e.m.c.toNat : Int), .int .u8 (e.m.d.toNat : Int), .int .u8 (e.m.e.toNat : Int), .int .u8 (e.m.f.toNat : Int), .int .u8 (e.ad.a.toNat : Int), .int .u8 (e.ad.b.toNat : Int), .int .u8 (e.ad.c.toNat : Int), .int .u8 (e.ad.d.toNat : Int), .int .i64 e.u] rfl)
    go_wp2_with (first | ((with_reducible show wpList _ _ _ (⟨some 15, _, _, _, _, _⟩ :: _) _ _); refine wpList_load_rng 56 (.tmp 14) rfl (by kernel_rfl) _ _ rfl _ R15.out _ Try.underlying56 rfl (by kernel_rfl) ?_))
    try clear R15
    with_reducible refine (sholdf_any e _ hpb HG.out).mono ?_
    rintro e w1 ⟨rfl, b1⟩
    replace hpb := blk_u hpb b1
    replace en := en.below b1
    replace bel := bel.trans (b1.mono bel.size)
    clear b1
    go_wp2_with fail
    go_roundg (n - (k + 1))
    case measure => have := HGK_.out; omega
    case rel => exact ⟨k + 1, rfl, by omega, by go_num, hpb, en, bel⟩
set_option linter.unusedVariables false in
set_option linter.unusedSimpArgs false in
set_option maxRecDepth 100000 in
set_option maxHeartbeats 16000000 in
theorem sidx_nil {gb n c : Nat} {A2 : Option Addr} (w : World) (hn : n = 0) : Calls Try.prog 51 #[.slice A2 n c, .func (.func 28) #[] #[.pointer (some ⟨gb, 0, none⟩)]] w fun e w' => e = .returned (.int .i64 (-1)) ∧ w = w' := by
  subst hn
  skip
  go_enter Try.func51, Try.ntmps51
  go_wp2_with fail
  refine wp_loop_rounds 1 ?_
  rw [rounds_succ]
  go_wp2_with fail
  go_ret
  exact ⟨rfl, rfl⟩
/-- The place of the first lease of an address, or -1. -/
theorem first_le {a : Ad4} : ∀ {l : List Le}, l.any (fun e => e.ad.eqB a) = true → ∃ (i : Nat) (x : Le), l[i]? = some x ∧ x.ad.eqB a = true ∧ ∀ (j : Nat) (e : Le), j < i → l[j]? = some e → e.ad.eqB a = false
  | [], h => by simp at h
  | y :: l, h => by
    cases hy : y.ad.eqB a with
    | true => exact ⟨0, y, rfl, hy, fun j e hj => by omega⟩
    | false =>
      have h2 : l.any (fun e => e.ad.eqB a) = true := by simpa [hy] using h
      obtain ⟨i, x, h3, h4, h5⟩ := first_le h2
      refine ⟨i + 1, x, h3, h4, fun j e hj he => ?_⟩
      cases j with
      | zero => simp only [List.getElem?_cons_zero, Option.some.injEq] at he; subst he; exact hy
      | succ j => exact h5 j e (by omega) he
theorem sidx_any {gb n c : Nat} {A : Option Addr} {a : Ad4} {l : List Le} {b : Bool} (w : World) (hpb : w.heap[gb]? = some (.cells #[.int .u8 (a.a.toNat : Int), .int .u8 (a.b.toNat : Int), .int .u8 (a.c.toNat : Int), .int .u8 (a.d.toNat : Int)] 28 (0, 0))) (en : Sle leE 11 w A n c l) (hA : 0 < n → ∃ g, A = some ⟨g, 0, none⟩) (hn : n ≤ 1000) (hb : l.any (fun e => e.ad.eqB a) = b) : Calls Try.prog 51 #[.slice A n c, .func (.func 28) #[] #[.pointer (some ⟨gb, 0, none⟩)]] w fun e w' => (∃ z : Int, e = .returned (.int .i64 z) ∧ decide (0 ≤ z) = b) ∧ Below w.heap.size w w' := by
  rcases Nat.eq_zero_or_pos n with h | h
  · have hl : l = [] := List.length_eq_zero_iff.1 (en.1.trans h)
    subst hl
    refine (sidx_nil w h).mono ?_
    rintro e w' ⟨rfl, rfl⟩
    exact ⟨⟨_, rfl, by rw [← hb]; rfl⟩, Below.refl _ _⟩
  · have hz : ∃ g, A = some ⟨g, 0, none⟩ := hA h
    obtain ⟨g, rfl⟩ := hz
    cases b with
    | false =>
      refine (sidx_none w hpb en hn (fun e he => ?_)).mono ?_
      · simp only [List.any_eq_false] at hb
        simpa using hb e he
      · rintro e w' ⟨rfl, h2⟩
        exact ⟨⟨_, rfl, rfl⟩, h2⟩
    | true =>
      obtain ⟨i, x, h3, h4, h5⟩ := first_le hb
      refine (sidx_some w hpb en hn h3 h4 h5).mono ?_
      rintro e w' ⟨rfl, h2⟩
      exact ⟨⟨_, rfl, decide_eq_true (by omega)⟩, h2⟩
set_option linter.unusedVariables false in
set_option linter.unusedSimpArgs false in
set_option maxRecDepth 100000 in
set_option maxHeartbeats 16000000 in
theorem scf_any {gb n c : Nat} {A : Option Addr} {a : Ad4} {l : List Le} {b : Bool} (w : World) (hpb : w.heap[gb]? = some (.cells #[.int .u8 (a.a.toNat : Int), .int .u8 (a.b.toNat : Int), .int .u8 (a.c.toNat : Int), .int .u8 (a.d.toNat : Int)] 28 (0, 0))) (en : Sle leE 11 w A n c l) (hA : 0 < n → ∃ g, A = some ⟨g, 0, none⟩) (hn : n ≤ 1000) (hb : l.any (fun e => e.ad.eqB a) = b) : Calls Try.prog 26 #[.slice A n c, .func (.func 28) #[] #[.pointer (some ⟨gb, 0, none⟩)]] w fun e w' => e = .returned (.bool b) ∧ Below w.heap.size w w' := by
  have bel := Below.refl w.heap.size w
  go_enter Try.func26, Try.ntmps26
  go_wp2_with fail
  with_reducible refine (sidx_any _ hpb en hA hn hb).mono ?_
  rintro e w1 ⟨⟨z, rfl, hz⟩, b1⟩
  replace hpb := blk_u hpb b1
  replace en := en.below b1
  replace bel := bel.trans (b1.mono bel.size)
  clear b1
  go_wp2_with fail
  go_ret
  exact ⟨rfl, bel⟩
set_option linter.unusedVariables false in
set_option linter.unusedSimpArgs false in
set_option maxRecDepth 100000 in
set_option maxHeartbeats 16000000 in
theorem six_nil {a : Ad4} (w : World) : Calls Try.prog 50 #[.slice none 0 0, .agg #[.int .u8 (a.a.toNat : Int), .int .u8 (a.b.toNat : Int), .int .u8 (a.c.toNat : Int), .int .u8 (a.d.toNat : Int)]] w fun e w' => e = .returned (.int .i64 (-1)) ∧ Below w.heap.size w w' := by
  have bel := Below.refl w.heap.size w
  go_enter Try.func50, Try.ntmps50
  go_wp2_with (first | ((with_reducible show wpList _ _ _ (⟨some 3, _, _, _, _, _⟩ :: _) _ _); refine wpList_box_n rfl 28 (.tmp 1) rfl #[.int .u8 (a.a.toNat : Int), .int .u8 (a.b.toNat : Int), .int .u8 (a.c.toNat : Int), .int .u8 (a.d.toNat : Int)] rfl ?_; intro g3 w1 ge lt hh bb; have oeb := Nat.le_trans bel.size ge; replace bel := bel.trans (bb.mono bel.size); have heb := hh; clear hh lt ge bb))
  refine wp_loop_rounds 1 ?_
  rw [rounds_succ]
  go_wp2_with fail
  go_ret
  exact ⟨rfl, bel⟩
set_option linter.unusedVariables false in
set_option linter.unusedSimpArgs false in
set_option maxRecDepth 100000 in
set_option maxHeartbeats 16000000 in
theorem scn_nil {a : Ad4} (w : World) : Calls Try.prog 25 #[.slice none 0 0, .agg #[.int .u8 (a.a.toNat : Int), .int .u8 (a.b.toNat : Int), .int .u8 (a.c.toNat : Int), .int .u8 (a.d.toNat : Int)]] w fun e w' => e = .returned (.bool false) ∧ Below w.heap.size w w' := by
  have bel := Below.refl w.heap.size w
  go_enter Try.func25, Try.ntmps25
  go_wp2_with (first | ((with_reducible show wpList _ _ _ (⟨some 3, _, _, _, _, _⟩ :: _) _ _); refine wpList_box_n rfl 28 (.tmp 1) rfl #[.int .u8 (a.a.toNat : Int), .int .u8 (a.b.toNat : Int), .int .u8 (a.c.toNat : Int), .int .u8 (a.d.toNat : Int)] rfl ?_; intro g3 w1 ge lt hh bb; have oeb := Nat.le_trans bel.size ge; replace bel := bel.trans (bb.mono bel.size); have heb := hh; clear hh lt ge bb; have R6 := Lib.hid (range_lit heb 0 4 [.int .u8 (a.a.toNat : Int), .int .u8 (a.b.toNat : Int), .int .u8 (a.c.toNat : Int), .int .u8 (a.d.toNat : Int)] rfl)) | ((with_reducible show wpList _ _ _ (⟨some 6, _, _, _, _, _⟩ :: _) _ _); refine wpList_load_rng 28 (.tmp 3) rfl (by kernel_rfl) _ _ rfl _ R6.out _ Try.underlying28 rfl (by kernel_rfl) ?_))
  try clear R6
  with_reducible refine (six_nil _).mono ?_
  rintro e w2 ⟨rfl, b2⟩
  replace heb := blk_u heb b2
  replace bel := bel.trans (b2.mono bel.size)
  clear b2
  go_wp2_with fail
  go_ret
  exact ⟨rfl, bel⟩
set_option linter.unusedVariables false in
set_option linter.unusedSimpArgs false in
set_option maxRecDepth 100000 in
set_option maxHeartbeats 16000000 in
theorem stick_is {lo gs gp : Nat} {own : Ad4} {mk sc : Int} {s : St} {t : Int} {n : Nat} {ls : List Le} (w : World) (hS : Sv lo gs gp w ⟨own, mk, sc⟩ s) (hl_ : tickO (s.adv t).now s.l = ls ∧ ls.length = n) : Calls Try.prog 14 #[.pointer (some ⟨gs, 0, none⟩), .int .i64 t] w fun e w' => ∃ A2 c2, e = .returned (.slice A2 n c2) ∧ w'.ownsRow w.heap.size 56 11 (.slice A2 n c2) n (ls.flatMap leE) ∧ Sv lo gs gp w' ⟨own, mk, sc⟩ { s.adv t with l := tickL (s.adv t).now s.l } ∧ Kt [84, 101] w w' ∧ Below lo w w' := by
  obtain ⟨hsv, osv, hT⟩ := hS
  dsimp only at hsv
  have hlo : lo ≤ w.heap.size := Nat.le_trans osv (Nat.le_of_lt (hlt hsv))
  have kt := Kt.refl [84, 101] w
  have HL_ := Lib.hid hl_
  clear hl_
  have bel := Below.refl lo w
  go_enter Try.func14, Try.ntmps14
  have R8 := cell_lit hsv 0 _ rfl
  go_wp2_with fail
  clear R8
  have hwz := bel.size
  go_wp2_with fail
  with_reducible refine (ptick_is _ () hT HL_.out).mono ?_
  rintro e w1 ⟨A2, c2, rfl, lrw, hT_, k_, bb⟩
  replace hsv := Kt.blk k_ hsv (by decide)
  replace kt := kt.trans k_
  clear hT
  have hT := hT_
  replace bel := bel.trans bb
  clear bb k_ hT_
  go_wp2_with fail
  go_ret
  exact ⟨_, _, rfl, owk_lo lrw hwz, ⟨hsv, osv, hT⟩, kt, bel⟩
set_option linter.unusedVariables false in
set_option linter.unusedSimpArgs false in
set_option maxRecDepth 100000 in
set_option maxHeartbeats 16000000 in
theorem sall_is {lo gs gp : Nat} {own : Ad4} {mk sc : Int} {s : St} {t : Int} {n : Nat} {ls : List Le} (w : World) (hS : Sv lo gs gp w ⟨own, mk, sc⟩ s) (hl_ : allO (s.adv t).now s.l = ls ∧ ls.length = n) : Calls Try.prog 16 #[.pointer (some ⟨gs, 0, none⟩), .int .i64 t] w fun e w' => ∃ A2 c2, e = .returned (.slice A2 n c2) ∧ w'.ownsRow w.heap.size 56 11 (.slice A2 n c2) n (ls.flatMap leE) ∧ Sv lo gs gp w' ⟨own, mk, sc⟩ (s.adv t) ∧ Kt [84, 101] w w' ∧ Below lo w w' := by
  obtain ⟨hsv, osv, hT⟩ := hS
  dsimp only at hsv
  have hlo : lo ≤ w.heap.size := Nat.le_trans osv (Nat.le_of_lt (hlt hsv))
  have kt := Kt.refl [84, 101] w
  have HL_ := Lib.hid hl_
  clear hl_
  have bel := Below.refl lo w
  go_enter Try.func16, Try.ntmps16
  have R8 := cell_lit hsv 0 _ rfl
  go_wp2_with fail
  clear R8
  have hwz := bel.size
  go_wp2_with fail
  with_reducible refine (pall_is _ () hT HL_.out).mono ?_
  rintro e w1 ⟨A2, c2, rfl, lrw, hT_, k_, bb⟩
  replace hsv := Kt.blk k_ hsv (by decide)
  replace kt := kt.trans k_
  clear hT
  have hT := hT_
  replace bel := bel.trans bb
  clear bb k_ hT_
  go_wp2_with fail
  go_ret
  exact ⟨_, _, rfl, owk_lo lrw hwz, ⟨hsv, osv, hT⟩, kt, bel⟩
theorem all_len (now : Int) (l : List Sd) : (allO now l).length ≤ l.length := by
  unfold allO
  rw [List.length_map]
  exact List.length_filter_le _ _
set_option linter.unusedVariables false in
set_option linter.unusedSimpArgs false in
set_option maxRecDepth 100000 in
set_option maxHeartbeats 16000000 in
theorem sholds_any {lo gs gp : Nat} {own : Ad4} {mk sc : Int} {s : St} {a : Ad4} {t : Int} {b : Bool} (w : World) (hS : Sv lo gs gp w ⟨own, mk, sc⟩ s) (hb : (allO (s.adv t).now s.l).any (fun e => e.ad.eqB a) = b) : Calls Try.prog 13 #[.pointer (some ⟨gs, 0, none⟩), .agg #[.int .u8 (a.a.toNat : Int), .int .u8 (a.b.toNat : Int), .int .u8 (a.c.toNat : Int), .int .u8 (a.d.toNat : Int)], .int .i64 t] w fun e w' => e = .returned (.bool b) ∧ Sv lo gs gp w' ⟨own, mk, sc⟩ (s.adv t) ∧ Kt [84, 101] w w' ∧ Below lo w w' := by
  obtain ⟨hsv, osv, hT⟩ := hS
  dsimp only at hsv
  have hlo : lo ≤ w.heap.size := Nat.le_trans osv (Nat.le_of_lt (hlt hsv))
  have kt := Kt.refl [84, 101] w
  have HALL : Hid ((allO (s.adv t).now s.l).length ≤ 1000) := Lib.hid (Nat.le_trans (all_len _ _) hT.ok.len)
  have HB := Lib.hid hb
  clear hb
  have bel := Below.refl lo w
  go_enter Try.func13, Try.ntmps13
  go_wp2_with (first | ((with_reducible show wpList _ _ _ (⟨some 4, _, _, _, _, _⟩ :: _) _ _); refine wpList_box_n rfl 28 (.tmp 1) rfl #[.int .u8 (a.a.toNat : Int), .int .u8 (a.b.toNat : Int), .int .u8 (a.c.toNat : Int), .int .u8 (a.d.toNat : Int)] rfl ?_; intro g4 w1 ge lt hh bb; have d_sv_ab := ne_new (hlt hsv) ge; have oab := Nat.le_trans (Nat.le_trans hlo bel.size) ge; have pab := Nat.le_trans bel.size ge; replace hsv := blk_u hsv bb; replace kt := kt.trans (kt_below bb); replace hT := hT.below bb; replace bel := bel.trans (bb.mono (Nat.le_trans hlo bel.size)); have hab := hh; clear hh lt ge bb))
  replace bel := bel.drew
  replace hsv : w1.drew.heap[gs]? = _ := hsv
  replace hab : w1.drew.heap[g4]? = _ := hab
  replace kt := kt_drew kt
  replace hT := pl_drew hT
  refine wp_region_held_drew (S := fun W => W.heap[gs]? = some (.cells #[.pointer (some ⟨gp, 0, none⟩), .int .u8 (own.a.toNat : Int), .int .u8 (own.b.toNat : Int), .int .u8 (own.c.toNat : Int), .int .u8 (own.d.toNat : Int), .int .u32 mk, .int .i64 sc, .slice none 0 0] 64 (0, 0)) ∧ W.heap[g4]? = some (.cells #[.int .u8 (a.a.toNat : Int), .int .u8 (a.b.toNat : Int), .int .u8 (a.c.toNat : Int), .int .u8 (a.d.toNat : Int)] 28 (0, 0))) (by kernel_rfl) ⟨hsv, hab⟩ (fun hH => ?_)
  generalize w1.drew = w2 at bel hsv hab kt hT hH ⊢
  refine wpAnyH_take (i := 0) (v := ?_) rfl (by kernel_rfl) (by kernel_rfl) (by kernel_rfl) (fun _ _ _ h => h) (Or.inl ⟨by rfl, ?_⟩) hH ?_
  rotate_left
  · ((intro W hW; clear hW; go_simp) <;> with_reducible rfl)
  simp only [Act.put, List.getElem_toArray, List.getElem_cons_zero, List.setIfInBounds_toArray, List.set_cons_zero, List.set_cons_succ]
  refine wpAnyH_take (i := 1) (v := ?_) rfl (by kernel_rfl) (by kernel_rfl) (by kernel_rfl) (fun _ _ _ h => h) (Or.inl ⟨by rfl, ?_⟩) hH ?_
  rotate_left
  · ((intro W hW; clear hW; go_simp) <;> with_reducible rfl)
  simp only [sq3, sq4]
  refine wpAnyH_take (i := 2) (v := ?_) rfl (by kernel_rfl) (by kernel_rfl) (by kernel_rfl) (fun _ _ _ h => h) (Or.inl ⟨by rfl, ?_⟩) hH ?_
  rotate_left
  · ((intro W hW; clear hW; go_simp) <;> with_reducible rfl)
  simp only [sq3, sq4]
  refine wpAnyH_take (i := 3) (v := ?_) rfl (by kernel_rfl) (by kernel_rfl) (by kernel_rfl) (fun _ _ _ h => h) (Or.inl ⟨by rfl, ?_⟩) hH ?_
  rotate_left
  · ((intro W hW; have hk := cell_lit (hW.1) 7 _ rfl; clear hW; go_simp) <;> with_reducible rfl)
  simp only [sq3, sq4]
  refine wpAnyH_take (i := 4) (v := .agg #[.int .u8 (a.a.toNat : Int), .int .u8 (a.b.toNat : Int), .int .u8 (a.c.toNat : Int), .int .u8 (a.d.toNat : Int)]) rfl (by kernel_rfl) (by kernel_rfl) (by kernel_rfl) (fun _ _ _ h => h) (yieldsIf_load_part (by kernel_rfl) 28 _ rfl g4 0 4 rfl _ 28 (0, 0) (fun W hW => hW.2) _ rfl _ Try.underlying28 rfl (by kernel_rfl)) hH ?_
  simp only [sq3, sq4]
  refine wpAnyH_ready (rs := [5]) (by kernel_rfl) (by simp) ?_
  refine AllReadyH.cons (o := _) rfl (fun K hK => ?_) AllReadyH.nil
  simp only [sq3]
  go_simp
  with_reducible refine (scn_nil _).mono ?_
  rintro e w3 ⟨rfl, b3⟩
  dsimp only
  replace hsv := blk_u hsv b3
  replace hab := blk_u hab b3
  replace kt := kt.trans (kt_below b3)
  replace hT := hT.below b3
  replace bel := bel.trans (b3.mono (Nat.le_trans hlo bel.size))
  clear b3
  refine hK.out _ _ ⟨hsv, hab⟩ (fun hH4 => ?_)
  clear hK K
  refine wpAnyH_done (by kernel_rfl) ?_ _
  have R16 := cell_lit hsv 0 _ rfl
  go_wp2_with fail
  clear R16
  go_wp2_with fail
  with_reducible refine (pall_any t _ hT).mono ?_
  rintro e w5 ⟨A2, n2, c2, rfl, lrw, hT_, k_, bb⟩
  replace hsv := Kt.blk k_ hsv (by decide)
  replace hab := Kt.blk k_ hab (by decide)
  replace kt := kt.trans k_
  clear hT
  have hT := hT_
  replace bel := bel.trans bb
  clear bb k_ hT_
  have hln_ := row_len (by decide) leE_len lrw
  have len := (owk_sle (by decide) leE_len lrw).1
  have lA : 0 < n2 → ∃ g, A2 = some ⟨g, 0, none⟩ := fun h_ => (row_at lrw h_).imp fun _ h2_ => h2_.1
  have hn2 : n2 ≤ 1000 := by rw [← hln_]; exact HALL.out
  clear lrw hln_
  go_wp2_with fail
  with_reducible refine (scf_any _ hab len lA hn2 HB.out).mono ?_
  rintro e w6 ⟨rfl, b6⟩
  replace hsv := blk_u hsv b6
  replace hab := blk_u hab b6
  replace kt := kt.trans (kt_below b6)
  replace hT := hT.below b6
  replace bel := bel.trans (b6.mono (Nat.le_trans hlo bel.size))
  clear b6
  go_wp2_with fail
  go_ret
  exact ⟨rfl, ⟨hsv, osv, hT⟩, kt, bel⟩
end Go.Proofs.Ytapdmlfjohiekaa
