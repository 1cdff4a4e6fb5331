/- conf's read, readNetwork, readAny; what type assertions on readAny's answer give. -/
import Derived.Test.YtdfobilagidmfaaCg2
import Derived.Test.YtdfobilagidmfaaBack3
import Derived.LoopN
namespace Go.Proofs.Ytdfobilagidmfaa
open Go.RowKit

/-- A network's address and bits, as far as they are read; whether they are. -/
def nwK (l : List UInt8) : Bool := match cut1 47 l with
  | some (x, y) => p4ok x && decOk y
  | none => false
def nwO (l : List UInt8) : Ad4 := match cut1 47 l with
  | some (x, _) => p4 x
  | none => ⟨0, 0, 0, 0⟩
def nwB (l : List UInt8) : Int := match cut1 47 l with
  | some (x, y) => if p4ok x = true then decV y else 0
  | none => 0
theorem p4_no {l : List UInt8} (h : p4ok l = false) : p4 l = ⟨0, 0, 0, 0⟩ := by
  unfold p4ok at h
  unfold p4
  cases hp : parse4 l with
  | none => rfl
  | some x => rw [hp] at h; cases h
theorem mcl_no {l : List UInt8} (h : mcok l = false) : mcl l = ⟨0, 0, 0, 0, 0, 0⟩ := if_neg (of_decide_eq_false h)
theorem cut1_len {b : UInt8} : ∀ {l x y : List UInt8}, cut1 b l = some (x, y) → x.length + y.length + 1 = l.length
  | [], x, y, h => by simp [cut1] at h
  | c :: l, x, y, h => by
    rw [cut1] at h
    split at h
    · simp only [Option.some.injEq, Prod.mk.injEq] at h
      obtain ⟨rfl, rfl⟩ := h
      simp
    · cases hc : cut1 b l with
      | none => rw [hc] at h; simp at h
      | some z =>
        rw [hc] at h
        simp only [Option.map_some, Option.some.injEq, Prod.mk.injEq] at h
        obtain ⟨rfl, rfl⟩ := h
        have := cut1_len (x := z.1) (y := z.2) hc
        simp only [List.length_cons]
        omega
theorem errI_is (b : Bool) : (errI b == 0) = b := by cases b <;> rfl
/-- What readAny answers. -/
def anyV (l : List UInt8) : Value :=
  if decOk l = true then .iface 3 (.int .i64 (decV l)) else
  if p4ok l = true then .iface 24 (.agg #[.int .u8 ((p4 l).a.toNat : Int), .int .u8 ((p4 l).b.toNat : Int), .int .u8 ((p4 l).c.toNat : Int), .int .u8 ((p4 l).d.toNat : Int)]) else
  if mcok l = true then .iface 28 (.agg #[.int .u8 ((mcl l).a.toNat : Int), .int .u8 ((mcl l).b.toNat : Int), .int .u8 ((mcl l).c.toNat : Int), .int .u8 ((mcl l).d.toNat : Int), .int .u8 ((mcl l).e.toNat : Int), .int .u8 ((mcl l).f.toNat : Int)]) else .nilIface
theorem numGo_digits : ∀ {l : List UInt8} {v n : Nat}, numGo l v = some n → ∀ c ∈ l, 48 ≤ c.toNat ∧ c.toNat ≤ 57
  | [], _, _, _ => by simp
  | c :: l, v, n, h => by
    rw [numGo] at h
    split at h
    · cases h
    · intro d hd
      rcases List.mem_cons.1 hd with rfl | hd
      · omega
      · exact numGo_digits h d hd
theorem decOk_spec {l : List UInt8} (h : decOk l = true) : l.length ≤ 9 ∧ 1 ≤ l.length ∧ ∀ c ∈ l, 48 ≤ c.toNat ∧ c.toNat ≤ 57 := by
  have h0 := of_decide_eq_true h
  by_cases hs : l.length < 1 ∨ 9 < l.length ∨ (1 < l.length ∧ l[0]? = some 48)
  · rw [numI_shape _ hs] at h0; omega
  · refine ⟨by omega, by omega, ?_⟩
    cases hg : numGo l 0 with
    | none => rw [numI_none _ hg] at h0; omega
    | some n => exact numGo_digits hg
theorem p4ok_len {l : List UInt8} (h : p4ok l = true) : l.length ≤ 15 ∧ ∃ a b c d, cutF 46 l = [a, b, c, d] := by
  unfold p4ok parse4 at h
  split at h
  · cases h
  · rename_i h15
    refine ⟨by omega, ?_⟩
    split at h
    · rename_i a b c d hc; exact ⟨a, b, c, d, hc⟩
    · cases h
theorem dec_p4 {l : List UInt8} (h : decOk l = true) : p4ok l = false := by
  cases hp : p4ok l with
  | false => rfl
  | true =>
    obtain ⟨_, a, b, c, d, hc⟩ := p4ok_len hp
    rw [cut_none 46 l (fun x hx e => by have := (decOk_spec h).2.2 x hx; rw [e] at this; simp at this)] at hc
    simp at hc
theorem dec_mc {l : List UInt8} (h : decOk l = true) : mcok l = false := by
  cases hp : mcok l with
  | false => rfl
  | true => have h1 := (of_decide_eq_true hp).1; have := (decOk_spec h).1; omega
theorem p4_mc {l : List UInt8} (h : p4ok l = true) : mcok l = false := by
  cases hp : mcok l with
  | false => rfl
  | true => have h1 := (of_decide_eq_true hp).1; have := (p4ok_len h).1; omega
theorem tas_ii (v : Value) (W : World) : (Instr.typeAssert (.iface 3 v) 20 3 true).run Try.prog W = .ok (.tuple #[v, .bool true]) W := by kernel_rfl
theorem tas_ia (v : Value) (W : World) : (Instr.typeAssert (.iface 3 v) 20 24 true).run Try.prog W = .ok (.tuple #[.agg #[.int .u8 0, .int .u8 0, .int .u8 0, .int .u8 0], .bool false]) W := by kernel_rfl
theorem tas_im (v : Value) (W : World) : (Instr.typeAssert (.iface 3 v) 20 28 true).run Try.prog W = .ok (.tuple #[.agg #[.int .u8 0, .int .u8 0, .int .u8 0, .int .u8 0, .int .u8 0, .int .u8 0], .bool false]) W := by kernel_rfl
theorem tas_ai (v : Value) (W : World) : (Instr.typeAssert (.iface 24 v) 20 3 true).run Try.prog W = .ok (.tuple #[.int .i64 0, .bool false]) W := by kernel_rfl
theorem tas_aa (v : Value) (W : World) : (Instr.typeAssert (.iface 24 v) 20 24 true).run Try.prog W = .ok (.tuple #[v, .bool true]) W := by kernel_rfl
theorem tas_am (v : Value) (W : World) : (Instr.typeAssert (.iface 24 v) 20 28 true).run Try.prog W = .ok (.tuple #[.agg #[.int .u8 0, .int .u8 0, .int .u8 0, .int .u8 0, .int .u8 0, .int .u8 0], .bool false]) W := by kernel_rfl
theorem tas_mi (v : Value) (W : World) : (Instr.typeAssert (.iface 28 v) 20 3 true).run Try.prog W = .ok (.tuple #[.int .i64 0, .bool false]) W := by kernel_rfl
theorem tas_ma (v : Value) (W : World) : (Instr.typeAssert (.iface 28 v) 20 24 true).run Try.prog W = .ok (.tuple #[.agg #[.int .u8 0, .int .u8 0, .int .u8 0, .int .u8 0], .bool false]) W := by kernel_rfl
theorem tas_mm (v : Value) (W : World) : (Instr.typeAssert (.iface 28 v) 20 28 true).run Try.prog W = .ok (.tuple #[v, .bool true]) W := by kernel_rfl
theorem tas_ni (W : World) : (Instr.typeAssert .nilIface 20 3 true).run Try.prog W = .ok (.tuple #[.int .i64 0, .bool false]) W := by kernel_rfl
theorem tas_na (W : World) : (Instr.typeAssert .nilIface 20 24 true).run Try.prog W = .ok (.tuple #[.agg #[.int .u8 0, .int .u8 0, .int .u8 0, .int .u8 0], .bool false]) W := by kernel_rfl
theorem tas_nm (W : World) : (Instr.typeAssert .nilIface 20 28 true).run Try.prog W = .ok (.tuple #[.agg #[.int .u8 0, .int .u8 0, .int .u8 0, .int .u8 0, .int .u8 0, .int .u8 0], .bool false]) W := by kernel_rfl
theorem ta_int (l : List UInt8) (W : World) : (Instr.typeAssert (anyV l) 20 3 true).run Try.prog W = .ok (.tuple #[.int .i64 (decV l), .bool (decOk l)]) W := by
  unfold anyV
  cases hd : decOk l with
  | true => exact tas_ii _ W
  | false =>
    have hv : decV l = 0 := by unfold decV; rw [if_neg (of_decide_eq_false hd)]
    rw [hv, if_neg (by decide)]
    split
    · exact tas_ai _ W
    · split
      · exact tas_mi _ W
      · exact tas_ni W
theorem ta_ad (l : List UInt8) (W : World) : (Instr.typeAssert (anyV l) 20 24 true).run Try.prog W = .ok (.tuple #[.agg #[.int .u8 ((p4 l).a.toNat : Int), .int .u8 ((p4 l).b.toNat : Int), .int .u8 ((p4 l).c.toNat : Int), .int .u8 ((p4 l).d.toNat : Int)], .bool (p4ok l)]) W := by
  unfold anyV
  cases hp : p4ok l with
  | true =>
    have hd : decOk l = false := by
      cases hd : decOk l with
      | false => rfl
      | true => rw [dec_p4 hd] at hp; cases hp
    rw [hd, if_neg (by decide), if_pos rfl]
    exact tas_aa _ W
  | false =>
    rw [p4_no hp]
    split
    · exact tas_ia _ W
    · rw [if_neg (by decide)]
      split
      · exact tas_ma _ W
      · exact tas_na W
theorem ta_mc (l : List UInt8) (W : World) : (Instr.typeAssert (anyV l) 20 28 true).run Try.prog W = .ok (.tuple #[.agg #[.int .u8 ((mcl l).a.toNat : Int), .int .u8 ((mcl l).b.toNat : Int), .int .u8 ((mcl l).c.toNat : Int), .int .u8 ((mcl l).d.toNat : Int), .int .u8 ((mcl l).e.toNat : Int), .int .u8 ((mcl l).f.toNat : Int)], .bool (mcok l)]) W := by
  unfold anyV
  cases hm : mcok l with
  | true =>
    have hd : decOk l = false := by
      cases hd : decOk l with
      | false => rfl
      | true => rw [dec_mc hd] at hm; cases hm
    have hp : p4ok l = false := by
      cases hp : p4ok l with
      | false => rfl
      | true => rw [p4_mc hp] at hm; cases hm
    rw [hd, hp, if_neg (by decide), if_neg (by decide), if_pos rfl]
    exact tas_mm _ W
  | false =>
    rw [mcl_no hm]
    split
    · exact tas_im _ W
    · split
      · exact tas_am _ W
      · rw [if_neg (by decide)]
        exact tas_nm W
set_option linter.unusedVariables false in
set_option linter.unusedSimpArgs false in
set_option maxRecDepth 100000 in
set_option maxHeartbeats 16000000 in
theorem readNetwork_any (l : List UInt8) (w : World) (hlen : l.length ≤ 100000) : Calls Try.prog 79 #[.string ⟨l.toArray⟩] w fun e w' => e = .returned (.tuple #[.agg #[.int .u8 ((nwO l).a.toNat : Int), .int .u8 ((nwO l).b.toNat : Int), .int .u8 ((nwO l).c.toNat : Int), .int .u8 ((nwO l).d.toNat : Int), .int .i64 (nwB l)], .bool (nwK l)]) ∧ Below w.heap.size w w' := by
  have bel := Below.refl w.heap.size w
  go_enter Try.func79, Try.ntmps79
  rcases hc : cut1 47 l with _ | ⟨x, y⟩
  · have hcv : cutV 47 l = .tuple #[.string ⟨#[]⟩, .string ⟨#[]⟩, .bool false] := by unfold cutV; rw [hc]
    have HO : Hid (nwO l = ⟨0, 0, 0, 0⟩) := Lib.hid (by unfold nwO; rw [hc])
    have HB : Hid (nwB l = 0) := Lib.hid (by unfold nwB; rw [hc])
    have HK : Hid (nwK l = false) := Lib.hid (by unfold nwK; rw [hc])
    clear hc
    go_wp2_with (first | ((with_reducible show wpList _ _ _ (⟨some 2, _, _, _, _, _⟩ :: _) _ _); refine wpList_new_a rfl 120 rfl #[.int .u8 0, .int .u8 0, .int .u8 0, .int .u8 0, .int .i64 0] (by kernel_rfl) ?_; intro g2 w1 ge hh bb; have on := Nat.le_trans bel.size ge; replace bel := bel.trans (bb.mono bel.size); have hn := hh; clear hh ge bb))
    with_reducible refine (ccut_any 47 47 rfl (by decide) l _ hlen).mono ?_
    rintro e w2 ⟨rfl, b2⟩
    replace hn := blk_u hn b2
    replace bel := bel.trans (b2.mono bel.size)
    clear b2
    rw [hcv]
    go_wp2_with (first | ((with_reducible show wpList _ _ _ (⟨none, Op.store _ (.tmp 2) _, _, _, _, _⟩ :: _) _ _); refine wpList_store_blk rfl 120 (.tmp 2) (.tmp 18) rfl g2 rfl _ rfl _ 120 hn (by rfl) (by kernel_rfl) (by kernel_rfl) ?_; intro w3 hq gr; replace bel := below_grown bel gr on bel.size; clear hn; have hn := hq; clear hq gr))
    exact bodyPost_ret (results_cell_tmp_row rfl _ _ _ _ _ _ _ rfl hn Try.underlying120 rfl (by kernel_rfl) (.bool false) rfl) rfl ⟨by rw [HO.out, HB.out, HK.out]; rfl, bel⟩
  · have hcv : cutV 47 l = .tuple #[.string ⟨x.toArray⟩, .string ⟨y.toArray⟩, .bool true] := by unfold cutV; rw [hc]
    have hxl : x.length ≤ 100000 := by have := cut1_len hc; omega
    have HO : Hid (nwO l = p4 x) := Lib.hid (by unfold nwO; rw [hc])
    have HB : Hid (nwB l = if p4ok x = true then decV y else 0) := Lib.hid (by unfold nwB; rw [hc])
    have HK : Hid (nwK l = (p4ok x && decOk y)) := Lib.hid (by unfold nwK; rw [hc])
    clear hc
    go_wp2_with (first | ((with_reducible show wpList _ _ _ (⟨some 2, _, _, _, _, _⟩ :: _) _ _); refine wpList_new_a rfl 120 rfl #[.int .u8 0, .int .u8 0, .int .u8 0, .int .u8 0, .int .i64 0] (by kernel_rfl) ?_; intro g2 w1 ge hh bb; have on := Nat.le_trans bel.size ge; replace bel := bel.trans (bb.mono bel.size); have hn := hh; clear hh ge bb))
    with_reducible refine (ccut_any 47 47 rfl (by decide) l _ hlen).mono ?_
    rintro e w2 ⟨rfl, b2⟩
    replace hn := blk_u hn b2
    replace bel := bel.trans (b2.mono bel.size)
    clear b2
    rw [hcv]
    rcases hp : p4ok x with _ | _
    · have HP0 := Lib.hid (p4_no hp)
      rw [hp] at HB HK
      go_wp2_with fail
      with_reducible refine (aparse_l x _ (hxl)).mono ?_
      rintro e w3 ⟨rfl, b3⟩
      replace hn := blk_u hn b3
      replace bel := bel.trans (b3.mono bel.size)
      clear b3
      rw [hp, show errI false = 9 from rfl]
      go_wp2_with (first | ((with_reducible show wpList _ _ _ (⟨some 7, _, _, _, _, _⟩ :: _) _ _); refine wpList_new_a rfl 24 rfl #[.int .u8 0, .int .u8 0, .int .u8 0, .int .u8 0] (by kernel_rfl) ?_; intro g7 w4 ge hh bb; have d_n_a := ne_new (hlt hn) ge; have oa := Nat.le_trans bel.size ge; replace hn := blk_u hn bb; replace bel := bel.trans (bb.mono bel.size); have ha := hh; clear hh ge bb) | ((with_reducible show wpList _ _ _ (⟨none, Op.store _ (.tmp 7) _, _, _, _, _⟩ :: _) _ _); refine wpList_store_blk rfl 24 (.tmp 7) (.tmp 22) rfl g7 rfl _ rfl _ 24 ha (by rfl) (by kernel_rfl) (by kernel_rfl) ?_; intro w5 hq gr; replace hn := blk_a hn gr d_n_a; replace bel := below_grown bel gr oa bel.size; clear ha; have ha := hq; clear hq gr) | ((with_reducible show wpList _ _ _ (⟨none, Op.store _ (.tmp 2) _, _, _, _, _⟩ :: _) _ _); refine wpList_store_blk rfl 120 (.tmp 2) (.tmp 26) rfl g2 rfl _ rfl _ 120 hn (by rfl) (by kernel_rfl) (by kernel_rfl) ?_; intro w6 hq gr; replace ha := blk_a ha gr (ne_symm d_n_a); replace bel := below_grown bel gr on bel.size; clear hn; have hn := hq; clear hq gr))
      exact bodyPost_ret (results_cell_tmp_row rfl _ _ _ _ _ _ _ rfl hn Try.underlying120 rfl (by kernel_rfl) (.bool false) rfl) rfl ⟨by rw [HO.out, HB.out, HK.out, HP0.out]; rfl, bel⟩
    · rw [hp] at HB HK
      go_wp2_with fail
      with_reducible refine (aparse_l x _ (hxl)).mono ?_
      rintro e w3 ⟨rfl, b3⟩
      replace hn := blk_u hn b3
      replace bel := bel.trans (b3.mono bel.size)
      clear b3
      rw [hp, show errI true = 0 from rfl]
      go_wp2_with (first | ((with_reducible show wpList _ _ _ (⟨some 7, _, _, _, _, _⟩ :: _) _ _); refine wpList_new_a rfl 24 rfl #[.int .u8 0, .int .u8 0, .int .u8 0, .int .u8 0] (by kernel_rfl) ?_; intro g7 w4 ge hh bb; have d_n_a := ne_new (hlt hn) ge; have oa := Nat.le_trans bel.size ge; replace hn := blk_u hn bb; replace bel := bel.trans (bb.mono bel.size); have ha := hh; clear hh ge bb) | ((with_reducible show wpList _ _ _ (⟨none, Op.store _ (.tmp 7) _, _, _, _, _⟩ :: _) _ _); refine wpList_store_blk rfl 24 (.tmp 7) (.tmp 22) rfl g7 rfl _ rfl _ 24 ha (by rfl) (by kernel_rfl) (by kernel_rfl) ?_; intro w5 hq gr; replace hn := blk_a hn gr d_n_a; replace bel := below_grown bel gr oa bel.size; clear ha; have ha := hq; clear hq gr))
      with_reducible refine (cdecimal_any y _).mono ?_
      rintro e w6 ⟨rfl, b6⟩
      replace hn := blk_u hn b6
      replace ha := blk_u ha b6
      replace bel := bel.trans (b6.mono bel.size)
      clear b6
      have R32 := Lib.hid (range_lit ha 0 4 [.int .u8 ((p4 x).a.toNat : Int), .int .u8 ((p4 x).b.toNat : Int), .int .u8 ((p4 x).c.toNat : Int), .int .u8 ((p4 x).d.toNat : Int)] rfl)
      go_wp2_with (first | ((with_reducible show wpList _ _ _ (⟨some 32, _, _, _, _, _⟩ :: _) _ _); refine wpList_load_rng 24 (.tmp 7) rfl (by kernel_rfl) _ _ rfl _ R32.out _ Try.underlying24 rfl (by kernel_rfl) ?_) | ((with_reducible show wpList _ _ _ (⟨none, Op.store _ (.tmp 2) _, _, _, _, _⟩ :: _) _ _); refine wpList_store_blk rfl 120 (.tmp 2) (.tmp 34) rfl g2 rfl _ rfl _ 120 hn (by rfl) (by kernel_rfl) (by kernel_rfl) ?_; intro w7 hq gr; replace ha := blk_a ha gr (ne_symm d_n_a); replace bel := below_grown bel gr on bel.size; clear hn; have hn := hq; clear hq gr))
      try clear R32
      exact bodyPost_ret (results_cell_tmp_row rfl _ _ _ _ _ _ _ rfl hn Try.underlying120 rfl (by kernel_rfl) (.bool (decOk y)) rfl) rfl ⟨by rw [HO.out, HB.out, HK.out]; rfl, bel⟩
set_option linter.unusedVariables false in
set_option linter.unusedSimpArgs false in
set_option maxRecDepth 100000 in
set_option maxHeartbeats 16000000 in
theorem read0_any (l : List UInt8) (w : World) (hlen : l.length ≤ 100000) : Calls Try.prog 67 #[.int .i64 0, .string ⟨l.toArray⟩] w fun e w' => e = .returned (.tuple #[.iface 3 (.int .i64 (decV l)), .bool (decOk l)]) ∧ Below w.heap.size w w' := by
  have mi := fun (T : TypeId) (h : Try.prog.concrete T = true) (x : Value) (W : World) => run_makeInterface (P := Try.prog) (w := W) T x h
  have mi_int := mi 3 (by kernel_rfl)
  have mi_ad := mi 24 (by kernel_rfl)
  have mi_mc := mi 28 (by kernel_rfl)
  have mi_nw := mi 120 (by kernel_rfl)
  clear mi
  have bel := Below.refl w.heap.size w
  go_enter Try.func67, Try.ntmps67
  go_wp2_with fail
  with_reducible refine (cdecimal_any l _).mono ?_
  rintro e w1 ⟨rfl, b1⟩
  replace bel := bel.trans (b1.mono bel.size)
  clear b1
  go_wp2_with fail
  exact bodyPost_ret (v := .tuple #[.iface 3 (.int .i64 (decV l)), .bool (decOk l)]) (by simp [results, Try.results67, go_sem]) rfl ⟨rfl, bel⟩
set_option linter.unusedVariables false in
set_option linter.unusedSimpArgs false in
set_option maxRecDepth 100000 in
set_option maxHeartbeats 16000000 in
theorem read1_any (l : List UInt8) (w : World) (hlen : l.length ≤ 100000) : Calls Try.prog 67 #[.int .i64 1, .string ⟨l.toArray⟩] w fun e w' => e = .returned (.tuple #[.iface 24 (.agg #[.int .u8 ((p4 l).a.toNat : Int), .int .u8 ((p4 l).b.toNat : Int), .int .u8 ((p4 l).c.toNat : Int), .int .u8 ((p4 l).d.toNat : Int)]), .bool (p4ok l)]) ∧ Below w.heap.size w w' := by
  have mi := fun (T : TypeId) (h : Try.prog.concrete T = true) (x : Value) (W : World) => run_makeInterface (P := Try.prog) (w := W) T x h
  have mi_int := mi 3 (by kernel_rfl)
  have mi_ad := mi 24 (by kernel_rfl)
  have mi_mc := mi 28 (by kernel_rfl)
  have mi_nw := mi 120 (by kernel_rfl)
  clear mi
  have e1 := errI_is (p4ok l)
  have bel := Below.refl w.heap.size w
  go_enter Try.func67, Try.ntmps67
  go_wp2_with fail
  with_reducible refine (aparse_l l _ (hlen)).mono ?_
  rintro e w1 ⟨rfl, b1⟩
  replace bel := bel.trans (b1.mono bel.size)
  clear b1
  go_wp2_with (first | ((with_reducible show wpList _ _ _ (⟨some 6, _, _, _, _, _⟩ :: _) _ _); refine wpList_new_a rfl 24 rfl #[.int .u8 0, .int .u8 0, .int .u8 0, .int .u8 0] (by kernel_rfl) ?_; intro g6 w2 ge hh bb; have oa := Nat.le_trans bel.size ge; replace bel := bel.trans (bb.mono bel.size); have ha := hh; clear hh ge bb) | ((with_reducible show wpList _ _ _ (⟨none, Op.store _ (.tmp 6) _, _, _, _, _⟩ :: _) _ _); refine wpList_store_blk rfl 24 (.tmp 6) (.tmp 23) rfl g6 rfl _ rfl _ 24 ha (by rfl) (by kernel_rfl) (by kernel_rfl) ?_; intro w3 hq gr; replace bel := below_grown bel gr oa bel.size; clear ha; have ha := hq; clear hq gr; have R25 := Lib.hid (range_lit ha 0 4 [.int .u8 ((p4 l).a.toNat : Int), .int .u8 ((p4 l).b.toNat : Int), .int .u8 ((p4 l).c.toNat : Int), .int .u8 ((p4 l).d.toNat : Int)] rfl)) | ((with_reducible show wpList _ _ _ (⟨some 25, _, _, _, _, _⟩ :: _) _ _); refine wpList_load_rng 24 (.tmp 6) rfl (by kernel_rfl) _ _ rfl _ R25.out _ Try.underlying24 rfl (by kernel_rfl) ?_))
  try clear R25
  exact bodyPost_ret (v := .tuple #[.iface 24 (.agg #[.int .u8 ((p4 l).a.toNat : Int), .int .u8 ((p4 l).b.toNat : Int), .int .u8 ((p4 l).c.toNat : Int), .int .u8 ((p4 l).d.toNat : Int)]), .bool (p4ok l)]) (by simp [results, Try.results67, go_sem]) rfl ⟨rfl, bel⟩
set_option linter.unusedVariables false in
set_option linter.unusedSimpArgs false in
set_option maxRecDepth 100000 in
set_option maxHeartbeats 16000000 in
theorem read3_any (l : List UInt8) (w : World) (hlen : l.length ≤ 100000) : Calls Try.prog 67 #[.int .i64 3, .string ⟨l.toArray⟩] w fun e w' => e = .returned (.tuple #[.iface 28 (.agg #[.int .u8 ((mcl l).a.toNat : Int), .int .u8 ((mcl l).b.toNat : Int), .int .u8 ((mcl l).c.toNat : Int), .int .u8 ((mcl l).d.toNat : Int), .int .u8 ((mcl l).e.toNat : Int), .int .u8 ((mcl l).f.toNat : Int)]), .bool (mcok l)]) ∧ Below w.heap.size w w' := by
  have mi := fun (T : TypeId) (h : Try.prog.concrete T = true) (x : Value) (W : World) => run_makeInterface (P := Try.prog) (w := W) T x h
  have mi_int := mi 3 (by kernel_rfl)
  have mi_ad := mi 24 (by kernel_rfl)
  have mi_mc := mi 28 (by kernel_rfl)
  have mi_nw := mi 120 (by kernel_rfl)
  clear mi
  have e1 := errI_is (mcok l)
  have bel := Below.refl w.heap.size w
  go_enter Try.func67, Try.ntmps67
  go_wp2_with fail
  with_reducible refine (amac_l l _ (hlen)).mono ?_
  rintro e w1 ⟨rfl, b1⟩
  replace bel := bel.trans (b1.mono bel.size)
  clear b1
  go_wp2_with (first | ((with_reducible show wpList _ _ _ (⟨some 8, _, _, _, _, _⟩ :: _) _ _); refine wpList_new_a rfl 28 rfl #[.int .u8 0, .int .u8 0, .int .u8 0, .int .u8 0, .int .u8 0, .int .u8 0] (by kernel_rfl) ?_; intro g8 w2 ge hh bb; have om := Nat.le_trans bel.size ge; replace bel := bel.trans (bb.mono bel.size); have hm := hh; clear hh ge bb) | ((with_reducible show wpList _ _ _ (⟨none, Op.store _ (.tmp 8) _, _, _, _, _⟩ :: _) _ _); refine wpList_store_blk rfl 28 (.tmp 8) (.tmp 34) rfl g8 rfl _ rfl _ 28 hm (by rfl) (by kernel_rfl) (by kernel_rfl) ?_; intro w3 hq gr; replace bel := below_grown bel gr om bel.size; clear hm; have hm := hq; clear hq gr; have R36 := Lib.hid (range_lit hm 0 6 [.int .u8 ((mcl l).a.toNat : Int), .int .u8 ((mcl l).b.toNat : Int), .int .u8 ((mcl l).c.toNat : Int), .int .u8 ((mcl l).d.toNat : Int), .int .u8 ((mcl l).e.toNat : Int), .int .u8 ((mcl l).f.toNat : Int)] rfl)) | ((with_reducible show wpList _ _ _ (⟨some 36, _, _, _, _, _⟩ :: _) _ _); refine wpList_load_rng 28 (.tmp 8) rfl (by kernel_rfl) _ _ rfl _ R36.out _ Try.underlying28 rfl (by kernel_rfl) ?_))
  try clear R36
  exact bodyPost_ret (v := .tuple #[.iface 28 (.agg #[.int .u8 ((mcl l).a.toNat : Int), .int .u8 ((mcl l).b.toNat : Int), .int .u8 ((mcl l).c.toNat : Int), .int .u8 ((mcl l).d.toNat : Int), .int .u8 ((mcl l).e.toNat : Int), .int .u8 ((mcl l).f.toNat : Int)]), .bool (mcok l)]) (by simp [results, Try.results67, go_sem]) rfl ⟨rfl, bel⟩
set_option linter.unusedVariables false in
set_option linter.unusedSimpArgs false in
set_option maxRecDepth 100000 in
set_option maxHeartbeats 16000000 in
theorem read2_any (l : List UInt8) (w : World) (hlen : l.length ≤ 100000) : Calls Try.prog 67 #[.int .i64 2, .string ⟨l.toArray⟩] w fun e w' => e = .returned (.tuple #[.iface 120 (.agg #[.int .u8 ((nwO l).a.toNat : Int), .int .u8 ((nwO l).b.toNat : Int), .int .u8 ((nwO l).c.toNat : Int), .int .u8 ((nwO l).d.toNat : Int), .int .i64 (nwB l)]), .bool (nwK l)]) ∧ Below w.heap.size w w' := by
  have mi := fun (T : TypeId) (h : Try.prog.concrete T = true) (x : Value) (W : World) => run_makeInterface (P := Try.prog) (w := W) T x h
  have mi_int := mi 3 (by kernel_rfl)
  have mi_ad := mi 24 (by kernel_rfl)
  have mi_mc := mi 28 (by kernel_rfl)
  have mi_nw := mi 120 (by kernel_rfl)
  clear mi
  have bel := Below.refl w.heap.size w
  go_enter Try.func67, Try.ntmps67
  go_wp2_with fail
  with_reducible refine (readNetwork_any l _ hlen).mono ?_
  rintro e w1 ⟨rfl, b1⟩
  replace bel := bel.trans (b1.mono bel.size)
  clear b1
  go_wp2_with fail
  exact bodyPost_ret (v := .tuple #[.iface 120 (.agg #[.int .u8 ((nwO l).a.toNat : Int), .int .u8 ((nwO l).b.toNat : Int), .int .u8 ((nwO l).c.toNat : Int), .int .u8 ((nwO l).d.toNat : Int), .int .i64 (nwB l)]), .bool (nwK l)]) (by simp [results, Try.results67, go_sem]) rfl ⟨rfl, bel⟩
set_option linter.unusedVariables false in
set_option linter.unusedSimpArgs false in
set_option maxRecDepth 100000 in
set_option maxHeartbeats 16000000 in
theorem readAny_any (l : List UInt8) (w : World) (hlen : l.length ≤ 100000) : Calls Try.prog 64 #[.string ⟨l.toArray⟩] w fun e w' => e = .returned (anyV l) ∧ Below w.heap.size w w' := by
  have ix0 : ∀ W, (Instr.index 114 (.agg #[.int .i64 0, .int .i64 1, .int .i64 3]) (.int .i64 0)).run Try.prog W = .ok (.int .i64 0) W := fun W => by kernel_rfl
  have ix1 : ∀ W, (Instr.index 114 (.agg #[.int .i64 0, .int .i64 1, .int .i64 3]) (.int .i64 1)).run Try.prog W = .ok (.int .i64 1) W := fun W => by kernel_rfl
  have ix2 : ∀ W, (Instr.index 114 (.agg #[.int .i64 0, .int .i64 1, .int .i64 3]) (.int .i64 2)).run Try.prog W = .ok (.int .i64 3) W := fun W => by kernel_rfl
  have bel := Below.refl w.heap.size w
  go_enter Try.func64, Try.ntmps64
  go_wp2_with fail
  refine wp_loop_rounds 4 ?_
  rw [rounds_succ]
  rcases h0 : decOk l with _ | _
  · go_wp2_with fail
    with_reducible refine (read0_any l _ hlen).mono ?_
    rintro e w1 ⟨rfl, b1⟩
    replace bel := bel.trans (b1.mono bel.size)
    clear b1
    rw [h0]
    rcases h1 : p4ok l with _ | _
    · go_wp2_with fail
      rw [rounds_succ]
      go_wp2_with fail
      with_reducible refine (read1_any l _ hlen).mono ?_
      rintro e w2 ⟨rfl, b2⟩
      replace bel := bel.trans (b2.mono bel.size)
      clear b2
      rw [h1]
      rcases h3 : mcok l with _ | _
      · have HP : Hid (anyV l = .nilIface) := Lib.hid (by unfold anyV; rw [h0, h1, h3]; rfl)
        go_wp2_with fail
        rw [rounds_succ]
        go_wp2_with fail
        with_reducible refine (read3_any l _ hlen).mono ?_
        rintro e w3 ⟨rfl, b3⟩
        replace bel := bel.trans (b3.mono bel.size)
        clear b3
        rw [h3]
        go_wp2_with fail
        rw [rounds_succ]
        go_wp2_with fail
        go_ret
        exact ⟨by rw [HP.out]; rfl, bel⟩
      · have HP : Hid (anyV l = .iface 28 (.agg #[.int .u8 ((mcl l).a.toNat : Int), .int .u8 ((mcl l).b.toNat : Int), .int .u8 ((mcl l).c.toNat : Int), .int .u8 ((mcl l).d.toNat : Int), .int .u8 ((mcl l).e.toNat : Int), .int .u8 ((mcl l).f.toNat : Int)])) := Lib.hid (by unfold anyV; rw [h0, h1, h3]; rfl)
        go_wp2_with fail
        rw [rounds_succ]
        go_wp2_with fail
        with_reducible refine (read3_any l _ hlen).mono ?_
        rintro e w3 ⟨rfl, b3⟩
        replace bel := bel.trans (b3.mono bel.size)
        clear b3
        rw [h3]
        go_wp2_with fail
        go_ret
        exact ⟨by rw [HP.out]; rfl, bel⟩
    · have HP : Hid (anyV l = .iface 24 (.agg #[.int .u8 ((p4 l).a.toNat : Int), .int .u8 ((p4 l).b.toNat : Int), .int .u8 ((p4 l).c.toNat : Int), .int .u8 ((p4 l).d.toNat : Int)])) := Lib.hid (by unfold anyV; rw [h0, h1]; rfl)
      go_wp2_with fail
      rw [rounds_succ]
      go_wp2_with fail
      with_reducible refine (read1_any l _ hlen).mono ?_
      rintro e w2 ⟨rfl, b2⟩
      replace bel := bel.trans (b2.mono bel.size)
      clear b2
      rw [h1]
      go_wp2_with fail
      go_ret
      exact ⟨by rw [HP.out]; rfl, bel⟩
  · have HP : Hid (anyV l = .iface 3 (.int .i64 (decV l))) := Lib.hid (by unfold anyV; rw [h0]; rfl)
    go_wp2_with fail
    with_reducible refine (read0_any l _ hlen).mono ?_
    rintro e w1 ⟨rfl, b1⟩
    replace bel := bel.trans (b1.mono bel.size)
    clear b1
    rw [h0]
    go_wp2_with fail
    go_ret
    exact ⟨by rw [HP.out]; rfl, bel⟩
end Go.Proofs.Ytdfobilagidmfaa
