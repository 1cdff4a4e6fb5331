/- PortsTimes, PortsTaken. -/
import Derived.Test.YtmjmjfcdblapcaaLaw17
import Derived.Test.YtmjmjfcdblapcaaSli
namespace Go.Proofs.Ytmjmjfcdblapcaa
open Go.RowKit

theorem kn_17 (o : Int) : kn 17 o = (1114112 + o).toNat := rfl
theorem eqB_at {a b : Int} (h : byteOf a = byteOf b) : (atA a).eqB (atA b) = true := by unfold atA; rw [h]; exact Ad4.eqB_self _
/-- One mapping, live until un. -/
def tM (un : Int) : Mp := ⟨17, 50000, atA 1, 50000, 1, un⟩
def tS (la un : Int) : Ts := ⟨40000, 9, la, [tM un], []⟩
def tS0 : Ts := ⟨40000, 9, 0, [], []⟩
theorem tM_live {t un : Int} : liveB t (tM un) = decide (t < un) := rfl
theorem tS_adv {la t un : Int} (h1 : la ≤ t) (h2 : t ≤ 1099511627776) (h3 : t < un) : (tS la un).adv t = tS t un := by
  by_cases h : la < t
  · rw [Ts.adv_yes h h2]
    have hl : liveB t (tM un) = true := decide_eq_true h3
    have hd : deadB t (tM un) = false := by unfold deadB; rw [hl]; rfl
    show (⟨40000, 9, t, [tM un].filter (liveB t), ([tM un].filter (deadB t)).foldl oput []⟩ : Ts) = _
    rw [List.filter_cons_of_pos hl, List.filter_cons_of_neg (by rw [hd]; decide)]
    rfl
  · obtain rfl : la = t := by omega
    exact Ts.adv_no h
theorem tS_end {la t un : Int} (h1 : la < t) (h2 : t ≤ 1099511627776) (h3 : un ≤ t) : ∃ os, (tS la un).adv t = ⟨40000, 9, t, [], os⟩ := by
  rw [Ts.adv_yes h1 h2]
  have hl : liveB t (tM un) = false := decide_eq_false (show ¬ t < un by omega)
  refine ⟨([tM un].filter (deadB t)).foldl oput [], ?_⟩
  show (⟨40000, 9, t, [tM un].filter (liveB t), ([tM un].filter (deadB t)).foldl oput []⟩ : Ts) = _
  rw [List.filter_cons_of_neg (by rw [hl]; decide)]
  rfl
theorem times_0 {lo gt : Nat} {secs : Int} (w : World) (hT : Tp lo gt w tS0) (hs1 : 1 ≤ secs) (hs2 : secs ≤ 1000) : Calls Try.prog 13 #[.pointer (some ⟨gt, 0, none⟩), .agg #[.int .i64 17, .int .u8 ((atA 1).a.toNat : Int), .int .u8 ((atA 1).b.toNat : Int), .int .u8 ((atA 1).c.toNat : Int), .int .u8 ((atA 1).d.toNat : Int), .int .i64 50000], .int .i64 0, .int .i64 secs] w fun e w' => e = .returned (.tuple #[.agg #[.int .i64 17, .int .i64 50000, .int .u8 ((atA 1).a.toNat : Int), .int .u8 ((atA 1).b.toNat : Int), .int .u8 ((atA 1).c.toNat : Int), .int .u8 ((atA 1).d.toNat : Int), .int .i64 50000, .int .i64 1, .int .i64 secs], .int .i64 0]) ∧ Tp lo gt w' (tS 0 secs) ∧ Fap gt w w' ∧ Below lo w w' := mk_own (s1 := tS0) (s2 := tS 0 secs) w hT rfl (by kernel_rfl) (by unfold secsB; rw [decide_eq_true hs1, decide_eq_true (by omega : secs ≤ 1000000000)]; rfl) (Int.zero_add _) rfl (by decide) (by decide) (by kernel_rfl) rfl
theorem times_mk {lo gt : Nat} {la lb secs un : Int} (w : World) (hT : Tp lo gt w (tS la (la + secs))) (h1 : la ≤ lb) (h2 : lb < la + secs) (h3 : lb ≤ 1099511627776) (hs1 : 1 ≤ secs) (hs2 : secs ≤ 1000) (hu : lb + secs = un) : Calls Try.prog 13 #[.pointer (some ⟨gt, 0, none⟩), .agg #[.int .i64 17, .int .u8 ((atA 1).a.toNat : Int), .int .u8 ((atA 1).b.toNat : Int), .int .u8 ((atA 1).c.toNat : Int), .int .u8 ((atA 1).d.toNat : Int), .int .i64 50000], .int .i64 lb, .int .i64 secs] w fun e w' => e = .returned (.tuple #[.agg #[.int .i64 17, .int .i64 50000, .int .u8 ((atA 1).a.toNat : Int), .int .u8 ((atA 1).b.toNat : Int), .int .u8 ((atA 1).c.toNat : Int), .int .u8 ((atA 1).d.toNat : Int), .int .i64 50000, .int .i64 1, .int .i64 un], .int .i64 0]) ∧ Tp lo gt w' (tS lb un) ∧ Fap gt w w' ∧ Below lo w w' := mk_old (s1 := tS lb (la + secs)) (s2 := tS lb un) (i := 0) w hT (tS_adv h1 h3 h2) (by kernel_rfl) (by unfold secsB; rw [decide_eq_true hs1, decide_eq_true (by omega : secs ≤ 1000000000)]; rfl) hu rfl rfl rfl rfl
theorem times_in {lo gt : Nat} {la nw secs tt : Int} (w : World) (hT : Tp lo gt w (tS la (la + secs))) (h0 : 0 ≤ nw) (h1 : nw < secs) (h3 : tt ≤ 1099511627776) (hu : la + nw = tt) : Calls Try.prog 19 #[.pointer (some ⟨gt, 0, none⟩), .int .i64 17, .int .i64 50000, .int .i64 tt] w fun e w' => e = .returned (.tuple #[.agg #[.int .i64 17, .int .i64 50000, .int .u8 ((atA 1).a.toNat : Int), .int .u8 ((atA 1).b.toNat : Int), .int .u8 ((atA 1).c.toNat : Int), .int .u8 ((atA 1).d.toNat : Int), .int .i64 50000, .int .i64 1, .int .i64 (la + secs)], .bool true]) ∧ Tp lo gt w' (tS tt (la + secs)) ∧ Fap gt w w' ∧ Below lo w w' := in_some (s1 := tS tt (la + secs)) (i := 0) w hT (tS_adv (by omega) h3 (by omega)) (by unfold okP; omega) (by kernel_rfl) rfl rfl
theorem times_no {lo gt : Nat} {la nw secs tt : Int} (w : World) (hT : Tp lo gt w (tS la (la + secs))) (h0 : 1 ≤ nw) (h1 : secs ≤ nw) (h3 : tt ≤ 1099511627776) (hu : la + nw = tt) : Calls Try.prog 19 #[.pointer (some ⟨gt, 0, none⟩), .int .i64 17, .int .i64 50000, .int .i64 tt] w fun e w' => e = .returned (.tuple #[.agg #[.int .i64 0, .int .i64 0, .int .u8 0, .int .u8 0, .int .u8 0, .int .u8 0, .int .i64 0, .int .i64 0, .int .i64 0], .bool false]) ∧ Below lo w w' := by
  obtain ⟨os, he⟩ := tS_end (la := la) (t := tt) (un := la + secs) (by omega) h3 (by omega)
  refine (in_none (s1 := ⟨40000, 9, tt, [], os⟩) w hT he (by unfold okP; omega) rfl).mono ?_
  rintro e w' ⟨rfl, _, _, b⟩
  exact ⟨rfl, b⟩
set_option linter.unusedVariables false in
set_option linter.unusedSimpArgs false in
set_option maxRecDepth 100000 in
set_option maxHeartbeats 16000000 in
theorem portsTimes_walk (secs : Int) (A : Option Addr) (n cp : Nat) (L : List Int) (now : Int) (w : World) (ll : Sle inf 1 w A n cp L) : Calls Try.prog 6 #[.int .i64 secs, .slice A n cp, .int .i64 now] w fun e w' => e = .returned (.bool true) ∧ Below w.heap.size w w' := by
  have HL0 := Lib.hid ll
  have HN : Hid (L.length = n) := Lib.hid ll.1
  have bel := Below.refl w.heap.size w
  go_enter Try.func6, Try.ntmps6
  go_wp2_with fail
  with_reducible refine (awake_any _).mono ?_
  rintro e w1 ⟨rfl, b1⟩
  replace ll := ll.below b1
  replace bel := bel.trans (b1.mono bel.size)
  clear b1
  by_cases c1 : secs < 1
  · go_wp2_with fail
    go_ret
    exact ⟨rfl, bel⟩
  have Hc1 : Hid (1 ≤ secs) := Lib.hid (by omega)
  replace c1 : decide (secs < 1) = false := decide_eq_false c1
  by_cases c2 : 1000 < secs
  · go_wp2_with fail
    go_ret
    exact ⟨rfl, bel⟩
  have Hc2 : Hid (secs ≤ 1000) := Lib.hid (by omega)
  replace c2 : decide (1000 < secs) = false := decide_eq_false c2
  by_cases c3 : (20 : Int) < n
  · go_wp2_with fail
    go_ret
    exact ⟨rfl, bel⟩
  have Hc3 : Hid ((n : Int) ≤ 20) := Lib.hid (by omega)
  replace c3 : decide ((20 : Int) < n) = false := decide_eq_false c3
  by_cases c4 : now < 0
  · go_wp2_with fail
    go_ret
    exact ⟨rfl, bel⟩
  have Hc4 : Hid (0 ≤ now) := Lib.hid (by omega)
  replace c4 : decide (now < 0) = false := decide_eq_false c4
  by_cases c5 : 3000 < now
  · go_wp2_with fail
    go_ret
    exact ⟨rfl, bel⟩
  have Hc5 : Hid (now ≤ 3000) := Lib.hid (by omega)
  replace c5 : decide (3000 < now) = false := decide_eq_false c5
  have HN20 : Hid (n ≤ 20) := Lib.hid (by have := Hc3.out; omega)
  go_wp2_with fail
  have HLO_ := bel.size
  with_reducible refine (tnew_any (lw := 40000) (rm := 9) _ (by decide) (by decide) (by decide) (by decide)).mono ?_
  rintro e w2 ⟨gt, rfl, hT, b2⟩
  replace ll := ll.below b2
  replace bel := bel.trans (b2.mono bel.size)
  clear b2
  replace hT : Tp w.heap.size gt w2 tS0 := hT.lo_mono HLO_
  clear HLO_
  go_wp2_with fail
  with_reducible refine (at_k 1 _).mono ?_
  rintro e w3 ⟨rfl, b3⟩
  replace ll := ll.below b3
  replace hT := hT.below b3
  replace bel := bel.trans (b3.mono bel.size)
  clear b3
  go_wp2_with (first | ((with_reducible show wpList _ _ _ (⟨some 9, _, _, _, _, _⟩ :: _) _ _); refine wpList_new_a rfl 36 rfl #[.int .i64 0, .int .u8 0, .int .u8 0, .int .u8 0, .int .u8 0, .int .i64 0] (by kernel_rfl) ?_; intro g9 w4 ge hh bb; have ap_fB := hT.ap ge; have av_ll_fB := ll.av_new ge; have ofB := Nat.le_trans bel.size ge; replace ll := ll.below bb; replace hT := hT.below bb; replace ap_fB := ap_fB.below bb; replace bel := bel.trans (bb.mono bel.size); have hfB := hh; clear hh ge bb) | ((with_reducible show wpList _ _ _ (⟨none, Op.store _ (.tmp 9) _, _, _, _, _⟩ :: _) _ _); refine wpList_store_blk rfl 36 (.tmp 9) (.tmp 42) rfl g9 rfl _ rfl _ 36 hfB (by rfl) (by kernel_rfl) (by kernel_rfl) ?_; intro w5 hq gr; replace ll := ll.away av_ll_fB gr; replace hT := hT.away ap_fB gr hfB; replace ap_fB := ap_fB.grown ap_fB.1 gr; replace bel := below_grown bel gr ofB bel.size; clear hfB; have hfB := hq; clear hq gr; have R44 := Lib.hid (range_lit hfB 0 6 [.int .i64 17, .int .u8 ((atA 1).a.toNat : Int), .int .u8 ((atA 1).b.toNat : Int), .int .u8 ((atA 1).c.toNat : Int), .int .u8 ((atA 1).d.toNat : Int), .int .i64 50000] rfl)) | ((with_reducible show wpList _ _ _ (⟨some 44, _, _, _, _, _⟩ :: _) _ _); refine wpList_load_rng 36 (.tmp 9) rfl (by kernel_rfl) _ _ rfl _ R44.out _ Try.underlying36 rfl (by kernel_rfl) ?_))
  try clear R44
  with_reducible refine (times_0 _ hT Hc1.out Hc2.out).mono ?_
  rintro e w6 ⟨rfl, hT_, f_, bb⟩
  have x_ := f_ _ _ _ _ hfB ap_fB
  replace hfB := x_.1
  replace ap_fB := x_.2
  clear x_
  clear hT
  have hT := hT_
  replace bel := bel.trans bb
  clear bb f_ hT_
  replace ll := HL0.out.below bel
  go_wp2_with fail
  go_loopg [11, 10] (n) (fun gk s11 s10 wr => ∃ k : Nat, ∃ la : Int, gk = n - k ∧ k ≤ n ∧ Hid (0 ≤ la ∧ la ≤ 1000 * (k : Int)) ∧ Tp w.heap.size gt wr (tS la (la + secs)) ∧ Ap gt wr g9 ∧ s11 = .int .i64 (k : Int) ∧ s10 = .int .i64 la ∧ wr.heap[g9]? = some (.cells #[.int .i64 17, .int .u8 ((atA 1).a.toNat : Int), .int .u8 ((atA 1).b.toNat : Int), .int .u8 ((atA 1).c.toNat : Int), .int .u8 ((atA 1).d.toNat : Int), .int .i64 50000] 36 (0, 0)) ∧ Sle inf 1 wr (A) (n) (cp) (L) ∧ Below w.heap.size w wr)
  case atStart => exact ⟨0, 0, Nat.sub_zero _, Nat.zero_le _, Lib.hid ⟨Int.le_refl _, by omega⟩, (show Tp _ _ _ (tS 0 (0 + secs)) by rw [Int.zero_add]; exact hT), ap_fB, rfl, rfl, hfB, ll, bel⟩
  case round =>
    clear hT ap_fB hfB ll bel
    obtain ⟨k, la, HGK, hkn, HLA, hT, ap_fB, rfl, rfl, hfB, ll, bel⟩ := hrel
    have HGK_ := Lib.hid HGK
    clear HGK
    by_cases h : (k : Int) < n
    rotate_left
    · have hkn2 : k = n := by omega
      replace h : decide ((k : Int) < n) = false := decide_eq_false h
      have hN_ : decide (k < n) = false := decide_eq_false (by omega)
      obtain ⟨tt, htt⟩ : ∃ z, la + now = z := ⟨_, rfl⟩
      have HTT := Lib.hid htt
      have HT4 : Hid (tt ≤ 1099511627776) := Lib.hid (by have := HLA.out; have := HN20.out; have := Hc5.out; omega)
      have hwt : IntKind.i64.wrap (la + now) = tt := by rw [htt]; exact IntWalk.i64_in _ (by have := HLA.out; have := HN20.out; have := Hc5.out; have := Hc4.out; omega)
      clear htt hkn2
      by_cases hns : now < secs
      rotate_left
      · have HNS : Hid (secs ≤ now) := Lib.hid (by omega)
        replace hns : decide (now < secs) = false := decide_eq_false hns
        go_wp2_with fail
        with_reducible refine (times_no _ hT (by have := HNS.out; have := Hc1.out; omega) HNS.out HT4.out HTT.out).mono ?_
        rintro e w7 ⟨rfl, b7⟩
        replace bel := bel.trans b7
        clear b7 ll hfB hT ap_fB
        go_wp2_with (first | ((with_reducible show wpList _ _ _ (⟨some 14, _, _, _, _, _⟩ :: _) _ _); refine wpList_new_a rfl 31 rfl #[.int .i64 0, .int .i64 0, .int .u8 0, .int .u8 0, .int .u8 0, .int .u8 0, .int .i64 0, .int .i64 0, .int .i64 0] (by kernel_rfl) ?_; intro g14 w8 ge hh bb; have onB := Nat.le_trans bel.size ge; replace bel := bel.trans (bb.mono bel.size); have hnB := hh; clear hh ge bb) | ((with_reducible show wpList _ _ _ (⟨none, Op.store _ (.tmp 14) _, _, _, _, _⟩ :: _) _ _); refine wpList_store_blk rfl 31 (.tmp 14) (.tmp 101) rfl g14 rfl _ rfl _ 31 hnB (by rfl) (by kernel_rfl) (by kernel_rfl) ?_; intro w9 hq gr; replace bel := below_grown bel gr onB bel.size; clear hnB; have hnB := hq; clear hq gr))
        go_ret
        exact ⟨rfl, bel⟩
      have HNS := Lib.hid hns
      go_wp2_with fail
      with_reducible refine (times_in _ hT Hc4.out HNS.out HT4.out HTT.out).mono ?_
      rintro e w7 ⟨rfl, hT_, f_, bb⟩
      have x_ := f_ _ _ _ _ hfB ap_fB
      replace hfB := x_.1
      replace ap_fB := x_.2
      clear x_
      clear hT
      have hT := hT_
      replace bel := bel.trans bb
      clear bb f_ hT_
      replace ll := HL0.out.below bel
      go_wp2_with (first | ((with_reducible show wpList _ _ _ (⟨some 14, _, _, _, _, _⟩ :: _) _ _); refine wpList_new_a rfl 31 rfl #[.int .i64 0, .int .i64 0, .int .u8 0, .int .u8 0, .int .u8 0, .int .u8 0, .int .i64 0, .int .i64 0, .int .i64 0] (by kernel_rfl) ?_; intro g14 w8 ge hh bb; have ap_nB := hT.ap ge; have d_fB_nB := ne_new (hlt hfB) ge; have av_ll_nB := ll.av_new ge; have onB := Nat.le_trans bel.size ge; replace hfB := blk_u hfB bb; replace ll := ll.below bb; replace hT := hT.below bb; replace ap_fB := ap_fB.below bb; replace ap_nB := ap_nB.below bb; replace bel := bel.trans (bb.mono bel.size); have hnB := hh; clear hh ge bb) | ((with_reducible show wpList _ _ _ (⟨none, Op.store _ (.tmp 14) _, _, _, _, _⟩ :: _) _ _); refine wpList_store_blk rfl 31 (.tmp 14) (.tmp 101) rfl g14 rfl _ rfl _ 31 hnB (by rfl) (by kernel_rfl) (by kernel_rfl) ?_; intro w9 hq gr; replace ll := ll.away av_ll_nB gr; replace hfB := blk_a hfB gr d_fB_nB; replace hT := hT.away ap_nB gr hnB; replace ap_fB := ap_fB.grown ap_nB.1 gr; replace ap_nB := ap_nB.grown ap_nB.1 gr; replace bel := below_grown bel gr onB bel.size; clear hnB; have hnB := hq; clear hq gr))
      go_ret
      exact ⟨rfl, bel⟩
    obtain ⟨x, hx⟩ : ∃ x, L[k]? = some x := ⟨_, List.getElem?_eq_getElem (by have := HN.out; omega)⟩
    have HX := Lib.hid hx
    clear hx
    have HK2 : Hid (k < n) := Lib.hid (by omega)
    have k0 : (0 : Int) ≤ k := by omega
    have k20 : (k : Int) < 20 := by have := HN20.out; omega
    obtain ⟨gI, oI, rfl⟩ := ll.place (by omega)
    by_cases cx : x < 0
    · have R56 := Sle.inc (i := k) ll HX.out
      go_wp2_with fail
      clear R56
      go_ret
      exact ⟨rfl, bel⟩
    have hxd : decide (x < 0) = false := decide_eq_false cx
    by_cases cy : secs ≤ x
    · have hxs : x ≥ secs := cy
      have R56 := Sle.inc (i := k) ll HX.out
      have R62 := Sle.inc (i := k) ll HX.out
      go_wp2_with fail
      clear R56 R62
      go_ret
      exact ⟨rfl, bel⟩
    clear hxd
    have HX0 : Hid (0 ≤ x) := Lib.hid (by omega)
    have HXS : Hid (x < secs) := Lib.hid (by omega)
    have hxd : decide (x < 0) = false := decide_eq_false (by omega)
    have hxs : decide (x ≥ secs) = false := decide_eq_false (by omega)
    have hxs2 : decide (secs ≤ x) = false := decide_eq_false (by omega)
    obtain ⟨lb, hlb⟩ : ∃ z, la + x = z := ⟨_, rfl⟩
    obtain ⟨un, hun⟩ : ∃ z, lb + secs = z := ⟨_, rfl⟩
    have HLB := Lib.hid hlb
    have HUN := Lib.hid hun
    have HB1 : Hid (lb ≤ 1000 * ((k : Int) + 1)) := Lib.hid (by have := HLA.out; have := Hc2.out; omega)
    have hwb : IntKind.i64.wrap (la + x) = lb := by rw [hlb]; exact IntWalk.i64_in _ (by have := HLA.out; have := Hc2.out; omega)
    have hwu : IntKind.i64.wrap (lb + secs) = un := by rw [hun]; exact IntWalk.i64_in _ (by have := HLA.out; have := Hc2.out; have := HX0.out; omega)
    clear hlb hun cx cy
    have R56 := Sle.inc (i := k) ll HX.out
    have R62 := Sle.inc (i := k) ll HX.out
    have R70 := Sle.inc (i := k) ll HX.out
    have R74 := Lib.hid (range_lit hfB 0 6 [.int .i64 17, .int .u8 ((atA 1).a.toNat : Int), .int .u8 ((atA 1).b.toNat : Int), .int .u8 ((atA 1).c.toNat : Int), .int .u8 ((atA 1).d.toNat : Int), .int .i64 50000] rfl)
    go_wp2_with (first | ((with_reducible show wpList _ _ _ (⟨some 74, _, _, _, _, _⟩ :: _) _ _); refine wpList_load_rng 36 (.tmp 9) rfl (by kernel_rfl) _ _ rfl _ R74.out _ Try.underlying36 rfl (by kernel_rfl) ?_))
    try clear R56
    try clear R62
    try clear R70
    try clear R74
    with_reducible refine (times_mk _ hT (by have := HLB.out; have := HX0.out; omega) (by have := HLB.out; have := HXS.out; omega) (by have := HB1.out; omega) Hc1.out Hc2.out HUN.out).mono ?_
    rintro e w7 ⟨rfl, hT_, f_, bb⟩
    have x_ := f_ _ _ _ _ hfB ap_fB
    replace hfB := x_.1
    replace ap_fB := x_.2
    clear x_
    clear hT
    have hT := hT_
    replace bel := bel.trans bb
    clear bb f_ hT_
    replace ll := HL0.out.below bel
    go_wp2_with (first | ((with_reducible show wpList _ _ _ (⟨some 12, _, _, _, _, _⟩ :: _) _ _); refine wpList_new_a rfl 31 rfl #[.int .i64 0, .int .i64 0, .int .u8 0, .int .u8 0, .int .u8 0, .int .u8 0, .int .i64 0, .int .i64 0, .int .i64 0] (by kernel_rfl) ?_; intro g12 w8 ge hh bb; have ap_mB := hT.ap ge; have d_fB_mB := ne_new (hlt hfB) ge; have av_ll_mB := ll.av_new ge; have omB := Nat.le_trans bel.size ge; replace hfB := blk_u hfB bb; replace ll := ll.below bb; replace hT := hT.below bb; replace ap_fB := ap_fB.below bb; replace ap_mB := ap_mB.below bb; replace bel := bel.trans (bb.mono bel.size); have hmB := hh; clear hh ge bb) | ((with_reducible show wpList _ _ _ (⟨none, Op.store _ (.tmp 12) _, _, _, _, _⟩ :: _) _ _); refine wpList_store_blk rfl 31 (.tmp 12) (.tmp 78) rfl g12 rfl _ rfl _ 31 hmB (by rfl) (by kernel_rfl) (by kernel_rfl) ?_; intro w9 hq gr; replace ll := ll.away av_ll_mB gr; replace hfB := blk_a hfB gr d_fB_mB; replace hT := hT.away ap_mB gr hmB; replace ap_fB := ap_fB.grown ap_mB.1 gr; replace ap_mB := ap_mB.grown ap_mB.1 gr; replace bel := below_grown bel gr omB bel.size; clear hmB; have hmB := hq; clear hq gr; have R84 := cell_lit hmB 1 _ rfl; have R89 := cell_lit hmB 8 _ rfl))
    try clear R84
    try clear R89
    go_roundg (n - (k + 1))
    case measure => have := HGK_.out; have := HK2.out; omega
    case rel => exact ⟨k + 1, lb, rfl, by have := HK2.out; omega, Lib.hid ⟨by have := HLA.out; have := HLB.out; have := HX0.out; omega, by have := HB1.out; omega⟩, (HUN.out ▸ hT), ap_fB, by go_num, by go_num, hfB, ll, bel⟩
/-- One port that is somebody's. -/
def uM (a inn u : Int) : Mp := ⟨6, 80, atA 1, inn, a, u⟩
def uO (b inn u : Int) : Mp := ⟨6, 80, atA 2, inn, b, u⟩
def uS (a inn t u : Int) : Ts := ⟨40000, 9, t, [uM a inn u], []⟩
theorem u_perm {x : Ad4} {a inn u : Int} (h1 : 2 ≤ a) (h2 : a ≤ 3) (h3 : 1 ≤ inn) (h4 : inn ≤ 65535) : permB ⟨6, 80, x, inn, a, u⟩ = true := by
  have e1 : decide (a < 2) = false := decide_eq_false (by omega)
  have e2 : decide (4 < a) = false := decide_eq_false (by omega)
  have e3 : (a == 4) = false := beq_eq_false_iff_ne.2 (by omega)
  show (!(decide (a < 2) || (decide (4 < a) || ((a == 4) && !(u == 0)))) && (portB 6 80 && portB 6 inn)) = true
  have e4 : portB 6 inn = true := by show (decide (1 ≤ inn) && decide (inn ≤ 65535)) = true; rw [decide_eq_true h3, decide_eq_true h4]; rfl
  rw [e1, e2, e3, e4]
  rfl
theorem u_live {x : Ad4} {a inn u t : Int} (_h2 : a ≤ 3) (h : t < u) : liveB t ⟨6, 80, x, inn, a, u⟩ = true := by
  show ((a == 4) || decide (t < u)) = true
  rw [decide_eq_true h, Bool.or_true]
theorem u_dead {x : Ad4} {a inn u t : Int} (h2 : a ≤ 3) (h : u ≤ t) : liveB t ⟨6, 80, x, inn, a, u⟩ = false := by
  show ((a == 4) || decide (t < u)) = false
  rw [decide_eq_false (by omega), beq_eq_false_iff_ne.2 (by omega)]
  rfl
theorem uS_adv {a inn t u t0 : Int} (h2 : a ≤ 3) (h0 : t0 ≤ t) (h1 : t ≤ 1099511627776) (h : t < u) : (uS a inn t0 u).adv t = uS a inn t u := by
  by_cases hh : t0 < t
  · rw [Ts.adv_yes hh h1]
    have hl : liveB t (uM a inn u) = true := u_live h2 h
    have hd : deadB t (uM a inn u) = false := by unfold deadB; rw [hl]; rfl
    show (⟨40000, 9, t, [uM a inn u].filter (liveB t), ([uM a inn u].filter (deadB t)).foldl oput []⟩ : Ts) = _
    rw [List.filter_cons_of_pos hl, List.filter_cons_of_neg (by rw [hd]; decide)]
    rfl
  · obtain rfl : t0 = t := by omega
    exact Ts.adv_no hh
theorem uS_end {a inn t u : Int} (h2 : a ≤ 3) (h0 : 0 < t) (h1 : t ≤ 1099511627776) (h : u ≤ t) : (uS a inn 0 u).adv t = ⟨40000, 9, t, [], [uM a inn u]⟩ := by
  rw [Ts.adv_yes h0 h1]
  have hl : liveB t (uM a inn u) = false := u_dead h2 h
  have hd : deadB t (uM a inn u) = true := by unfold deadB; rw [hl]; rfl
  show (⟨40000, 9, t, [uM a inn u].filter (liveB t), ([uM a inn u].filter (deadB t)).foldl oput []⟩ : Ts) = _
  rw [List.filter_cons_of_neg (by rw [hl]; decide), List.filter_cons_of_pos hd]
  rfl
theorem u_ext {a b inn u u' : Int} : extB (uO b inn u) (uM a inn u') = false := by
  have e : (atA 2).eqB (atA 1) = false := by kernel_rfl
  show ((b == a) && ((atA 2).eqB (atA 1) && (inn == inn))) = false
  rw [e, Bool.false_and, Bool.and_false]
theorem u_same {a inn u u' : Int} : extB (uM a inn u) (uM a inn u') = true := by
  show ((a == a) && ((atA 1).eqB (atA 1) && (inn == inn))) = true
  rw [beq_self_eq_true, beq_self_eq_true, Ad4.eqB_self]; rfl
theorem taken_1 {lo gt : Nat} {a inn u : Int} (w : World) (hT : Tp lo gt w ⟨40000, 9, 0, [], []⟩) (ha1 : 2 ≤ a) (ha2 : a ≤ 3) (hi1 : 1 ≤ inn) (hi2 : inn ≤ 65535) (hu : 0 < u) : Calls Try.prog 12 #[.pointer (some ⟨gt, 0, none⟩), .agg #[.int .i64 6, .int .i64 80, .int .u8 ((atA 1).a.toNat : Int), .int .u8 ((atA 1).b.toNat : Int), .int .u8 ((atA 1).c.toNat : Int), .int .u8 ((atA 1).d.toNat : Int), .int .i64 inn, .int .i64 a, .int .i64 u], .int .i64 0] w fun e w' => e = .returned (.int .i64 0) ∧ Tp lo gt w' (uS a inn 0 u) ∧ Fap gt w w' ∧ Below lo w w' := pt_new (s1 := ⟨40000, 9, 0, [], []⟩) (s2 := uS a inn 0 u) w hT rfl (u_perm ha1 ha2 hi1 hi2) (u_live ha2 hu) rfl (by decide) rfl
theorem taken_2 {lo gt : Nat} {a b inn t u v : Int} (w : World) (hT : Tp lo gt w (uS a inn 0 u)) (hb1 : 2 ≤ b) (hb2 : b ≤ 3) (hi1 : 1 ≤ inn) (hi2 : inn ≤ 65535) (ha2 : a ≤ 3) (h0 : 0 ≤ t) (h1 : t ≤ 2000) (hu : t < u) (hv : t < v) : Calls Try.prog 12 #[.pointer (some ⟨gt, 0, none⟩), .agg #[.int .i64 6, .int .i64 80, .int .u8 ((atA 2).a.toNat : Int), .int .u8 ((atA 2).b.toNat : Int), .int .u8 ((atA 2).c.toNat : Int), .int .u8 ((atA 2).d.toNat : Int), .int .i64 inn, .int .i64 b, .int .i64 v], .int .i64 t] w fun e w' => e = .returned (.int .i64 8) ∧ Tp lo gt w' (uS a inn t u) ∧ Fap gt w w' ∧ Below lo w w' := pt_tak (s1 := uS a inn t u) (i := 0) w hT (uS_adv ha2 h0 (by omega) hu) (u_perm hb1 hb2 hi1 hi2) (u_live hb2 hv) rfl rfl rfl u_ext
theorem taken_3 {lo gt : Nat} {a inn t u v : Int} (w : World) (hT : Tp lo gt w (uS a inn t u)) (ha1 : 2 ≤ a) (ha2 : a ≤ 3) (hi1 : 1 ≤ inn) (hi2 : inn ≤ 65535) (h1 : t ≤ 2000) (hu : t < u) (hv : t < v) : Calls Try.prog 12 #[.pointer (some ⟨gt, 0, none⟩), .agg #[.int .i64 6, .int .i64 80, .int .u8 ((atA 1).a.toNat : Int), .int .u8 ((atA 1).b.toNat : Int), .int .u8 ((atA 1).c.toNat : Int), .int .u8 ((atA 1).d.toNat : Int), .int .i64 inn, .int .i64 a, .int .i64 v], .int .i64 t] w fun e w' => e = .returned (.int .i64 0) ∧ Tp lo gt w' (uS a inn t v) ∧ Fap gt w w' ∧ Below lo w w' := pt_ext (s1 := uS a inn t u) (s2 := uS a inn t v) (i := 0) w hT (uS_adv ha2 (Int.le_refl _) (by omega) hu) (u_perm ha1 ha2 hi1 hi2) (u_live ha2 hv) rfl rfl rfl u_same rfl
theorem taken_4 {lo gt : Nat} {a inn t u : Int} (w : World) (hT : Tp lo gt w (uS a inn t u)) (ha2 : a ≤ 3) (h1 : t ≤ 2000) (hu : t < u) : Calls Try.prog 17 #[.pointer (some ⟨gt, 0, none⟩), .int .i64 t] w fun e w' => e = .returned (.int .i64 1) ∧ Tp lo gt w' (uS a inn t u) ∧ Fap gt w w' ∧ Below lo w w' := len_is (s1 := uS a inn t u) w hT (uS_adv ha2 (Int.le_refl _) (by omega) hu) rfl
theorem taken_5 {lo gt : Nat} {a b inn t u v : Int} (w : World) (hT : Tp lo gt w (uS a inn 0 u)) (hb1 : 2 ≤ b) (hb2 : b ≤ 3) (hi1 : 1 ≤ inn) (hi2 : inn ≤ 65535) (ha2 : a ≤ 3) (h0 : 0 < t) (h1 : t ≤ 2000) (hu : u ≤ t) (hv : t < v) : Calls Try.prog 12 #[.pointer (some ⟨gt, 0, none⟩), .agg #[.int .i64 6, .int .i64 80, .int .u8 ((atA 2).a.toNat : Int), .int .u8 ((atA 2).b.toNat : Int), .int .u8 ((atA 2).c.toNat : Int), .int .u8 ((atA 2).d.toNat : Int), .int .i64 inn, .int .i64 b, .int .i64 v], .int .i64 t] w fun e w' => e = .returned (.int .i64 0) ∧ Tp lo gt w' ⟨40000, 9, t, [uO b inn v], []⟩ ∧ Fap gt w w' ∧ Below lo w w' := pt_new (s1 := ⟨40000, 9, t, [], [uM a inn u]⟩) (s2 := ⟨40000, 9, t, [uO b inn v], []⟩) w hT (uS_end ha2 h0 (by omega) hu) (u_perm hb1 hb2 hi1 hi2) (u_live hb2 hv) rfl (by show ((0 : Nat) : Int) < 9; decide) rfl
theorem taken_6 {lo gt : Nat} {b inn t v : Int} (w : World) (hT : Tp lo gt w ⟨40000, 9, t, [uO b inn v], []⟩) : Calls Try.prog 17 #[.pointer (some ⟨gt, 0, none⟩), .int .i64 t] w fun e w' => e = .returned (.int .i64 1) ∧ Tp lo gt w' ⟨40000, 9, t, [uO b inn v], []⟩ ∧ Fap gt w w' ∧ Below lo w w' := len_is (s1 := ⟨40000, 9, t, [uO b inn v], []⟩) w hT (Ts.adv_no (Int.lt_irrefl t)) rfl
set_option linter.unusedVariables false in
set_option linter.unusedSimpArgs false in
set_option maxRecDepth 100000 in
set_option maxHeartbeats 16000000 in
theorem portsTaken_walk (a b inn secs later : Int) (w : World) : Calls Try.prog 7 #[.int .i64 a, .int .i64 b, .int .i64 inn, .int .i64 secs, .int .i64 later] w fun e w' => e = .returned (.bool true) ∧ Below w.heap.size w w' := by
  have bel := Below.refl w.heap.size w
  go_enter Try.func7, Try.ntmps7
  go_wp2_with fail
  with_reducible refine (awake_any _).mono ?_
  rintro e w1 ⟨rfl, b1⟩
  replace bel := bel.trans (b1.mono bel.size)
  clear b1
  by_cases c1 : a < 2
  · go_wp2_with fail
    go_ret
    exact ⟨rfl, bel⟩
  have Hc1 : Hid (2 ≤ a) := Lib.hid (by omega)
  replace c1 : decide (a < 2) = false := decide_eq_false c1
  by_cases c2 : 3 < a
  · go_wp2_with fail
    go_ret
    exact ⟨rfl, bel⟩
  have Hc2 : Hid (a ≤ 3) := Lib.hid (by omega)
  replace c2 : decide (3 < a) = false := decide_eq_false c2
  by_cases c3 : b < 2
  · go_wp2_with fail
    go_ret
    exact ⟨rfl, bel⟩
  have Hc3 : Hid (2 ≤ b) := Lib.hid (by omega)
  replace c3 : decide (b < 2) = false := decide_eq_false c3
  by_cases c4 : 3 < b
  · go_wp2_with fail
    go_ret
    exact ⟨rfl, bel⟩
  have Hc4 : Hid (b ≤ 3) := Lib.hid (by omega)
  replace c4 : decide (3 < b) = false := decide_eq_false c4
  by_cases c5 : inn < 1
  · go_wp2_with fail
    go_ret
    exact ⟨rfl, bel⟩
  have Hc5 : Hid (1 ≤ inn) := Lib.hid (by omega)
  replace c5 : decide (inn < 1) = false := decide_eq_false c5
  by_cases c6 : 65535 < inn
  · go_wp2_with fail
    go_ret
    exact ⟨rfl, bel⟩
  have Hc6 : Hid (inn ≤ 65535) := Lib.hid (by omega)
  replace c6 : decide (65535 < inn) = false := decide_eq_false c6
  by_cases c7 : secs < 1
  · go_wp2_with fail
    go_ret
    exact ⟨rfl, bel⟩
  have Hc7 : Hid (1 ≤ secs) := Lib.hid (by omega)
  replace c7 : decide (secs < 1) = false := decide_eq_false c7
  by_cases c8 : 1000 < secs
  · go_wp2_with fail
    go_ret
    exact ⟨rfl, bel⟩
  have Hc8 : Hid (secs ≤ 1000) := Lib.hid (by omega)
  replace c8 : decide (1000 < secs) = false := decide_eq_false c8
  by_cases c9 : later < 0
  · go_wp2_with fail
    go_ret
    exact ⟨rfl, bel⟩
  have Hc9 : Hid (0 ≤ later) := Lib.hid (by omega)
  replace c9 : decide (later < 0) = false := decide_eq_false c9
  by_cases c10 : 2000 < later
  · go_wp2_with fail
    go_ret
    exact ⟨rfl, bel⟩
  have Hc10 : Hid (later ≤ 2000) := Lib.hid (by omega)
  replace c10 : decide (2000 < later) = false := decide_eq_false c10
  obtain ⟨v, hv⟩ : ∃ z, later + 50 = z := ⟨_, rfl⟩
  have HV := Lib.hid hv
  have HV2 : Hid (later < v) := Lib.hid (by omega)
  have hw1 : IntKind.i64.wrap (later + 50) = v := by rw [hv]; exact IntWalk.i64_in _ (by have := Hc9.out; have := Hc10.out; omega)
  clear hv
  have HS0 : Hid (0 < secs) := Lib.hid (by have := Hc7.out; omega)
  go_wp2_with fail
  have HLO_ := bel.size
  with_reducible refine (tnew_any (lw := 40000) (rm := 9) _ (by decide) (by decide) (by decide) (by decide)).mono ?_
  rintro e w2 ⟨gt, rfl, hT, b2⟩
  replace bel := bel.trans (b2.mono bel.size)
  clear b2
  replace hT : Tp w.heap.size gt w2 ⟨40000, 9, 0, [], []⟩ := hT.lo_mono HLO_
  clear HLO_
  go_wp2_with fail
  with_reducible refine (at_k 1 _).mono ?_
  rintro e w3 ⟨rfl, b3⟩
  replace hT := hT.below b3
  replace bel := bel.trans (b3.mono bel.size)
  clear b3
  go_wp2_with (first | ((with_reducible show wpList _ _ _ (⟨some 13, _, _, _, _, _⟩ :: _) _ _); refine wpList_new_a rfl 31 rfl #[.int .i64 0, .int .i64 0, .int .u8 0, .int .u8 0, .int .u8 0, .int .u8 0, .int .i64 0, .int .i64 0, .int .i64 0] (by kernel_rfl) ?_; intro g13 w4 ge hh bb; have ap_mB := hT.ap ge; have omB := Nat.le_trans bel.size ge; replace hT := hT.below bb; replace ap_mB := ap_mB.below bb; replace bel := bel.trans (bb.mono bel.size); have hmB := hh; clear hh ge bb) | ((with_reducible show wpList _ _ _ (⟨none, Op.store _ (.tmp 13) _, _, _, _, _⟩ :: _) _ _); refine wpList_store_blk rfl 31 (.tmp 13) (.tmp 64) rfl g13 rfl _ rfl _ 31 hmB (by rfl) (by kernel_rfl) (by kernel_rfl) ?_; intro w5 hq gr; replace hT := hT.away ap_mB gr hmB; replace ap_mB := ap_mB.grown ap_mB.1 gr; replace bel := below_grown bel gr omB bel.size; clear hmB; have hmB := hq; clear hq gr))
  with_reducible refine (at_k 2 _).mono ?_
  rintro e w6 ⟨rfl, b6⟩
  replace hmB := blk_u hmB b6
  replace hT := hT.below b6
  replace ap_mB := ap_mB.below b6
  replace bel := bel.trans (b6.mono bel.size)
  clear b6
  go_wp2_with (first | ((with_reducible show wpList _ _ _ (⟨some 14, _, _, _, _, _⟩ :: _) _ _); refine wpList_new_a rfl 31 rfl #[.int .i64 0, .int .i64 0, .int .u8 0, .int .u8 0, .int .u8 0, .int .u8 0, .int .i64 0, .int .i64 0, .int .i64 0] (by kernel_rfl) ?_; intro g14 w7 ge hh bb; have ap_oB := hT.ap ge; have d_mB_oB := ne_new (hlt hmB) ge; have ooB := Nat.le_trans bel.size ge; replace hmB := blk_u hmB bb; replace hT := hT.below bb; replace ap_mB := ap_mB.below bb; replace ap_oB := ap_oB.below bb; replace bel := bel.trans (bb.mono bel.size); have hoB := hh; clear hh ge bb) | ((with_reducible show wpList _ _ _ (⟨none, Op.store _ (.tmp 14) _, _, _, _, _⟩ :: _) _ _); refine wpList_store_blk rfl 31 (.tmp 14) (.tmp 70) rfl g14 rfl _ rfl _ 31 hoB (by rfl) (by kernel_rfl) (by kernel_rfl) ?_; intro w8 hq gr; replace hmB := blk_a hmB gr d_mB_oB; replace hT := hT.away ap_oB gr hoB; replace ap_mB := ap_mB.grown ap_oB.1 gr; replace ap_oB := ap_oB.grown ap_oB.1 gr; replace bel := below_grown bel gr ooB bel.size; clear hoB; have hoB := hq; clear hq gr; have R72 := Lib.hid (range_lit hmB 0 9 [.int .i64 6, .int .i64 80, .int .u8 ((atA 1).a.toNat : Int), .int .u8 ((atA 1).b.toNat : Int), .int .u8 ((atA 1).c.toNat : Int), .int .u8 ((atA 1).d.toNat : Int), .int .i64 inn, .int .i64 a, .int .i64 secs] rfl)) | ((with_reducible show wpList _ _ _ (⟨some 72, _, _, _, _, _⟩ :: _) _ _); refine wpList_load_rng 31 (.tmp 13) rfl (by kernel_rfl) _ _ rfl _ R72.out _ Try.underlying31 rfl (by kernel_rfl) ?_))
  try clear R72
  with_reducible refine (taken_1 _ hT Hc1.out Hc2.out Hc5.out Hc6.out HS0.out).mono ?_
  rintro e w9 ⟨rfl, hT_, f_, bb⟩
  have x_ := f_ _ _ _ _ hmB ap_mB
  replace hmB := x_.1
  replace ap_mB := x_.2
  clear x_
  have x_ := f_ _ _ _ _ hoB ap_oB
  replace hoB := x_.1
  replace ap_oB := x_.2
  clear x_
  clear hT
  have hT := hT_
  replace bel := bel.trans bb
  clear bb f_ hT_
  by_cases hl : later < secs
  rotate_left
  · have HL : Hid (secs ≤ later) := Lib.hid (by omega)
    replace hl : decide (later < secs) = false := decide_eq_false hl
    have R76 := Lib.hid (range_lit hoB 0 9 [.int .i64 6, .int .i64 80, .int .u8 ((atA 2).a.toNat : Int), .int .u8 ((atA 2).b.toNat : Int), .int .u8 ((atA 2).c.toNat : Int), .int .u8 ((atA 2).d.toNat : Int), .int .i64 inn, .int .i64 b, .int .i64 v] rfl)
    go_wp2_with (first | ((with_reducible show wpList _ _ _ (⟨some 76, _, _, _, _, _⟩ :: _) _ _); refine wpList_load_rng 31 (.tmp 14) rfl (by kernel_rfl) _ _ rfl _ R76.out _ Try.underlying31 rfl (by kernel_rfl) ?_))
    try clear R76
    with_reducible refine (taken_5 (a := a) (v := v) _ hT Hc3.out Hc4.out Hc5.out Hc6.out Hc2.out (Int.lt_of_lt_of_le HS0.out HL.out) Hc10.out HL.out HV2.out).mono ?_
    rintro e w10 ⟨rfl, hT_, f_, bb⟩
    have x_ := f_ _ _ _ _ hmB ap_mB
    replace hmB := x_.1
    replace ap_mB := x_.2
    clear x_
    have x_ := f_ _ _ _ _ hoB ap_oB
    replace hoB := x_.1
    replace ap_oB := x_.2
    clear x_
    clear hT
    have hT := hT_
    replace bel := bel.trans bb
    clear bb f_ hT_
    go_wp2_with fail
    with_reducible refine (taken_6 _ hT).mono ?_
    rintro e w11 ⟨rfl, hT_, f_, bb⟩
    have x_ := f_ _ _ _ _ hmB ap_mB
    replace hmB := x_.1
    replace ap_mB := x_.2
    clear x_
    have x_ := f_ _ _ _ _ hoB ap_oB
    replace hoB := x_.1
    replace ap_oB := x_.2
    clear x_
    clear hT
    have hT := hT_
    replace bel := bel.trans bb
    clear bb f_ hT_
    go_wp2_with fail
    go_ret
    exact ⟨rfl, bel⟩
  have HL := Lib.hid hl
  obtain ⟨v9, hv9⟩ : ∃ z, later + 99 = z := ⟨_, rfl⟩
  have HV9 : Hid (later < v9) := Lib.hid (by omega)
  have hw9 : IntKind.i64.wrap (later + 99) = v9 := by rw [hv9]; exact IntWalk.i64_in _ (by have := Hc9.out; have := Hc10.out; omega)
  clear hv9
  have R76 := Lib.hid (range_lit hoB 0 9 [.int .i64 6, .int .i64 80, .int .u8 ((atA 2).a.toNat : Int), .int .u8 ((atA 2).b.toNat : Int), .int .u8 ((atA 2).c.toNat : Int), .int .u8 ((atA 2).d.toNat : Int), .int .i64 inn, .int .i64 b, .int .i64 v] rfl)
  go_wp2_with (first | ((with_reducible show wpList _ _ _ (⟨some 76, _, _, _, _, _⟩ :: _) _ _); refine wpList_load_rng 31 (.tmp 14) rfl (by kernel_rfl) _ _ rfl _ R76.out _ Try.underlying31 rfl (by kernel_rfl) ?_))
  try clear R76
  with_reducible refine (taken_2 (a := a) (v := v) _ hT Hc3.out Hc4.out Hc5.out Hc6.out Hc2.out Hc9.out Hc10.out HL.out HV2.out).mono ?_
  rintro e w10 ⟨rfl, hT_, f_, bb⟩
  have x_ := f_ _ _ _ _ hmB ap_mB
  replace hmB := x_.1
  replace ap_mB := x_.2
  clear x_
  have x_ := f_ _ _ _ _ hoB ap_oB
  replace hoB := x_.1
  replace ap_oB := x_.2
  clear x_
  clear hT
  have hT := hT_
  replace bel := bel.trans bb
  clear bb f_ hT_
  go_wp2_with (first | ((with_reducible show wpList _ _ _ (⟨none, Op.store _ (.tmp 84) _, _, _, _, _⟩ :: _) _ _); refine wpList_store_part rfl 2 (.tmp 84) (.tmp 83) rfl g13 8 rfl [.int .i64 v9] rfl [.int .i64 6, .int .i64 80, .int .u8 ((atA 1).a.toNat : Int), .int .u8 ((atA 1).b.toNat : Int), .int .u8 ((atA 1).c.toNat : Int), .int .u8 ((atA 1).d.toNat : Int), .int .i64 inn, .int .i64 a, .int .i64 secs] 31 hmB (by simp) [.int .i64 6, .int .i64 80, .int .u8 ((atA 1).a.toNat : Int), .int .u8 ((atA 1).b.toNat : Int), .int .u8 ((atA 1).c.toNat : Int), .int .u8 ((atA 1).d.toNat : Int), .int .i64 inn, .int .i64 a, .int .i64 v9] rfl (by kernel_rfl) (by rfl) ?_; intro w11 hq gr; replace hoB := blk_a hoB gr (ne_symm d_mB_oB); replace hT := hT.away ap_mB gr hmB; replace ap_mB := ap_mB.grown ap_mB.1 gr; replace ap_oB := ap_oB.grown ap_mB.1 gr; replace bel := below_grown bel gr omB bel.size; clear hmB; have hmB := hq; clear hq gr; have R89 := Lib.hid (range_lit hmB 0 9 [.int .i64 6, .int .i64 80, .int .u8 ((atA 1).a.toNat : Int), .int .u8 ((atA 1).b.toNat : Int), .int .u8 ((atA 1).c.toNat : Int), .int .u8 ((atA 1).d.toNat : Int), .int .i64 inn, .int .i64 a, .int .i64 v9] rfl)) | ((with_reducible show wpList _ _ _ (⟨some 89, _, _, _, _, _⟩ :: _) _ _); refine wpList_load_rng 31 (.tmp 13) rfl (by kernel_rfl) _ _ rfl _ R89.out _ Try.underlying31 rfl (by kernel_rfl) ?_))
  try clear R89
  with_reducible refine (taken_3 (v := v9) _ hT Hc1.out Hc2.out Hc5.out Hc6.out Hc10.out HL.out HV9.out).mono ?_
  rintro e w12 ⟨rfl, hT_, f_, bb⟩
  have x_ := f_ _ _ _ _ hmB ap_mB
  replace hmB := x_.1
  replace ap_mB := x_.2
  clear x_
  have x_ := f_ _ _ _ _ hoB ap_oB
  replace hoB := x_.1
  replace ap_oB := x_.2
  clear x_
  clear hT
  have hT := hT_
  replace bel := bel.trans bb
  clear bb f_ hT_
  go_wp2_with fail
  with_reducible refine (taken_4 _ hT Hc2.out Hc10.out HV9.out).mono ?_
  rintro e w13 ⟨rfl, hT_, f_, bb⟩
  have x_ := f_ _ _ _ _ hmB ap_mB
  replace hmB := x_.1
  replace ap_mB := x_.2
  clear x_
  have x_ := f_ _ _ _ _ hoB ap_oB
  replace hoB := x_.1
  replace ap_oB := x_.2
  clear x_
  clear hT
  have hT := hT_
  replace bel := bel.trans bb
  clear bb f_ hT_
  go_wp2_with fail
  go_ret
  exact ⟨rfl, bel⟩
end Go.Proofs.Ytmjmjfcdblapcaa
