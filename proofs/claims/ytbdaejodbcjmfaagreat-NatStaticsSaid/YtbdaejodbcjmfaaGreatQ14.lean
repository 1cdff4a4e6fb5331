/- Texts put together: Law19s. -/
import Derived.Test.YtbdaejodbcjmfaaGreatQ1
import Derived.Test.YtbdaejodbcjmfaaGreatQ13
namespace Go.Proofs.YtbdaejodbcjmfaaGreat
open Go.RowKit

def zM (ou inn kd un : Int) : Mp := ⟨17, ou, ⟨10, 0, 0, byteOf 9⟩, inn, kd, un⟩
def zS (ou inn kd t un : Int) : Ts := ⟨40000, 128, t, [zM ou inn kd un], []⟩
theorem z_live {ou inn kd un t : Int} (hk : (kd == 4) = true ∧ un = 0 ∨ (kd == 4) = false ∧ 2 ≤ kd ∧ kd ≤ 3 ∧ un = 100) (ht : t ≤ 50) : liveB t (zM ou inn kd un) = true := by
  show ((kd == 4) || decide (t < un)) = true
  rcases hk with ⟨h, _⟩ | ⟨h, _, _, rfl⟩
  · rw [h]; rfl
  · rw [h, decide_eq_true (by omega)]; rfl
theorem z_perm {ou inn kd un : Int} (hk : (kd == 4) = true ∧ un = 0 ∨ (kd == 4) = false ∧ 2 ≤ kd ∧ kd ≤ 3 ∧ un = 100) (h1 : 1 ≤ ou) (h2 : ou ≤ 65535) (h3 : 1 ≤ inn) (h4 : inn ≤ 65535) : permB (zM ou inn kd un) = true := by
  show (!(decide (kd < 2) || (decide (4 < kd) || ((kd == 4) && !(un == 0)))) && (portB 17 ou && portB 17 inn)) = true
  rw [portB_17 h1 h2, portB_17 h3 h4]
  rcases hk with ⟨h, rfl⟩ | ⟨h, h5, h6, rfl⟩
  · obtain rfl : kd = 4 := beq_iff_eq.1 h
    decide
  · rw [h, decide_eq_false (show ¬ kd < 2 by omega), decide_eq_false (show ¬ 4 < kd by omega)]; decide
theorem z_adv {ou inn kd un : Int} {a t : Int} (hk : (kd == 4) = true ∧ un = 0 ∨ (kd == 4) = false ∧ 2 ≤ kd ∧ kd ≤ 3 ∧ un = 100) (h1 : a ≤ t) (h2 : t ≤ 50) : (zS ou inn kd a un).adv t = zS ou inn kd t un := by
  by_cases h : a < t
  · rw [Ts.adv_yes h (by omega)]
    have hl : liveB t (zM ou inn kd un) = true := z_live hk h2
    have hd : deadB t (zM ou inn kd un) = false := by unfold deadB; rw [hl]; rfl
    show (⟨40000, 128, t, [zM ou inn kd un].filter (liveB t), ([zM ou inn kd un].filter (deadB t)).foldl oput []⟩ : Ts) = _
    rw [List.filter_cons_of_pos hl, List.filter_cons_of_neg (by rw [hd]; decide)]
    rfl
  · obtain rfl : a = t := by omega
    exact Ts.adv_no h
theorem z_in {lo gt : Nat} {ou inn kd un a t : Int} (hk : (kd == 4) = true ∧ un = 0 ∨ (kd == 4) = false ∧ 2 ≤ kd ∧ kd ≤ 3 ∧ un = 100) (h1 : 1 ≤ ou) (h2 : ou ≤ 65535) (h5 : a ≤ t) (h6 : t ≤ 50) : InC lo gt (zS ou inn kd a un) (zS ou inn kd t un) 17 ou t (zM ou inn kd un) := fun W hT => by
  have hf := (msrt_one (zM ou inn kd un)).found (j := 0) (x := kn 17 ou) rfl rfl
  exact in_some (s1 := zS ou inn kd t un) (i := 0) W hT (z_adv hk h5 h6) (okP_17 (by omega) h2) hf.2 hf.1 rfl
theorem z_lv {lo gt : Nat} {ou inn kd un t : Int} (hk : (kd == 4) = true ∧ un = 0 ∨ (kd == 4) = false ∧ 2 ≤ kd ∧ kd ≤ 3 ∧ un = 100) (h1 : 1 ≤ ou) (h2 : ou ≤ 65535) (h6 : t ≤ 50) : LiveC lo gt (zS ou inn kd t un) (zS ou inn kd t un) 17 ou t 120 false := fun W hT => by
  have hf := (msrt_one (zM ou inn kd un)).found (j := 0) (x := kn 17 ou) rfl rfl
  have h9 : (kd == 1) = false := by
    rcases hk with ⟨h, _⟩ | ⟨_, h, _⟩
    · obtain rfl : kd = 4 := beq_iff_eq.1 h
      rfl
    · exact beq_eq_false_iff_ne.2 (by omega)
  exact lv_oth (s1 := zS ou inn kd t un) (i := 0) W hT (z_adv hk (Int.le_refl t) h6) (okP_17 (by omega) h2) hf.2 hf.1 rfl h9
theorem z_no {lo gt : Nat} {ou inn kd un t o2 : Int} (hk : (kd == 4) = true ∧ un = 0 ∨ (kd == 4) = false ∧ 2 ≤ kd ∧ kd ≤ 3 ∧ un = 100) (h1 : 1 ≤ ou) (h2 : ou ≤ 65535) (h6 : t ≤ 50) (h7 : 0 ≤ o2) (h8 : o2 ≤ 65535) (h9 : ou ≠ o2) : InE lo gt (zS ou inn kd t un) (zS ou inn kd t un) 17 o2 t := fun W hT => by
  refine in_none (s1 := zS ou inn kd t un) W hT (z_adv hk (Int.le_refl t) h6) (okP_17 h7 h8) (MSrt.none fun e he => ?_)
  obtain rfl := List.mem_singleton.1 he
  exact fun h => h9 (kn_inj (okP_17 (by omega) h2) (okP_17 h7 h8) h).2
set_option linter.unusedVariables false in
set_option maxRecDepth 100000 in
theorem z_put {lo gn gt gk : Nat} {ou inn kd un : Int} (w : World) (hT : Np lo gn gt gk w nS0 nK0) (hk : (kd == 4) = true ∧ un = 0 ∨ (kd == 4) = false ∧ 2 ≤ kd ∧ kd ≤ 3 ∧ un = 100) (h1 : 1 ≤ ou) (h2 : ou ≤ 65535) (h3 : 1 ≤ inn) (h4 : inn ≤ 65535) : Calls Tryz.prog 27 #[.pointer (some ⟨gt, 0, none⟩), .agg #[.int .i64 17, .int .i64 ou, .int .u8 10, .int .u8 0, .int .u8 0, .int .u8 ((byteOf 9).toNat : Int), .int .i64 inn, .int .i64 kd, .int .i64 un], .int .i64 0] w fun e w' => e = .returned (.int .i64 0) ∧ Np lo gn gt gk w' (zS ou inn kd 0 un) nK0 ∧ Fn gn gt gk w w' ∧ Below lo w w' := np_t hT (pt_new (s1 := nS0) (s2 := zS ou inn kd 0 un) (mp := 17) (mo := ou) (ma := ⟨10, 0, 0, byteOf 9⟩) (mi := inn) (mk := kd) (mu := un) w hT.tp rfl (z_perm hk h1 h2 h3 h4) (z_live hk (by decide)) rfl (by decide) rfl)
set_option linter.unusedVariables false in
set_option maxRecDepth 100000 in
theorem z_len {lo gn gt gk : Nat} {ou inn kd un : Int} (w : World) (hT : Np lo gn gt gk w (zS ou inn kd 50 un) nK0) (hk : (kd == 4) = true ∧ un = 0 ∨ (kd == 4) = false ∧ 2 ≤ kd ∧ kd ≤ 3 ∧ un = 100) : Calls Tryz.prog 26 #[.pointer (some ⟨gt, 0, none⟩), .int .i64 50] w fun e w' => e = .returned (.int .i64 1) ∧ Np lo gn gt gk w' (zS ou inn kd 50 un) nK0 ∧ Fn gn gt gk w w' ∧ Below lo w w' := np_t hT (len_is (s1 := zS ou inn kd 50 un) w hT.tp (z_adv hk (Int.le_refl 50) (by decide)) rfl)
theorem dg_wan (m0 m1 m2 m3 : UInt8) (port tp : Int) (w : World) (h1 : portOk port = true) (h2 : portOk tp = true) : Calls Tryz.prog 15 #[.agg #[.int .u8 (m0.toNat : Int), .int .u8 (m1.toNat : Int), .int .u8 (m2.toNat : Int), .int .u8 (m3.toNat : Int)], .int .i64 port, .agg #[.int .u8 203, .int .u8 0, .int .u8 113, .int .u8 7], .int .i64 tp] w fun e w' => ∃ Ao co Ab cb, e = .returned (.agg #[.int .i64 0, .int .i64 0, .int .i64 0, .int .i64 0, .int .i64 64, .int .i64 17, .int .u8 (m0.toNat : Int), .int .u8 (m1.toNat : Int), .int .u8 (m2.toNat : Int), .int .u8 (m3.toNat : Int), .int .u8 203, .int .u8 0, .int .u8 113, .int .u8 7, .slice Ao 0 co, .slice Ab 9 cb]) ∧ Sl w' Ao 0 co [] ∧ Sl w' Ab 9 cb (udBytes m0 m1 m2 m3 203 0 113 7 port tp [120]) ∧ Fr w.heap.size Ao 0 ∧ Fr w.heap.size Ab 9 ∧ Below w.heap.size w w' := dg_any m0 m1 m2 m3 203 0 113 7 port tp w h1 h2
set_option linter.unusedVariables false in
set_option maxRecDepth 100000 in
theorem z_i1 {lo gn gt gk : Nat} {ou inn kd un : Int} {m0 m1 m2 m3 : UInt8} {port : Int} {Ao Ab : Option Addr} {co cb : Nat} (w : World) (hT : Np lo gn gt gk w (zS ou inn kd 0 un) nK0) (po : Sl w Ao 0 co []) (pb : Sl w Ab 9 cb (udBytes m0 m1 m2 m3 203 0 113 7 port ou [120])) (hk : (kd == 4) = true ∧ un = 0 ∨ (kd == 4) = false ∧ 2 ≤ kd ∧ kd ≤ 3 ∧ un = 100) (h1 : 1 ≤ ou) (h2 : ou ≤ 65535) (h3 : 1 ≤ inn) (h4 : inn ≤ 65535) (h5 : 0 ≤ port) (h6 : port ≤ 65535)  : Calls Tryz.prog 14 #[.pointer (some ⟨gn, 0, none⟩), .agg #[.int .i64 0, .int .i64 0, .int .i64 0, .int .i64 0, .int .i64 64, .int .i64 17, .int .u8 (m0.toNat : Int), .int .u8 (m1.toNat : Int), .int .u8 (m2.toNat : Int), .int .u8 (m3.toNat : Int), .int .u8 203, .int .u8 0, .int .u8 113, .int .u8 7, .slice Ao 0 co, .slice Ab 9 cb], .agg #[.int .u8 203, .int .u8 0, .int .u8 113, .int .u8 7], .int .i64 50] w fun e w' => ∃ Ao co' Ab cb', e = .returned (.tuple #[.agg #[.int .i64 0, .int .i64 0, .int .i64 0, .int .i64 0, .int .i64 64, .int .i64 17, .int .u8 (m0.toNat : Int), .int .u8 (m1.toNat : Int), .int .u8 (m2.toNat : Int), .int .u8 (m3.toNat : Int), .int .u8 10, .int .u8 0, .int .u8 0, .int .u8 ((byteOf 9).toNat : Int), .slice Ao 0 co', .slice Ab 9 cb'], .int .i64 0]) ∧ Np lo gn gt gk w' (zS ou inn kd 50 un) nK0 ∧ Fn gn gt gk w w' ∧ Below lo w w' ∧ Sl w' Ao 0 co' [] ∧ Sl w' Ab 9 cb' (udBytes m0 m1 m2 m3 10 0 0 (byteOf 9) port inn [120]) ∧ An gn gt gk w' Ao 0 ∧ An gn gt gk w' Ab 9 ∧ Fr w.heap.size Ao 0 ∧ Fr w.heap.size Ab 9 := by
  have h_ := nin_ok (m := zM ou inn kd un) (tos := 0) (id := 0) (fl := 0) (pt := 0) (ttl := 64) (t := 50) (df := port) (dt := ou) (ld := [120]) (nd := 1) (lp := []) (a0 := m0) (a1 := m1) (a2 := m2) (a3 := m3) (b0 := 203) (b1 := 0) (b2 := 113) (b3 := 7) w hT po pb an_zero (by decide) (by decide) (by decide) (udp_back (by decide) m0 m1 m2 m3 203 0 113 7 (portOk_of h5 h6) (portOk_of (Int.le_trans (by decide) h1) h2) [120] (by decide)) rfl (z_in hk h1 h2 (by decide) (by decide)) (z_lv hk h1 h2 (by decide)) (portOk_of h5 h6) (portOk_of (Int.le_trans (by decide) h3) h4) (by decide)
  exact h_
set_option linter.unusedVariables false in
set_option maxRecDepth 100000 in
theorem z_i2 {lo gn gt gk : Nat} {ou inn kd un : Int} {m0 m1 m2 m3 : UInt8} {port : Int} {Ao Ab : Option Addr} {co cb : Nat} {o2 : Int} (w : World) (hT : Np lo gn gt gk w (zS ou inn kd 50 un) nK0) (po : Sl w Ao 0 co []) (pb : Sl w Ab 9 cb (udBytes m0 m1 m2 m3 203 0 113 7 port o2 [120])) (hk : (kd == 4) = true ∧ un = 0 ∨ (kd == 4) = false ∧ 2 ≤ kd ∧ kd ≤ 3 ∧ un = 100) (h1 : 1 ≤ ou) (h2 : ou ≤ 65535) (h3 : 1 ≤ inn) (h4 : inn ≤ 65535) (h5 : 0 ≤ port) (h6 : port ≤ 65535) (h7 : 0 ≤ o2) (h8 : o2 ≤ 65535) (h9 : ou ≠ o2)  : Calls Tryz.prog 14 #[.pointer (some ⟨gn, 0, none⟩), .agg #[.int .i64 0, .int .i64 0, .int .i64 0, .int .i64 0, .int .i64 64, .int .i64 17, .int .u8 (m0.toNat : Int), .int .u8 (m1.toNat : Int), .int .u8 (m2.toNat : Int), .int .u8 (m3.toNat : Int), .int .u8 203, .int .u8 0, .int .u8 113, .int .u8 7, .slice Ao 0 co, .slice Ab 9 cb], .agg #[.int .u8 203, .int .u8 0, .int .u8 113, .int .u8 7], .int .i64 50] w fun e w' => e = .returned (.tuple #[.agg #[.int .i64 0, .int .i64 0, .int .i64 0, .int .i64 0, .int .i64 0, .int .i64 0, .int .u8 0, .int .u8 0, .int .u8 0, .int .u8 0, .int .u8 0, .int .u8 0, .int .u8 0, .int .u8 0, .slice none 0 0, .slice none 0 0], .int .i64 6]) ∧ Np lo gn gt gk w' (zS ou inn kd 50 un) nK0 ∧ Fn gn gt gk w w' ∧ Below lo w w' := by
  have h_ := nin_uno (tos := 0) (id := 0) (fl := 0) (pt := 0) (ttl := 64) (t := 50) (df := port) (dt := o2) (ld := [120]) (nd := 1) (lp := []) (a0 := m0) (a1 := m1) (a2 := m2) (a3 := m3) (b0 := 203) (b1 := 0) (b2 := 113) (b3 := 7) w hT po pb an_zero (by decide) (by decide) (by decide) (udp_back (by decide) m0 m1 m2 m3 203 0 113 7 (portOk_of h5 h6) (portOk_of h7 h8) [120] (by decide)) rfl (z_no hk h1 h2 (by decide) h7 h8 h9)
  exact h_
set_option linter.unusedVariables false in
set_option maxRecDepth 100000 in
theorem z_g {m0 m1 m2 m3 : UInt8} {port inn : Int} {So Sb : Option Addr} {no co cb : Nat} (w : World) (pb : Sl w Sb 9 cb (udBytes m0 m1 m2 m3 10 0 0 (byteOf 9) port inn [120])) (h3 : 1 ≤ inn) (h4 : inn ≤ 65535) (h5 : 0 ≤ port) (h6 : port ≤ 65535)  : Calls Tryz.prog 24 #[.agg #[.int .i64 0, .int .i64 0, .int .i64 0, .int .i64 0, .int .i64 64, .int .i64 17, .int .u8 (m0.toNat : Int), .int .u8 (m1.toNat : Int), .int .u8 (m2.toNat : Int), .int .u8 (m3.toNat : Int), .int .u8 10, .int .u8 0, .int .u8 0, .int .u8 ((byteOf 9).toNat : Int), .slice So no co, .slice Sb 9 cb]] w fun e w' => ∃ A c, e = .returned (.tuple #[.agg #[.int .i64 port, .int .i64 inn, .slice A 1 c], .int .i64 0]) ∧ Sl w' A 1 c [120] ∧ Fr w.heap.size A 1 ∧ Below w.heap.size w w' := udget_is _ _ 0 0 _ m0 m1 m2 m3 10 0 0 (byteOf 9) _ _ _ _ _ _ w pb (by decide) (udp_back (by decide) m0 m1 m2 m3 10 0 0 (byteOf 9) (portOk_of h5 h6) (portOk_of (Int.le_trans (by decide) h3) h4) [120] (by decide)) rfl
set_option linter.unusedVariables false in
set_option linter.unusedVariables false in
set_option linter.unusedSimpArgs false in
set_option maxRecDepth 100000 in
set_option maxHeartbeats 16000000 in
theorem natStatics_walk (ou inn : Int) (m0 m1 m2 m3 : UInt8) (port kd : Int) (w : World) : Calls Tryz.prog 7 #[.int .i64 ou, .int .i64 inn, .agg #[.int .u8 (m0.toNat : Int), .int .u8 (m1.toNat : Int), .int .u8 (m2.toNat : Int), .int .u8 (m3.toNat : Int)], .int .i64 port, .int .i64 kd] w fun e w' => e = .returned (.bool true) ∧ Below w.heap.size w w' := by
  have e1 : ∀ W, (binOp .eql 35 (.agg #[.int .u8 10, .int .u8 0, .int .u8 0, .int .u8 ((byteOf 9).toNat : Int)]) (.agg #[.int .u8 10, .int .u8 0, .int .u8 0, .int .u8 ((byteOf 9).toNat : Int)])).run Tryz.prog W = .ok (.bool true) W := fun W => by have h_ := eqa_b ⟨10, 0, 0, (byteOf 9)⟩ ⟨10, 0, 0, (byteOf 9)⟩ W; rw [Ad4.eqB_self] at h_; exact h_
  have bel := Below.refl w.heap.size w
  go_enter Tryz.func7, Tryz.ntmps7
  go_wp2_with (first | ((with_reducible show wpList _ _ _ (⟨some 7, _, _, _, _, _⟩ :: _) _ _); refine wpList_box_n rfl 35 (.tmp 2) rfl #[.int .u8 (m0.toNat : Int), .int .u8 (m1.toNat : Int), .int .u8 (m2.toNat : Int), .int .u8 (m3.toNat : Int)] rfl ?_; intro g7 w1 ge lt hh bb; have ofB := Nat.le_trans bel.size ge; replace bel := bel.trans (bb.mono bel.size); have hfB := hh; clear hh lt ge bb))
  with_reducible refine (awake19 _).mono ?_
  rintro e w2 ⟨rfl, b2⟩
  replace hfB := blk_u hfB b2
  replace bel := bel.trans (b2.mono bel.size)
  clear b2
  by_cases c1 : ou < 1
  · go_wp2_with fail
    go_ret
    exact ⟨rfl, bel⟩
  have Hc1 : Hid (1 ≤ ou) := Lib.hid (by omega)
  replace c1 : decide (ou < 1) = false := decide_eq_false c1
  by_cases c2 : 65535 < ou
  · go_wp2_with fail
    go_ret
    exact ⟨rfl, bel⟩
  have Hc2 : Hid (ou ≤ 65535) := Lib.hid (by omega)
  replace c2 : decide (65535 < ou) = false := decide_eq_false c2
  by_cases c3 : inn < 1
  · go_wp2_with fail
    go_ret
    exact ⟨rfl, bel⟩
  have Hc3 : Hid (1 ≤ inn) := Lib.hid (by omega)
  replace c3 : decide (inn < 1) = false := decide_eq_false c3
  by_cases c4 : 65535 < inn
  · go_wp2_with fail
    go_ret
    exact ⟨rfl, bel⟩
  have Hc4 : Hid (inn ≤ 65535) := Lib.hid (by omega)
  replace c4 : decide (65535 < inn) = false := decide_eq_false c4
  by_cases c5 : port < 0
  · go_wp2_with fail
    go_ret
    exact ⟨rfl, bel⟩
  have Hc5 : Hid (0 ≤ port) := Lib.hid (by omega)
  replace c5 : decide (port < 0) = false := decide_eq_false c5
  by_cases c6 : 65535 < port
  · go_wp2_with fail
    go_ret
    exact ⟨rfl, bel⟩
  have Hc6 : Hid (port ≤ 65535) := Lib.hid (by omega)
  replace c6 : decide (65535 < port) = false := decide_eq_false c6
  by_cases c7 : kd < 2
  · go_wp2_with fail
    go_ret
    exact ⟨rfl, bel⟩
  have Hc7 : Hid (2 ≤ kd) := Lib.hid (by omega)
  replace c7 : decide (kd < 2) = false := decide_eq_false c7
  by_cases c8 : 4 < kd
  · go_wp2_with fail
    go_ret
    exact ⟨rfl, bel⟩
  have Hc8 : Hid (kd ≤ 4) := Lib.hid (by omega)
  replace c8 : decide (4 < kd) = false := decide_eq_false c8
  obtain ⟨o2, ho2⟩ : ∃ z, ou % 65535 + 1 = z := ⟨_, rfl⟩
  have HO2 : Hid (0 ≤ o2 ∧ o2 ≤ 65535 ∧ ou ≠ o2) := Lib.hid (by have := Hc1.out; have := Hc2.out; omega)
  have hr1 : Int.tmod ou 65535 = ou % 65535 := Int.tmod_eq_emod_of_nonneg (by have := Hc1.out; omega)
  have hr2 : IntKind.i64.wrap (ou % 65535 + 1) = o2 := by rw [ho2]; exact IntWalk.i64_in _ (by have := HO2.out; omega)
  clear ho2
  go_wp2_with fail
  have HLO_ := bel.size
  have lt_fB := hlt hfB
  with_reducible refine (begun19 _).mono ?_
  rintro e w3 ⟨gn, gt, gk, rfl, hT, b3⟩
  replace hfB := blk_u hfB b3
  replace bel := bel.trans (b3.mono bel.size)
  clear b3
  have ap_fB := hT.old lt_fB
  clear lt_fB
  replace hT : Np w.heap.size gn gt gk w3 nS0 nK0 := hT.lo_mono HLO_
  clear HLO_
  go_wp2_with fail
  with_reducible refine (at19 9 _).mono ?_
  rintro e w4 ⟨rfl, b4⟩
  replace hfB := blk_u hfB b4
  replace hT := hT.below b4
  replace ap_fB := ap_fB.below b4
  replace bel := bel.trans (b4.mono bel.size)
  clear b4
  go_upto_if 62 with (first | ((with_reducible show wpList _ _ _ (⟨some 13, _, _, _, _, _⟩ :: _) _ _); refine wpList_new_a rfl 65 rfl #[.int .i64 0, .int .i64 0, .int .u8 0, .int .u8 0, .int .u8 0, .int .u8 0, .int .i64 0, .int .i64 0, .int .i64 0] (by kernel_rfl) ?_; intro g13 w5 ge hh bb; have ap_mB := hT.ap ge; have d_fB_mB := ne_new (hlt hfB) ge; have omB := Nat.le_trans bel.size ge; replace hfB := blk_u hfB bb; replace hT := hT.below bb; replace ap_fB := ap_fB.below bb; replace ap_mB := ap_mB.below bb; replace bel := bel.trans (bb.mono bel.size); have hmB := hh; clear hh ge bb) | ((with_reducible show wpList _ _ _ (⟨none, Op.store _ (.tmp 13) _, _, _, _, _⟩ :: _) _ _); refine wpList_store_blk rfl 65 (.tmp 13) (.tmp 60) rfl g13 rfl _ rfl _ 65 hmB (by rfl) (by kernel_rfl) (by kernel_rfl) ?_; intro w6 hq gr; replace hfB := blk_a hfB gr d_fB_mB; replace hT := hT.away ap_mB gr hmB; replace ap_fB := ap_fB.grown ap_mB gr; replace ap_mB := ap_mB.grown ap_mB gr; replace bel := below_grown bel gr omB bel.size; clear hmB; have hmB := hq; clear hq gr))
  go_cut [] from 62 to 62 (fun W => ∃ un : Int, Hid ((kd == 4) = true ∧ un = 0 ∨ (kd == 4) = false ∧ 2 ≤ kd ∧ kd ≤ 3 ∧ un = 100) ∧ W.heap[g7]? = some (.cells #[.int .u8 (m0.toNat : Int), .int .u8 (m1.toNat : Int), .int .u8 (m2.toNat : Int), .int .u8 (m3.toNat : Int)] 35 (0, 0)) ∧ W.heap[g13]? = some (.cells #[.int .i64 17, .int .i64 ou, .int .u8 10, .int .u8 0, .int .u8 0, .int .u8 ((byteOf 9).toNat : Int), .int .i64 inn, .int .i64 kd, .int .i64 un] 65 (0, 0)) ∧ Np w.heap.size gn gt gk W nS0 nK0 ∧ Anp gn gt gk W g7 ∧ Anp gn gt gk W g13 ∧ Below w.heap.size w W)
  case first =>
    rcases h4 : (kd == 4) with _ | _
    · have h4_ : ¬ kd = 4 := beq_eq_false_iff_ne.1 h4
      have H4_ := Lib.hid h4_
      have HK3 : Hid (kd ≤ 3) := Lib.hid (by have := Hc8.out; omega)
      clear h4_
      go_wp2_with fail
      go_meet
      case rel => exact ⟨100, Lib.hid (Or.inr ⟨beq_eq_false_iff_ne.2 H4_.out, Hc7.out, HK3.out, rfl⟩), hfB, hmB, hT, ap_fB, ap_mB, bel⟩
    have H4_ : Hid (kd = 4) := Lib.hid (beq_iff_eq.1 h4)
    go_wp2_with (first | ((with_reducible show wpList _ _ _ (⟨none, Op.store _ (.tmp 63) _, _, _, _, _⟩ :: _) _ _); refine wpList_store_part rfl 2 (.tmp 63) (.const (.int .i64 0)) rfl g13 8 rfl [.int .i64 0] rfl [.int .i64 17, .int .i64 ou, .int .u8 10, .int .u8 0, .int .u8 0, .int .u8 ((byteOf 9).toNat : Int), .int .i64 inn, .int .i64 kd, .int .i64 100] 65 hmB (by simp) [.int .i64 17, .int .i64 ou, .int .u8 10, .int .u8 0, .int .u8 0, .int .u8 ((byteOf 9).toNat : Int), .int .i64 inn, .int .i64 kd, .int .i64 0] rfl (by kernel_rfl) (by rfl) ?_; intro w7 hq gr; replace hfB := blk_a hfB gr d_fB_mB; replace hT := hT.away ap_mB gr hmB; replace ap_fB := ap_fB.grown ap_mB gr; replace ap_mB := ap_mB.grown ap_mB gr; replace bel := below_grown bel gr omB bel.size; clear hmB; have hmB := hq; clear hq gr))
    go_meet
    case rel => exact ⟨0, Lib.hid (Or.inl ⟨beq_iff_eq.2 H4_.out, rfl⟩), hfB, hmB, hT, ap_fB, ap_mB, bel⟩
  clear hfB hmB hT ap_fB ap_mB bel
  obtain ⟨w57, hw_⟩ : ∃ x, x = wc := ⟨_, rfl⟩
  subst hw_
  obtain ⟨un, HKN, hfB, hmB, hT, ap_fB, ap_mB, bel⟩ := hcut
  have R65 := Lib.hid (range_lit hmB 0 9 [.int .i64 17, .int .i64 ou, .int .u8 10, .int .u8 0, .int .u8 0, .int .u8 ((byteOf 9).toNat : Int), .int .i64 inn, .int .i64 kd, .int .i64 un] rfl)
  go_wp2_with (first | ((with_reducible show wpList _ _ _ (⟨some 65, _, _, _, _, _⟩ :: _) _ _); refine wpList_load_rng 65 (.tmp 13) rfl (by kernel_rfl) _ _ rfl _ R65.out _ Tryz.underlying65 rfl (by kernel_rfl) ?_))
  try clear R65
  with_reducible refine (z_put _ hT HKN.out Hc1.out Hc2.out Hc3.out Hc4.out).mono ?_
  rintro e w58 ⟨rfl, hT_, f_, bb⟩
  have x_ := f_ _ _ _ _ hfB ap_fB
  replace hfB := x_.1
  replace ap_fB := x_.2
  clear x_
  have x_ := f_ _ _ _ _ hmB ap_mB
  replace hmB := x_.1
  replace ap_mB := x_.2
  clear x_
  clear hT
  have hT := hT_
  replace bel := bel.trans bb
  clear bb f_ hT_
  go_wp2_with fail
  go_cut [14, 15] from 9999 (fun s14 s15 W => ∃ g14 : Nat, ∃ Auo : Option Addr, ∃ cuo : Nat, ∃ Aub : Option Addr, ∃ cub : Nat, ∃ Apo : Option Addr, ∃ cpo : Nat, ∃ Apb : Option Addr, ∃ cpb : Nat, s14 = .pointer (some ⟨g14, 0, none⟩) ∧ s15 = .int .i64 0 ∧ W.heap[g7]? = some (.cells #[.int .u8 (m0.toNat : Int), .int .u8 (m1.toNat : Int), .int .u8 (m2.toNat : Int), .int .u8 (m3.toNat : Int)] 35 (0, 0)) ∧ W.heap[g13]? = some (.cells #[.int .i64 17, .int .i64 ou, .int .u8 10, .int .u8 0, .int .u8 0, .int .u8 ((byteOf 9).toNat : Int), .int .i64 inn, .int .i64 kd, .int .i64 un] 65 (0, 0)) ∧ W.heap[g14]? = some (.cells #[.int .i64 0, .int .i64 0, .int .i64 0, .int .i64 0, .int .i64 64, .int .i64 17, .int .u8 (m0.toNat : Int), .int .u8 (m1.toNat : Int), .int .u8 (m2.toNat : Int), .int .u8 (m3.toNat : Int), .int .u8 10, .int .u8 0, .int .u8 0, .int .u8 ((byteOf 9).toNat : Int), .slice Apo 0 cpo, .slice Apb 9 cpb] 38 (0, 0)) ∧ w.heap.size ≤ g14 ∧ Hid (g7 ≠ g13) ∧ Hid (g7 ≠ g14) ∧ Hid (g13 ≠ g14) ∧ Sl W (Auo) (0) (cuo) ([]) ∧ Av (Auo) (0) g7 ∧ Av (Auo) (0) g13 ∧ Av (Auo) (0) g14 ∧ Sl W (Aub) (9) (cub) (udBytes m0 m1 m2 m3 203 0 113 7 port ou [120]) ∧ Av (Aub) (9) g7 ∧ Av (Aub) (9) g13 ∧ Av (Aub) (9) g14 ∧ Sl W (Apo) (0) (cpo) ([]) ∧ Av (Apo) (0) g7 ∧ Av (Apo) (0) g13 ∧ Av (Apo) (0) g14 ∧ Sl W (Apb) (9) (cpb) (udBytes m0 m1 m2 m3 10 0 0 (byteOf 9) port inn [120]) ∧ Av (Apb) (9) g7 ∧ Av (Apb) (9) g13 ∧ Av (Apb) (9) g14 ∧ Np w.heap.size gn gt gk W (zS ou inn kd 50 un) nK0 ∧ Anp gn gt gk W g7 ∧ Anp gn gt gk W g13 ∧ An gn gt gk W (Auo) (0) ∧ An gn gt gk W (Aub) (9) ∧ An gn gt gk W (Apo) (0) ∧ An gn gt gk W (Apb) (9) ∧ Anp gn gt gk W g14 ∧ Below w.heap.size w W)
  case first =>
    replace bel := bel.drew
    replace hfB : w58.drew.heap[g7]? = _ := hfB
    replace hmB : w58.drew.heap[g13]? = _ := hmB
    replace hT := np_drew hT
    replace ap_fB := anp_drew ap_fB
    replace ap_mB := anp_drew ap_mB
    refine wp_region_held_drew (S := fun W => W.heap[g7]? = some (.cells #[.int .u8 (m0.toNat : Int), .int .u8 (m1.toNat : Int), .int .u8 (m2.toNat : Int), .int .u8 (m3.toNat : Int)] 35 (0, 0))) (by kernel_rfl) hfB (fun hH => ?_)
    generalize w58.drew = w59 at bel hfB hmB hT ap_fB ap_mB hH ⊢
    refine wpAnyH_take (i := 0) (v := ?_) rfl (by kernel_rfl) (by kernel_rfl) (by kernel_rfl) (fun _ _ _ h => h) (Or.inl ⟨by rfl, ?_⟩) hH ?_
    rotate_left
    · ((intro W hW; clear hW; go_simp) <;> with_reducible rfl)
    simp only [Act.put, List.getElem_toArray, List.getElem_cons_zero, List.setIfInBounds_toArray, List.set_cons_zero, List.set_cons_succ]
    refine wpAnyH_take (i := 1) (v := .agg #[.int .u8 (m0.toNat : Int), .int .u8 (m1.toNat : Int), .int .u8 (m2.toNat : Int), .int .u8 (m3.toNat : Int)]) rfl (by kernel_rfl) (by kernel_rfl) (by kernel_rfl) (fun _ _ _ h => h) (yieldsIf_load_part (by kernel_rfl) 35 _ rfl g7 0 4 rfl _ 35 (0, 0) (fun W hW => hW) _ rfl _ Tryz.underlying35 rfl (by kernel_rfl)) hH ?_
    simp only [sq3, sq4]
    refine wpAnyH_take (i := 2) (v := ?_) rfl (by kernel_rfl) (by kernel_rfl) (by kernel_rfl) (fun _ _ _ h => h) (Or.inl ⟨by rfl, ?_⟩) hH ?_
    rotate_left
    · ((intro W hW; clear hW; go_simp) <;> with_reducible rfl)
    simp only [sq3, sq4]
    refine wpAnyH_take (i := 4) (v := ?_) rfl (by kernel_rfl) (by kernel_rfl) (by kernel_rfl) (fun _ _ _ h => h) (Or.inl ⟨by rfl, ?_⟩) hH ?_
    rotate_left
    · ((intro W hW; clear hW; go_simp) <;> with_reducible rfl)
    simp only [sq3, sq4]
    refine wpAnyH_ready (rs := [3, 11]) (by kernel_rfl) (by simp) ?_
    refine AllReadyH.cons (o := _) rfl (fun K hK => ?_) (AllReadyH.cons (o := _) rfl (fun K hK => ?_) AllReadyH.nil)
    rotate_left
    · simp only [sq3]
      rw [if_pos (by rfl)]
      refine wp_new_a 38 rfl #[.int .i64 0, .int .i64 0, .int .i64 0, .int .i64 0, .int .i64 0, .int .i64 0, .int .u8 0, .int .u8 0, .int .u8 0, .int .u8 0, .int .u8 0, .int .u8 0, .int .u8 0, .int .u8 0, .slice none 0 0, .slice none 0 0] (by kernel_rfl) ?_
      intro g14 w60 ge hh bb
      have ap_pB := hT.ap ge
      have d_fB_pB := ne_new (hlt hfB) ge
      have d_mB_pB := ne_new (hlt hmB) ge
      have opB := Nat.le_trans bel.size ge
      replace hfB := blk_u hfB bb
      replace hmB := blk_u hmB bb
      replace hT := hT.below bb
      replace ap_fB := ap_fB.below bb
      replace ap_mB := ap_mB.below bb
      replace ap_pB := ap_pB.below bb
      replace bel := bel.trans (bb.mono bel.size)
      have hpB := hh
      clear hh ge bb
      refine hK.out _ _ hfB (fun hH61 => ?_)
      clear hK K
      simp only [sq4]
      refine wpAnyH_ready (rs := [3]) (by kernel_rfl) (by simp) ?_
      refine AllReadyH.cons (o := _) rfl (fun K hK => ?_) AllReadyH.nil
      simp only [sq3]
      go_simp
      with_reducible refine (wan19 _).mono ?_
      rintro e w62 ⟨rfl, b62⟩
      dsimp only
      replace hfB := blk_u hfB b62
      replace hmB := blk_u hmB b62
      replace hpB := blk_u hpB b62
      replace hT := hT.below b62
      replace ap_fB := ap_fB.below b62
      replace ap_mB := ap_mB.below b62
      replace ap_pB := ap_pB.below b62
      replace bel := bel.trans (b62.mono bel.size)
      clear b62
      refine hK.out _ _ hfB (fun hH63 => ?_)
      clear hK K
      refine wpAnyH_ready (rs := [5]) (by kernel_rfl) (by simp) ?_
      refine AllReadyH.cons (o := _) rfl (fun K hK => ?_) AllReadyH.nil
      simp only [sq3]
      go_simp
      with_reducible refine (dg_wan m0 m1 m2 m3 port ou _ (portOk_of Hc5.out Hc6.out) (portOk_of (Int.le_trans (by decide) Hc1.out) Hc2.out)).mono ?_
      rintro e w64 ⟨Auo, cuo, Aub, cub, rfl, uo, ub, fuo, fub, b64⟩
      dsimp only
      have av_uo_fB := fuo.av (hlt hfB)
      have av_uo_mB := fuo.av (hlt hmB)
      have av_uo_pB := fuo.av (hlt hpB)
      have av_ub_fB := fub.av (hlt hfB)
      have av_ub_mB := fub.av (hlt hmB)
      have av_ub_pB := fub.av (hlt hpB)
      have an_uo := hT.an fuo
      have an_ub := hT.an fub
      replace hfB := blk_u hfB b64
      replace hmB := blk_u hmB b64
      replace hpB := blk_u hpB b64
      replace hT := hT.below b64
      replace ap_fB := ap_fB.below b64
      replace ap_mB := ap_mB.below b64
      replace ap_pB := ap_pB.below b64
      replace an_uo := an_uo.below b64
      replace an_ub := an_ub.below b64
      replace bel := bel.trans (b64.mono bel.size)
      clear b64
      replace uo : Sl w64 (Auo) (0) (cuo) ([]) := uo
      replace ub : Sl w64 (Aub) (9) (cub) (udBytes m0 m1 m2 m3 203 0 113 7 port ou [120]) := ub
      refine hK.out _ _ hfB (fun hH65 => ?_)
      clear hK K
      refine wpAnyH_ready (rs := [6]) (by kernel_rfl) (by simp) ?_
      refine AllReadyH.cons (o := _) rfl (fun K hK => ?_) AllReadyH.nil
      simp only [sq3]
      go_simp
      with_reducible refine (wan19 _).mono ?_
      rintro e w66 ⟨rfl, b66⟩
      dsimp only
      replace hfB := blk_u hfB b66
      replace hmB := blk_u hmB b66
      replace hpB := blk_u hpB b66
      replace uo := uo.below b66
      replace ub := ub.below b66
      replace hT := hT.below b66
      replace ap_fB := ap_fB.below b66
      replace ap_mB := ap_mB.below b66
      replace ap_pB := ap_pB.below b66
      replace an_uo := an_uo.below b66
      replace an_ub := an_ub.below b66
      replace bel := bel.trans (b66.mono bel.size)
      clear b66
      refine hK.out _ _ hfB (fun hH67 => ?_)
      clear hK K
      refine wpAnyH_ready (rs := [7]) (by kernel_rfl) (by simp) ?_
      refine AllReadyH.cons (o := _) rfl (fun K hK => ?_) AllReadyH.nil
      simp only [sq3]
      go_simp
      have lt_fB := hlt hfB
      have lt_mB := hlt hmB
      have lt_pB := hlt hpB
      with_reducible refine (z_i1 _ hT uo ub HKN.out Hc1.out Hc2.out Hc3.out Hc4.out Hc5.out Hc6.out).mono ?_
      rintro e w68 ⟨Apo, cpo, Apb, cpb, rfl, hT_, f_, bb, po, pb, an_po, an_pb, fpo, fpb⟩
      dsimp only
      have x_ := f_ _ _ _ _ hfB ap_fB
      replace hfB := x_.1
      replace ap_fB := x_.2
      clear x_
      have x_ := f_ _ _ _ _ hmB ap_mB
      replace hmB := x_.1
      replace ap_mB := x_.2
      clear x_
      have x_ := f_ _ _ _ _ hpB ap_pB
      replace hpB := x_.1
      replace ap_pB := x_.2
      clear x_
      have x_ := f_.sl uo an_uo
      replace uo := x_.1
      replace an_uo := x_.2
      clear x_
      have x_ := f_.sl ub an_ub
      replace ub := x_.1
      replace an_ub := x_.2
      clear x_
      clear hT
      have hT := hT_
      replace bel := bel.trans bb
      clear bb f_ hT_
      have av_po_fB := fpo.av lt_fB
      have av_po_mB := fpo.av lt_mB
      have av_po_pB := fpo.av lt_pB
      have av_pb_fB := fpb.av lt_fB
      have av_pb_mB := fpb.av lt_mB
      have av_pb_pB := fpb.av lt_pB
      clear lt_fB lt_mB lt_pB
      clear fpo fpb
      refine hK.out _ _ hfB (fun hH69 => ?_)
      clear hK K
      refine wpAnyH_take (i := 8) (v := ?_) rfl (by kernel_rfl) (by kernel_rfl) (by kernel_rfl) (fun _ _ _ h => h) (Or.inl ⟨by rfl, ?_⟩) hH69 ?_
      rotate_left
      · ((intro W hW; clear hW; go_simp) <;> with_reducible rfl)
      simp only [sq3, sq4]
      refine wpAnyH_take (i := 9) (v := ?_) rfl (by kernel_rfl) (by kernel_rfl) (by kernel_rfl) (fun _ _ _ h => h) (Or.inl ⟨by rfl, ?_⟩) hH69 ?_
      rotate_left
      · ((intro W hW; clear hW; go_simp) <;> with_reducible rfl)
      simp only [sq3, sq4]
      refine wpAnyH_take (i := 10) (v := ?_) rfl (by kernel_rfl) (by kernel_rfl) (by kernel_rfl) (fun _ _ _ h => h) (Or.inl ⟨by rfl, ?_⟩) hH69 ?_
      rotate_left
      · ((intro W hW; clear hW; go_simp) <;> with_reducible rfl)
      simp only [sq3, sq4]
      refine wpAnyH_ready (rs := [12]) (by kernel_rfl) (by simp) ?_
      refine AllReadyH.cons (o := _) rfl (fun K hK => ?_) AllReadyH.nil
      simp only [sq3]
      rw [if_pos (by rfl)]
      refine wp_store_blk 38 (.tmp 14) (.tmp 77) rfl g14 rfl _ rfl _ 38 hpB (by rfl) (by kernel_rfl) (by kernel_rfl) ?_
      intro w70 hq gr
      replace uo := uo.away av_uo_pB gr
      replace ub := ub.away av_ub_pB gr
      replace po := po.away av_po_pB gr
      replace pb := pb.away av_pb_pB gr
      replace hfB := blk_a hfB gr d_fB_pB
      replace hmB := blk_a hmB gr d_mB_pB
      replace hT := hT.away ap_pB gr hpB
      replace ap_fB := ap_fB.grown ap_pB gr
      replace ap_mB := ap_mB.grown ap_pB gr
      replace ap_pB := ap_pB.grown ap_pB gr
      replace an_uo := an_uo.grown ap_pB gr
      replace an_ub := an_ub.grown ap_pB gr
      replace an_po := an_po.grown ap_pB gr
      replace an_pb := an_pb.grown ap_pB gr
      replace bel := below_grown bel gr opB bel.size
      clear hpB
      have hpB := hq
      clear hq gr
      refine hK.out _ _ hfB (fun hH71 => ?_)
      clear hK K
      simp only [Act.put]
      refine wpAnyH_take (i := 13) (v := ?_) rfl (by kernel_rfl) (by kernel_rfl) (by kernel_rfl) (fun _ _ _ h => h) (Or.inl ⟨by rfl, ?_⟩) hH71 ?_
      rotate_left
      · ((intro W hW; clear hW; go_simp) <;> with_reducible rfl)
      simp only [sq3, sq4]
      refine wpAnyH_done (by kernel_rfl) ?_ _
      go_wp2_with fail
      go_meet
      case rel => exact ⟨g14, Auo, cuo, Aub, cub, Apo, cpo, Apb, cpb, rfl, rfl, hfB, hmB, hpB, opB, d_fB_mB, d_fB_pB, d_mB_pB, uo, av_uo_fB, av_uo_mB, av_uo_pB, ub, av_ub_fB, av_ub_mB, av_ub_pB, po, av_po_fB, av_po_mB, av_po_pB, pb, av_pb_fB, av_pb_mB, av_pb_pB, hT, ap_fB, ap_mB, an_uo, an_ub, an_po, an_pb, ap_pB, bel⟩
    simp only [sq3]
    go_simp
    with_reducible refine (wan19 _).mono ?_
    rintro e w60 ⟨rfl, b60⟩
    dsimp only
    replace hfB := blk_u hfB b60
    replace hmB := blk_u hmB b60
    replace hT := hT.below b60
    replace ap_fB := ap_fB.below b60
    replace ap_mB := ap_mB.below b60
    replace bel := bel.trans (b60.mono bel.size)
    clear b60
    refine hK.out _ _ hfB (fun hH61 => ?_)
    clear hK K
    refine wpAnyH_ready (rs := [5, 11]) (by kernel_rfl) (by simp) ?_
    refine AllReadyH.cons (o := _) rfl (fun K hK => ?_) (AllReadyH.cons (o := _) rfl (fun K hK => ?_) AllReadyH.nil)
    rotate_left
    · simp only [sq3]
      rw [if_pos (by rfl)]
      refine wp_new_a 38 rfl #[.int .i64 0, .int .i64 0, .int .i64 0, .int .i64 0, .int .i64 0, .int .i64 0, .int .u8 0, .int .u8 0, .int .u8 0, .int .u8 0, .int .u8 0, .int .u8 0, .int .u8 0, .int .u8 0, .slice none 0 0, .slice none 0 0] (by kernel_rfl) ?_
      intro g14 w62 ge hh bb
      have ap_pB := hT.ap ge
      have d_fB_pB := ne_new (hlt hfB) ge
      have d_mB_pB := ne_new (hlt hmB) ge
      have opB := Nat.le_trans bel.size ge
      replace hfB := blk_u hfB bb
      replace hmB := blk_u hmB bb
      replace hT := hT.below bb
      replace ap_fB := ap_fB.below bb
      replace ap_mB := ap_mB.below bb
      replace ap_pB := ap_pB.below bb
      replace bel := bel.trans (bb.mono bel.size)
      have hpB := hh
      clear hh ge bb
      refine hK.out _ _ hfB (fun hH63 => ?_)
      clear hK K
      simp only [sq4]
      refine wpAnyH_ready (rs := [5]) (by kernel_rfl) (by simp) ?_
      refine AllReadyH.cons (o := _) rfl (fun K hK => ?_) AllReadyH.nil
      simp only [sq3]
      go_simp
      with_reducible refine (dg_wan m0 m1 m2 m3 port ou _ (portOk_of Hc5.out Hc6.out) (portOk_of (Int.le_trans (by decide) Hc1.out) Hc2.out)).mono ?_
      rintro e w64 ⟨Auo, cuo, Aub, cub, rfl, uo, ub, fuo, fub, b64⟩
      dsimp only
      have av_uo_fB := fuo.av (hlt hfB)
      have av_uo_mB := fuo.av (hlt hmB)
      have av_uo_pB := fuo.av (hlt hpB)
      have av_ub_fB := fub.av (hlt hfB)
      have av_ub_mB := fub.av (hlt hmB)
      have av_ub_pB := fub.av (hlt hpB)
      have an_uo := hT.an fuo
      have an_ub := hT.an fub
      replace hfB := blk_u hfB b64
      replace hmB := blk_u hmB b64
      replace hpB := blk_u hpB b64
      replace hT := hT.below b64
      replace ap_fB := ap_fB.below b64
      replace ap_mB := ap_mB.below b64
      replace ap_pB := ap_pB.below b64
      replace an_uo := an_uo.below b64
      replace an_ub := an_ub.below b64
      replace bel := bel.trans (b64.mono bel.size)
      clear b64
      replace uo : Sl w64 (Auo) (0) (cuo) ([]) := uo
      replace ub : Sl w64 (Aub) (9) (cub) (udBytes m0 m1 m2 m3 203 0 113 7 port ou [120]) := ub
      refine hK.out _ _ hfB (fun hH65 => ?_)
      clear hK K
      refine wpAnyH_ready (rs := [6]) (by kernel_rfl) (by simp) ?_
      refine AllReadyH.cons (o := _) rfl (fun K hK => ?_) AllReadyH.nil
      simp only [sq3]
      go_simp
      with_reducible refine (wan19 _).mono ?_
      rintro e w66 ⟨rfl, b66⟩
      dsimp only
      replace hfB := blk_u hfB b66
      replace hmB := blk_u hmB b66
      replace hpB := blk_u hpB b66
      replace uo := uo.below b66
      replace ub := ub.below b66
      replace hT := hT.below b66
      replace ap_fB := ap_fB.below b66
      replace ap_mB := ap_mB.below b66
      replace ap_pB := ap_pB.below b66
      replace an_uo := an_uo.below b66
      replace an_ub := an_ub.below b66
      replace bel := bel.trans (b66.mono bel.size)
      clear b66
      refine hK.out _ _ hfB (fun hH67 => ?_)
      clear hK K
      refine wpAnyH_ready (rs := [7]) (by kernel_rfl) (by simp) ?_
      refine AllReadyH.cons (o := _) rfl (fun K hK => ?_) AllReadyH.nil
      simp only [sq3]
      go_simp
      have lt_fB := hlt hfB
      have lt_mB := hlt hmB
      have lt_pB := hlt hpB
      with_reducible refine (z_i1 _ hT uo ub HKN.out Hc1.out Hc2.out Hc3.out Hc4.out Hc5.out Hc6.out).mono ?_
      rintro e w68 ⟨Apo, cpo, Apb, cpb, rfl, hT_, f_, bb, po, pb, an_po, an_pb, fpo, fpb⟩
      dsimp only
      have x_ := f_ _ _ _ _ hfB ap_fB
      replace hfB := x_.1
      replace ap_fB := x_.2
      clear x_
      have x_ := f_ _ _ _ _ hmB ap_mB
      replace hmB := x_.1
      replace ap_mB := x_.2
      clear x_
      have x_ := f_ _ _ _ _ hpB ap_pB
      replace hpB := x_.1
      replace ap_pB := x_.2
      clear x_
      have x_ := f_.sl uo an_uo
      replace uo := x_.1
      replace an_uo := x_.2
      clear x_
      have x_ := f_.sl ub an_ub
      replace ub := x_.1
      replace an_ub := x_.2
      clear x_
      clear hT
      have hT := hT_
      replace bel := bel.trans bb
      clear bb f_ hT_
      have av_po_fB := fpo.av lt_fB
      have av_po_mB := fpo.av lt_mB
      have av_po_pB := fpo.av lt_pB
      have av_pb_fB := fpb.av lt_fB
      have av_pb_mB := fpb.av lt_mB
      have av_pb_pB := fpb.av lt_pB
      clear lt_fB lt_mB lt_pB
      clear fpo fpb
      refine hK.out _ _ hfB (fun hH69 => ?_)
      clear hK K
      refine wpAnyH_take (i := 8) (v := ?_) rfl (by kernel_rfl) (by kernel_rfl) (by kernel_rfl) (fun _ _ _ h => h) (Or.inl ⟨by rfl, ?_⟩) hH69 ?_
      rotate_left
      · ((intro W hW; clear hW; go_simp) <;> with_reducible rfl)
      simp only [sq3, sq4]
      refine wpAnyH_take (i := 9) (v := ?_) rfl (by kernel_rfl) (by kernel_rfl) (by kernel_rfl) (fun _ _ _ h => h) (Or.inl ⟨by rfl, ?_⟩) hH69 ?_
      rotate_left
      · ((intro W hW; clear hW; go_simp) <;> with_reducible rfl)
      simp only [sq3, sq4]
      refine wpAnyH_take (i := 10) (v := ?_) rfl (by kernel_rfl) (by kernel_rfl) (by kernel_rfl) (fun _ _ _ h => h) (Or.inl ⟨by rfl, ?_⟩) hH69 ?_
      rotate_left
      · ((intro W hW; clear hW; go_simp) <;> with_reducible rfl)
      simp only [sq3, sq4]
      refine wpAnyH_ready (rs := [12]) (by kernel_rfl) (by simp) ?_
      refine AllReadyH.cons (o := _) rfl (fun K hK => ?_) AllReadyH.nil
      simp only [sq3]
      rw [if_pos (by rfl)]
      refine wp_store_blk 38 (.tmp 14) (.tmp 77) rfl g14 rfl _ rfl _ 38 hpB (by rfl) (by kernel_rfl) (by kernel_rfl) ?_
      intro w70 hq gr
      replace uo := uo.away av_uo_pB gr
      replace ub := ub.away av_ub_pB gr
      replace po := po.away av_po_pB gr
      replace pb := pb.away av_pb_pB gr
      replace hfB := blk_a hfB gr d_fB_pB
      replace hmB := blk_a hmB gr d_mB_pB
      replace hT := hT.away ap_pB gr hpB
      replace ap_fB := ap_fB.grown ap_pB gr
      replace ap_mB := ap_mB.grown ap_pB gr
      replace ap_pB := ap_pB.grown ap_pB gr
      replace an_uo := an_uo.grown ap_pB gr
      replace an_ub := an_ub.grown ap_pB gr
      replace an_po := an_po.grown ap_pB gr
      replace an_pb := an_pb.grown ap_pB gr
      replace bel := below_grown bel gr opB bel.size
      clear hpB
      have hpB := hq
      clear hq gr
      refine hK.out _ _ hfB (fun hH71 => ?_)
      clear hK K
      simp only [Act.put]
      refine wpAnyH_take (i := 13) (v := ?_) rfl (by kernel_rfl) (by kernel_rfl) (by kernel_rfl) (fun _ _ _ h => h) (Or.inl ⟨by rfl, ?_⟩) hH71 ?_
      rotate_left
      · ((intro W hW; clear hW; go_simp) <;> with_reducible rfl)
      simp only [sq3, sq4]
      refine wpAnyH_done (by kernel_rfl) ?_ _
      go_wp2_with fail
      go_meet
      case rel => exact ⟨g14, Auo, cuo, Aub, cub, Apo, cpo, Apb, cpb, rfl, rfl, hfB, hmB, hpB, opB, d_fB_mB, d_fB_pB, d_mB_pB, uo, av_uo_fB, av_uo_mB, av_uo_pB, ub, av_ub_fB, av_ub_mB, av_ub_pB, po, av_po_fB, av_po_mB, av_po_pB, pb, av_pb_fB, av_pb_mB, av_pb_pB, hT, ap_fB, ap_mB, an_uo, an_ub, an_po, an_pb, ap_pB, bel⟩
    simp only [sq3]
    go_simp
    with_reducible refine (dg_wan m0 m1 m2 m3 port ou _ (portOk_of Hc5.out Hc6.out) (portOk_of (Int.le_trans (by decide) Hc1.out) Hc2.out)).mono ?_
    rintro e w62 ⟨Auo, cuo, Aub, cub, rfl, uo, ub, fuo, fub, b62⟩
    dsimp only
    have av_uo_fB := fuo.av (hlt hfB)
    have av_uo_mB := fuo.av (hlt hmB)
    have av_ub_fB := fub.av (hlt hfB)
    have av_ub_mB := fub.av (hlt hmB)
    have an_uo := hT.an fuo
    have an_ub := hT.an fub
    replace hfB := blk_u hfB b62
    replace hmB := blk_u hmB b62
    replace hT := hT.below b62
    replace ap_fB := ap_fB.below b62
    replace ap_mB := ap_mB.below b62
    replace an_uo := an_uo.below b62
    replace an_ub := an_ub.below b62
    replace bel := bel.trans (b62.mono bel.size)
    clear b62
    replace uo : Sl w62 (Auo) (0) (cuo) ([]) := uo
    replace ub : Sl w62 (Aub) (9) (cub) (udBytes m0 m1 m2 m3 203 0 113 7 port ou [120]) := ub
    refine hK.out _ _ hfB (fun hH63 => ?_)
    clear hK K
    refine wpAnyH_ready (rs := [6, 11]) (by kernel_rfl) (by simp) ?_
    refine AllReadyH.cons (o := _) rfl (fun K hK => ?_) (AllReadyH.cons (o := _) rfl (fun K hK => ?_) AllReadyH.nil)
    rotate_left
    · simp only [sq3]
      rw [if_pos (by rfl)]
      refine wp_new_a 38 rfl #[.int .i64 0, .int .i64 0, .int .i64 0, .int .i64 0, .int .i64 0, .int .i64 0, .int .u8 0, .int .u8 0, .int .u8 0, .int .u8 0, .int .u8 0, .int .u8 0, .int .u8 0, .int .u8 0, .slice none 0 0, .slice none 0 0] (by kernel_rfl) ?_
      intro g14 w64 ge hh bb
      have ap_pB := hT.ap ge
      have d_fB_pB := ne_new (hlt hfB) ge
      have d_mB_pB := ne_new (hlt hmB) ge
      have av_uo_pB := uo.av_new ge
      have av_ub_pB := ub.av_new ge
      have opB := Nat.le_trans bel.size ge
      replace hfB := blk_u hfB bb
      replace hmB := blk_u hmB bb
      replace uo := uo.below bb
      replace ub := ub.below bb
      replace hT := hT.below bb
      replace ap_fB := ap_fB.below bb
      replace ap_mB := ap_mB.below bb
      replace an_uo := an_uo.below bb
      replace an_ub := an_ub.below bb
      replace ap_pB := ap_pB.below bb
      replace bel := bel.trans (bb.mono bel.size)
      have hpB := hh
      clear hh ge bb
      refine hK.out _ _ hfB (fun hH65 => ?_)
      clear hK K
      simp only [sq4]
      refine wpAnyH_ready (rs := [6]) (by kernel_rfl) (by simp) ?_
      refine AllReadyH.cons (o := _) rfl (fun K hK => ?_) AllReadyH.nil
      simp only [sq3]
      go_simp
      with_reducible refine (wan19 _).mono ?_
      rintro e w66 ⟨rfl, b66⟩
      dsimp only
      replace hfB := blk_u hfB b66
      replace hmB := blk_u hmB b66
      replace hpB := blk_u hpB b66
      replace uo := uo.below b66
      replace ub := ub.below b66
      replace hT := hT.below b66
      replace ap_fB := ap_fB.below b66
      replace ap_mB := ap_mB.below b66
      replace an_uo := an_uo.below b66
      replace an_ub := an_ub.below b66
      replace ap_pB := ap_pB.below b66
      replace bel := bel.trans (b66.mono bel.size)
      clear b66
      refine hK.out _ _ hfB (fun hH67 => ?_)
      clear hK K
      refine wpAnyH_ready (rs := [7]) (by kernel_rfl) (by simp) ?_
      refine AllReadyH.cons (o := _) rfl (fun K hK => ?_) AllReadyH.nil
      simp only [sq3]
      go_simp
      have lt_fB := hlt hfB
      have lt_mB := hlt hmB
      have lt_pB := hlt hpB
      with_reducible refine (z_i1 _ hT uo ub HKN.out Hc1.out Hc2.out Hc3.out Hc4.out Hc5.out Hc6.out).mono ?_
      rintro e w68 ⟨Apo, cpo, Apb, cpb, rfl, hT_, f_, bb, po, pb, an_po, an_pb, fpo, fpb⟩
      dsimp only
      have x_ := f_ _ _ _ _ hfB ap_fB
      replace hfB := x_.1
      replace ap_fB := x_.2
      clear x_
      have x_ := f_ _ _ _ _ hmB ap_mB
      replace hmB := x_.1
      replace ap_mB := x_.2
      clear x_
      have x_ := f_ _ _ _ _ hpB ap_pB
      replace hpB := x_.1
      replace ap_pB := x_.2
      clear x_
      have x_ := f_.sl uo an_uo
      replace uo := x_.1
      replace an_uo := x_.2
      clear x_
      have x_ := f_.sl ub an_ub
      replace ub := x_.1
      replace an_ub := x_.2
      clear x_
      clear hT
      have hT := hT_
      replace bel := bel.trans bb
      clear bb f_ hT_
      have av_po_fB := fpo.av lt_fB
      have av_po_mB := fpo.av lt_mB
      have av_po_pB := fpo.av lt_pB
      have av_pb_fB := fpb.av lt_fB
      have av_pb_mB := fpb.av lt_mB
      have av_pb_pB := fpb.av lt_pB
      clear lt_fB lt_mB lt_pB
      clear fpo fpb
      refine hK.out _ _ hfB (fun hH69 => ?_)
      clear hK K
      refine wpAnyH_take (i := 8) (v := ?_) rfl (by kernel_rfl) (by kernel_rfl) (by kernel_rfl) (fun _ _ _ h => h) (Or.inl ⟨by rfl, ?_⟩) hH69 ?_
      rotate_left
      · ((intro W hW; clear hW; go_simp) <;> with_reducible rfl)
      simp only [sq3, sq4]
      refine wpAnyH_take (i := 9) (v := ?_) rfl (by kernel_rfl) (by kernel_rfl) (by kernel_rfl) (fun _ _ _ h => h) (Or.inl ⟨by rfl, ?_⟩) hH69 ?_
      rotate_left
      · ((intro W hW; clear hW; go_simp) <;> with_reducible rfl)
      simp only [sq3, sq4]
      refine wpAnyH_take (i := 10) (v := ?_) rfl (by kernel_rfl) (by kernel_rfl) (by kernel_rfl) (fun _ _ _ h => h) (Or.inl ⟨by rfl, ?_⟩) hH69 ?_
      rotate_left
      · ((intro W hW; clear hW; go_simp) <;> with_reducible rfl)
      simp only [sq3, sq4]
      refine wpAnyH_ready (rs := [12]) (by kernel_rfl) (by simp) ?_
      refine AllReadyH.cons (o := _) rfl (fun K hK => ?_) AllReadyH.nil
      simp only [sq3]
      rw [if_pos (by rfl)]
      refine wp_store_blk 38 (.tmp 14) (.tmp 77) rfl g14 rfl _ rfl _ 38 hpB (by rfl) (by kernel_rfl) (by kernel_rfl) ?_
      intro w70 hq gr
      replace uo := uo.away av_uo_pB gr
      replace ub := ub.away av_ub_pB gr
      replace po := po.away av_po_pB gr
      replace pb := pb.away av_pb_pB gr
      replace hfB := blk_a hfB gr d_fB_pB
      replace hmB := blk_a hmB gr d_mB_pB
      replace hT := hT.away ap_pB gr hpB
      replace ap_fB := ap_fB.grown ap_pB gr
      replace ap_mB := ap_mB.grown ap_pB gr
      replace an_uo := an_uo.grown ap_pB gr
      replace an_ub := an_ub.grown ap_pB gr
      replace ap_pB := ap_pB.grown ap_pB gr
      replace an_po := an_po.grown ap_pB gr
      replace an_pb := an_pb.grown ap_pB gr
      replace bel := below_grown bel gr opB bel.size
      clear hpB
      have hpB := hq
      clear hq gr
      refine hK.out _ _ hfB (fun hH71 => ?_)
      clear hK K
      simp only [Act.put]
      refine wpAnyH_take (i := 13) (v := ?_) rfl (by kernel_rfl) (by kernel_rfl) (by kernel_rfl) (fun _ _ _ h => h) (Or.inl ⟨by rfl, ?_⟩) hH71 ?_
      rotate_left
      · ((intro W hW; clear hW; go_simp) <;> with_reducible rfl)
      simp only [sq3, sq4]
      refine wpAnyH_done (by kernel_rfl) ?_ _
      go_wp2_with fail
      go_meet
      case rel => exact ⟨g14, Auo, cuo, Aub, cub, Apo, cpo, Apb, cpb, rfl, rfl, hfB, hmB, hpB, opB, d_fB_mB, d_fB_pB, d_mB_pB, uo, av_uo_fB, av_uo_mB, av_uo_pB, ub, av_ub_fB, av_ub_mB, av_ub_pB, po, av_po_fB, av_po_mB, av_po_pB, pb, av_pb_fB, av_pb_mB, av_pb_pB, hT, ap_fB, ap_mB, an_uo, an_ub, an_po, an_pb, ap_pB, bel⟩
    simp only [sq3]
    go_simp
    with_reducible refine (wan19 _).mono ?_
    rintro e w64 ⟨rfl, b64⟩
    dsimp only
    replace hfB := blk_u hfB b64
    replace hmB := blk_u hmB b64
    replace uo := uo.below b64
    replace ub := ub.below b64
    replace hT := hT.below b64
    replace ap_fB := ap_fB.below b64
    replace ap_mB := ap_mB.below b64
    replace an_uo := an_uo.below b64
    replace an_ub := an_ub.below b64
    replace bel := bel.trans (b64.mono bel.size)
    clear b64
    refine hK.out _ _ hfB (fun hH65 => ?_)
    clear hK K
    refine wpAnyH_ready (rs := [7, 11]) (by kernel_rfl) (by simp) ?_
    refine AllReadyH.cons (o := _) rfl (fun K hK => ?_) (AllReadyH.cons (o := _) rfl (fun K hK => ?_) AllReadyH.nil)
    · simp only [sq3]
      go_simp
      have lt_fB := hlt hfB
      have lt_mB := hlt hmB
      with_reducible refine (z_i1 _ hT uo ub HKN.out Hc1.out Hc2.out Hc3.out Hc4.out Hc5.out Hc6.out).mono ?_
      rintro e w66 ⟨Apo, cpo, Apb, cpb, rfl, hT_, f_, bb, po, pb, an_po, an_pb, fpo, fpb⟩
      dsimp only
      have x_ := f_ _ _ _ _ hfB ap_fB
      replace hfB := x_.1
      replace ap_fB := x_.2
      clear x_
      have x_ := f_ _ _ _ _ hmB ap_mB
      replace hmB := x_.1
      replace ap_mB := x_.2
      clear x_
      have x_ := f_.sl uo an_uo
      replace uo := x_.1
      replace an_uo := x_.2
      clear x_
      have x_ := f_.sl ub an_ub
      replace ub := x_.1
      replace an_ub := x_.2
      clear x_
      clear hT
      have hT := hT_
      replace bel := bel.trans bb
      clear bb f_ hT_
      have av_po_fB := fpo.av lt_fB
      have av_po_mB := fpo.av lt_mB
      have av_pb_fB := fpb.av lt_fB
      have av_pb_mB := fpb.av lt_mB
      clear lt_fB lt_mB
      clear fpo fpb
      refine hK.out _ _ hfB (fun hH67 => ?_)
      clear hK K
      refine wpAnyH_take (i := 8) (v := ?_) rfl (by kernel_rfl) (by kernel_rfl) (by kernel_rfl) (fun _ _ _ h => h) (Or.inl ⟨by rfl, ?_⟩) hH67 ?_
      rotate_left
      · ((intro W hW; clear hW; go_simp) <;> with_reducible rfl)
      simp only [sq3, sq4]
      refine wpAnyH_take (i := 9) (v := ?_) rfl (by kernel_rfl) (by kernel_rfl) (by kernel_rfl) (fun _ _ _ h => h) (Or.inl ⟨by rfl, ?_⟩) hH67 ?_
      rotate_left
      · ((intro W hW; clear hW; go_simp) <;> with_reducible rfl)
      simp only [sq3, sq4]
      refine wpAnyH_take (i := 10) (v := ?_) rfl (by kernel_rfl) (by kernel_rfl) (by kernel_rfl) (fun _ _ _ h => h) (Or.inl ⟨by rfl, ?_⟩) hH67 ?_
      rotate_left
      · ((intro W hW; clear hW; go_simp) <;> with_reducible rfl)
      simp only [sq3, sq4]
      refine wpAnyH_ready (rs := [11]) (by kernel_rfl) (by simp) ?_
      refine AllReadyH.cons (o := _) rfl (fun K hK => ?_) AllReadyH.nil
      simp only [sq3]
      rw [if_pos (by rfl)]
      refine wp_new_a 38 rfl #[.int .i64 0, .int .i64 0, .int .i64 0, .int .i64 0, .int .i64 0, .int .i64 0, .int .u8 0, .int .u8 0, .int .u8 0, .int .u8 0, .int .u8 0, .int .u8 0, .int .u8 0, .int .u8 0, .slice none 0 0, .slice none 0 0] (by kernel_rfl) ?_
      intro g14 w68 ge hh bb
      have ap_pB := hT.ap ge
      have d_fB_pB := ne_new (hlt hfB) ge
      have d_mB_pB := ne_new (hlt hmB) ge
      have av_uo_pB := uo.av_new ge
      have av_ub_pB := ub.av_new ge
      have av_po_pB := po.av_new ge
      have av_pb_pB := pb.av_new ge
      have opB := Nat.le_trans bel.size ge
      replace hfB := blk_u hfB bb
      replace hmB := blk_u hmB bb
      replace uo := uo.below bb
      replace ub := ub.below bb
      replace po := po.below bb
      replace pb := pb.below bb
      replace hT := hT.below bb
      replace ap_fB := ap_fB.below bb
      replace ap_mB := ap_mB.below bb
      replace an_uo := an_uo.below bb
      replace an_ub := an_ub.below bb
      replace an_po := an_po.below bb
      replace an_pb := an_pb.below bb
      replace ap_pB := ap_pB.below bb
      replace bel := bel.trans (bb.mono bel.size)
      have hpB := hh
      clear hh ge bb
      refine hK.out _ _ hfB (fun hH69 => ?_)
      clear hK K
      simp only [sq4]
      refine wpAnyH_ready (rs := [12]) (by kernel_rfl) (by simp) ?_
      refine AllReadyH.cons (o := _) rfl (fun K hK => ?_) AllReadyH.nil
      simp only [sq3]
      rw [if_pos (by rfl)]
      refine wp_store_blk 38 (.tmp 14) (.tmp 77) rfl g14 rfl _ rfl _ 38 hpB (by rfl) (by kernel_rfl) (by kernel_rfl) ?_
      intro w70 hq gr
      replace uo := uo.away av_uo_pB gr
      replace ub := ub.away av_ub_pB gr
      replace po := po.away av_po_pB gr
      replace pb := pb.away av_pb_pB gr
      replace hfB := blk_a hfB gr d_fB_pB
      replace hmB := blk_a hmB gr d_mB_pB
      replace hT := hT.away ap_pB gr hpB
      replace ap_fB := ap_fB.grown ap_pB gr
      replace ap_mB := ap_mB.grown ap_pB gr
      replace an_uo := an_uo.grown ap_pB gr
      replace an_ub := an_ub.grown ap_pB gr
      replace an_po := an_po.grown ap_pB gr
      replace an_pb := an_pb.grown ap_pB gr
      replace ap_pB := ap_pB.grown ap_pB gr
      replace bel := below_grown bel gr opB bel.size
      clear hpB
      have hpB := hq
      clear hq gr
      refine hK.out _ _ hfB (fun hH71 => ?_)
      clear hK K
      simp only [Act.put]
      refine wpAnyH_take (i := 13) (v := ?_) rfl (by kernel_rfl) (by kernel_rfl) (by kernel_rfl) (fun _ _ _ h => h) (Or.inl ⟨by rfl, ?_⟩) hH71 ?_
      rotate_left
      · ((intro W hW; clear hW; go_simp) <;> with_reducible rfl)
      simp only [sq3, sq4]
      refine wpAnyH_done (by kernel_rfl) ?_ _
      go_wp2_with fail
      go_meet
      case rel => exact ⟨g14, Auo, cuo, Aub, cub, Apo, cpo, Apb, cpb, rfl, rfl, hfB, hmB, hpB, opB, d_fB_mB, d_fB_pB, d_mB_pB, uo, av_uo_fB, av_uo_mB, av_uo_pB, ub, av_ub_fB, av_ub_mB, av_ub_pB, po, av_po_fB, av_po_mB, av_po_pB, pb, av_pb_fB, av_pb_mB, av_pb_pB, hT, ap_fB, ap_mB, an_uo, an_ub, an_po, an_pb, ap_pB, bel⟩
    simp only [sq3]
    rw [if_pos (by rfl)]
    refine wp_new_a 38 rfl #[.int .i64 0, .int .i64 0, .int .i64 0, .int .i64 0, .int .i64 0, .int .i64 0, .int .u8 0, .int .u8 0, .int .u8 0, .int .u8 0, .int .u8 0, .int .u8 0, .int .u8 0, .int .u8 0, .slice none 0 0, .slice none 0 0] (by kernel_rfl) ?_
    intro g14 w66 ge hh bb
    have ap_pB := hT.ap ge
    have d_fB_pB := ne_new (hlt hfB) ge
    have d_mB_pB := ne_new (hlt hmB) ge
    have av_uo_pB := uo.av_new ge
    have av_ub_pB := ub.av_new ge
    have opB := Nat.le_trans bel.size ge
    replace hfB := blk_u hfB bb
    replace hmB := blk_u hmB bb
    replace uo := uo.below bb
    replace ub := ub.below bb
    replace hT := hT.below bb
    replace ap_fB := ap_fB.below bb
    replace ap_mB := ap_mB.below bb
    replace an_uo := an_uo.below bb
    replace an_ub := an_ub.below bb
    replace ap_pB := ap_pB.below bb
    replace bel := bel.trans (bb.mono bel.size)
    have hpB := hh
    clear hh ge bb
    refine hK.out _ _ hfB (fun hH67 => ?_)
    clear hK K
    simp only [sq4]
    refine wpAnyH_ready (rs := [7]) (by kernel_rfl) (by simp) ?_
    refine AllReadyH.cons (o := _) rfl (fun K hK => ?_) AllReadyH.nil
    simp only [sq3]
    go_simp
    have lt_fB := hlt hfB
    have lt_mB := hlt hmB
    have lt_pB := hlt hpB
    with_reducible refine (z_i1 _ hT uo ub HKN.out Hc1.out Hc2.out Hc3.out Hc4.out Hc5.out Hc6.out).mono ?_
    rintro e w68 ⟨Apo, cpo, Apb, cpb, rfl, hT_, f_, bb, po, pb, an_po, an_pb, fpo, fpb⟩
    dsimp only
    have x_ := f_ _ _ _ _ hfB ap_fB
    replace hfB := x_.1
    replace ap_fB := x_.2
    clear x_
    have x_ := f_ _ _ _ _ hmB ap_mB
    replace hmB := x_.1
    replace ap_mB := x_.2
    clear x_
    have x_ := f_ _ _ _ _ hpB ap_pB
    replace hpB := x_.1
    replace ap_pB := x_.2
    clear x_
    have x_ := f_.sl uo an_uo
    replace uo := x_.1
    replace an_uo := x_.2
    clear x_
    have x_ := f_.sl ub an_ub
    replace ub := x_.1
    replace an_ub := x_.2
    clear x_
    clear hT
    have hT := hT_
    replace bel := bel.trans bb
    clear bb f_ hT_
    have av_po_fB := fpo.av lt_fB
    have av_po_mB := fpo.av lt_mB
    have av_po_pB := fpo.av lt_pB
    have av_pb_fB := fpb.av lt_fB
    have av_pb_mB := fpb.av lt_mB
    have av_pb_pB := fpb.av lt_pB
    clear lt_fB lt_mB lt_pB
    clear fpo fpb
    refine hK.out _ _ hfB (fun hH69 => ?_)
    clear hK K
    refine wpAnyH_take (i := 8) (v := ?_) rfl (by kernel_rfl) (by kernel_rfl) (by kernel_rfl) (fun _ _ _ h => h) (Or.inl ⟨by rfl, ?_⟩) hH69 ?_
    rotate_left
    · ((intro W hW; clear hW; go_simp) <;> with_reducible rfl)
    simp only [sq3, sq4]
    refine wpAnyH_take (i := 9) (v := ?_) rfl (by kernel_rfl) (by kernel_rfl) (by kernel_rfl) (fun _ _ _ h => h) (Or.inl ⟨by rfl, ?_⟩) hH69 ?_
    rotate_left
    · ((intro W hW; clear hW; go_simp) <;> with_reducible rfl)
    simp only [sq3, sq4]
    refine wpAnyH_take (i := 10) (v := ?_) rfl (by kernel_rfl) (by kernel_rfl) (by kernel_rfl) (fun _ _ _ h => h) (Or.inl ⟨by rfl, ?_⟩) hH69 ?_
    rotate_left
    · ((intro W hW; clear hW; go_simp) <;> with_reducible rfl)
    simp only [sq3, sq4]
    refine wpAnyH_ready (rs := [12]) (by kernel_rfl) (by simp) ?_
    refine AllReadyH.cons (o := _) rfl (fun K hK => ?_) AllReadyH.nil
    simp only [sq3]
    rw [if_pos (by rfl)]
    refine wp_store_blk 38 (.tmp 14) (.tmp 77) rfl g14 rfl _ rfl _ 38 hpB (by rfl) (by kernel_rfl) (by kernel_rfl) ?_
    intro w70 hq gr
    replace uo := uo.away av_uo_pB gr
    replace ub := ub.away av_ub_pB gr
    replace po := po.away av_po_pB gr
    replace pb := pb.away av_pb_pB gr
    replace hfB := blk_a hfB gr d_fB_pB
    replace hmB := blk_a hmB gr d_mB_pB
    replace hT := hT.away ap_pB gr hpB
    replace ap_fB := ap_fB.grown ap_pB gr
    replace ap_mB := ap_mB.grown ap_pB gr
    replace an_uo := an_uo.grown ap_pB gr
    replace an_ub := an_ub.grown ap_pB gr
    replace ap_pB := ap_pB.grown ap_pB gr
    replace an_po := an_po.grown ap_pB gr
    replace an_pb := an_pb.grown ap_pB gr
    replace bel := below_grown bel gr opB bel.size
    clear hpB
    have hpB := hq
    clear hq gr
    refine hK.out _ _ hfB (fun hH71 => ?_)
    clear hK K
    simp only [Act.put]
    refine wpAnyH_take (i := 13) (v := ?_) rfl (by kernel_rfl) (by kernel_rfl) (by kernel_rfl) (fun _ _ _ h => h) (Or.inl ⟨by rfl, ?_⟩) hH71 ?_
    rotate_left
    · ((intro W hW; clear hW; go_simp) <;> with_reducible rfl)
    simp only [sq3, sq4]
    refine wpAnyH_done (by kernel_rfl) ?_ _
    go_wp2_with fail
    go_meet
    case rel => exact ⟨g14, Auo, cuo, Aub, cub, Apo, cpo, Apb, cpb, rfl, rfl, hfB, hmB, hpB, opB, d_fB_mB, d_fB_pB, d_mB_pB, uo, av_uo_fB, av_uo_mB, av_uo_pB, ub, av_ub_fB, av_ub_mB, av_ub_pB, po, av_po_fB, av_po_mB, av_po_pB, pb, av_pb_fB, av_pb_mB, av_pb_pB, hT, ap_fB, ap_mB, an_uo, an_ub, an_po, an_pb, ap_pB, bel⟩
  obtain ⟨w72, hw_⟩ : ∃ x, x = wc := ⟨_, rfl⟩
  subst hw_
  obtain ⟨g14, Auo, cuo, Aub, cub, Apo, cpo, Apb, cpb, rfl, rfl, hfB, hmB, hpB, opB, d_fB_mB, d_fB_pB, d_mB_pB, uo, av_uo_fB, av_uo_mB, av_uo_pB, ub, av_ub_fB, av_ub_mB, av_ub_pB, po, av_po_fB, av_po_mB, av_po_pB, pb, av_pb_fB, av_pb_mB, av_pb_pB, hT, ap_fB, ap_mB, an_uo, an_ub, an_po, an_pb, ap_pB, bel⟩ := hcut
  have R80 := Lib.hid (range_lit hpB 0 16 [.int .i64 0, .int .i64 0, .int .i64 0, .int .i64 0, .int .i64 64, .int .i64 17, .int .u8 (m0.toNat : Int), .int .u8 (m1.toNat : Int), .int .u8 (m2.toNat : Int), .int .u8 (m3.toNat : Int), .int .u8 10, .int .u8 0, .int .u8 0, .int .u8 ((byteOf 9).toNat : Int), .slice Apo 0 cpo, .slice Apb 9 cpb] rfl)
  go_wp2_with (first | ((with_reducible show wpList _ _ _ (⟨some 80, _, _, _, _, _⟩ :: _) _ _); refine wpList_load_rng 38 (.tmp 14) rfl (by kernel_rfl) _ _ rfl _ R80.out _ Tryz.underlying38 rfl (by kernel_rfl) ?_))
  try clear R80
  with_reducible refine (z_g _ pb Hc3.out Hc4.out Hc5.out Hc6.out).mono ?_
  rintro e w73 ⟨Agd, cgd, rfl, gd, fgd, b73⟩
  have av_gd_fB := fgd.av (hlt hfB)
  have av_gd_mB := fgd.av (hlt hmB)
  have av_gd_pB := fgd.av (hlt hpB)
  have an_gd := hT.an fgd
  replace hfB := blk_u hfB b73
  replace hmB := blk_u hmB b73
  replace hpB := blk_u hpB b73
  replace uo := uo.below b73
  replace ub := ub.below b73
  replace po := po.below b73
  replace pb := pb.below b73
  replace hT := hT.below b73
  replace ap_fB := ap_fB.below b73
  replace ap_mB := ap_mB.below b73
  replace an_uo := an_uo.below b73
  replace an_ub := an_ub.below b73
  replace an_po := an_po.below b73
  replace an_pb := an_pb.below b73
  replace ap_pB := ap_pB.below b73
  replace an_gd := an_gd.below b73
  replace bel := bel.trans (b73.mono bel.size)
  clear b73
  replace gd : Sl w73 (Agd) (1) (cgd) ([120]) := gd
  go_wp2_with (first | ((with_reducible show wpList _ _ _ (⟨some 16, _, _, _, _, _⟩ :: _) _ _); refine wpList_new_a rfl 54 rfl #[.int .i64 0, .int .i64 0, .slice none 0 0] (by kernel_rfl) ?_; intro g16 w74 ge hh bb; have ap_dB := hT.ap ge; have d_fB_dB := ne_new (hlt hfB) ge; have d_mB_dB := ne_new (hlt hmB) ge; have d_pB_dB := ne_new (hlt hpB) ge; have av_uo_dB := uo.av_new ge; have av_ub_dB := ub.av_new ge; have av_po_dB := po.av_new ge; have av_pb_dB := pb.av_new ge; have av_gd_dB := gd.av_new ge; have odB := Nat.le_trans bel.size ge; replace hfB := blk_u hfB bb; replace hmB := blk_u hmB bb; replace hpB := blk_u hpB bb; replace uo := uo.below bb; replace ub := ub.below bb; replace po := po.below bb; replace pb := pb.below bb; replace gd := gd.below bb; replace hT := hT.below bb; replace ap_fB := ap_fB.below bb; replace ap_mB := ap_mB.below bb; replace an_uo := an_uo.below bb; replace an_ub := an_ub.below bb; replace an_po := an_po.below bb; replace an_pb := an_pb.below bb; replace ap_pB := ap_pB.below bb; replace an_gd := an_gd.below bb; replace ap_dB := ap_dB.below bb; replace bel := bel.trans (bb.mono bel.size); have hdB := hh; clear hh ge bb) | ((with_reducible show wpList _ _ _ (⟨none, Op.store _ (.tmp 16) _, _, _, _, _⟩ :: _) _ _); refine wpList_store_blk rfl 54 (.tmp 16) (.tmp 82) rfl g16 rfl _ rfl _ 54 hdB (by rfl) (by kernel_rfl) (by kernel_rfl) ?_; intro w75 hq gr; replace uo := uo.away av_uo_dB gr; replace ub := ub.away av_ub_dB gr; replace po := po.away av_po_dB gr; replace pb := pb.away av_pb_dB gr; replace gd := gd.away av_gd_dB gr; replace hfB := blk_a hfB gr d_fB_dB; replace hmB := blk_a hmB gr d_mB_dB; replace hpB := blk_a hpB gr d_pB_dB; replace hT := hT.away ap_dB gr hdB; replace ap_fB := ap_fB.grown ap_dB gr; replace ap_mB := ap_mB.grown ap_dB gr; replace an_uo := an_uo.grown ap_dB gr; replace an_ub := an_ub.grown ap_dB gr; replace an_po := an_po.grown ap_dB gr; replace an_pb := an_pb.grown ap_dB gr; replace ap_pB := ap_pB.grown ap_dB gr; replace an_gd := an_gd.grown ap_dB gr; replace ap_dB := ap_dB.grown ap_dB gr; replace bel := below_grown bel gr odB bel.size; clear hdB; have hdB := hq; clear hq gr))
  go_cut [19] from 9999 (fun s19 W => ∃ g18 : Nat, ∃ Avo : Option Addr, ∃ cvo : Nat, ∃ Avb : Option Addr, ∃ cvb : Nat, s19 = .int .i64 6 ∧ W.heap[g7]? = some (.cells #[.int .u8 (m0.toNat : Int), .int .u8 (m1.toNat : Int), .int .u8 (m2.toNat : Int), .int .u8 (m3.toNat : Int)] 35 (0, 0)) ∧ W.heap[g13]? = some (.cells #[.int .i64 17, .int .i64 ou, .int .u8 10, .int .u8 0, .int .u8 0, .int .u8 ((byteOf 9).toNat : Int), .int .i64 inn, .int .i64 kd, .int .i64 un] 65 (0, 0)) ∧ W.heap[g14]? = some (.cells #[.int .i64 0, .int .i64 0, .int .i64 0, .int .i64 0, .int .i64 64, .int .i64 17, .int .u8 (m0.toNat : Int), .int .u8 (m1.toNat : Int), .int .u8 (m2.toNat : Int), .int .u8 (m3.toNat : Int), .int .u8 10, .int .u8 0, .int .u8 0, .int .u8 ((byteOf 9).toNat : Int), .slice Apo 0 cpo, .slice Apb 9 cpb] 38 (0, 0)) ∧ W.heap[g16]? = some (.cells #[.int .i64 port, .int .i64 inn, .slice Agd 1 cgd] 54 (0, 0)) ∧ W.heap[g18]? = some (.cells #[.int .i64 0, .int .i64 0, .int .i64 0, .int .i64 0, .int .i64 0, .int .i64 0, .int .u8 0, .int .u8 0, .int .u8 0, .int .u8 0, .int .u8 0, .int .u8 0, .int .u8 0, .int .u8 0, .slice none 0 0, .slice none 0 0] 38 (0, 0)) ∧ w.heap.size ≤ g18 ∧ Hid (g16 ≠ g7) ∧ Hid (g16 ≠ g13) ∧ Hid (g16 ≠ g14) ∧ Hid (g16 ≠ g18) ∧ Hid (g7 ≠ g13) ∧ Hid (g7 ≠ g14) ∧ Hid (g7 ≠ g18) ∧ Hid (g13 ≠ g14) ∧ Hid (g13 ≠ g18) ∧ Hid (g14 ≠ g18) ∧ Sl W (Auo) (0) (cuo) ([]) ∧ Av (Auo) (0) g16 ∧ Av (Auo) (0) g7 ∧ Av (Auo) (0) g13 ∧ Av (Auo) (0) g14 ∧ Av (Auo) (0) g18 ∧ Sl W (Aub) (9) (cub) (udBytes m0 m1 m2 m3 203 0 113 7 port ou [120]) ∧ Av (Aub) (9) g16 ∧ Av (Aub) (9) g7 ∧ Av (Aub) (9) g13 ∧ Av (Aub) (9) g14 ∧ Av (Aub) (9) g18 ∧ Sl W (Apo) (0) (cpo) ([]) ∧ Av (Apo) (0) g16 ∧ Av (Apo) (0) g7 ∧ Av (Apo) (0) g13 ∧ Av (Apo) (0) g14 ∧ Av (Apo) (0) g18 ∧ Sl W (Apb) (9) (cpb) (udBytes m0 m1 m2 m3 10 0 0 (byteOf 9) port inn [120]) ∧ Av (Apb) (9) g16 ∧ Av (Apb) (9) g7 ∧ Av (Apb) (9) g13 ∧ Av (Apb) (9) g14 ∧ Av (Apb) (9) g18 ∧ Sl W (Agd) (1) (cgd) ([120]) ∧ Av (Agd) (1) g16 ∧ Av (Agd) (1) g7 ∧ Av (Agd) (1) g13 ∧ Av (Agd) (1) g14 ∧ Av (Agd) (1) g18 ∧ Sl W (Avo) (0) (cvo) ([]) ∧ Av (Avo) (0) g16 ∧ Av (Avo) (0) g7 ∧ Av (Avo) (0) g13 ∧ Av (Avo) (0) g14 ∧ Av (Avo) (0) g18 ∧ Sl W (Avb) (9) (cvb) (udBytes m0 m1 m2 m3 203 0 113 7 port o2 [120]) ∧ Av (Avb) (9) g16 ∧ Av (Avb) (9) g7 ∧ Av (Avb) (9) g13 ∧ Av (Avb) (9) g14 ∧ Av (Avb) (9) g18 ∧ Np w.heap.size gn gt gk W (zS ou inn kd 50 un) nK0 ∧ Anp gn gt gk W g7 ∧ Anp gn gt gk W g13 ∧ An gn gt gk W (Auo) (0) ∧ An gn gt gk W (Aub) (9) ∧ An gn gt gk W (Apo) (0) ∧ An gn gt gk W (Apb) (9) ∧ Anp gn gt gk W g14 ∧ An gn gt gk W (Agd) (1) ∧ Anp gn gt gk W g16 ∧ An gn gt gk W (Avo) (0) ∧ An gn gt gk W (Avb) (9) ∧ Anp gn gt gk W g18 ∧ Below w.heap.size w W)
  case first =>
    replace bel := bel.drew
    replace hfB : w75.drew.heap[g7]? = _ := hfB
    replace hmB : w75.drew.heap[g13]? = _ := hmB
    replace hpB : w75.drew.heap[g14]? = _ := hpB
    replace hdB : w75.drew.heap[g16]? = _ := hdB
    replace uo := uo.drew
    replace ub := ub.drew
    replace po := po.drew
    replace pb := pb.drew
    replace gd := gd.drew
    replace hT := np_drew hT
    replace ap_fB := anp_drew ap_fB
    replace ap_mB := anp_drew ap_mB
    replace an_uo := an_drew an_uo
    replace an_ub := an_drew an_ub
    replace an_po := an_drew an_po
    replace an_pb := an_drew an_pb
    replace ap_pB := anp_drew ap_pB
    replace an_gd := an_drew an_gd
    replace ap_dB := anp_drew ap_dB
    refine wp_region_held_drew (S := fun W => W.heap[g7]? = some (.cells #[.int .u8 (m0.toNat : Int), .int .u8 (m1.toNat : Int), .int .u8 (m2.toNat : Int), .int .u8 (m3.toNat : Int)] 35 (0, 0))) (by kernel_rfl) hfB (fun hH => ?_)
    generalize w75.drew = w76 at bel hfB hmB hpB hdB uo ub po pb gd hT ap_fB ap_mB an_uo an_ub an_po an_pb ap_pB an_gd ap_dB hH ⊢
    refine wpAnyH_take (i := 0) (v := ?_) rfl (by kernel_rfl) (by kernel_rfl) (by kernel_rfl) (fun _ _ _ h => h) (Or.inl ⟨by rfl, ?_⟩) hH ?_
    rotate_left
    · ((intro W hW; clear hW; go_simp) <;> with_reducible rfl)
    simp only [Act.put, List.getElem_toArray, List.getElem_cons_zero, List.setIfInBounds_toArray, List.set_cons_zero, List.set_cons_succ]
    refine wpAnyH_take (i := 1) (v := .agg #[.int .u8 (m0.toNat : Int), .int .u8 (m1.toNat : Int), .int .u8 (m2.toNat : Int), .int .u8 (m3.toNat : Int)]) rfl (by kernel_rfl) (by kernel_rfl) (by kernel_rfl) (fun _ _ _ h => h) (yieldsIf_load_part (by kernel_rfl) 35 _ rfl g7 0 4 rfl _ 35 (0, 0) (fun W hW => hW) _ rfl _ Tryz.underlying35 rfl (by kernel_rfl)) hH ?_
    simp only [sq3, sq4]
    refine wpAnyH_take (i := 2) (v := ?_) rfl (by kernel_rfl) (by kernel_rfl) (by kernel_rfl) (fun _ _ _ h => h) (Or.inl ⟨by rfl, ?_⟩) hH ?_
    rotate_left
    · ((intro W hW; clear hW; go_simp) <;> with_reducible rfl)
    simp only [sq3, sq4]
    refine wpAnyH_take (i := 4) (v := ?_) rfl (by kernel_rfl) (by kernel_rfl) (by kernel_rfl) (fun _ _ _ h => h) (Or.inl ⟨by rfl, ?_⟩) hH ?_
    rotate_left
    · ((intro W hW; clear hW; go_simp) <;> with_reducible rfl)
    simp only [sq3, sq4]
    refine wpAnyH_take (i := 5) (v := ?_) rfl (by kernel_rfl) (by kernel_rfl) (by kernel_rfl) (fun _ _ _ h => h) (Or.inl ⟨by rfl, ?_⟩) hH ?_
    rotate_left
    · ((intro W hW; clear hW; go_simp) <;> with_reducible rfl)
    simp only [sq3, sq4]
    refine wpAnyH_take (i := 6) (v := ?_) rfl (by kernel_rfl) (by kernel_rfl) (by kernel_rfl) (fun _ _ _ h => h) (Or.inl ⟨by rfl, ?_⟩) hH ?_
    rotate_left
    · ((intro W hW; clear hW; go_simp) <;> with_reducible rfl)
    simp only [sq3, sq4]
    refine wpAnyH_ready (rs := [3, 13]) (by kernel_rfl) (by simp) ?_
    refine AllReadyH.cons (o := _) rfl (fun K hK => ?_) (AllReadyH.cons (o := _) rfl (fun K hK => ?_) AllReadyH.nil)
    rotate_left
    · simp only [sq3]
      rw [if_pos (by rfl)]
      refine wp_new_a 38 rfl #[.int .i64 0, .int .i64 0, .int .i64 0, .int .i64 0, .int .i64 0, .int .i64 0, .int .u8 0, .int .u8 0, .int .u8 0, .int .u8 0, .int .u8 0, .int .u8 0, .int .u8 0, .int .u8 0, .slice none 0 0, .slice none 0 0] (by kernel_rfl) ?_
      intro g18 w77 ge hh bb
      have ap_xB := hT.ap ge
      have d_fB_xB := ne_new (hlt hfB) ge
      have d_mB_xB := ne_new (hlt hmB) ge
      have d_pB_xB := ne_new (hlt hpB) ge
      have d_dB_xB := ne_new (hlt hdB) ge
      have av_uo_xB := uo.av_new ge
      have av_ub_xB := ub.av_new ge
      have av_po_xB := po.av_new ge
      have av_pb_xB := pb.av_new ge
      have av_gd_xB := gd.av_new ge
      have oxB := Nat.le_trans bel.size ge
      replace hfB := blk_u hfB bb
      replace hmB := blk_u hmB bb
      replace hpB := blk_u hpB bb
      replace hdB := blk_u hdB bb
      replace uo := uo.below bb
      replace ub := ub.below bb
      replace po := po.below bb
      replace pb := pb.below bb
      replace gd := gd.below bb
      replace hT := hT.below bb
      replace ap_fB := ap_fB.below bb
      replace ap_mB := ap_mB.below bb
      replace an_uo := an_uo.below bb
      replace an_ub := an_ub.below bb
      replace an_po := an_po.below bb
      replace an_pb := an_pb.below bb
      replace ap_pB := ap_pB.below bb
      replace an_gd := an_gd.below bb
      replace ap_dB := ap_dB.below bb
      replace ap_xB := ap_xB.below bb
      replace bel := bel.trans (bb.mono bel.size)
      have hxB := hh
      clear hh ge bb
      refine hK.out _ _ hfB (fun hH78 => ?_)
      clear hK K
      simp only [sq4]
      refine wpAnyH_ready (rs := [3]) (by kernel_rfl) (by simp) ?_
      refine AllReadyH.cons (o := _) rfl (fun K hK => ?_) AllReadyH.nil
      simp only [sq3]
      go_simp
      with_reducible refine (wan19 _).mono ?_
      rintro e w79 ⟨rfl, b79⟩
      dsimp only
      replace hfB := blk_u hfB b79
      replace hmB := blk_u hmB b79
      replace hpB := blk_u hpB b79
      replace hdB := blk_u hdB b79
      replace hxB := blk_u hxB b79
      replace uo := uo.below b79
      replace ub := ub.below b79
      replace po := po.below b79
      replace pb := pb.below b79
      replace gd := gd.below b79
      replace hT := hT.below b79
      replace ap_fB := ap_fB.below b79
      replace ap_mB := ap_mB.below b79
      replace an_uo := an_uo.below b79
      replace an_ub := an_ub.below b79
      replace an_po := an_po.below b79
      replace an_pb := an_pb.below b79
      replace ap_pB := ap_pB.below b79
      replace an_gd := an_gd.below b79
      replace ap_dB := ap_dB.below b79
      replace ap_xB := ap_xB.below b79
      replace bel := bel.trans (b79.mono bel.size)
      clear b79
      refine hK.out _ _ hfB (fun hH80 => ?_)
      clear hK K
      refine wpAnyH_ready (rs := [7]) (by kernel_rfl) (by simp) ?_
      refine AllReadyH.cons (o := _) rfl (fun K hK => ?_) AllReadyH.nil
      simp only [sq3]
      go_simp
      with_reducible refine (dg_wan m0 m1 m2 m3 port o2 _ (portOk_of Hc5.out Hc6.out) (portOk_of HO2.out.1 HO2.out.2.1)).mono ?_
      rintro e w81 ⟨Avo, cvo, Avb, cvb, rfl, vo, vb, fvo, fvb, b81⟩
      dsimp only
      have av_vo_fB := fvo.av (hlt hfB)
      have av_vo_mB := fvo.av (hlt hmB)
      have av_vo_pB := fvo.av (hlt hpB)
      have av_vo_dB := fvo.av (hlt hdB)
      have av_vo_xB := fvo.av (hlt hxB)
      have av_vb_fB := fvb.av (hlt hfB)
      have av_vb_mB := fvb.av (hlt hmB)
      have av_vb_pB := fvb.av (hlt hpB)
      have av_vb_dB := fvb.av (hlt hdB)
      have av_vb_xB := fvb.av (hlt hxB)
      have an_vo := hT.an fvo
      have an_vb := hT.an fvb
      replace hfB := blk_u hfB b81
      replace hmB := blk_u hmB b81
      replace hpB := blk_u hpB b81
      replace hdB := blk_u hdB b81
      replace hxB := blk_u hxB b81
      replace uo := uo.below b81
      replace ub := ub.below b81
      replace po := po.below b81
      replace pb := pb.below b81
      replace gd := gd.below b81
      replace hT := hT.below b81
      replace ap_fB := ap_fB.below b81
      replace ap_mB := ap_mB.below b81
      replace an_uo := an_uo.below b81
      replace an_ub := an_ub.below b81
      replace an_po := an_po.below b81
      replace an_pb := an_pb.below b81
      replace ap_pB := ap_pB.below b81
      replace an_gd := an_gd.below b81
      replace ap_dB := ap_dB.below b81
      replace ap_xB := ap_xB.below b81
      replace an_vo := an_vo.below b81
      replace an_vb := an_vb.below b81
      replace bel := bel.trans (b81.mono bel.size)
      clear b81
      replace vo : Sl w81 (Avo) (0) (cvo) ([]) := vo
      replace vb : Sl w81 (Avb) (9) (cvb) (udBytes m0 m1 m2 m3 203 0 113 7 port o2 [120]) := vb
      refine hK.out _ _ hfB (fun hH82 => ?_)
      clear hK K
      refine wpAnyH_ready (rs := [8]) (by kernel_rfl) (by simp) ?_
      refine AllReadyH.cons (o := _) rfl (fun K hK => ?_) AllReadyH.nil
      simp only [sq3]
      go_simp
      with_reducible refine (wan19 _).mono ?_
      rintro e w83 ⟨rfl, b83⟩
      dsimp only
      replace hfB := blk_u hfB b83
      replace hmB := blk_u hmB b83
      replace hpB := blk_u hpB b83
      replace hdB := blk_u hdB b83
      replace hxB := blk_u hxB b83
      replace uo := uo.below b83
      replace ub := ub.below b83
      replace po := po.below b83
      replace pb := pb.below b83
      replace gd := gd.below b83
      replace vo := vo.below b83
      replace vb := vb.below b83
      replace hT := hT.below b83
      replace ap_fB := ap_fB.below b83
      replace ap_mB := ap_mB.below b83
      replace an_uo := an_uo.below b83
      replace an_ub := an_ub.below b83
      replace an_po := an_po.below b83
      replace an_pb := an_pb.below b83
      replace ap_pB := ap_pB.below b83
      replace an_gd := an_gd.below b83
      replace ap_dB := ap_dB.below b83
      replace ap_xB := ap_xB.below b83
      replace an_vo := an_vo.below b83
      replace an_vb := an_vb.below b83
      replace bel := bel.trans (b83.mono bel.size)
      clear b83
      refine hK.out _ _ hfB (fun hH84 => ?_)
      clear hK K
      refine wpAnyH_ready (rs := [9]) (by kernel_rfl) (by simp) ?_
      refine AllReadyH.cons (o := _) rfl (fun K hK => ?_) AllReadyH.nil
      simp only [sq3]
      go_simp
      with_reducible refine (z_i2 _ hT vo vb HKN.out Hc1.out Hc2.out Hc3.out Hc4.out Hc5.out Hc6.out HO2.out.1 HO2.out.2.1 HO2.out.2.2).mono ?_
      rintro e w85 ⟨rfl, hT_, f_, bb⟩
      dsimp only
      have x_ := f_ _ _ _ _ hfB ap_fB
      replace hfB := x_.1
      replace ap_fB := x_.2
      clear x_
      have x_ := f_ _ _ _ _ hmB ap_mB
      replace hmB := x_.1
      replace ap_mB := x_.2
      clear x_
      have x_ := f_ _ _ _ _ hpB ap_pB
      replace hpB := x_.1
      replace ap_pB := x_.2
      clear x_
      have x_ := f_ _ _ _ _ hdB ap_dB
      replace hdB := x_.1
      replace ap_dB := x_.2
      clear x_
      have x_ := f_ _ _ _ _ hxB ap_xB
      replace hxB := x_.1
      replace ap_xB := x_.2
      clear x_
      have x_ := f_.sl uo an_uo
      replace uo := x_.1
      replace an_uo := x_.2
      clear x_
      have x_ := f_.sl ub an_ub
      replace ub := x_.1
      replace an_ub := x_.2
      clear x_
      have x_ := f_.sl po an_po
      replace po := x_.1
      replace an_po := x_.2
      clear x_
      have x_ := f_.sl pb an_pb
      replace pb := x_.1
      replace an_pb := x_.2
      clear x_
      have x_ := f_.sl gd an_gd
      replace gd := x_.1
      replace an_gd := x_.2
      clear x_
      have x_ := f_.sl vo an_vo
      replace vo := x_.1
      replace an_vo := x_.2
      clear x_
      have x_ := f_.sl vb an_vb
      replace vb := x_.1
      replace an_vb := x_.2
      clear x_
      clear hT
      have hT := hT_
      replace bel := bel.trans bb
      clear bb f_ hT_
      refine hK.out _ _ hfB (fun hH86 => ?_)
      clear hK K
      refine wpAnyH_take (i := 10) (v := ?_) rfl (by kernel_rfl) (by kernel_rfl) (by kernel_rfl) (fun _ _ _ h => h) (Or.inl ⟨by rfl, ?_⟩) hH86 ?_
      rotate_left
      · ((intro W hW; clear hW; go_simp) <;> with_reducible rfl)
      simp only [sq3, sq4]
      refine wpAnyH_take (i := 11) (v := ?_) rfl (by kernel_rfl) (by kernel_rfl) (by kernel_rfl) (fun _ _ _ h => h) (Or.inl ⟨by rfl, ?_⟩) hH86 ?_
      rotate_left
      · ((intro W hW; clear hW; go_simp) <;> with_reducible rfl)
      simp only [sq3, sq4]
      refine wpAnyH_take (i := 12) (v := ?_) rfl (by kernel_rfl) (by kernel_rfl) (by kernel_rfl) (fun _ _ _ h => h) (Or.inl ⟨by rfl, ?_⟩) hH86 ?_
      rotate_left
      · ((intro W hW; clear hW; go_simp) <;> with_reducible rfl)
      simp only [sq3, sq4]
      refine wpAnyH_ready (rs := [14]) (by kernel_rfl) (by simp) ?_
      refine AllReadyH.cons (o := _) rfl (fun K hK => ?_) AllReadyH.nil
      simp only [sq3]
      rw [if_pos (by rfl)]
      refine wp_store_blk 38 (.tmp 18) (.tmp 95) rfl g18 rfl _ rfl _ 38 hxB (by rfl) (by kernel_rfl) (by kernel_rfl) ?_
      intro w87 hq gr
      replace uo := uo.away av_uo_xB gr
      replace ub := ub.away av_ub_xB gr
      replace po := po.away av_po_xB gr
      replace pb := pb.away av_pb_xB gr
      replace gd := gd.away av_gd_xB gr
      replace vo := vo.away av_vo_xB gr
      replace vb := vb.away av_vb_xB gr
      replace hfB := blk_a hfB gr d_fB_xB
      replace hmB := blk_a hmB gr d_mB_xB
      replace hpB := blk_a hpB gr d_pB_xB
      replace hdB := blk_a hdB gr d_dB_xB
      replace hT := hT.away ap_xB gr hxB
      replace ap_fB := ap_fB.grown ap_xB gr
      replace ap_mB := ap_mB.grown ap_xB gr
      replace an_uo := an_uo.grown ap_xB gr
      replace an_ub := an_ub.grown ap_xB gr
      replace an_po := an_po.grown ap_xB gr
      replace an_pb := an_pb.grown ap_xB gr
      replace ap_pB := ap_pB.grown ap_xB gr
      replace an_gd := an_gd.grown ap_xB gr
      replace ap_dB := ap_dB.grown ap_xB gr
      replace ap_xB := ap_xB.grown ap_xB gr
      replace an_vo := an_vo.grown ap_xB gr
      replace an_vb := an_vb.grown ap_xB gr
      replace bel := below_grown bel gr oxB bel.size
      clear hxB
      have hxB := hq
      clear hq gr
      refine hK.out _ _ hfB (fun hH88 => ?_)
      clear hK K
      simp only [Act.put]
      refine wpAnyH_take (i := 15) (v := ?_) rfl (by kernel_rfl) (by kernel_rfl) (by kernel_rfl) (fun _ _ _ h => h) (Or.inl ⟨by rfl, ?_⟩) hH88 ?_
      rotate_left
      · ((intro W hW; clear hW; go_simp) <;> with_reducible rfl)
      simp only [sq3, sq4]
      refine wpAnyH_done (by kernel_rfl) ?_ _
      go_wp2_with fail
      go_meet
      case rel => exact ⟨g18, Avo, cvo, Avb, cvb, rfl, hfB, hmB, hpB, hdB, hxB, oxB, (ne_symm d_fB_dB), (ne_symm d_mB_dB), (ne_symm d_pB_dB), d_dB_xB, d_fB_mB, d_fB_pB, d_fB_xB, d_mB_pB, d_mB_xB, d_pB_xB, uo, av_uo_dB, av_uo_fB, av_uo_mB, av_uo_pB, av_uo_xB, ub, av_ub_dB, av_ub_fB, av_ub_mB, av_ub_pB, av_ub_xB, po, av_po_dB, av_po_fB, av_po_mB, av_po_pB, av_po_xB, pb, av_pb_dB, av_pb_fB, av_pb_mB, av_pb_pB, av_pb_xB, gd, av_gd_dB, av_gd_fB, av_gd_mB, av_gd_pB, av_gd_xB, vo, av_vo_dB, av_vo_fB, av_vo_mB, av_vo_pB, av_vo_xB, vb, av_vb_dB, av_vb_fB, av_vb_mB, av_vb_pB, av_vb_xB, hT, ap_fB, ap_mB, an_uo, an_ub, an_po, an_pb, ap_pB, an_gd, ap_dB, an_vo, an_vb, ap_xB, bel⟩
    simp only [sq3]
    go_simp
    with_reducible refine (wan19 _).mono ?_
    rintro e w77 ⟨rfl, b77⟩
    dsimp only
    replace hfB := blk_u hfB b77
    replace hmB := blk_u hmB b77
    replace hpB := blk_u hpB b77
    replace hdB := blk_u hdB b77
    replace uo := uo.below b77
    replace ub := ub.below b77
    replace po := po.below b77
    replace pb := pb.below b77
    replace gd := gd.below b77
    replace hT := hT.below b77
    replace ap_fB := ap_fB.below b77
    replace ap_mB := ap_mB.below b77
    replace an_uo := an_uo.below b77
    replace an_ub := an_ub.below b77
    replace an_po := an_po.below b77
    replace an_pb := an_pb.below b77
    replace ap_pB := ap_pB.below b77
    replace an_gd := an_gd.below b77
    replace ap_dB := ap_dB.below b77
    replace bel := bel.trans (b77.mono bel.size)
    clear b77
    refine hK.out _ _ hfB (fun hH78 => ?_)
    clear hK K
    refine wpAnyH_ready (rs := [7, 13]) (by kernel_rfl) (by simp) ?_
    refine AllReadyH.cons (o := _) rfl (fun K hK => ?_) (AllReadyH.cons (o := _) rfl (fun K hK => ?_) AllReadyH.nil)
    rotate_left
    · simp only [sq3]
      rw [if_pos (by rfl)]
      refine wp_new_a 38 rfl #[.int .i64 0, .int .i64 0, .int .i64 0, .int .i64 0, .int .i64 0, .int .i64 0, .int .u8 0, .int .u8 0, .int .u8 0, .int .u8 0, .int .u8 0, .int .u8 0, .int .u8 0, .int .u8 0, .slice none 0 0, .slice none 0 0] (by kernel_rfl) ?_
      intro g18 w79 ge hh bb
      have ap_xB := hT.ap ge
      have d_fB_xB := ne_new (hlt hfB) ge
      have d_mB_xB := ne_new (hlt hmB) ge
      have d_pB_xB := ne_new (hlt hpB) ge
      have d_dB_xB := ne_new (hlt hdB) ge
      have av_uo_xB := uo.av_new ge
      have av_ub_xB := ub.av_new ge
      have av_po_xB := po.av_new ge
      have av_pb_xB := pb.av_new ge
      have av_gd_xB := gd.av_new ge
      have oxB := Nat.le_trans bel.size ge
      replace hfB := blk_u hfB bb
      replace hmB := blk_u hmB bb
      replace hpB := blk_u hpB bb
      replace hdB := blk_u hdB bb
      replace uo := uo.below bb
      replace ub := ub.below bb
      replace po := po.below bb
      replace pb := pb.below bb
      replace gd := gd.below bb
      replace hT := hT.below bb
      replace ap_fB := ap_fB.below bb
      replace ap_mB := ap_mB.below bb
      replace an_uo := an_uo.below bb
      replace an_ub := an_ub.below bb
      replace an_po := an_po.below bb
      replace an_pb := an_pb.below bb
      replace ap_pB := ap_pB.below bb
      replace an_gd := an_gd.below bb
      replace ap_dB := ap_dB.below bb
      replace ap_xB := ap_xB.below bb
      replace bel := bel.trans (bb.mono bel.size)
      have hxB := hh
      clear hh ge bb
      refine hK.out _ _ hfB (fun hH80 => ?_)
      clear hK K
      simp only [sq4]
      refine wpAnyH_ready (rs := [7]) (by kernel_rfl) (by simp) ?_
      refine AllReadyH.cons (o := _) rfl (fun K hK => ?_) AllReadyH.nil
      simp only [sq3]
      go_simp
      with_reducible refine (dg_wan m0 m1 m2 m3 port o2 _ (portOk_of Hc5.out Hc6.out) (portOk_of HO2.out.1 HO2.out.2.1)).mono ?_
      rintro e w81 ⟨Avo, cvo, Avb, cvb, rfl, vo, vb, fvo, fvb, b81⟩
      dsimp only
      have av_vo_fB := fvo.av (hlt hfB)
      have av_vo_mB := fvo.av (hlt hmB)
      have av_vo_pB := fvo.av (hlt hpB)
      have av_vo_dB := fvo.av (hlt hdB)
      have av_vo_xB := fvo.av (hlt hxB)
      have av_vb_fB := fvb.av (hlt hfB)
      have av_vb_mB := fvb.av (hlt hmB)
      have av_vb_pB := fvb.av (hlt hpB)
      have av_vb_dB := fvb.av (hlt hdB)
      have av_vb_xB := fvb.av (hlt hxB)
      have an_vo := hT.an fvo
      have an_vb := hT.an fvb
      replace hfB := blk_u hfB b81
      replace hmB := blk_u hmB b81
      replace hpB := blk_u hpB b81
      replace hdB := blk_u hdB b81
      replace hxB := blk_u hxB b81
      replace uo := uo.below b81
      replace ub := ub.below b81
      replace po := po.below b81
      replace pb := pb.below b81
      replace gd := gd.below b81
      replace hT := hT.below b81
      replace ap_fB := ap_fB.below b81
      replace ap_mB := ap_mB.below b81
      replace an_uo := an_uo.below b81
      replace an_ub := an_ub.below b81
      replace an_po := an_po.below b81
      replace an_pb := an_pb.below b81
      replace ap_pB := ap_pB.below b81
      replace an_gd := an_gd.below b81
      replace ap_dB := ap_dB.below b81
      replace ap_xB := ap_xB.below b81
      replace an_vo := an_vo.below b81
      replace an_vb := an_vb.below b81
      replace bel := bel.trans (b81.mono bel.size)
      clear b81
      replace vo : Sl w81 (Avo) (0) (cvo) ([]) := vo
      replace vb : Sl w81 (Avb) (9) (cvb) (udBytes m0 m1 m2 m3 203 0 113 7 port o2 [120]) := vb
      refine hK.out _ _ hfB (fun hH82 => ?_)
      clear hK K
      refine wpAnyH_ready (rs := [8]) (by kernel_rfl) (by simp) ?_
      refine AllReadyH.cons (o := _) rfl (fun K hK => ?_) AllReadyH.nil
      simp only [sq3]
      go_simp
      with_reducible refine (wan19 _).mono ?_
      rintro e w83 ⟨rfl, b83⟩
      dsimp only
      replace hfB := blk_u hfB b83
      replace hmB := blk_u hmB b83
      replace hpB := blk_u hpB b83
      replace hdB := blk_u hdB b83
      replace hxB := blk_u hxB b83
      replace uo := uo.below b83
      replace ub := ub.below b83
      replace po := po.below b83
      replace pb := pb.below b83
      replace gd := gd.below b83
      replace vo := vo.below b83
      replace vb := vb.below b83
      replace hT := hT.below b83
      replace ap_fB := ap_fB.below b83
      replace ap_mB := ap_mB.below b83
      replace an_uo := an_uo.below b83
      replace an_ub := an_ub.below b83
      replace an_po := an_po.below b83
      replace an_pb := an_pb.below b83
      replace ap_pB := ap_pB.below b83
      replace an_gd := an_gd.below b83
      replace ap_dB := ap_dB.below b83
      replace ap_xB := ap_xB.below b83
      replace an_vo := an_vo.below b83
      replace an_vb := an_vb.below b83
      replace bel := bel.trans (b83.mono bel.size)
      clear b83
      refine hK.out _ _ hfB (fun hH84 => ?_)
      clear hK K
      refine wpAnyH_ready (rs := [9]) (by kernel_rfl) (by simp) ?_
      refine AllReadyH.cons (o := _) rfl (fun K hK => ?_) AllReadyH.nil
      simp only [sq3]
      go_simp
      with_reducible refine (z_i2 _ hT vo vb HKN.out Hc1.out Hc2.out Hc3.out Hc4.out Hc5.out Hc6.out HO2.out.1 HO2.out.2.1 HO2.out.2.2).mono ?_
      rintro e w85 ⟨rfl, hT_, f_, bb⟩
      dsimp only
      have x_ := f_ _ _ _ _ hfB ap_fB
      replace hfB := x_.1
      replace ap_fB := x_.2
      clear x_
      have x_ := f_ _ _ _ _ hmB ap_mB
      replace hmB := x_.1
      replace ap_mB := x_.2
      clear x_
      have x_ := f_ _ _ _ _ hpB ap_pB
      replace hpB := x_.1
      replace ap_pB := x_.2
      clear x_
      have x_ := f_ _ _ _ _ hdB ap_dB
      replace hdB := x_.1
      replace ap_dB := x_.2
      clear x_
      have x_ := f_ _ _ _ _ hxB ap_xB
      replace hxB := x_.1
      replace ap_xB := x_.2
      clear x_
      have x_ := f_.sl uo an_uo
      replace uo := x_.1
      replace an_uo := x_.2
      clear x_
      have x_ := f_.sl ub an_ub
      replace ub := x_.1
      replace an_ub := x_.2
      clear x_
      have x_ := f_.sl po an_po
      replace po := x_.1
      replace an_po := x_.2
      clear x_
      have x_ := f_.sl pb an_pb
      replace pb := x_.1
      replace an_pb := x_.2
      clear x_
      have x_ := f_.sl gd an_gd
      replace gd := x_.1
      replace an_gd := x_.2
      clear x_
      have x_ := f_.sl vo an_vo
      replace vo := x_.1
      replace an_vo := x_.2
      clear x_
      have x_ := f_.sl vb an_vb
      replace vb := x_.1
      replace an_vb := x_.2
      clear x_
      clear hT
      have hT := hT_
      replace bel := bel.trans bb
      clear bb f_ hT_
      refine hK.out _ _ hfB (fun hH86 => ?_)
      clear hK K
      refine wpAnyH_take (i := 10) (v := ?_) rfl (by kernel_rfl) (by kernel_rfl) (by kernel_rfl) (fun _ _ _ h => h) (Or.inl ⟨by rfl, ?_⟩) hH86 ?_
      rotate_left
      · ((intro W hW; clear hW; go_simp) <;> with_reducible rfl)
      simp only [sq3, sq4]
      refine wpAnyH_take (i := 11) (v := ?_) rfl (by kernel_rfl) (by kernel_rfl) (by kernel_rfl) (fun _ _ _ h => h) (Or.inl ⟨by rfl, ?_⟩) hH86 ?_
      rotate_left
      · ((intro W hW; clear hW; go_simp) <;> with_reducible rfl)
      simp only [sq3, sq4]
      refine wpAnyH_take (i := 12) (v := ?_) rfl (by kernel_rfl) (by kernel_rfl) (by kernel_rfl) (fun _ _ _ h => h) (Or.inl ⟨by rfl, ?_⟩) hH86 ?_
      rotate_left
      · ((intro W hW; clear hW; go_simp) <;> with_reducible rfl)
      simp only [sq3, sq4]
      refine wpAnyH_ready (rs := [14]) (by kernel_rfl) (by simp) ?_
      refine AllReadyH.cons (o := _) rfl (fun K hK => ?_) AllReadyH.nil
      simp only [sq3]
      rw [if_pos (by rfl)]
      refine wp_store_blk 38 (.tmp 18) (.tmp 95) rfl g18 rfl _ rfl _ 38 hxB (by rfl) (by kernel_rfl) (by kernel_rfl) ?_
      intro w87 hq gr
      replace uo := uo.away av_uo_xB gr
      replace ub := ub.away av_ub_xB gr
      replace po := po.away av_po_xB gr
      replace pb := pb.away av_pb_xB gr
      replace gd := gd.away av_gd_xB gr
      replace vo := vo.away av_vo_xB gr
      replace vb := vb.away av_vb_xB gr
      replace hfB := blk_a hfB gr d_fB_xB
      replace hmB := blk_a hmB gr d_mB_xB
      replace hpB := blk_a hpB gr d_pB_xB
      replace hdB := blk_a hdB gr d_dB_xB
      replace hT := hT.away ap_xB gr hxB
      replace ap_fB := ap_fB.grown ap_xB gr
      replace ap_mB := ap_mB.grown ap_xB gr
      replace an_uo := an_uo.grown ap_xB gr
      replace an_ub := an_ub.grown ap_xB gr
      replace an_po := an_po.grown ap_xB gr
      replace an_pb := an_pb.grown ap_xB gr
      replace ap_pB := ap_pB.grown ap_xB gr
      replace an_gd := an_gd.grown ap_xB gr
      replace ap_dB := ap_dB.grown ap_xB gr
      replace ap_xB := ap_xB.grown ap_xB gr
      replace an_vo := an_vo.grown ap_xB gr
      replace an_vb := an_vb.grown ap_xB gr
      replace bel := below_grown bel gr oxB bel.size
      clear hxB
      have hxB := hq
      clear hq gr
      refine hK.out _ _ hfB (fun hH88 => ?_)
      clear hK K
      simp only [Act.put]
      refine wpAnyH_take (i := 15) (v := ?_) rfl (by kernel_rfl) (by kernel_rfl) (by kernel_rfl) (fun _ _ _ h => h) (Or.inl ⟨by rfl, ?_⟩) hH88 ?_
      rotate_left
      · ((intro W hW; clear hW; go_simp) <;> with_reducible rfl)
      simp only [sq3, sq4]
      refine wpAnyH_done (by kernel_rfl) ?_ _
      go_wp2_with fail
      go_meet
      case rel => exact ⟨g18, Avo, cvo, Avb, cvb, rfl, hfB, hmB, hpB, hdB, hxB, oxB, (ne_symm d_fB_dB), (ne_symm d_mB_dB), (ne_symm d_pB_dB), d_dB_xB, d_fB_mB, d_fB_pB, d_fB_xB, d_mB_pB, d_mB_xB, d_pB_xB, uo, av_uo_dB, av_uo_fB, av_uo_mB, av_uo_pB, av_uo_xB, ub, av_ub_dB, av_ub_fB, av_ub_mB, av_ub_pB, av_ub_xB, po, av_po_dB, av_po_fB, av_po_mB, av_po_pB, av_po_xB, pb, av_pb_dB, av_pb_fB, av_pb_mB, av_pb_pB, av_pb_xB, gd, av_gd_dB, av_gd_fB, av_gd_mB, av_gd_pB, av_gd_xB, vo, av_vo_dB, av_vo_fB, av_vo_mB, av_vo_pB, av_vo_xB, vb, av_vb_dB, av_vb_fB, av_vb_mB, av_vb_pB, av_vb_xB, hT, ap_fB, ap_mB, an_uo, an_ub, an_po, an_pb, ap_pB, an_gd, ap_dB, an_vo, an_vb, ap_xB, bel⟩
    simp only [sq3]
    go_simp
    with_reducible refine (dg_wan m0 m1 m2 m3 port o2 _ (portOk_of Hc5.out Hc6.out) (portOk_of HO2.out.1 HO2.out.2.1)).mono ?_
    rintro e w79 ⟨Avo, cvo, Avb, cvb, rfl, vo, vb, fvo, fvb, b79⟩
    dsimp only
    have av_vo_fB := fvo.av (hlt hfB)
    have av_vo_mB := fvo.av (hlt hmB)
    have av_vo_pB := fvo.av (hlt hpB)
    have av_vo_dB := fvo.av (hlt hdB)
    have av_vb_fB := fvb.av (hlt hfB)
    have av_vb_mB := fvb.av (hlt hmB)
    have av_vb_pB := fvb.av (hlt hpB)
    have av_vb_dB := fvb.av (hlt hdB)
    have an_vo := hT.an fvo
    have an_vb := hT.an fvb
    replace hfB := blk_u hfB b79
    replace hmB := blk_u hmB b79
    replace hpB := blk_u hpB b79
    replace hdB := blk_u hdB b79
    replace uo := uo.below b79
    replace ub := ub.below b79
    replace po := po.below b79
    replace pb := pb.below b79
    replace gd := gd.below b79
    replace hT := hT.below b79
    replace ap_fB := ap_fB.below b79
    replace ap_mB := ap_mB.below b79
    replace an_uo := an_uo.below b79
    replace an_ub := an_ub.below b79
    replace an_po := an_po.below b79
    replace an_pb := an_pb.below b79
    replace ap_pB := ap_pB.below b79
    replace an_gd := an_gd.below b79
    replace ap_dB := ap_dB.below b79
    replace an_vo := an_vo.below b79
    replace an_vb := an_vb.below b79
    replace bel := bel.trans (b79.mono bel.size)
    clear b79
    replace vo : Sl w79 (Avo) (0) (cvo) ([]) := vo
    replace vb : Sl w79 (Avb) (9) (cvb) (udBytes m0 m1 m2 m3 203 0 113 7 port o2 [120]) := vb
    refine hK.out _ _ hfB (fun hH80 => ?_)
    clear hK K
    refine wpAnyH_ready (rs := [8, 13]) (by kernel_rfl) (by simp) ?_
    refine AllReadyH.cons (o := _) rfl (fun K hK => ?_) (AllReadyH.cons (o := _) rfl (fun K hK => ?_) AllReadyH.nil)
    rotate_left
    · simp only [sq3]
      rw [if_pos (by rfl)]
      refine wp_new_a 38 rfl #[.int .i64 0, .int .i64 0, .int .i64 0, .int .i64 0, .int .i64 0, .int .i64 0, .int .u8 0, .int .u8 0, .int .u8 0, .int .u8 0, .int .u8 0, .int .u8 0, .int .u8 0, .int .u8 0, .slice none 0 0, .slice none 0 0] (by kernel_rfl) ?_
      intro g18 w81 ge hh bb
      have ap_xB := hT.ap ge
      have d_fB_xB := ne_new (hlt hfB) ge
      have d_mB_xB := ne_new (hlt hmB) ge
      have d_pB_xB := ne_new (hlt hpB) ge
      have d_dB_xB := ne_new (hlt hdB) ge
      have av_uo_xB := uo.av_new ge
      have av_ub_xB := ub.av_new ge
      have av_po_xB := po.av_new ge
      have av_pb_xB := pb.av_new ge
      have av_gd_xB := gd.av_new ge
      have av_vo_xB := vo.av_new ge
      have av_vb_xB := vb.av_new ge
      have oxB := Nat.le_trans bel.size ge
      replace hfB := blk_u hfB bb
      replace hmB := blk_u hmB bb
      replace hpB := blk_u hpB bb
      replace hdB := blk_u hdB bb
      replace uo := uo.below bb
      replace ub := ub.below bb
      replace po := po.below bb
      replace pb := pb.below bb
      replace gd := gd.below bb
      replace vo := vo.below bb
      replace vb := vb.below bb
      replace hT := hT.below bb
      replace ap_fB := ap_fB.below bb
      replace ap_mB := ap_mB.below bb
      replace an_uo := an_uo.below bb
      replace an_ub := an_ub.below bb
      replace an_po := an_po.below bb
      replace an_pb := an_pb.below bb
      replace ap_pB := ap_pB.below bb
      replace an_gd := an_gd.below bb
      replace ap_dB := ap_dB.below bb
      replace an_vo := an_vo.below bb
      replace an_vb := an_vb.below bb
      replace ap_xB := ap_xB.below bb
      replace bel := bel.trans (bb.mono bel.size)
      have hxB := hh
      clear hh ge bb
      refine hK.out _ _ hfB (fun hH82 => ?_)
      clear hK K
      simp only [sq4]
      refine wpAnyH_ready (rs := [8]) (by kernel_rfl) (by simp) ?_
      refine AllReadyH.cons (o := _) rfl (fun K hK => ?_) AllReadyH.nil
      simp only [sq3]
      go_simp
      with_reducible refine (wan19 _).mono ?_
      rintro e w83 ⟨rfl, b83⟩
      dsimp only
      replace hfB := blk_u hfB b83
      replace hmB := blk_u hmB b83
      replace hpB := blk_u hpB b83
      replace hdB := blk_u hdB b83
      replace hxB := blk_u hxB b83
      replace uo := uo.below b83
      replace ub := ub.below b83
      replace po := po.below b83
      replace pb := pb.below b83
      replace gd := gd.below b83
      replace vo := vo.below b83
      replace vb := vb.below b83
      replace hT := hT.below b83
      replace ap_fB := ap_fB.below b83
      replace ap_mB := ap_mB.below b83
      replace an_uo := an_uo.below b83
      replace an_ub := an_ub.below b83
      replace an_po := an_po.below b83
      replace an_pb := an_pb.below b83
      replace ap_pB := ap_pB.below b83
      replace an_gd := an_gd.below b83
      replace ap_dB := ap_dB.below b83
      replace an_vo := an_vo.below b83
      replace an_vb := an_vb.below b83
      replace ap_xB := ap_xB.below b83
      replace bel := bel.trans (b83.mono bel.size)
      clear b83
      refine hK.out _ _ hfB (fun hH84 => ?_)
      clear hK K
      refine wpAnyH_ready (rs := [9]) (by kernel_rfl) (by simp) ?_
      refine AllReadyH.cons (o := _) rfl (fun K hK => ?_) AllReadyH.nil
      simp only [sq3]
      go_simp
      with_reducible refine (z_i2 _ hT vo vb HKN.out Hc1.out Hc2.out Hc3.out Hc4.out Hc5.out Hc6.out HO2.out.1 HO2.out.2.1 HO2.out.2.2).mono ?_
      rintro e w85 ⟨rfl, hT_, f_, bb⟩
      dsimp only
      have x_ := f_ _ _ _ _ hfB ap_fB
      replace hfB := x_.1
      replace ap_fB := x_.2
      clear x_
      have x_ := f_ _ _ _ _ hmB ap_mB
      replace hmB := x_.1
      replace ap_mB := x_.2
      clear x_
      have x_ := f_ _ _ _ _ hpB ap_pB
      replace hpB := x_.1
      replace ap_pB := x_.2
      clear x_
      have x_ := f_ _ _ _ _ hdB ap_dB
      replace hdB := x_.1
      replace ap_dB := x_.2
      clear x_
      have x_ := f_ _ _ _ _ hxB ap_xB
      replace hxB := x_.1
      replace ap_xB := x_.2
      clear x_
      have x_ := f_.sl uo an_uo
      replace uo := x_.1
      replace an_uo := x_.2
      clear x_
      have x_ := f_.sl ub an_ub
      replace ub := x_.1
      replace an_ub := x_.2
      clear x_
      have x_ := f_.sl po an_po
      replace po := x_.1
      replace an_po := x_.2
      clear x_
      have x_ := f_.sl pb an_pb
      replace pb := x_.1
      replace an_pb := x_.2
      clear x_
      have x_ := f_.sl gd an_gd
      replace gd := x_.1
      replace an_gd := x_.2
      clear x_
      have x_ := f_.sl vo an_vo
      replace vo := x_.1
      replace an_vo := x_.2
      clear x_
      have x_ := f_.sl vb an_vb
      replace vb := x_.1
      replace an_vb := x_.2
      clear x_
      clear hT
      have hT := hT_
      replace bel := bel.trans bb
      clear bb f_ hT_
      refine hK.out _ _ hfB (fun hH86 => ?_)
      clear hK K
      refine wpAnyH_take (i := 10) (v := ?_) rfl (by kernel_rfl) (by kernel_rfl) (by kernel_rfl) (fun _ _ _ h => h) (Or.inl ⟨by rfl, ?_⟩) hH86 ?_
      rotate_left
      · ((intro W hW; clear hW; go_simp) <;> with_reducible rfl)
      simp only [sq3, sq4]
      refine wpAnyH_take (i := 11) (v := ?_) rfl (by kernel_rfl) (by kernel_rfl) (by kernel_rfl) (fun _ _ _ h => h) (Or.inl ⟨by rfl, ?_⟩) hH86 ?_
      rotate_left
      · ((intro W hW; clear hW; go_simp) <;> with_reducible rfl)
      simp only [sq3, sq4]
      refine wpAnyH_take (i := 12) (v := ?_) rfl (by kernel_rfl) (by kernel_rfl) (by kernel_rfl) (fun _ _ _ h => h) (Or.inl ⟨by rfl, ?_⟩) hH86 ?_
      rotate_left
      · ((intro W hW; clear hW; go_simp) <;> with_reducible rfl)
      simp only [sq3, sq4]
      refine wpAnyH_ready (rs := [14]) (by kernel_rfl) (by simp) ?_
      refine AllReadyH.cons (o := _) rfl (fun K hK => ?_) AllReadyH.nil
      simp only [sq3]
      rw [if_pos (by rfl)]
      refine wp_store_blk 38 (.tmp 18) (.tmp 95) rfl g18 rfl _ rfl _ 38 hxB (by rfl) (by kernel_rfl) (by kernel_rfl) ?_
      intro w87 hq gr
      replace uo := uo.away av_uo_xB gr
      replace ub := ub.away av_ub_xB gr
      replace po := po.away av_po_xB gr
      replace pb := pb.away av_pb_xB gr
      replace gd := gd.away av_gd_xB gr
      replace vo := vo.away av_vo_xB gr
      replace vb := vb.away av_vb_xB gr
      replace hfB := blk_a hfB gr d_fB_xB
      replace hmB := blk_a hmB gr d_mB_xB
      replace hpB := blk_a hpB gr d_pB_xB
      replace hdB := blk_a hdB gr d_dB_xB
      replace hT := hT.away ap_xB gr hxB
      replace ap_fB := ap_fB.grown ap_xB gr
      replace ap_mB := ap_mB.grown ap_xB gr
      replace an_uo := an_uo.grown ap_xB gr
      replace an_ub := an_ub.grown ap_xB gr
      replace an_po := an_po.grown ap_xB gr
      replace an_pb := an_pb.grown ap_xB gr
      replace ap_pB := ap_pB.grown ap_xB gr
      replace an_gd := an_gd.grown ap_xB gr
      replace ap_dB := ap_dB.grown ap_xB gr
      replace an_vo := an_vo.grown ap_xB gr
      replace an_vb := an_vb.grown ap_xB gr
      replace ap_xB := ap_xB.grown ap_xB gr
      replace bel := below_grown bel gr oxB bel.size
      clear hxB
      have hxB := hq
      clear hq gr
      refine hK.out _ _ hfB (fun hH88 => ?_)
      clear hK K
      simp only [Act.put]
      refine wpAnyH_take (i := 15) (v := ?_) rfl (by kernel_rfl) (by kernel_rfl) (by kernel_rfl) (fun _ _ _ h => h) (Or.inl ⟨by rfl, ?_⟩) hH88 ?_
      rotate_left
      · ((intro W hW; clear hW; go_simp) <;> with_reducible rfl)
      simp only [sq3, sq4]
      refine wpAnyH_done (by kernel_rfl) ?_ _
      go_wp2_with fail
      go_meet
      case rel => exact ⟨g18, Avo, cvo, Avb, cvb, rfl, hfB, hmB, hpB, hdB, hxB, oxB, (ne_symm d_fB_dB), (ne_symm d_mB_dB), (ne_symm d_pB_dB), d_dB_xB, d_fB_mB, d_fB_pB, d_fB_xB, d_mB_pB, d_mB_xB, d_pB_xB, uo, av_uo_dB, av_uo_fB, av_uo_mB, av_uo_pB, av_uo_xB, ub, av_ub_dB, av_ub_fB, av_ub_mB, av_ub_pB, av_ub_xB, po, av_po_dB, av_po_fB, av_po_mB, av_po_pB, av_po_xB, pb, av_pb_dB, av_pb_fB, av_pb_mB, av_pb_pB, av_pb_xB, gd, av_gd_dB, av_gd_fB, av_gd_mB, av_gd_pB, av_gd_xB, vo, av_vo_dB, av_vo_fB, av_vo_mB, av_vo_pB, av_vo_xB, vb, av_vb_dB, av_vb_fB, av_vb_mB, av_vb_pB, av_vb_xB, hT, ap_fB, ap_mB, an_uo, an_ub, an_po, an_pb, ap_pB, an_gd, ap_dB, an_vo, an_vb, ap_xB, bel⟩
    simp only [sq3]
    go_simp
    with_reducible refine (wan19 _).mono ?_
    rintro e w81 ⟨rfl, b81⟩
    dsimp only
    replace hfB := blk_u hfB b81
    replace hmB := blk_u hmB b81
    replace hpB := blk_u hpB b81
    replace hdB := blk_u hdB b81
    replace uo := uo.below b81
    replace ub := ub.below b81
    replace po := po.below b81
    replace pb := pb.below b81
    replace gd := gd.below b81
    replace vo := vo.below b81
    replace vb := vb.below b81
    replace hT := hT.below b81
    replace ap_fB := ap_fB.below b81
    replace ap_mB := ap_mB.below b81
    replace an_uo := an_uo.below b81
    replace an_ub := an_ub.below b81
    replace an_po := an_po.below b81
    replace an_pb := an_pb.below b81
    replace ap_pB := ap_pB.below b81
    replace an_gd := an_gd.below b81
    replace ap_dB := ap_dB.below b81
    replace an_vo := an_vo.below b81
    replace an_vb := an_vb.below b81
    replace bel := bel.trans (b81.mono bel.size)
    clear b81
    refine hK.out _ _ hfB (fun hH82 => ?_)
    clear hK K
    refine wpAnyH_ready (rs := [9, 13]) (by kernel_rfl) (by simp) ?_
    refine AllReadyH.cons (o := _) rfl (fun K hK => ?_) (AllReadyH.cons (o := _) rfl (fun K hK => ?_) AllReadyH.nil)
    · simp only [sq3]
      go_simp
      with_reducible refine (z_i2 _ hT vo vb HKN.out Hc1.out Hc2.out Hc3.out Hc4.out Hc5.out Hc6.out HO2.out.1 HO2.out.2.1 HO2.out.2.2).mono ?_
      rintro e w83 ⟨rfl, hT_, f_, bb⟩
      dsimp only
      have x_ := f_ _ _ _ _ hfB ap_fB
      replace hfB := x_.1
      replace ap_fB := x_.2
      clear x_
      have x_ := f_ _ _ _ _ hmB ap_mB
      replace hmB := x_.1
      replace ap_mB := x_.2
      clear x_
      have x_ := f_ _ _ _ _ hpB ap_pB
      replace hpB := x_.1
      replace ap_pB := x_.2
      clear x_
      have x_ := f_ _ _ _ _ hdB ap_dB
      replace hdB := x_.1
      replace ap_dB := x_.2
      clear x_
      have x_ := f_.sl uo an_uo
      replace uo := x_.1
      replace an_uo := x_.2
      clear x_
      have x_ := f_.sl ub an_ub
      replace ub := x_.1
      replace an_ub := x_.2
      clear x_
      have x_ := f_.sl po an_po
      replace po := x_.1
      replace an_po := x_.2
      clear x_
      have x_ := f_.sl pb an_pb
      replace pb := x_.1
      replace an_pb := x_.2
      clear x_
      have x_ := f_.sl gd an_gd
      replace gd := x_.1
      replace an_gd := x_.2
      clear x_
      have x_ := f_.sl vo an_vo
      replace vo := x_.1
      replace an_vo := x_.2
      clear x_
      have x_ := f_.sl vb an_vb
      replace vb := x_.1
      replace an_vb := x_.2
      clear x_
      clear hT
      have hT := hT_
      replace bel := bel.trans bb
      clear bb f_ hT_
      refine hK.out _ _ hfB (fun hH84 => ?_)
      clear hK K
      refine wpAnyH_take (i := 10) (v := ?_) rfl (by kernel_rfl) (by kernel_rfl) (by kernel_rfl) (fun _ _ _ h => h) (Or.inl ⟨by rfl, ?_⟩) hH84 ?_
      rotate_left
      · ((intro W hW; clear hW; go_simp) <;> with_reducible rfl)
      simp only [sq3, sq4]
      refine wpAnyH_take (i := 11) (v := ?_) rfl (by kernel_rfl) (by kernel_rfl) (by kernel_rfl) (fun _ _ _ h => h) (Or.inl ⟨by rfl, ?_⟩) hH84 ?_
      rotate_left
      · ((intro W hW; clear hW; go_simp) <;> with_reducible rfl)
      simp only [sq3, sq4]
      refine wpAnyH_take (i := 12) (v := ?_) rfl (by kernel_rfl) (by kernel_rfl) (by kernel_rfl) (fun _ _ _ h => h) (Or.inl ⟨by rfl, ?_⟩) hH84 ?_
      rotate_left
      · ((intro W hW; clear hW; go_simp) <;> with_reducible rfl)
      simp only [sq3, sq4]
      refine wpAnyH_ready (rs := [13]) (by kernel_rfl) (by simp) ?_
      refine AllReadyH.cons (o := _) rfl (fun K hK => ?_) AllReadyH.nil
      simp only [sq3]
      rw [if_pos (by rfl)]
      refine wp_new_a 38 rfl #[.int .i64 0, .int .i64 0, .int .i64 0, .int .i64 0, .int .i64 0, .int .i64 0, .int .u8 0, .int .u8 0, .int .u8 0, .int .u8 0, .int .u8 0, .int .u8 0, .int .u8 0, .int .u8 0, .slice none 0 0, .slice none 0 0] (by kernel_rfl) ?_
      intro g18 w85 ge hh bb
      have ap_xB := hT.ap ge
      have d_fB_xB := ne_new (hlt hfB) ge
      have d_mB_xB := ne_new (hlt hmB) ge
      have d_pB_xB := ne_new (hlt hpB) ge
      have d_dB_xB := ne_new (hlt hdB) ge
      have av_uo_xB := uo.av_new ge
      have av_ub_xB := ub.av_new ge
      have av_po_xB := po.av_new ge
      have av_pb_xB := pb.av_new ge
      have av_gd_xB := gd.av_new ge
      have av_vo_xB := vo.av_new ge
      have av_vb_xB := vb.av_new ge
      have oxB := Nat.le_trans bel.size ge
      replace hfB := blk_u hfB bb
      replace hmB := blk_u hmB bb
      replace hpB := blk_u hpB bb
      replace hdB := blk_u hdB bb
      replace uo := uo.below bb
      replace ub := ub.below bb
      replace po := po.below bb
      replace pb := pb.below bb
      replace gd := gd.below bb
      replace vo := vo.below bb
      replace vb := vb.below bb
      replace hT := hT.below bb
      replace ap_fB := ap_fB.below bb
      replace ap_mB := ap_mB.below bb
      replace an_uo := an_uo.below bb
      replace an_ub := an_ub.below bb
      replace an_po := an_po.below bb
      replace an_pb := an_pb.below bb
      replace ap_pB := ap_pB.below bb
      replace an_gd := an_gd.below bb
      replace ap_dB := ap_dB.below bb
      replace an_vo := an_vo.below bb
      replace an_vb := an_vb.below bb
      replace ap_xB := ap_xB.below bb
      replace bel := bel.trans (bb.mono bel.size)
      have hxB := hh
      clear hh ge bb
      refine hK.out _ _ hfB (fun hH86 => ?_)
      clear hK K
      simp only [sq4]
      refine wpAnyH_ready (rs := [14]) (by kernel_rfl) (by simp) ?_
      refine AllReadyH.cons (o := _) rfl (fun K hK => ?_) AllReadyH.nil
      simp only [sq3]
      rw [if_pos (by rfl)]
      refine wp_store_blk 38 (.tmp 18) (.tmp 95) rfl g18 rfl _ rfl _ 38 hxB (by rfl) (by kernel_rfl) (by kernel_rfl) ?_
      intro w87 hq gr
      replace uo := uo.away av_uo_xB gr
      replace ub := ub.away av_ub_xB gr
      replace po := po.away av_po_xB gr
      replace pb := pb.away av_pb_xB gr
      replace gd := gd.away av_gd_xB gr
      replace vo := vo.away av_vo_xB gr
      replace vb := vb.away av_vb_xB gr
      replace hfB := blk_a hfB gr d_fB_xB
      replace hmB := blk_a hmB gr d_mB_xB
      replace hpB := blk_a hpB gr d_pB_xB
      replace hdB := blk_a hdB gr d_dB_xB
      replace hT := hT.away ap_xB gr hxB
      replace ap_fB := ap_fB.grown ap_xB gr
      replace ap_mB := ap_mB.grown ap_xB gr
      replace an_uo := an_uo.grown ap_xB gr
      replace an_ub := an_ub.grown ap_xB gr
      replace an_po := an_po.grown ap_xB gr
      replace an_pb := an_pb.grown ap_xB gr
      replace ap_pB := ap_pB.grown ap_xB gr
      replace an_gd := an_gd.grown ap_xB gr
      replace ap_dB := ap_dB.grown ap_xB gr
      replace an_vo := an_vo.grown ap_xB gr
      replace an_vb := an_vb.grown ap_xB gr
      replace ap_xB := ap_xB.grown ap_xB gr
      replace bel := below_grown bel gr oxB bel.size
      clear hxB
      have hxB := hq
      clear hq gr
      refine hK.out _ _ hfB (fun hH88 => ?_)
      clear hK K
      simp only [Act.put]
      refine wpAnyH_take (i := 15) (v := ?_) rfl (by kernel_rfl) (by kernel_rfl) (by kernel_rfl) (fun _ _ _ h => h) (Or.inl ⟨by rfl, ?_⟩) hH88 ?_
      rotate_left
      · ((intro W hW; clear hW; go_simp) <;> with_reducible rfl)
      simp only [sq3, sq4]
      refine wpAnyH_done (by kernel_rfl) ?_ _
      go_wp2_with fail
      go_meet
      case rel => exact ⟨g18, Avo, cvo, Avb, cvb, rfl, hfB, hmB, hpB, hdB, hxB, oxB, (ne_symm d_fB_dB), (ne_symm d_mB_dB), (ne_symm d_pB_dB), d_dB_xB, d_fB_mB, d_fB_pB, d_fB_xB, d_mB_pB, d_mB_xB, d_pB_xB, uo, av_uo_dB, av_uo_fB, av_uo_mB, av_uo_pB, av_uo_xB, ub, av_ub_dB, av_ub_fB, av_ub_mB, av_ub_pB, av_ub_xB, po, av_po_dB, av_po_fB, av_po_mB, av_po_pB, av_po_xB, pb, av_pb_dB, av_pb_fB, av_pb_mB, av_pb_pB, av_pb_xB, gd, av_gd_dB, av_gd_fB, av_gd_mB, av_gd_pB, av_gd_xB, vo, av_vo_dB, av_vo_fB, av_vo_mB, av_vo_pB, av_vo_xB, vb, av_vb_dB, av_vb_fB, av_vb_mB, av_vb_pB, av_vb_xB, hT, ap_fB, ap_mB, an_uo, an_ub, an_po, an_pb, ap_pB, an_gd, ap_dB, an_vo, an_vb, ap_xB, bel⟩
    simp only [sq3]
    rw [if_pos (by rfl)]
    refine wp_new_a 38 rfl #[.int .i64 0, .int .i64 0, .int .i64 0, .int .i64 0, .int .i64 0, .int .i64 0, .int .u8 0, .int .u8 0, .int .u8 0, .int .u8 0, .int .u8 0, .int .u8 0, .int .u8 0, .int .u8 0, .slice none 0 0, .slice none 0 0] (by kernel_rfl) ?_
    intro g18 w83 ge hh bb
    have ap_xB := hT.ap ge
    have d_fB_xB := ne_new (hlt hfB) ge
    have d_mB_xB := ne_new (hlt hmB) ge
    have d_pB_xB := ne_new (hlt hpB) ge
    have d_dB_xB := ne_new (hlt hdB) ge
    have av_uo_xB := uo.av_new ge
    have av_ub_xB := ub.av_new ge
    have av_po_xB := po.av_new ge
    have av_pb_xB := pb.av_new ge
    have av_gd_xB := gd.av_new ge
    have av_vo_xB := vo.av_new ge
    have av_vb_xB := vb.av_new ge
    have oxB := Nat.le_trans bel.size ge
    replace hfB := blk_u hfB bb
    replace hmB := blk_u hmB bb
    replace hpB := blk_u hpB bb
    replace hdB := blk_u hdB bb
    replace uo := uo.below bb
    replace ub := ub.below bb
    replace po := po.below bb
    replace pb := pb.below bb
    replace gd := gd.below bb
    replace vo := vo.below bb
    replace vb := vb.below bb
    replace hT := hT.below bb
    replace ap_fB := ap_fB.below bb
    replace ap_mB := ap_mB.below bb
    replace an_uo := an_uo.below bb
    replace an_ub := an_ub.below bb
    replace an_po := an_po.below bb
    replace an_pb := an_pb.below bb
    replace ap_pB := ap_pB.below bb
    replace an_gd := an_gd.below bb
    replace ap_dB := ap_dB.below bb
    replace an_vo := an_vo.below bb
    replace an_vb := an_vb.below bb
    replace ap_xB := ap_xB.below bb
    replace bel := bel.trans (bb.mono bel.size)
    have hxB := hh
    clear hh ge bb
    refine hK.out _ _ hfB (fun hH84 => ?_)
    clear hK K
    simp only [sq4]
    refine wpAnyH_ready (rs := [9]) (by kernel_rfl) (by simp) ?_
    refine AllReadyH.cons (o := _) rfl (fun K hK => ?_) AllReadyH.nil
    simp only [sq3]
    go_simp
    with_reducible refine (z_i2 _ hT vo vb HKN.out Hc1.out Hc2.out Hc3.out Hc4.out Hc5.out Hc6.out HO2.out.1 HO2.out.2.1 HO2.out.2.2).mono ?_
    rintro e w85 ⟨rfl, hT_, f_, bb⟩
    dsimp only
    have x_ := f_ _ _ _ _ hfB ap_fB
    replace hfB := x_.1
    replace ap_fB := x_.2
    clear x_
    have x_ := f_ _ _ _ _ hmB ap_mB
    replace hmB := x_.1
    replace ap_mB := x_.2
    clear x_
    have x_ := f_ _ _ _ _ hpB ap_pB
    replace hpB := x_.1
    replace ap_pB := x_.2
    clear x_
    have x_ := f_ _ _ _ _ hdB ap_dB
    replace hdB := x_.1
    replace ap_dB := x_.2
    clear x_
    have x_ := f_ _ _ _ _ hxB ap_xB
    replace hxB := x_.1
    replace ap_xB := x_.2
    clear x_
    have x_ := f_.sl uo an_uo
    replace uo := x_.1
    replace an_uo := x_.2
    clear x_
    have x_ := f_.sl ub an_ub
    replace ub := x_.1
    replace an_ub := x_.2
    clear x_
    have x_ := f_.sl po an_po
    replace po := x_.1
    replace an_po := x_.2
    clear x_
    have x_ := f_.sl pb an_pb
    replace pb := x_.1
    replace an_pb := x_.2
    clear x_
    have x_ := f_.sl gd an_gd
    replace gd := x_.1
    replace an_gd := x_.2
    clear x_
    have x_ := f_.sl vo an_vo
    replace vo := x_.1
    replace an_vo := x_.2
    clear x_
    have x_ := f_.sl vb an_vb
    replace vb := x_.1
    replace an_vb := x_.2
    clear x_
    clear hT
    have hT := hT_
    replace bel := bel.trans bb
    clear bb f_ hT_
    refine hK.out _ _ hfB (fun hH86 => ?_)
    clear hK K
    refine wpAnyH_take (i := 10) (v := ?_) rfl (by kernel_rfl) (by kernel_rfl) (by kernel_rfl) (fun _ _ _ h => h) (Or.inl ⟨by rfl, ?_⟩) hH86 ?_
    rotate_left
    · ((intro W hW; clear hW; go_simp) <;> with_reducible rfl)
    simp only [sq3, sq4]
    refine wpAnyH_take (i := 11) (v := ?_) rfl (by kernel_rfl) (by kernel_rfl) (by kernel_rfl) (fun _ _ _ h => h) (Or.inl ⟨by rfl, ?_⟩) hH86 ?_
    rotate_left
    · ((intro W hW; clear hW; go_simp) <;> with_reducible rfl)
    simp only [sq3, sq4]
    refine wpAnyH_take (i := 12) (v := ?_) rfl (by kernel_rfl) (by kernel_rfl) (by kernel_rfl) (fun _ _ _ h => h) (Or.inl ⟨by rfl, ?_⟩) hH86 ?_
    rotate_left
    · ((intro W hW; clear hW; go_simp) <;> with_reducible rfl)
    simp only [sq3, sq4]
    refine wpAnyH_ready (rs := [14]) (by kernel_rfl) (by simp) ?_
    refine AllReadyH.cons (o := _) rfl (fun K hK => ?_) AllReadyH.nil
    simp only [sq3]
    rw [if_pos (by rfl)]
    refine wp_store_blk 38 (.tmp 18) (.tmp 95) rfl g18 rfl _ rfl _ 38 hxB (by rfl) (by kernel_rfl) (by kernel_rfl) ?_
    intro w87 hq gr
    replace uo := uo.away av_uo_xB gr
    replace ub := ub.away av_ub_xB gr
    replace po := po.away av_po_xB gr
    replace pb := pb.away av_pb_xB gr
    replace gd := gd.away av_gd_xB gr
    replace vo := vo.away av_vo_xB gr
    replace vb := vb.away av_vb_xB gr
    replace hfB := blk_a hfB gr d_fB_xB
    replace hmB := blk_a hmB gr d_mB_xB
    replace hpB := blk_a hpB gr d_pB_xB
    replace hdB := blk_a hdB gr d_dB_xB
    replace hT := hT.away ap_xB gr hxB
    replace ap_fB := ap_fB.grown ap_xB gr
    replace ap_mB := ap_mB.grown ap_xB gr
    replace an_uo := an_uo.grown ap_xB gr
    replace an_ub := an_ub.grown ap_xB gr
    replace an_po := an_po.grown ap_xB gr
    replace an_pb := an_pb.grown ap_xB gr
    replace ap_pB := ap_pB.grown ap_xB gr
    replace an_gd := an_gd.grown ap_xB gr
    replace ap_dB := ap_dB.grown ap_xB gr
    replace an_vo := an_vo.grown ap_xB gr
    replace an_vb := an_vb.grown ap_xB gr
    replace ap_xB := ap_xB.grown ap_xB gr
    replace bel := below_grown bel gr oxB bel.size
    clear hxB
    have hxB := hq
    clear hq gr
    refine hK.out _ _ hfB (fun hH88 => ?_)
    clear hK K
    simp only [Act.put]
    refine wpAnyH_take (i := 15) (v := ?_) rfl (by kernel_rfl) (by kernel_rfl) (by kernel_rfl) (fun _ _ _ h => h) (Or.inl ⟨by rfl, ?_⟩) hH88 ?_
    rotate_left
    · ((intro W hW; clear hW; go_simp) <;> with_reducible rfl)
    simp only [sq3, sq4]
    refine wpAnyH_done (by kernel_rfl) ?_ _
    go_wp2_with fail
    go_meet
    case rel => exact ⟨g18, Avo, cvo, Avb, cvb, rfl, hfB, hmB, hpB, hdB, hxB, oxB, (ne_symm d_fB_dB), (ne_symm d_mB_dB), (ne_symm d_pB_dB), d_dB_xB, d_fB_mB, d_fB_pB, d_fB_xB, d_mB_pB, d_mB_xB, d_pB_xB, uo, av_uo_dB, av_uo_fB, av_uo_mB, av_uo_pB, av_uo_xB, ub, av_ub_dB, av_ub_fB, av_ub_mB, av_ub_pB, av_ub_xB, po, av_po_dB, av_po_fB, av_po_mB, av_po_pB, av_po_xB, pb, av_pb_dB, av_pb_fB, av_pb_mB, av_pb_pB, av_pb_xB, gd, av_gd_dB, av_gd_fB, av_gd_mB, av_gd_pB, av_gd_xB, vo, av_vo_dB, av_vo_fB, av_vo_mB, av_vo_pB, av_vo_xB, vb, av_vb_dB, av_vb_fB, av_vb_mB, av_vb_pB, av_vb_xB, hT, ap_fB, ap_mB, an_uo, an_ub, an_po, an_pb, ap_pB, an_gd, ap_dB, an_vo, an_vb, ap_xB, bel⟩
  obtain ⟨w89, hw_⟩ : ∃ x, x = wc := ⟨_, rfl⟩
  subst hw_
  obtain ⟨g18, Avo, cvo, Avb, cvb, rfl, hfB, hmB, hpB, hdB, hxB, oxB, d_dB_fB, d_dB_mB, d_dB_pB, d_dB_xB, d_fB_mB, d_fB_pB, d_fB_xB, d_mB_pB, d_mB_xB, d_pB_xB, uo, av_uo_dB, av_uo_fB, av_uo_mB, av_uo_pB, av_uo_xB, ub, av_ub_dB, av_ub_fB, av_ub_mB, av_ub_pB, av_ub_xB, po, av_po_dB, av_po_fB, av_po_mB, av_po_pB, av_po_xB, pb, av_pb_dB, av_pb_fB, av_pb_mB, av_pb_pB, av_pb_xB, gd, av_gd_dB, av_gd_fB, av_gd_mB, av_gd_pB, av_gd_xB, vo, av_vo_dB, av_vo_fB, av_vo_mB, av_vo_pB, av_vo_xB, vb, av_vb_dB, av_vb_fB, av_vb_mB, av_vb_pB, av_vb_xB, hT, ap_fB, ap_mB, an_uo, an_ub, an_po, an_pb, ap_pB, an_gd, ap_dB, an_vo, an_vb, ap_xB, bel⟩ := hcut
  go_wp2_with fail
  replace bel := bel.drew
  replace hfB : w89.drew.heap[g7]? = _ := hfB
  replace hmB : w89.drew.heap[g13]? = _ := hmB
  replace hpB : w89.drew.heap[g14]? = _ := hpB
  replace hdB : w89.drew.heap[g16]? = _ := hdB
  replace hxB : w89.drew.heap[g18]? = _ := hxB
  replace uo := uo.drew
  replace ub := ub.drew
  replace po := po.drew
  replace pb := pb.drew
  replace gd := gd.drew
  replace vo := vo.drew
  replace vb := vb.drew
  replace hT := np_drew hT
  replace ap_fB := anp_drew ap_fB
  replace ap_mB := anp_drew ap_mB
  replace an_uo := an_drew an_uo
  replace an_ub := an_drew an_ub
  replace an_po := an_drew an_po
  replace an_pb := an_drew an_pb
  replace ap_pB := anp_drew ap_pB
  replace an_gd := an_drew an_gd
  replace ap_dB := anp_drew ap_dB
  replace an_vo := an_drew an_vo
  replace an_vb := an_drew an_vb
  replace ap_xB := anp_drew ap_xB
  refine wp_region_held_drew (S := fun W => W.heap[g14]? = some (.cells #[.int .i64 0, .int .i64 0, .int .i64 0, .int .i64 0, .int .i64 64, .int .i64 17, .int .u8 (m0.toNat : Int), .int .u8 (m1.toNat : Int), .int .u8 (m2.toNat : Int), .int .u8 (m3.toNat : Int), .int .u8 10, .int .u8 0, .int .u8 0, .int .u8 ((byteOf 9).toNat : Int), .slice Apo 0 cpo, .slice Apb 9 cpb] 38 (0, 0)) ∧ W.heap[g16]? = some (.cells #[.int .i64 port, .int .i64 inn, .slice Agd 1 cgd] 54 (0, 0))) (by kernel_rfl) ⟨hpB, hdB⟩ (fun hH => ?_)
  generalize w89.drew = w90 at bel hfB hmB hpB hdB hxB uo ub po pb gd vo vb hT ap_fB ap_mB an_uo an_ub an_po an_pb ap_pB an_gd ap_dB an_vo an_vb ap_xB hH ⊢
  refine wpAnyH_take (i := 0) (v := ?_) rfl (by kernel_rfl) (by kernel_rfl) (by kernel_rfl) (fun _ _ _ h => h) (Or.inl ⟨by rfl, ?_⟩) hH ?_
  rotate_left
  · ((intro W hW; clear hW; go_simp) <;> with_reducible rfl)
  simp only [Act.put, List.getElem_toArray, List.getElem_cons_zero, List.setIfInBounds_toArray, List.set_cons_zero, List.set_cons_succ]
  refine wpAnyH_take (i := 1) (v := ?_) rfl (by kernel_rfl) (by kernel_rfl) (by kernel_rfl) (fun _ _ _ h => h) (Or.inl ⟨by rfl, ?_⟩) hH ?_
  rotate_left
  · ((intro W hW; clear hW; go_simp) <;> with_reducible rfl)
  simp only [sq3, sq4]
  refine wpAnyH_take (i := 2) (v := ?_) rfl (by kernel_rfl) (by kernel_rfl) (by kernel_rfl) (fun _ _ _ h => h) (Or.inl ⟨by rfl, ?_⟩) hH ?_
  rotate_left
  · ((intro W hW; clear hW; go_simp) <;> with_reducible rfl)
  simp only [sq3, sq4]
  refine wpAnyH_take (i := 3) (v := ?_) rfl (by kernel_rfl) (by kernel_rfl) (by kernel_rfl) (fun _ _ _ h => h) (Or.inl ⟨by rfl, ?_⟩) hH ?_
  rotate_left
  · ((intro W hW; clear hW; go_simp) <;> with_reducible rfl)
  simp only [sq3, sq4]
  refine wpAnyH_take (i := 4) (v := ?_) rfl (by kernel_rfl) (by kernel_rfl) (by kernel_rfl) (fun _ _ _ h => h) (Or.inl ⟨by rfl, ?_⟩) hH ?_
  rotate_left
  · ((intro W hW; clear hW; go_simp) <;> with_reducible rfl)
  simp only [sq3, sq4]
  refine wpAnyH_take (i := 5) (v := ?_) rfl (by kernel_rfl) (by kernel_rfl) (by kernel_rfl) (fun _ _ _ h => h) (Or.inl ⟨by rfl, ?_⟩) hH ?_
  rotate_left
  · ((intro W hW; clear hW; go_simp) <;> with_reducible rfl)
  simp only [sq3, sq4]
  refine wpAnyH_take (i := 6) (v := ?_) rfl (by kernel_rfl) (by kernel_rfl) (by kernel_rfl) (fun _ _ _ h => h) (Or.inl ⟨by rfl, ?_⟩) hH ?_
  rotate_left
  · ((intro W hW; clear hW; go_simp) <;> with_reducible rfl)
  simp only [sq3, sq4]
  refine wpAnyH_take (i := 7) (v := ?_) rfl (by kernel_rfl) (by kernel_rfl) (by kernel_rfl) (fun _ _ _ h => h) (Or.inl ⟨by rfl, ?_⟩) hH ?_
  rotate_left
  · ((intro W hW; clear hW; go_simp) <;> with_reducible rfl)
  simp only [sq3, sq4]
  refine wpAnyH_take (i := 8) (v := .agg #[.int .u8 10, .int .u8 0, .int .u8 0, .int .u8 ((byteOf 9).toNat : Int)]) rfl (by kernel_rfl) (by kernel_rfl) (by kernel_rfl) (fun _ _ _ h => h) (yieldsIf_load_part (by kernel_rfl) 35 _ rfl g14 10 4 rfl _ 38 (0, 0) (fun W hW => hW.1) _ rfl _ Tryz.underlying35 rfl (by kernel_rfl)) hH ?_
  simp only [sq3, sq4]
  refine wpAnyH_ready (rs := [9]) (by kernel_rfl) (by simp) ?_
  refine AllReadyH.cons (o := _) rfl (fun K hK => ?_) AllReadyH.nil
  simp only [sq3]
  go_simp
  with_reducible refine (at19 9 _).mono ?_
  rintro e w91 ⟨rfl, b91⟩
  dsimp only
  replace hfB := blk_u hfB b91
  replace hmB := blk_u hmB b91
  replace hpB := blk_u hpB b91
  replace hdB := blk_u hdB b91
  replace hxB := blk_u hxB b91
  replace uo := uo.below b91
  replace ub := ub.below b91
  replace po := po.below b91
  replace pb := pb.below b91
  replace gd := gd.below b91
  replace vo := vo.below b91
  replace vb := vb.below b91
  replace hT := hT.below b91
  replace ap_fB := ap_fB.below b91
  replace ap_mB := ap_mB.below b91
  replace an_uo := an_uo.below b91
  replace an_ub := an_ub.below b91
  replace an_po := an_po.below b91
  replace an_pb := an_pb.below b91
  replace ap_pB := ap_pB.below b91
  replace an_gd := an_gd.below b91
  replace ap_dB := ap_dB.below b91
  replace an_vo := an_vo.below b91
  replace an_vb := an_vb.below b91
  replace ap_xB := ap_xB.below b91
  replace bel := bel.trans (b91.mono bel.size)
  clear b91
  refine hK.out _ _ ⟨hpB, hdB⟩ (fun hH92 => ?_)
  clear hK K
  refine wpAnyH_take (i := 10) (v := ?_) rfl (by kernel_rfl) (by kernel_rfl) (by kernel_rfl) (fun _ _ _ h => h) (Or.inl ⟨by rfl, ?_⟩) hH92 ?_
  rotate_left
  · ((intro W hW; clear hW; go_simp) <;> with_reducible rfl)
  simp only [sq3, sq4]
  refine wpAnyH_take (i := 11) (v := ?_) rfl (by kernel_rfl) (by kernel_rfl) (by kernel_rfl) (fun _ _ _ h => h) (Or.inl ⟨by rfl, ?_⟩) hH92 ?_
  rotate_left
  · ((intro W hW; clear hW; go_simp) <;> with_reducible rfl)
  simp only [sq3, sq4]
  refine wpAnyH_take (i := 12) (v := ?_) rfl (by kernel_rfl) (by kernel_rfl) (by kernel_rfl) (fun _ _ _ h => h) (Or.inl ⟨by rfl, ?_⟩) hH92 ?_
  rotate_left
  · ((intro W hW; clear hW; go_simp) <;> with_reducible rfl)
  simp only [sq3, sq4]
  refine wpAnyH_take (i := 13) (v := ?_) rfl (by kernel_rfl) (by kernel_rfl) (by kernel_rfl) (fun _ _ _ h => h) (Or.inl ⟨by rfl, ?_⟩) hH92 ?_
  rotate_left
  · ((intro W hW; clear hW; go_simp) <;> with_reducible rfl)
  simp only [sq3, sq4]
  refine wpAnyH_take (i := 14) (v := ?_) rfl (by kernel_rfl) (by kernel_rfl) (by kernel_rfl) (fun _ _ _ h => h) (Or.inl ⟨by rfl, ?_⟩) hH92 ?_
  rotate_left
  · ((intro W hW; have hk := cell_lit (hW.2) 1 _ rfl; clear hW; go_simp) <;> with_reducible rfl)
  simp only [sq3, sq4]
  refine wpAnyH_take (i := 15) (v := ?_) rfl (by kernel_rfl) (by kernel_rfl) (by kernel_rfl) (fun _ _ _ h => h) (Or.inl ⟨by rfl, ?_⟩) hH92 ?_
  rotate_left
  · ((intro W hW; clear hW; go_simp) <;> with_reducible rfl)
  simp only [sq3, sq4]
  refine wpAnyH_take (i := 16) (v := ?_) rfl (by kernel_rfl) (by kernel_rfl) (by kernel_rfl) (fun _ _ _ h => h) (Or.inl ⟨by rfl, ?_⟩) hH92 ?_
  rotate_left
  · ((intro W hW; clear hW; go_simp) <;> with_reducible rfl)
  simp only [sq3, sq4]
  refine wpAnyH_take (i := 17) (v := ?_) rfl (by kernel_rfl) (by kernel_rfl) (by kernel_rfl) (fun _ _ _ h => h) (Or.inl ⟨by rfl, ?_⟩) hH92 ?_
  rotate_left
  · ((intro W hW; clear hW; go_simp) <;> with_reducible rfl)
  simp only [sq3, sq4]
  refine wpAnyH_take (i := 18) (v := ?_) rfl (by kernel_rfl) (by kernel_rfl) (by kernel_rfl) (fun _ _ _ h => h) (Or.inl ⟨by rfl, ?_⟩) hH92 ?_
  rotate_left
  · ((intro W hW; clear hW; go_simp) <;> with_reducible rfl)
  simp only [sq3, sq4]
  refine wpAnyH_take (i := 19) (v := ?_) rfl (by kernel_rfl) (by kernel_rfl) (by kernel_rfl) (fun _ _ _ h => h) (Or.inl ⟨by rfl, ?_⟩) hH92 ?_
  rotate_left
  · ((intro W hW; clear hW; go_simp) <;> with_reducible rfl)
  simp only [sq3, sq4]
  refine wpAnyH_take (i := 20) (v := ?_) rfl (by kernel_rfl) (by kernel_rfl) (by kernel_rfl) (fun _ _ _ h => h) (Or.inl ⟨by rfl, ?_⟩) hH92 ?_
  rotate_left
  · ((intro W hW; have hk := cell_lit (hW.2) 0 _ rfl; clear hW; go_simp) <;> with_reducible rfl)
  simp only [sq3, sq4]
  refine wpAnyH_take (i := 21) (v := ?_) rfl (by kernel_rfl) (by kernel_rfl) (by kernel_rfl) (fun _ _ _ h => h) (Or.inl ⟨by rfl, ?_⟩) hH92 ?_
  rotate_left
  · ((intro W hW; clear hW; go_simp) <;> with_reducible rfl)
  simp only [sq3, sq4]
  refine wpAnyH_take (i := 22) (v := ?_) rfl (by kernel_rfl) (by kernel_rfl) (by kernel_rfl) (fun _ _ _ h => h) (Or.inl ⟨by rfl, ?_⟩) hH92 ?_
  rotate_left
  · ((intro W hW; clear hW; go_simp) <;> with_reducible rfl)
  simp only [sq3, sq4]
  refine wpAnyH_take (i := 23) (v := ?_) rfl (by kernel_rfl) (by kernel_rfl) (by kernel_rfl) (fun _ _ _ h => h) (Or.inl ⟨by rfl, ?_⟩) hH92 ?_
  rotate_left
  · ((intro W hW; clear hW; go_simp) <;> with_reducible rfl)
  simp only [sq3, sq4]
  refine wpAnyH_take (i := 24) (v := ?_) rfl (by kernel_rfl) (by kernel_rfl) (by kernel_rfl) (fun _ _ _ h => h) (Or.inl ⟨by rfl, ?_⟩) hH92 ?_
  rotate_left
  · ((intro W hW; clear hW; go_simp) <;> with_reducible rfl)
  simp only [sq3, sq4]
  refine wpAnyH_take (i := 25) (v := ?_) rfl (by kernel_rfl) (by kernel_rfl) (by kernel_rfl) (fun _ _ _ h => h) (Or.inl ⟨by rfl, ?_⟩) hH92 ?_
  rotate_left
  · ((intro W hW; clear hW; go_simp) <;> with_reducible rfl)
  simp only [sq3, sq4]
  refine wpAnyH_take (i := 26) (v := ?_) rfl (by kernel_rfl) (by kernel_rfl) (by kernel_rfl) (fun _ _ _ h => h) (Or.inl ⟨by rfl, ?_⟩) hH92 ?_
  rotate_left
  · ((intro W hW; clear hW; go_simp) <;> with_reducible rfl)
  simp only [sq3, sq4]
  refine wpAnyH_take (i := 27) (v := ?_) rfl (by kernel_rfl) (by kernel_rfl) (by kernel_rfl) (fun _ _ _ h => h) (Or.inl ⟨by rfl, ?_⟩) hH92 ?_
  rotate_left
  · ((intro W hW; clear hW; go_simp) <;> with_reducible rfl)
  simp only [sq3, sq4]
  refine wpAnyH_take (i := 28) (v := ?_) rfl (by kernel_rfl) (by kernel_rfl) (by kernel_rfl) (fun _ _ _ h => h) (Or.inl ⟨by rfl, ?_⟩) hH92 ?_
  rotate_left
  · ((intro W hW; clear hW; go_simp) <;> with_reducible rfl)
  simp only [sq3, sq4]
  refine wpAnyH_take (i := 29) (v := ?_) rfl (by kernel_rfl) (by kernel_rfl) (by kernel_rfl) (fun _ _ _ h => h) (Or.inl ⟨by rfl, ?_⟩) hH92 ?_
  rotate_left
  · ((intro W hW; clear hW; go_simp) <;> with_reducible rfl)
  simp only [sq3, sq4]
  refine wpAnyH_ready (rs := [30]) (by kernel_rfl) (by simp) ?_
  refine AllReadyH.cons (o := _) rfl (fun K hK => ?_) AllReadyH.nil
  simp only [sq3]
  go_simp
  with_reducible refine (z_len _ hT HKN.out).mono ?_
  rintro e w93 ⟨rfl, hT_, f_, bb⟩
  dsimp only
  have x_ := f_ _ _ _ _ hfB ap_fB
  replace hfB := x_.1
  replace ap_fB := x_.2
  clear x_
  have x_ := f_ _ _ _ _ hmB ap_mB
  replace hmB := x_.1
  replace ap_mB := x_.2
  clear x_
  have x_ := f_ _ _ _ _ hpB ap_pB
  replace hpB := x_.1
  replace ap_pB := x_.2
  clear x_
  have x_ := f_ _ _ _ _ hdB ap_dB
  replace hdB := x_.1
  replace ap_dB := x_.2
  clear x_
  have x_ := f_ _ _ _ _ hxB ap_xB
  replace hxB := x_.1
  replace ap_xB := x_.2
  clear x_
  have x_ := f_.sl uo an_uo
  replace uo := x_.1
  replace an_uo := x_.2
  clear x_
  have x_ := f_.sl ub an_ub
  replace ub := x_.1
  replace an_ub := x_.2
  clear x_
  have x_ := f_.sl po an_po
  replace po := x_.1
  replace an_po := x_.2
  clear x_
  have x_ := f_.sl pb an_pb
  replace pb := x_.1
  replace an_pb := x_.2
  clear x_
  have x_ := f_.sl gd an_gd
  replace gd := x_.1
  replace an_gd := x_.2
  clear x_
  have x_ := f_.sl vo an_vo
  replace vo := x_.1
  replace an_vo := x_.2
  clear x_
  have x_ := f_.sl vb an_vb
  replace vb := x_.1
  replace an_vb := x_.2
  clear x_
  clear hT
  have hT := hT_
  replace bel := bel.trans bb
  clear bb f_ hT_
  refine hK.out _ _ ⟨hpB, hdB⟩ (fun hH94 => ?_)
  clear hK K
  refine wpAnyH_take (i := 31) (v := ?_) rfl (by kernel_rfl) (by kernel_rfl) (by kernel_rfl) (fun _ _ _ h => h) (Or.inl ⟨by rfl, ?_⟩) hH94 ?_
  rotate_left
  · ((intro W hW; clear hW; go_simp) <;> with_reducible rfl)
  simp only [sq3, sq4]
  refine wpAnyH_take (i := 32) (v := ?_) rfl (by kernel_rfl) (by kernel_rfl) (by kernel_rfl) (fun _ _ _ h => h) (Or.inl ⟨by rfl, ?_⟩) hH94 ?_
  rotate_left
  · ((intro W hW; clear hW; go_simp) <;> with_reducible rfl)
  simp only [sq3, sq4]
  refine wpAnyH_take (i := 33) (v := ?_) rfl (by kernel_rfl) (by kernel_rfl) (by kernel_rfl) (fun _ _ _ h => h) (Or.inl ⟨by rfl, ?_⟩) hH94 ?_
  rotate_left
  · ((intro W hW; clear hW; go_simp) <;> with_reducible rfl)
  simp only [sq3, sq4]
  refine wpAnyH_done (by kernel_rfl) ?_ _
  go_wp2_with fail
  go_ret
  exact ⟨rfl, bel⟩
end Go.Proofs.YtbdaejodbcjmfaaGreat
