/- PortsGone. -/
import Derived.Test.YtmjmjfcdblapcaaLaw17
import Derived.Test.YtmjmjfcdblapcaaPta
namespace Go.Proofs.Ytmjmjfcdblapcaa
open Go.RowKit

theorem and_3 : ∀ k : Nat, k < 32 → bits .and .i64 (k : Int) 3 = ((k % 4 : Nat) : Int) := by decide +kernel
theorem tmod_3 (k : Nat) : (k : Int).tmod 3 = ((k % 3 : Nat) : Int) := by
  rw [Int.tmod_eq_emod_of_nonneg (by omega)]
  omega
/-- The so many-th mapping. -/
def gm (i : Nat) : Mp := ⟨17, 100 + (i : Int), atA ((i % 4 : Nat) : Int), 80, 2 + ((i % 3 : Nat) : Int), if i % 3 = 2 then 0 else 50⟩
def gL (n : Nat) : List Mp := (List.range n).map gm
def gS (l : List Mp) : Ts := ⟨40000, 100, 0, l, []⟩
theorem gm_num (i : Nat) : (gm i).num = 1114212 + i := by
  show (17 * 65536 + (100 + (i : Int))).toNat = _
  omega
theorem gm_okp {i : Nat} (h : i < 100) : (gm i).okp := by
  show (0 : Int) ≤ 17 ∧ (17 : Int) ≤ 255 ∧ 0 ≤ 100 + (i : Int) ∧ 100 + (i : Int) ≤ 65535
  omega
theorem kn_gm (i : Nat) : kn 17 (100 + (i : Int)) = 1114212 + i := gm_num i
theorem gL_at {n j : Nat} {e : Mp} (h : (gL n)[j]? = some e) : j < n ∧ e = gm j := by
  unfold gL at h
  rw [List.getElem?_map] at h
  rcases hr : (List.range n)[j]? with _ | x
  · rw [hr] at h; cases h
  · rw [hr] at h
    simp only [Option.map_some, Option.some.injEq] at h
    obtain ⟨h1, h2⟩ := List.getElem?_eq_some_iff.1 hr
    rw [List.getElem_range] at h2
    rw [List.length_range] at h1
    exact ⟨h1, by rw [← h, ← h2]⟩
theorem gL_len (n : Nat) : (gL n).length = n := by unfold gL; rw [List.length_map, List.length_range]
theorem gL_pos (n : Nat) : mfpos (gL n) (kn 17 (100 + (n : Int))) = n := by
  refine mfpos_of (by rw [gL_len]; exact Nat.le_refl _) (fun j e hj he => ?_) (fun j e hj he => ?_)
  · rw [(gL_at he).2, gm_num, kn_gm]; omega
  · have := (gL_at he).1; omega
theorem gL_no (n : Nat) : mfhas (gL n) (kn 17 (100 + (n : Int))) = false := MSrt.none fun e he => by
  obtain ⟨j, hj⟩ := List.getElem?_of_mem he
  rw [(gL_at hj).2, gm_num, kn_gm]
  have := (gL_at hj).1; omega
theorem gL_ins (n : Nat) : mins (gL n) (gm n) = gL (n + 1) := by
  unfold mins
  rw [show mfpos (gL n) (gm n).num = n from gL_pos n, List.take_of_length_le (by rw [gL_len]; exact Nat.le_refl _), List.drop_eq_nil_of_le (by rw [gL_len]; exact Nat.le_refl _)]
  unfold gL
  rw [List.range_succ, List.map_append]
  rfl
theorem gm_perm {i : Nat} (h : i < 30) : permB (gm i) = true := by
  have : ∀ i : Nat, i < 30 → permB (gm i) = true := by decide +kernel
  exact this i h
theorem gm_live {i : Nat} (h : i < 30) : liveB 0 (gm i) = true := by
  have : ∀ i : Nat, i < 30 → liveB 0 (gm i) = true := by decide +kernel
  exact this i h
/-- Is it purged; is it cleared? -/
def pB (who : Int) (i : Nat) : Bool := (((i % 4 : Nat) : Int) == who) && !((2 + ((i % 3 : Nat) : Int)) == 4)
def kB (kind : Int) (i : Nat) : Bool := (2 + ((i % 3 : Nat) : Int)) == kind
def cP (who : Int) (k : Nat) : Nat := ((List.range k).filter (pB who)).length
def cC (who kind : Int) (k : Nat) : Nat := ((List.range k).filter (fun i => !pB who i && kB kind i)).length
def gF (who kind : Int) (n : Nat) : List Mp := ((List.range n).filter (fun i => !pB who i && !kB kind i)).map gm
theorem fl_keep {p : Nat → Bool} {k : Nat} (h : p k = true) : ((List.range (k + 1)).filter p).length = ((List.range k).filter p).length + 1 := by
  rw [List.range_succ, List.filter_append, List.length_append]
  simp [h]
theorem fl_skip {p : Nat → Bool} {k : Nat} (h : p k = false) : ((List.range (k + 1)).filter p).length = ((List.range k).filter p).length := by
  rw [List.range_succ, List.filter_append, List.length_append]
  simp [h]
theorem pur_gm {who : Int} (h0 : 0 ≤ who) (h1 : who ≤ 3) (i : Nat) : purB (atA who) 4 (gm i) = pB who i := by
  unfold purB pB
  have e : (atA ((i % 4 : Nat) : Int)).eqB (atA who) = (((i % 4 : Nat) : Int) == who) := by
    by_cases he : ((i % 4 : Nat) : Int) = who
    · rw [he, Ad4.eqB_self, beq_self_eq_true]
    · rw [beq_eq_false_iff_ne.2 he]
      refine Ad4.eqB_no fun h => ?_
      have h2 : byteOf ((i % 4 : Nat) : Int) = byteOf who := congrArg Ad4.d h
      have h3 : ((byteOf ((i % 4 : Nat) : Int)).toNat : Int) = ((byteOf who).toNat : Int) := by rw [h2]
      rw [byteOf_val, byteOf_val] at h3
      omega
  show ((atA ((i % 4 : Nat) : Int)).eqB (atA who) && !((2 + ((i % 3 : Nat) : Int)) == 4)) = _
  rw [e]
theorem fil_len {α : Type} (p : α → Bool) (l : List α) : ((l.filter (fun x => !p x)).length : Int) = (l.length : Int) - ((l.filter p).length : Int) := by
  induction l with
  | nil => rfl
  | cons x l ih =>
    cases h : p x <;> simp [h] <;> omega
theorem g_pur {who : Int} (h0 : 0 ≤ who) (h1 : who ≤ 3) (n : Nat) : (gL n).filter (fun e => !purB (atA who) 4 e) = ((List.range n).filter (fun i => !pB who i)).map gm := by
  unfold gL
  rw [List.filter_map]
  congr 1
  apply List.filter_congr
  intro i _
  show (!purB (atA who) 4 (gm i)) = _
  rw [pur_gm h0 h1]
theorem g_pur_len {who : Int} (h0 : 0 ≤ who) (h1 : who ≤ 3) {n c : Nat} (hc : c = cP who n) : ((gL n).length : Int) - (((gL n).filter (fun e => !purB (atA who) 4 e)).length : Int) = (c : Int) := by
  rw [g_pur h0 h1, List.length_map, fil_len, gL_len, List.length_range, hc]
  unfold cP
  omega
theorem g_clr {who kind : Int} (n : Nat) : (((List.range n).filter (fun i => !pB who i)).map gm).filter (fun e => !clrB kind e) = gF who kind n := by
  unfold gF
  rw [List.filter_map, List.filter_filter]
  congr 1
  apply List.filter_congr
  intro i _
  show (!clrB kind (gm i) && !pB who i) = (!pB who i && !kB kind i)
  rw [Bool.and_comm]
  rfl
theorem g_clr_len {who kind : Int} {n c : Nat} (hc : c = cC who kind n) : ((((List.range n).filter (fun i => !pB who i)).map gm).length : Int) - (((((List.range n).filter (fun i => !pB who i)).map gm).filter (fun e => !clrB kind e)).length : Int) = (c : Int) := by
  rw [fil_len (clrB kind), hc, List.length_map]
  unfold cC
  have e : (((List.range n).filter (fun i => !pB who i)).map gm).filter (clrB kind) = ((List.range n).filter (fun i => !pB who i && kB kind i)).map gm := by
    rw [List.filter_map, List.filter_filter]
    congr 1
    apply List.filter_congr
    intro i _
    show (clrB kind (gm i) && !pB who i) = (!pB who i && kB kind i)
    rw [Bool.and_comm]
    rfl
  rw [e, List.length_map]
  omega
theorem gF_len {who kind : Int} {n a c : Nat} (ha : a = cP who n) (hc : c = cC who kind n) : ((gF who kind n).length : Int) = (n : Int) - a - c := by
  rw [← g_clr, fil_len (clrB kind)]
  have h1 := g_clr_len (who := who) (kind := kind) (n := n) hc
  rw [fil_len (clrB kind)] at h1
  have h2 : ((((List.range n).filter (fun i => !pB who i)).map gm).length : Int) = (n : Int) - a := by
    rw [List.length_map, fil_len, List.length_range, ha]; rfl
  omega
theorem gF_mem {who kind : Int} {n : Nat} {e : Mp} : e ∈ gF who kind n ↔ ∃ i, i < n ∧ (!pB who i && !kB kind i) = true ∧ e = gm i := by
  unfold gF
  rw [List.mem_map]
  constructor
  · rintro ⟨i, hi, rfl⟩
    obtain ⟨h1, h2⟩ := List.mem_filter.1 hi
    exact ⟨i, List.mem_range.1 h1, h2, rfl⟩
  · rintro ⟨i, h1, h2, rfl⟩
    exact ⟨i, List.mem_filter.2 ⟨List.mem_range.2 h1, h2⟩, rfl⟩
theorem gone_put {lo gt : Nat} {k r4 : Nat} {po kd u : Int} (w : World) (hT : Tp lo gt w (gS (gL k))) (hk : k < 30) (h4 : k % 4 = r4) (ho : 100 + (k : Int) = po) (hkd : 2 + ((k % 3 : Nat) : Int) = kd) (hu : (if k % 3 = 2 then 0 else 50) = u) : Calls Try.prog 12 #[.pointer (some ⟨gt, 0, none⟩), .agg #[.int .i64 17, .int .i64 po, .int .u8 ((atA (r4 : Int)).a.toNat : Int), .int .u8 ((atA (r4 : Int)).b.toNat : Int), .int .u8 ((atA (r4 : Int)).c.toNat : Int), .int .u8 ((atA (r4 : Int)).d.toNat : Int), .int .i64 80, .int .i64 kd, .int .i64 u], .int .i64 0] w fun e w' => e = .returned (.int .i64 0) ∧ Tp lo gt w' (gS (gL (k + 1))) ∧ Fap gt w w' ∧ Below lo w w' := by
  have e : (⟨17, po, atA (r4 : Int), 80, kd, u⟩ : Mp) = gm k := by unfold gm; rw [← ho, ← h4, ← hkd, ← hu]
  have h1 := gm_perm hk
  have h2 := gm_live hk
  have h3 := gL_no k
  rw [← e] at h1 h2
  rw [ho] at h3
  exact pt_new (s1 := gS (gL k)) (s2 := gS (gL (k + 1))) w hT rfl h1 h2 h3 (by show ((gL k).length : Int) < 100; rw [gL_len]; omega) (by rw [e]; show (⟨40000, 100, 0, mins (gL k) (gm k), odel [] _⟩ : Ts) = _; rw [gL_ins]; rfl)
theorem gone_pur {lo gt : Nat} {n c : Nat} {who : Int} (w : World) (hT : Tp lo gt w (gS (gL n))) (h0 : 0 ≤ who) (h1 : who ≤ 3) (hc : c = cP who n) : Calls Try.prog 15 #[.pointer (some ⟨gt, 0, none⟩), .agg #[.int .u8 ((atA who).a.toNat : Int), .int .u8 ((atA who).b.toNat : Int), .int .u8 ((atA who).c.toNat : Int), .int .u8 ((atA who).d.toNat : Int)], .int .i64 4] w fun e w' => e = .returned (.int .i64 (c : Int)) ∧ Tp lo gt w' (gS (((List.range n).filter (fun i => !pB who i)).map gm)) ∧ Fap gt w w' ∧ Below lo w w' := by
  have h := tpurge (a := atA who) (kp := 4) w hT (g_pur_len h0 h1 hc)
  rw [g_pur h0 h1] at h
  exact h
theorem gone_clr {lo gt : Nat} {n c : Nat} {who kind : Int} (w : World) (hT : Tp lo gt w (gS (((List.range n).filter (fun i => !pB who i)).map gm))) (hc : c = cC who kind n) : Calls Try.prog 20 #[.pointer (some ⟨gt, 0, none⟩), .int .i64 kind] w fun e w' => e = .returned (.int .i64 (c : Int)) ∧ Tp lo gt w' (gS (gF who kind n)) ∧ Fap gt w w' ∧ Below lo w w' := by
  have h := tclear (kp := kind) w hT (g_clr_len hc)
  rw [g_clr] at h
  exact h
theorem gone_yes {lo gt : Nat} {k r4 : Nat} {po kd u : Int} {n : Nat} {who kind : Int} (w : World) (hT : Tp lo gt w (gS (gF who kind n))) (hkn : k < n) (hb : (!pB who k && !kB kind k) = true) (hk : k < 30) (h4 : k % 4 = r4) (ho : 100 + (k : Int) = po) (hkd : 2 + ((k % 3 : Nat) : Int) = kd) (hu : (if k % 3 = 2 then 0 else 50) = u) : Calls Try.prog 19 #[.pointer (some ⟨gt, 0, none⟩), .int .i64 17, .int .i64 po, .int .i64 0] w fun e w' => e = .returned (.tuple #[.agg #[.int .i64 17, .int .i64 po, .int .u8 ((atA (r4 : Int)).a.toNat : Int), .int .u8 ((atA (r4 : Int)).b.toNat : Int), .int .u8 ((atA (r4 : Int)).c.toNat : Int), .int .u8 ((atA (r4 : Int)).d.toNat : Int), .int .i64 80, .int .i64 kd, .int .i64 u], .bool true]) ∧ Tp lo gt w' (gS (gF who kind n)) ∧ Fap gt w w' ∧ Below lo w w' := by
  have e : (⟨17, po, atA (r4 : Int), 80, kd, u⟩ : Mp) = gm k := by unfold gm; rw [← ho, ← h4, ← hkd, ← hu]
  have hm : (⟨17, po, atA (r4 : Int), 80, kd, u⟩ : Mp) ∈ gF who kind n := gF_mem.2 ⟨k, hkn, hb, e⟩
  obtain ⟨j, hj⟩ := List.getElem?_of_mem hm
  obtain ⟨h1, h2⟩ := hT.ok.srt.found hj rfl
  exact in_some (s1 := gS (gF who kind n)) (i := j) w hT rfl (by unfold okP; omega) h2 h1 hj
theorem gone_no {lo gt : Nat} {k n : Nat} {po who kind : Int} (w : World) (hT : Tp lo gt w (gS (gF who kind n))) (hk : k < 30) (ho : 100 + (k : Int) = po) (hb : (!pB who k && !kB kind k) = false) : Calls Try.prog 19 #[.pointer (some ⟨gt, 0, none⟩), .int .i64 17, .int .i64 po, .int .i64 0] w fun e w' => e = .returned (.tuple #[.agg #[.int .i64 0, .int .i64 0, .int .u8 0, .int .u8 0, .int .u8 0, .int .u8 0, .int .i64 0, .int .i64 0, .int .i64 0], .bool false]) ∧ Tp lo gt w' (gS (gF who kind n)) ∧ Fap gt w w' ∧ Below lo w w' := by
  refine in_none (s1 := gS (gF who kind n)) w hT rfl (by unfold okP; omega) (MSrt.none fun e he hn => ?_)
  obtain ⟨i, hi, hp, rfl⟩ := gF_mem.1 he
  rw [gm_num, ← ho, kn_gm] at hn
  obtain rfl : i = k := by omega
  rw [hb] at hp
  cases hp
theorem gone_len {lo gt : Nat} {n a c : Nat} {who kind z : Int} (w : World) (hT : Tp lo gt w (gS (gF who kind n))) (ha : a = cP who n) (hc : c = cC who kind n) (hz : (n : Int) - a - c = z) : Calls Try.prog 17 #[.pointer (some ⟨gt, 0, none⟩), .int .i64 0] w fun e w' => e = .returned (.int .i64 z) ∧ Tp lo gt w' (gS (gF who kind n)) ∧ Fap gt w w' ∧ Below lo w w' := len_is (s1 := gS (gF who kind n)) w hT rfl (by show ((gF who kind n).length : Int) = z; rw [gF_len ha hc, hz])
set_option linter.unusedVariables false in
set_option linter.unusedSimpArgs false in
set_option maxRecDepth 100000 in
set_option maxHeartbeats 16000000 in
theorem portsGone_walk (nn who kind : Int) (w : World) : Calls Try.prog 8 #[.int .i64 nn, .int .i64 who, .int .i64 kind] w fun e w' => e = .returned (.bool true) ∧ Below w.heap.size w w' := by
  have bel := Below.refl w.heap.size w
  go_enter Try.func8, Try.ntmps8
  go_wp2_with fail
  with_reducible refine (awake_any _).mono ?_
  rintro e w1 ⟨rfl, b1⟩
  replace bel := bel.trans (b1.mono bel.size)
  clear b1
  by_cases c1 : nn < 0
  · go_wp2_with fail
    go_ret
    exact ⟨rfl, bel⟩
  have Hc1 : Hid (0 ≤ nn) := Lib.hid (by omega)
  replace c1 : decide (nn < 0) = false := decide_eq_false c1
  by_cases c2 : 30 < nn
  · go_wp2_with fail
    go_ret
    exact ⟨rfl, bel⟩
  have Hc2 : Hid (nn ≤ 30) := Lib.hid (by omega)
  replace c2 : decide (30 < nn) = false := decide_eq_false c2
  by_cases c3 : who < 0
  · go_wp2_with fail
    go_ret
    exact ⟨rfl, bel⟩
  have Hc3 : Hid (0 ≤ who) := Lib.hid (by omega)
  replace c3 : decide (who < 0) = false := decide_eq_false c3
  by_cases c4 : 3 < who
  · go_wp2_with fail
    go_ret
    exact ⟨rfl, bel⟩
  have Hc4 : Hid (who ≤ 3) := Lib.hid (by omega)
  replace c4 : decide (3 < who) = false := decide_eq_false c4
  by_cases c5 : kind < 2
  · go_wp2_with fail
    go_ret
    exact ⟨rfl, bel⟩
  have Hc5 : Hid (2 ≤ kind) := Lib.hid (by omega)
  replace c5 : decide (kind < 2) = false := decide_eq_false c5
  by_cases c6 : 4 < kind
  · go_wp2_with fail
    go_ret
    exact ⟨rfl, bel⟩
  have Hc6 : Hid (kind ≤ 4) := Lib.hid (by omega)
  replace c6 : decide (4 < kind) = false := decide_eq_false c6
  obtain ⟨n, hn⟩ : ∃ n : Nat, nn = (n : Int) := ⟨nn.toNat, by have := Hc1.out; omega⟩
  subst hn
  have HN30 : Hid (n ≤ 30) := Lib.hid (by have := Hc2.out; omega)
  go_wp2_with fail
  have HLO_ := bel.size
  with_reducible refine (tnew_any (lw := 40000) (rm := 100) _ (by decide) (by decide) (by decide) (by decide)).mono ?_
  rintro e w2 ⟨gt, rfl, hT, b2⟩
  replace bel := bel.trans (b2.mono bel.size)
  clear b2
  replace hT : Tp w.heap.size gt w2 (gS (gL 0)) := hT.lo_mono HLO_
  clear HLO_
  go_wp2_with fail
  go_loopg [9] (n) (fun gk s9 wr => ∃ k : Nat, gk = n - k ∧ k ≤ n ∧ Tp w.heap.size gt wr (gS (gL k)) ∧ s9 = .int .i64 (k : Int) ∧ Below w.heap.size w wr)
  case atStart => exact ⟨0, Nat.sub_zero _, Nat.zero_le _, hT, rfl, bel⟩
  case round =>
    clear hT bel
    obtain ⟨k, HGK, hkn, hT, rfl, bel⟩ := hrel
    have HGK_ := Lib.hid HGK
    clear HGK
    by_cases h : (k : Int) < n
    · have k0 : (0 : Int) ≤ k := by omega
      have HK : Hid (k < n) := Lib.hid (by omega)
      have HK30 : Hid (k < 30) := Lib.hid (by have := HN30.out; omega)
      have k30 : (k : Int) < 30 := by have := HK30.out; omega
      obtain ⟨r4, hr4⟩ : ∃ z, k % 4 = z := ⟨_, rfl⟩
      obtain ⟨r3, hr3⟩ : ∃ z, k % 3 = z := ⟨_, rfl⟩
      obtain ⟨po, hpo⟩ : ∃ z : Int, 100 + (k : Int) = z := ⟨_, rfl⟩
      obtain ⟨kd, hkd⟩ : ∃ z : Int, 2 + (r3 : Int) = z := ⟨_, rfl⟩
      have HR4 := Lib.hid hr4
      have HR3 := Lib.hid hr3
      have HPO := Lib.hid hpo
      have HKD : Hid (2 + ((k % 3 : Nat) : Int) = kd) := Lib.hid (by rw [hr3]; exact hkd)
      have HKD3 := Lib.hid hkd
      have HR33 : Hid (r3 < 3) := Lib.hid (by omega)
      have hand : bits .and .i64 (k : Int) 3 = (r4 : Int) := by rw [and_3 k (by omega), hr4]
      have htm : (k : Int).tmod 3 = (r3 : Int) := by rw [tmod_3, hr3]
      have hem : (k : Int) % 3 = (r3 : Int) := by omega
      have hw0 : IntKind.i64.wrap (100 + (k : Int)) = po := by rw [hpo]; exact IntWalk.i64_in _ (by omega)
      have hw1 : IntKind.i64.wrap (r3 : Int) = (r3 : Int) := IntWalk.i64_in _ (by omega)
      have hw2 : IntKind.i64.wrap (2 + (r3 : Int)) = kd := by rw [hkd]; exact IntWalk.i64_in _ (by omega)
      have hwk : IntKind.i64.wrap ((k : Int) + 1) = (k : Int) + 1 := IntWalk.i64_in _ (by omega)
      clear hr4 hr3 hpo hkd
      by_cases hk4 : kd = 4
      rotate_left
      · have hk4b : (kd == 4) = false := beq_eq_false_iff_ne.2 hk4
        have HU : Hid ((if k % 3 = 2 then (0 : Int) else 50) = 50) := Lib.hid (by have h1_ := HR3.out; have h2_ := HKD3.out; rw [if_neg (by intro h3_; exact hk4 (by omega))])
        clear hk4
        go_wp2_with fail
        with_reducible refine (at_k (r4 : Int) _).mono ?_
        rintro e w3 ⟨rfl, b3⟩
        replace hT := hT.below b3
        replace bel := bel.trans (b3.mono bel.size)
        clear b3
        go_wp2_with (first | ((with_reducible show wpList _ _ _ (⟨some 10, _, _, _, _, _⟩ :: _) _ _); refine wpList_new_a rfl 31 rfl #[.int .i64 0, .int .i64 0, .int .u8 0, .int .u8 0, .int .u8 0, .int .u8 0, .int .i64 0, .int .i64 0, .int .i64 0] (by kernel_rfl) ?_; intro g10 w4 ge hh bb; have ap_mB := hT.ap ge; have omB := Nat.le_trans bel.size ge; replace hT := hT.below bb; replace ap_mB := ap_mB.below bb; replace bel := bel.trans (bb.mono bel.size); have hmB := hh; clear hh ge bb) | ((with_reducible show wpList _ _ _ (⟨none, Op.store _ (.tmp 10) _, _, _, _, _⟩ :: _) _ _); refine wpList_store_blk rfl 31 (.tmp 10) (.tmp 58) rfl g10 rfl _ rfl _ 31 hmB (by rfl) (by kernel_rfl) (by kernel_rfl) ?_; intro w5 hq gr; replace hT := hT.away ap_mB gr hmB; replace ap_mB := ap_mB.grown ap_mB.1 gr; replace bel := below_grown bel gr omB bel.size; clear hmB; have hmB := hq; clear hq gr; have R60 := cell_lit hmB 7 _ rfl; have R64 := Lib.hid (range_lit hmB 0 9 [.int .i64 17, .int .i64 po, .int .u8 ((atA (r4 : Int)).a.toNat : Int), .int .u8 ((atA (r4 : Int)).b.toNat : Int), .int .u8 ((atA (r4 : Int)).c.toNat : Int), .int .u8 ((atA (r4 : Int)).d.toNat : Int), .int .i64 80, .int .i64 kd, .int .i64 50] rfl)) | ((with_reducible show wpList _ _ _ (⟨some 64, _, _, _, _, _⟩ :: _) _ _); refine wpList_load_rng 31 (.tmp 10) rfl (by kernel_rfl) _ _ rfl _ R64.out _ Try.underlying31 rfl (by kernel_rfl) ?_))
        try clear R60
        try clear R64
        with_reducible refine (gone_put _ hT HK30.out HR4.out HPO.out HKD.out HU.out).mono ?_
        rintro e w6 ⟨rfl, hT_, f_, bb⟩
        have x_ := f_ _ _ _ _ hmB ap_mB
        replace hmB := x_.1
        replace ap_mB := x_.2
        clear x_
        clear hT
        have hT := hT_
        replace bel := bel.trans bb
        clear bb f_ hT_
        go_wp2_with fail
        go_roundg (n - (k + 1))
        case measure => have := HGK_.out; have := HK.out; omega
        case rel => exact ⟨k + 1, rfl, by have := HK.out; omega, hT, by go_num, bel⟩
      have hk4b : (kd == 4) = true := beq_iff_eq.2 hk4
      have HU : Hid ((if k % 3 = 2 then (0 : Int) else 50) = 0) := Lib.hid (by have h1_ := HR3.out; have h2_ := HKD3.out; rw [if_pos (by omega)])
      clear hk4
      go_wp2_with fail
      with_reducible refine (at_k (r4 : Int) _).mono ?_
      rintro e w3 ⟨rfl, b3⟩
      replace hT := hT.below b3
      replace bel := bel.trans (b3.mono bel.size)
      clear b3
      go_wp2_with (first | ((with_reducible show wpList _ _ _ (⟨some 10, _, _, _, _, _⟩ :: _) _ _); refine wpList_new_a rfl 31 rfl #[.int .i64 0, .int .i64 0, .int .u8 0, .int .u8 0, .int .u8 0, .int .u8 0, .int .i64 0, .int .i64 0, .int .i64 0] (by kernel_rfl) ?_; intro g10 w4 ge hh bb; have ap_mB := hT.ap ge; have omB := Nat.le_trans bel.size ge; replace hT := hT.below bb; replace ap_mB := ap_mB.below bb; replace bel := bel.trans (bb.mono bel.size); have hmB := hh; clear hh ge bb) | ((with_reducible show wpList _ _ _ (⟨none, Op.store _ (.tmp 10) _, _, _, _, _⟩ :: _) _ _); refine wpList_store_blk rfl 31 (.tmp 10) (.tmp 58) rfl g10 rfl _ rfl _ 31 hmB (by rfl) (by kernel_rfl) (by kernel_rfl) ?_; intro w5 hq gr; replace hT := hT.away ap_mB gr hmB; replace ap_mB := ap_mB.grown ap_mB.1 gr; replace bel := below_grown bel gr omB bel.size; clear hmB; have hmB := hq; clear hq gr; have R60 := cell_lit hmB 7 _ rfl) | ((with_reducible show wpList _ _ _ (⟨none, Op.store _ (.tmp 62) _, _, _, _, _⟩ :: _) _ _); refine wpList_store_part rfl 2 (.tmp 62) (.const (.int .i64 0)) rfl g10 8 rfl [.int .i64 0] rfl [.int .i64 17, .int .i64 po, .int .u8 ((atA (r4 : Int)).a.toNat : Int), .int .u8 ((atA (r4 : Int)).b.toNat : Int), .int .u8 ((atA (r4 : Int)).c.toNat : Int), .int .u8 ((atA (r4 : Int)).d.toNat : Int), .int .i64 80, .int .i64 kd, .int .i64 50] 31 hmB (by simp) [.int .i64 17, .int .i64 po, .int .u8 ((atA (r4 : Int)).a.toNat : Int), .int .u8 ((atA (r4 : Int)).b.toNat : Int), .int .u8 ((atA (r4 : Int)).c.toNat : Int), .int .u8 ((atA (r4 : Int)).d.toNat : Int), .int .i64 80, .int .i64 kd, .int .i64 0] rfl (by kernel_rfl) (by rfl) ?_; intro w6 hq gr; replace hT := hT.away ap_mB gr hmB; replace ap_mB := ap_mB.grown ap_mB.1 gr; replace bel := below_grown bel gr omB bel.size; clear hmB; have hmB := hq; clear hq gr; have R64 := Lib.hid (range_lit hmB 0 9 [.int .i64 17, .int .i64 po, .int .u8 ((atA (r4 : Int)).a.toNat : Int), .int .u8 ((atA (r4 : Int)).b.toNat : Int), .int .u8 ((atA (r4 : Int)).c.toNat : Int), .int .u8 ((atA (r4 : Int)).d.toNat : Int), .int .i64 80, .int .i64 kd, .int .i64 0] rfl)) | ((with_reducible show wpList _ _ _ (⟨some 64, _, _, _, _, _⟩ :: _) _ _); refine wpList_load_rng 31 (.tmp 10) rfl (by kernel_rfl) _ _ rfl _ R64.out _ Try.underlying31 rfl (by kernel_rfl) ?_))
      try clear R60
      try clear R64
      with_reducible refine (gone_put _ hT HK30.out HR4.out HPO.out HKD.out HU.out).mono ?_
      rintro e w7 ⟨rfl, hT_, f_, bb⟩
      have x_ := f_ _ _ _ _ hmB ap_mB
      replace hmB := x_.1
      replace ap_mB := x_.2
      clear x_
      clear hT
      have hT := hT_
      replace bel := bel.trans bb
      clear bb f_ hT_
      go_wp2_with fail
      go_roundg (n - (k + 1))
      case measure => have := HGK_.out; have := HK.out; omega
      case rel => exact ⟨k + 1, rfl, by have := HK.out; omega, hT, by go_num, bel⟩
    have hkn2 : k = n := by omega
    replace h : decide ((k : Int) < n) = false := decide_eq_false h
    have hN_ : decide (k < n) = false := decide_eq_false (by omega)
    rw [hkn2] at hT
    clear hkn2
    go_wp2_with fail
    go_loopg [13, 11, 12] (n) (fun gk s13 s11 s12 wr => ∃ k : Nat, ∃ a : Nat, ∃ c : Nat, gk = n - k ∧ k ≤ n ∧ Hid (a = cP who k) ∧ Hid (c = cC who kind k) ∧ a ≤ k ∧ c ≤ k ∧ Tp w.heap.size gt wr (gS (gL n)) ∧ s13 = .int .i64 (k : Int) ∧ s11 = .int .i64 (a : Int) ∧ s12 = .int .i64 (c : Int) ∧ Below w.heap.size w wr)
    case atStart => exact ⟨0, 0, 0, Nat.sub_zero _, Nat.zero_le _, Lib.hid rfl, Lib.hid rfl, Nat.le_refl _, Nat.le_refl _, hT, rfl, rfl, rfl, bel⟩
    case round =>
      clear hT bel
      obtain ⟨k, a, c, HGK, hkn, HA, HC, hak, hck, hT, rfl, rfl, rfl, bel⟩ := hrel
      have HGK_ := Lib.hid HGK
      clear HGK
      by_cases h : (k : Int) < n
      · have k0 : (0 : Int) ≤ k := by omega
        have HK : Hid (k < n) := Lib.hid (by omega)
        have HK30 : Hid (k < 30) := Lib.hid (by have := HN30.out; omega)
        have k30 : (k : Int) < 30 := by have := HK30.out; omega
        obtain ⟨r4, hr4⟩ : ∃ z, k % 4 = z := ⟨_, rfl⟩
        obtain ⟨r3, hr3⟩ : ∃ z, k % 3 = z := ⟨_, rfl⟩
        obtain ⟨po, hpo⟩ : ∃ z : Int, 100 + (k : Int) = z := ⟨_, rfl⟩
        obtain ⟨kd, hkd⟩ : ∃ z : Int, 2 + (r3 : Int) = z := ⟨_, rfl⟩
        have HR4 := Lib.hid hr4
        have HR3 := Lib.hid hr3
        have HPO := Lib.hid hpo
        have HKD : Hid (2 + ((k % 3 : Nat) : Int) = kd) := Lib.hid (by rw [hr3]; exact hkd)
        have HKD3 := Lib.hid hkd
        have HR33 : Hid (r3 < 3) := Lib.hid (by omega)
        have hand : bits .and .i64 (k : Int) 3 = (r4 : Int) := by rw [and_3 k (by omega), hr4]
        have htm : (k : Int).tmod 3 = (r3 : Int) := by rw [tmod_3, hr3]
        have hem : (k : Int) % 3 = (r3 : Int) := by omega
        have hw0 : IntKind.i64.wrap (100 + (k : Int)) = po := by rw [hpo]; exact IntWalk.i64_in _ (by omega)
        have hw1 : IntKind.i64.wrap (r3 : Int) = (r3 : Int) := IntWalk.i64_in _ (by omega)
        have hw2 : IntKind.i64.wrap (2 + (r3 : Int)) = kd := by rw [hkd]; exact IntWalk.i64_in _ (by omega)
        have hwk : IntKind.i64.wrap ((k : Int) + 1) = (k : Int) + 1 := IntWalk.i64_in _ (by omega)
        clear hr4 hr3 hpo hkd
        have hwa : IntKind.i64.wrap ((a : Int) + 1) = (a : Int) + 1 := IntWalk.i64_in _ (by omega)
        have hwc : IntKind.i64.wrap ((c : Int) + 1) = (c : Int) + 1 := IntWalk.i64_in _ (by omega)
        by_cases h1 : (r4 : Int) = who
        rotate_left
        · have q1 : ((r4 : Int) == who) = false := beq_eq_false_iff_ne.2 h1
          clear h1
          have HPB : Hid (pB who k = false) := Lib.hid (by unfold pB; rw [HR4.out, HKD.out, q1]; rfl)
          by_cases h3 : kd = kind
          · have q3 : (kd == kind) = true := beq_iff_eq.2 h3
            have HKB : Hid (kB kind k = true) := Lib.hid (by unfold kB; rw [HKD.out]; exact q3)
            clear h3
            go_wp2_with fail
            go_roundg (n - (k + 1))
            case measure => have := HGK_.out; have := HK.out; omega
            case rel => exact ⟨k + 1, a, c + 1, rfl, by have := HK.out; omega, Lib.hid (by unfold cP; rw [fl_skip HPB.out]; exact HA.out), Lib.hid (by unfold cC; rw [fl_keep (by show (!pB who k && kB kind k) = true; rw [HPB.out, HKB.out]; rfl), HC.out]; rfl), by omega, by omega, hT, by go_num, by go_num, by go_num, bel⟩
          have q3 : (kd == kind) = false := beq_eq_false_iff_ne.2 h3
          have HKB : Hid (kB kind k = false) := Lib.hid (by unfold kB; rw [HKD.out]; exact q3)
          clear h3
          go_wp2_with fail
          go_roundg (n - (k + 1))
          case measure => have := HGK_.out; have := HK.out; omega
          case rel => exact ⟨k + 1, a, c, rfl, by have := HK.out; omega, Lib.hid (by unfold cP; rw [fl_skip HPB.out]; exact HA.out), Lib.hid (by unfold cC; rw [fl_skip (by show (!pB who k && kB kind k) = false; rw [HPB.out, HKB.out]; rfl)]; exact HC.out), by omega, by omega, hT, by go_num, by go_num, by go_num, bel⟩
        have q1 : ((r4 : Int) == who) = true := beq_iff_eq.2 h1
        clear h1
        by_cases h2 : kd = 4
        rotate_left
        · have q2 : (kd == 4) = false := beq_eq_false_iff_ne.2 h2
          have q2n : (kd != 4) = true := by rw [bne, q2]; rfl
          clear h2
          have HPB : Hid (pB who k = true) := Lib.hid (by unfold pB; rw [HR4.out, HKD.out, q1, q2]; rfl)
          go_wp2_with fail
          go_roundg (n - (k + 1))
          case measure => have := HGK_.out; have := HK.out; omega
          case rel => exact ⟨k + 1, a + 1, c, rfl, by have := HK.out; omega, Lib.hid (by unfold cP; rw [fl_keep HPB.out, HA.out]; rfl), Lib.hid (by unfold cC; rw [fl_skip (by show (!pB who k && kB kind k) = false; rw [HPB.out]; rfl)]; exact HC.out), by omega, by omega, hT, by go_num, by go_num, by go_num, bel⟩
        have q2 : (kd == 4) = true := beq_iff_eq.2 h2
        have q2n : (kd != 4) = false := by rw [bne, q2]; rfl
        clear h2
        have HPB : Hid (pB who k = false) := Lib.hid (by unfold pB; rw [HR4.out, HKD.out, q1, q2]; rfl)
        by_cases h3 : kd = kind
        · have q3 : (kd == kind) = true := beq_iff_eq.2 h3
          have HKB : Hid (kB kind k = true) := Lib.hid (by unfold kB; rw [HKD.out]; exact q3)
          clear h3
          go_wp2_with fail
          go_roundg (n - (k + 1))
          case measure => have := HGK_.out; have := HK.out; omega
          case rel => exact ⟨k + 1, a, c + 1, rfl, by have := HK.out; omega, Lib.hid (by unfold cP; rw [fl_skip HPB.out]; exact HA.out), Lib.hid (by unfold cC; rw [fl_keep (by show (!pB who k && kB kind k) = true; rw [HPB.out, HKB.out]; rfl), HC.out]; rfl), by omega, by omega, hT, by go_num, by go_num, by go_num, bel⟩
        have q3 : (kd == kind) = false := beq_eq_false_iff_ne.2 h3
        have HKB : Hid (kB kind k = false) := Lib.hid (by unfold kB; rw [HKD.out]; exact q3)
        clear h3
        go_wp2_with fail
        go_roundg (n - (k + 1))
        case measure => have := HGK_.out; have := HK.out; omega
        case rel => exact ⟨k + 1, a, c, rfl, by have := HK.out; omega, Lib.hid (by unfold cP; rw [fl_skip HPB.out]; exact HA.out), Lib.hid (by unfold cC; rw [fl_skip (by show (!pB who k && kB kind k) = false; rw [HPB.out, HKB.out]; rfl)]; exact HC.out), by omega, by omega, hT, by go_num, by go_num, by go_num, bel⟩
      obtain rfl : n = k := by omega
      have hkd_ : decide ((n : Int) < n) = false := decide_eq_false (by omega)
      have hN_ : decide (n < n) = false := decide_eq_false (by omega)
      obtain ⟨z, hz⟩ : ∃ z : Int, (n : Int) - a - c = z := ⟨_, rfl⟩
      have HZ := Lib.hid hz
      have hwz1 : IntKind.i64.wrap ((n : Int) - (a : Int)) = (n : Int) - a := IntWalk.i64_in _ (by have := HN30.out; omega)
      have hwz2 : IntKind.i64.wrap ((n : Int) - a - c) = z := by rw [hz]; exact IntWalk.i64_in _ (by have := HN30.out; omega)
      clear hz h
      go_wp2_with fail
      with_reducible refine (at_k who _).mono ?_
      rintro e w3 ⟨rfl, b3⟩
      replace hT := hT.below b3
      replace bel := bel.trans (b3.mono bel.size)
      clear b3
      go_wp2_with fail
      with_reducible refine (gone_pur _ hT Hc3.out Hc4.out HA.out).mono ?_
      rintro e w4 ⟨rfl, hT_, f_, bb⟩
      clear hT
      have hT := hT_
      replace bel := bel.trans bb
      clear bb f_ hT_
      go_wp2_with fail
      with_reducible refine (gone_clr (who := who) _ hT HC.out).mono ?_
      rintro e w5 ⟨rfl, hT_, f_, bb⟩
      clear hT
      have hT := hT_
      replace bel := bel.trans bb
      clear bb f_ hT_
      go_wp2_with fail
      go_loopg [14] (n) (fun gk s14 wr => ∃ k : Nat, gk = n - k ∧ k ≤ n ∧ Tp w.heap.size gt wr (gS (gF who kind n)) ∧ s14 = .int .i64 (k : Int) ∧ Below w.heap.size w wr)
      case atStart => exact ⟨0, Nat.sub_zero _, Nat.zero_le _, hT, rfl, bel⟩
      case round =>
        clear hT bel
        obtain ⟨k, HGK, hkn, hT, rfl, bel⟩ := hrel
        have HGK_ := Lib.hid HGK
        clear HGK
        by_cases h : (k : Int) < n
        rotate_left
        · have hkn2 : k = n := by omega
          replace h : decide ((k : Int) < n) = false := decide_eq_false h
          have hN_ : decide (k < n) = false := decide_eq_false (by omega)
          go_wp2_with fail
          with_reducible refine (gone_len _ hT HA.out HC.out HZ.out).mono ?_
          rintro e w6 ⟨rfl, hT_, f_, bb⟩
          clear hT
          have hT := hT_
          replace bel := bel.trans bb
          clear bb f_ hT_
          go_wp2_with fail
          go_ret
          exact ⟨rfl, bel⟩
        have k0 : (0 : Int) ≤ k := by omega
        have HK : Hid (k < n) := Lib.hid (by omega)
        have HK30 : Hid (k < 30) := Lib.hid (by have := HN30.out; omega)
        have k30 : (k : Int) < 30 := by have := HK30.out; omega
        obtain ⟨r4, hr4⟩ : ∃ z, k % 4 = z := ⟨_, rfl⟩
        obtain ⟨r3, hr3⟩ : ∃ z, k % 3 = z := ⟨_, rfl⟩
        obtain ⟨po, hpo⟩ : ∃ z : Int, 100 + (k : Int) = z := ⟨_, rfl⟩
        obtain ⟨kd, hkd⟩ : ∃ z : Int, 2 + (r3 : Int) = z := ⟨_, rfl⟩
        have HR4 := Lib.hid hr4
        have HR3 := Lib.hid hr3
        have HPO := Lib.hid hpo
        have HKD : Hid (2 + ((k % 3 : Nat) : Int) = kd) := Lib.hid (by rw [hr3]; exact hkd)
        have HKD3 := Lib.hid hkd
        have HR33 : Hid (r3 < 3) := Lib.hid (by omega)
        have hand : bits .and .i64 (k : Int) 3 = (r4 : Int) := by rw [and_3 k (by omega), hr4]
        have htm : (k : Int).tmod 3 = (r3 : Int) := by rw [tmod_3, hr3]
        have hem : (k : Int) % 3 = (r3 : Int) := by omega
        have hw0 : IntKind.i64.wrap (100 + (k : Int)) = po := by rw [hpo]; exact IntWalk.i64_in _ (by omega)
        have hw1 : IntKind.i64.wrap (r3 : Int) = (r3 : Int) := IntWalk.i64_in _ (by omega)
        have hw2 : IntKind.i64.wrap (2 + (r3 : Int)) = kd := by rw [hkd]; exact IntWalk.i64_in _ (by omega)
        have hwk : IntKind.i64.wrap ((k : Int) + 1) = (k : Int) + 1 := IntWalk.i64_in _ (by omega)
        clear hr4 hr3 hpo hkd
        by_cases h1 : (r4 : Int) = who
        rotate_left
        · have q1 : ((r4 : Int) == who) = false := beq_eq_false_iff_ne.2 h1
          clear h1
          have HPB : Hid (pB who k = false) := Lib.hid (by unfold pB; rw [HR4.out, HKD.out, q1]; rfl)
          by_cases h3 : kd = kind
          · have q3 : (kd == kind) = true := beq_iff_eq.2 h3
            have HKB : Hid (kB kind k = true) := Lib.hid (by unfold kB; rw [HKD.out]; exact q3)
            clear h3
            have HB : Hid ((!pB who k && !kB kind k) = false) := Lib.hid (by rw [HPB.out, HKB.out]; rfl)
            go_wp2_with fail
            with_reducible refine (gone_no _ hT HK30.out HPO.out HB.out).mono ?_
            rintro e w6 ⟨rfl, hT_, f_, bb⟩
            clear hT
            have hT := hT_
            replace bel := bel.trans bb
            clear bb f_ hT_
            go_wp2_with (first | ((with_reducible show wpList _ _ _ (⟨some 15, _, _, _, _, _⟩ :: _) _ _); refine wpList_new_a rfl 31 rfl #[.int .i64 0, .int .i64 0, .int .u8 0, .int .u8 0, .int .u8 0, .int .u8 0, .int .i64 0, .int .i64 0, .int .i64 0] (by kernel_rfl) ?_; intro g15 w7 ge hh bb; have ap_qB := hT.ap ge; have oqB := Nat.le_trans bel.size ge; replace hT := hT.below bb; replace ap_qB := ap_qB.below bb; replace bel := bel.trans (bb.mono bel.size); have hqB := hh; clear hh ge bb) | ((with_reducible show wpList _ _ _ (⟨none, Op.store _ (.tmp 15) _, _, _, _, _⟩ :: _) _ _); refine wpList_store_blk rfl 31 (.tmp 15) (.tmp 114) rfl g15 rfl _ rfl _ 31 hqB (by rfl) (by kernel_rfl) (by kernel_rfl) ?_; intro w8 hq gr; replace hT := hT.away ap_qB gr hqB; replace ap_qB := ap_qB.grown ap_qB.1 gr; replace bel := below_grown bel gr oqB bel.size; clear hqB; have hqB := hq; clear hq gr))
            go_roundg (n - (k + 1))
            case measure => have := HGK_.out; have := HK.out; omega
            case rel => exact ⟨k + 1, rfl, by have := HK.out; omega, hT, by go_num, bel⟩
          have q3 : (kd == kind) = false := beq_eq_false_iff_ne.2 h3
          have HKB : Hid (kB kind k = false) := Lib.hid (by unfold kB; rw [HKD.out]; exact q3)
          clear h3
          have HB : Hid ((!pB who k && !kB kind k) = true) := Lib.hid (by rw [HPB.out, HKB.out]; rfl)
          by_cases hk4 : kd = 4
          · have HU : Hid ((if k % 3 = 2 then (0 : Int) else 50) = 0) := Lib.hid (by have h1_ := HR3.out; have h2_ := HKD3.out; rw [if_pos (by omega)])
            go_wp2_with fail
            with_reducible refine (gone_yes _ hT HK.out HB.out HK30.out HR4.out HPO.out HKD.out HU.out).mono ?_
            rintro e w6 ⟨rfl, hT_, f_, bb⟩
            clear hT
            have hT := hT_
            replace bel := bel.trans bb
            clear bb f_ hT_
            go_wp2_with (first | ((with_reducible show wpList _ _ _ (⟨some 15, _, _, _, _, _⟩ :: _) _ _); refine wpList_new_a rfl 31 rfl #[.int .i64 0, .int .i64 0, .int .u8 0, .int .u8 0, .int .u8 0, .int .u8 0, .int .i64 0, .int .i64 0, .int .i64 0] (by kernel_rfl) ?_; intro g15 w7 ge hh bb; have ap_qB := hT.ap ge; have oqB := Nat.le_trans bel.size ge; replace hT := hT.below bb; replace ap_qB := ap_qB.below bb; replace bel := bel.trans (bb.mono bel.size); have hqB := hh; clear hh ge bb) | ((with_reducible show wpList _ _ _ (⟨none, Op.store _ (.tmp 15) _, _, _, _, _⟩ :: _) _ _); refine wpList_store_blk rfl 31 (.tmp 15) (.tmp 114) rfl g15 rfl _ rfl _ 31 hqB (by rfl) (by kernel_rfl) (by kernel_rfl) ?_; intro w8 hq gr; replace hT := hT.away ap_qB gr hqB; replace ap_qB := ap_qB.grown ap_qB.1 gr; replace bel := below_grown bel gr oqB bel.size; clear hqB; have hqB := hq; clear hq gr))
            go_roundg (n - (k + 1))
            case measure => have := HGK_.out; have := HK.out; omega
            case rel => exact ⟨k + 1, rfl, by have := HK.out; omega, hT, by go_num, bel⟩
          have HU : Hid ((if k % 3 = 2 then (0 : Int) else 50) = 50) := Lib.hid (by have h1_ := HR3.out; have h2_ := HKD3.out; rw [if_neg (by intro h3_; exact hk4 (by omega))])
          go_wp2_with fail
          with_reducible refine (gone_yes _ hT HK.out HB.out HK30.out HR4.out HPO.out HKD.out HU.out).mono ?_
          rintro e w6 ⟨rfl, hT_, f_, bb⟩
          clear hT
          have hT := hT_
          replace bel := bel.trans bb
          clear bb f_ hT_
          go_wp2_with (first | ((with_reducible show wpList _ _ _ (⟨some 15, _, _, _, _, _⟩ :: _) _ _); refine wpList_new_a rfl 31 rfl #[.int .i64 0, .int .i64 0, .int .u8 0, .int .u8 0, .int .u8 0, .int .u8 0, .int .i64 0, .int .i64 0, .int .i64 0] (by kernel_rfl) ?_; intro g15 w7 ge hh bb; have ap_qB := hT.ap ge; have oqB := Nat.le_trans bel.size ge; replace hT := hT.below bb; replace ap_qB := ap_qB.below bb; replace bel := bel.trans (bb.mono bel.size); have hqB := hh; clear hh ge bb) | ((with_reducible show wpList _ _ _ (⟨none, Op.store _ (.tmp 15) _, _, _, _, _⟩ :: _) _ _); refine wpList_store_blk rfl 31 (.tmp 15) (.tmp 114) rfl g15 rfl _ rfl _ 31 hqB (by rfl) (by kernel_rfl) (by kernel_rfl) ?_; intro w8 hq gr; replace hT := hT.away ap_qB gr hqB; replace ap_qB := ap_qB.grown ap_qB.1 gr; replace bel := below_grown bel gr oqB bel.size; clear hqB; have hqB := hq; clear hq gr))
          go_roundg (n - (k + 1))
          case measure => have := HGK_.out; have := HK.out; omega
          case rel => exact ⟨k + 1, rfl, by have := HK.out; omega, hT, by go_num, bel⟩
        have q1 : ((r4 : Int) == who) = true := beq_iff_eq.2 h1
        clear h1
        by_cases h2 : kd = 4
        rotate_left
        · have q2 : (kd == 4) = false := beq_eq_false_iff_ne.2 h2
          have q2n : (kd != 4) = true := by rw [bne, q2]; rfl
          clear h2
          have HPB : Hid (pB who k = true) := Lib.hid (by unfold pB; rw [HR4.out, HKD.out, q1, q2]; rfl)
          have HB : Hid ((!pB who k && !kB kind k) = false) := Lib.hid (by rw [HPB.out]; rfl)
          go_wp2_with fail
          with_reducible refine (gone_no _ hT HK30.out HPO.out HB.out).mono ?_
          rintro e w6 ⟨rfl, hT_, f_, bb⟩
          clear hT
          have hT := hT_
          replace bel := bel.trans bb
          clear bb f_ hT_
          go_wp2_with (first | ((with_reducible show wpList _ _ _ (⟨some 15, _, _, _, _, _⟩ :: _) _ _); refine wpList_new_a rfl 31 rfl #[.int .i64 0, .int .i64 0, .int .u8 0, .int .u8 0, .int .u8 0, .int .u8 0, .int .i64 0, .int .i64 0, .int .i64 0] (by kernel_rfl) ?_; intro g15 w7 ge hh bb; have ap_qB := hT.ap ge; have oqB := Nat.le_trans bel.size ge; replace hT := hT.below bb; replace ap_qB := ap_qB.below bb; replace bel := bel.trans (bb.mono bel.size); have hqB := hh; clear hh ge bb) | ((with_reducible show wpList _ _ _ (⟨none, Op.store _ (.tmp 15) _, _, _, _, _⟩ :: _) _ _); refine wpList_store_blk rfl 31 (.tmp 15) (.tmp 114) rfl g15 rfl _ rfl _ 31 hqB (by rfl) (by kernel_rfl) (by kernel_rfl) ?_; intro w8 hq gr; replace hT := hT.away ap_qB gr hqB; replace ap_qB := ap_qB.grown ap_qB.1 gr; replace bel := below_grown bel gr oqB bel.size; clear hqB; have hqB := hq; clear hq gr))
          go_roundg (n - (k + 1))
          case measure => have := HGK_.out; have := HK.out; omega
          case rel => exact ⟨k + 1, rfl, by have := HK.out; omega, hT, by go_num, bel⟩
        have q2 : (kd == 4) = true := beq_iff_eq.2 h2
        have q2n : (kd != 4) = false := by rw [bne, q2]; rfl
        clear h2
        have HPB : Hid (pB who k = false) := Lib.hid (by unfold pB; rw [HR4.out, HKD.out, q1, q2]; rfl)
        by_cases h3 : kd = kind
        · have q3 : (kd == kind) = true := beq_iff_eq.2 h3
          have HKB : Hid (kB kind k = true) := Lib.hid (by unfold kB; rw [HKD.out]; exact q3)
          clear h3
          have HB : Hid ((!pB who k && !kB kind k) = false) := Lib.hid (by rw [HPB.out, HKB.out]; rfl)
          go_wp2_with fail
          with_reducible refine (gone_no _ hT HK30.out HPO.out HB.out).mono ?_
          rintro e w6 ⟨rfl, hT_, f_, bb⟩
          clear hT
          have hT := hT_
          replace bel := bel.trans bb
          clear bb f_ hT_
          go_wp2_with (first | ((with_reducible show wpList _ _ _ (⟨some 15, _, _, _, _, _⟩ :: _) _ _); refine wpList_new_a rfl 31 rfl #[.int .i64 0, .int .i64 0, .int .u8 0, .int .u8 0, .int .u8 0, .int .u8 0, .int .i64 0, .int .i64 0, .int .i64 0] (by kernel_rfl) ?_; intro g15 w7 ge hh bb; have ap_qB := hT.ap ge; have oqB := Nat.le_trans bel.size ge; replace hT := hT.below bb; replace ap_qB := ap_qB.below bb; replace bel := bel.trans (bb.mono bel.size); have hqB := hh; clear hh ge bb) | ((with_reducible show wpList _ _ _ (⟨none, Op.store _ (.tmp 15) _, _, _, _, _⟩ :: _) _ _); refine wpList_store_blk rfl 31 (.tmp 15) (.tmp 114) rfl g15 rfl _ rfl _ 31 hqB (by rfl) (by kernel_rfl) (by kernel_rfl) ?_; intro w8 hq gr; replace hT := hT.away ap_qB gr hqB; replace ap_qB := ap_qB.grown ap_qB.1 gr; replace bel := below_grown bel gr oqB bel.size; clear hqB; have hqB := hq; clear hq gr))
          go_roundg (n - (k + 1))
          case measure => have := HGK_.out; have := HK.out; omega
          case rel => exact ⟨k + 1, rfl, by have := HK.out; omega, hT, by go_num, bel⟩
        have q3 : (kd == kind) = false := beq_eq_false_iff_ne.2 h3
        have HKB : Hid (kB kind k = false) := Lib.hid (by unfold kB; rw [HKD.out]; exact q3)
        clear h3
        have HB : Hid ((!pB who k && !kB kind k) = true) := Lib.hid (by rw [HPB.out, HKB.out]; rfl)
        by_cases hk4 : kd = 4
        · have HU : Hid ((if k % 3 = 2 then (0 : Int) else 50) = 0) := Lib.hid (by have h1_ := HR3.out; have h2_ := HKD3.out; rw [if_pos (by omega)])
          go_wp2_with fail
          with_reducible refine (gone_yes _ hT HK.out HB.out HK30.out HR4.out HPO.out HKD.out HU.out).mono ?_
          rintro e w6 ⟨rfl, hT_, f_, bb⟩
          clear hT
          have hT := hT_
          replace bel := bel.trans bb
          clear bb f_ hT_
          go_wp2_with (first | ((with_reducible show wpList _ _ _ (⟨some 15, _, _, _, _, _⟩ :: _) _ _); refine wpList_new_a rfl 31 rfl #[.int .i64 0, .int .i64 0, .int .u8 0, .int .u8 0, .int .u8 0, .int .u8 0, .int .i64 0, .int .i64 0, .int .i64 0] (by kernel_rfl) ?_; intro g15 w7 ge hh bb; have ap_qB := hT.ap ge; have oqB := Nat.le_trans bel.size ge; replace hT := hT.below bb; replace ap_qB := ap_qB.below bb; replace bel := bel.trans (bb.mono bel.size); have hqB := hh; clear hh ge bb) | ((with_reducible show wpList _ _ _ (⟨none, Op.store _ (.tmp 15) _, _, _, _, _⟩ :: _) _ _); refine wpList_store_blk rfl 31 (.tmp 15) (.tmp 114) rfl g15 rfl _ rfl _ 31 hqB (by rfl) (by kernel_rfl) (by kernel_rfl) ?_; intro w8 hq gr; replace hT := hT.away ap_qB gr hqB; replace ap_qB := ap_qB.grown ap_qB.1 gr; replace bel := below_grown bel gr oqB bel.size; clear hqB; have hqB := hq; clear hq gr))
          go_roundg (n - (k + 1))
          case measure => have := HGK_.out; have := HK.out; omega
          case rel => exact ⟨k + 1, rfl, by have := HK.out; omega, hT, by go_num, bel⟩
        have HU : Hid ((if k % 3 = 2 then (0 : Int) else 50) = 50) := Lib.hid (by have h1_ := HR3.out; have h2_ := HKD3.out; rw [if_neg (by intro h3_; exact hk4 (by omega))])
        go_wp2_with fail
        with_reducible refine (gone_yes _ hT HK.out HB.out HK30.out HR4.out HPO.out HKD.out HU.out).mono ?_
        rintro e w6 ⟨rfl, hT_, f_, bb⟩
        clear hT
        have hT := hT_
        replace bel := bel.trans bb
        clear bb f_ hT_
        go_wp2_with (first | ((with_reducible show wpList _ _ _ (⟨some 15, _, _, _, _, _⟩ :: _) _ _); refine wpList_new_a rfl 31 rfl #[.int .i64 0, .int .i64 0, .int .u8 0, .int .u8 0, .int .u8 0, .int .u8 0, .int .i64 0, .int .i64 0, .int .i64 0] (by kernel_rfl) ?_; intro g15 w7 ge hh bb; have ap_qB := hT.ap ge; have oqB := Nat.le_trans bel.size ge; replace hT := hT.below bb; replace ap_qB := ap_qB.below bb; replace bel := bel.trans (bb.mono bel.size); have hqB := hh; clear hh ge bb) | ((with_reducible show wpList _ _ _ (⟨none, Op.store _ (.tmp 15) _, _, _, _, _⟩ :: _) _ _); refine wpList_store_blk rfl 31 (.tmp 15) (.tmp 114) rfl g15 rfl _ rfl _ 31 hqB (by rfl) (by kernel_rfl) (by kernel_rfl) ?_; intro w8 hq gr; replace hT := hT.away ap_qB gr hqB; replace ap_qB := ap_qB.grown ap_qB.1 gr; replace bel := below_grown bel gr oqB bel.size; clear hqB; have hqB := hq; clear hq gr))
        go_roundg (n - (k + 1))
        case measure => have := HGK_.out; have := HK.out; omega
        case rel => exact ⟨k + 1, rfl, by have := HK.out; omega, hT, by go_num, bel⟩
end Go.Proofs.Ytmjmjfcdblapcaa
