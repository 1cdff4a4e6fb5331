/- Tick: its closure, slices.IndexFunc and DeleteFunc over it, the round of requests. -/
import Derived.Test.YtfghmckeogajnaaNr7
namespace Go.Proofs.Ytfghmckeogajnaa
open Go.RowKit

def goneB (age now : Int) (e : En) : Bool := tooOldB age now e || givenUpB now e
set_option linter.unusedVariables false in
set_option linter.unusedSimpArgs false in
set_option maxRecDepth 100000 in
set_option maxHeartbeats 16000000 in
theorem tickf_any {gt gb n c : Nat} {A : Option Addr} {age now : Int} (x : En) (w : World) (htb : w.heap[gt]? = some (.cells #[.int .i64 age, .int .i64 now, .slice A n c] 49 (0, 0))) (hpb : w.heap[gb]? = some (.cells #[.pointer (some ⟨gt, 0, none⟩)] 23 (0, 0))) (n0 : 0 ≤ now) (n1 : now ≤ 1099511627776) (t0 : 0 ≤ x.t) (t1 : x.t ≤ now) : Calls Try.prog 25 #[.agg #[.int .u8 (x.ad.a.toNat : Int), .int .u8 (x.ad.b.toNat : Int), .int .u8 (x.ad.c.toNat : Int), .int .u8 (x.ad.d.toNat : Int), .int .i64 x.t, .bool x.k, .int .u8 (x.m.a.toNat : Int), .int .u8 (x.m.b.toNat : Int), .int .u8 (x.m.c.toNat : Int), .int .u8 (x.m.d.toNat : Int), .int .u8 (x.m.e.toNat : Int), .int .u8 (x.m.f.toNat : Int), .int .i64 x.r, .slice x.wA x.wn x.wc], .pointer (some ⟨gb, 0, none⟩)] w fun e w' => e = .returned (.bool (goneB age now x)) ∧ Below w.heap.size w w' := by
  have bel := Below.refl w.heap.size w
  go_enter Try.func25, Try.ntmps25
  rcases hb : tooOldB age now x with _ | _
  rotate_left
  · have HB := Lib.hid hb
    clear hb
    go_wp2_with (first | ((with_reducible show wpList _ _ _ (⟨some 2, _, _, _, _, _⟩ :: _) _ _); refine wpList_box_n rfl 52 (.tmp 0) rfl #[.int .u8 (x.ad.a.toNat : Int), .int .u8 (x.ad.b.toNat : Int), .int .u8 (x.ad.c.toNat : Int), .int .u8 (x.ad.d.toNat : Int), .int .i64 x.t, .bool x.k, .int .u8 (x.m.a.toNat : Int), .int .u8 (x.m.b.toNat : Int), .int .u8 (x.m.c.toNat : Int), .int .u8 (x.m.d.toNat : Int), .int .u8 (x.m.e.toNat : Int), .int .u8 (x.m.f.toNat : Int), .int .i64 x.r, .slice x.wA x.wn x.wc] rfl ?_; intro g2 w1 ge lt hh bb; have d_tb_eb := ne_new (hlt htb) ge; have d_pb_eb := ne_new (hlt hpb) ge; have oeb := Nat.le_trans bel.size ge; replace htb := blk_u htb bb; replace hpb := blk_u hpb bb; replace bel := bel.trans (bb.mono bel.size); have heb := hh; clear hh lt ge bb; have R4 := cell_lit hpb 0 _ rfl; have R5 := Lib.hid (range_lit heb 0 14 [.int .u8 (x.ad.a.toNat : Int), .int .u8 (x.ad.b.toNat : Int), .int .u8 (x.ad.c.toNat : Int), .int .u8 (x.ad.d.toNat : Int), .int .i64 x.t, .bool x.k, .int .u8 (x.m.a.toNat : Int), .int .u8 (x.m.b.toNat : Int), .int .u8 (x.m.c.toNat : Int), .int .u8 (x.m.d.toNat : Int), .int .u8 (x.m.e.toNat : Int), .int .u8 (x.m.f.toNat : Int), .int .i64 x.r, .slice x.wA x.wn x.wc] rfl)) | ((with_reducible show wpList _ _ _ (⟨some 5, _, _, _, _, _⟩ :: _) _ _); refine wpList_load_rng 52 (.tmp 2) rfl (by kernel_rfl) _ _ rfl _ R5.out _ Try.underlying52 rfl (by kernel_rfl) ?_))
    try clear R4
    try clear R5
    with_reducible refine (told_any x _ htb n0 n1 t0 t1).mono ?_
    rintro e w2 ⟨rfl, b2⟩
    replace htb := blk_u htb b2
    replace hpb := blk_u hpb b2
    replace heb := blk_u heb b2
    replace bel := bel.trans (b2.mono bel.size)
    clear b2
    rw [HB.out]
    go_wp2_with fail
    go_ret
    exact ⟨by rw [goneB, HB.out]; rfl, bel⟩
  have HB := Lib.hid hb
  clear hb
  go_wp2_with (first | ((with_reducible show wpList _ _ _ (⟨some 2, _, _, _, _, _⟩ :: _) _ _); refine wpList_box_n rfl 52 (.tmp 0) rfl #[.int .u8 (x.ad.a.toNat : Int), .int .u8 (x.ad.b.toNat : Int), .int .u8 (x.ad.c.toNat : Int), .int .u8 (x.ad.d.toNat : Int), .int .i64 x.t, .bool x.k, .int .u8 (x.m.a.toNat : Int), .int .u8 (x.m.b.toNat : Int), .int .u8 (x.m.c.toNat : Int), .int .u8 (x.m.d.toNat : Int), .int .u8 (x.m.e.toNat : Int), .int .u8 (x.m.f.toNat : Int), .int .i64 x.r, .slice x.wA x.wn x.wc] rfl ?_; intro g2 w1 ge lt hh bb; have d_tb_eb := ne_new (hlt htb) ge; have d_pb_eb := ne_new (hlt hpb) ge; have oeb := Nat.le_trans bel.size ge; replace htb := blk_u htb bb; replace hpb := blk_u hpb bb; replace bel := bel.trans (bb.mono bel.size); have heb := hh; clear hh lt ge bb; have R4 := cell_lit hpb 0 _ rfl; have R5 := Lib.hid (range_lit heb 0 14 [.int .u8 (x.ad.a.toNat : Int), .int .u8 (x.ad.b.toNat : Int), .int .u8 (x.ad.c.toNat : Int), .int .u8 (x.ad.d.toNat : Int), .int .i64 x.t, .bool x.k, .int .u8 (x.m.a.toNat : Int), .int .u8 (x.m.b.toNat : Int), .int .u8 (x.m.c.toNat : Int), .int .u8 (x.m.d.toNat : Int), .int .u8 (x.m.e.toNat : Int), .int .u8 (x.m.f.toNat : Int), .int .i64 x.r, .slice x.wA x.wn x.wc] rfl)) | ((with_reducible show wpList _ _ _ (⟨some 5, _, _, _, _, _⟩ :: _) _ _); refine wpList_load_rng 52 (.tmp 2) rfl (by kernel_rfl) _ _ rfl _ R5.out _ Try.underlying52 rfl (by kernel_rfl) ?_))
  try clear R4
  try clear R5
  with_reducible refine (told_any x _ htb n0 n1 t0 t1).mono ?_
  rintro e w2 ⟨rfl, b2⟩
  replace htb := blk_u htb b2
  replace hpb := blk_u hpb b2
  replace heb := blk_u heb b2
  replace bel := bel.trans (b2.mono bel.size)
  clear b2
  rw [HB.out]
  have R8 := cell_lit hpb 0 _ rfl
  have R9 := Lib.hid (range_lit heb 0 14 [.int .u8 (x.ad.a.toNat : Int), .int .u8 (x.ad.b.toNat : Int), .int .u8 (x.ad.c.toNat : Int), .int .u8 (x.ad.d.toNat : Int), .int .i64 x.t, .bool x.k, .int .u8 (x.m.a.toNat : Int), .int .u8 (x.m.b.toNat : Int), .int .u8 (x.m.c.toNat : Int), .int .u8 (x.m.d.toNat : Int), .int .u8 (x.m.e.toNat : Int), .int .u8 (x.m.f.toNat : Int), .int .i64 x.r, .slice x.wA x.wn x.wc] rfl)
  go_wp2_with (first | ((with_reducible show wpList _ _ _ (⟨some 9, _, _, _, _, _⟩ :: _) _ _); refine wpList_load_rng 52 (.tmp 2) rfl (by kernel_rfl) _ _ rfl _ R9.out _ Try.underlying52 rfl (by kernel_rfl) ?_))
  try clear R8
  try clear R9
  with_reducible refine (giv_any x _ htb n0 n1 t0 t1).mono ?_
  rintro e w3 ⟨rfl, b3⟩
  replace htb := blk_u htb b3
  replace hpb := blk_u hpb b3
  replace heb := blk_u heb b3
  replace bel := bel.trans (b3.mono bel.size)
  clear b3
  go_wp2_with fail
  go_ret
  exact ⟨by rw [goneB, HB.out]; rfl, bel⟩
set_option linter.unusedVariables false in
set_option linter.unusedSimpArgs false in
set_option maxRecDepth 100000 in
set_option maxHeartbeats 16000000 in
theorem idx_none_pos {gt gb m c2 n c gE oE : Nat} {A : Option Addr} {age now : Int} {l : List En} (w : World) (htb : w.heap[gt]? = some (.cells #[.int .i64 age, .int .i64 now, .slice A m c2] 49 (0, 0))) (hpb : w.heap[gb]? = some (.cells #[.pointer (some ⟨gt, 0, none⟩)] 23 (0, 0))) (en : Sle enE 14 w (some ⟨gE, oE, none⟩) n c l) (hn : n ≤ 1000) (hok : ∀ e ∈ l, e.ok now) (n0 : 0 ≤ now) (n1 : now ≤ 1099511627776) (hN : ∀ e ∈ l, goneB age now e = false) : Calls Try.prog 36 #[.slice (some ⟨gE, oE, none⟩) n c, .func (.func 25) #[] #[.pointer (some ⟨gb, 0, none⟩)]] w fun e w' => e = .returned (.int .i64 (-1)) ∧ Below w.heap.size w w' := by
  have HL := Lib.hid en.1
  have hn0 : (n : Int) ≤ 1000 := by omega
  have HOK := Lib.hid hok
  clear hok
  have HN := Lib.hid hN
  clear hN
  have bel := Below.refl w.heap.size w
  go_enter Try.func36, Try.ntmps36
  go_wp2_with fail
  go_loopg [8] (n) (fun gk s8 wr => ∃ k : Nat, gk = n - k ∧ k ≤ n ∧ s8 = .int .i64 (k : Int) ∧ wr.heap[gt]? = some (.cells #[.int .i64 age, .int .i64 now, .slice A m c2] 49 (0, 0)) ∧ wr.heap[gb]? = some (.cells #[.pointer (some ⟨gt, 0, none⟩)] 23 (0, 0)) ∧ Sle enE 14 wr (some ⟨gE, oE, none⟩) (n) (c) (l) ∧ Below w.heap.size w wr)
  case atStart => exact ⟨0, Nat.sub_zero _, Nat.zero_le _, rfl, htb, hpb, en, bel⟩
  case round =>
    clear htb hpb en bel
    obtain ⟨k, HGK, hkn, rfl, htb, hpb, en, bel⟩ := hrel
    have HGK_ := Lib.hid HGK
    clear HGK
    by_cases h : k < n
    rotate_left
    · obtain rfl : k = n := by omega
      replace h : decide (k < k) = false := decide_eq_false (by omega)
      go_wp2_with fail
      go_ret
      exact ⟨rfl, bel⟩
    obtain ⟨e, hx⟩ : ∃ e, l[k]? = some e := ⟨_, List.getElem?_eq_getElem (by have := HL.out; omega)⟩
    have k0 : (0 : Int) ≤ k := by omega
    have k1 : (k : Int) < n := by omega
    have HT0 : Hid (0 ≤ e.t) := Lib.hid (HOK.out e (List.mem_of_getElem? hx)).1
    have HT1 : Hid (e.t ≤ now) := Lib.hid (HOK.out e (List.mem_of_getElem? hx)).2.1
    have HX := Lib.hid hx
    clear hx
    have HG : Hid (goneB age now e = false) := Lib.hid (HN.out e (List.mem_of_getElem? HX.out))
    have R15 := Lib.hid (Sle.range0 en HX.out 14 [.int .u8 (e.ad.a.toNat : Int), .int .u8 (e.ad.b.toNat : Int), .int .u8 (e.ad.c.toNat : Int), .int .u8 (e.ad.d.toNat : Int), .int .i64 e.t, .bool e.k, .int .u8 (e.m.a.toNat : Int), .int .u8 (e.m.b.toNat : Int), .int .u8 (e.m.c.toNat : Int), .int .u8 (e.m.d.toNat : Int), .int .u8 (e.m.e.toNat : Int), .int .u8 (e.m.f.toNat : Int), .int .i64 e.r, .slice e.wA e.wn e.wc] rfl)
    go_wp2_with (first | ((with_reducible show wpList _ _ _ (⟨some 15, _, _, _, _, _⟩ :: _) _ _); refine wpList_load_rng 52 (.tmp 14) rfl (by kernel_rfl) _ _ rfl _ R15.out _ Try.underlying52 rfl (by kernel_rfl) ?_))
    try clear R15
    with_reducible refine (tickf_any e _ htb hpb n0 n1 HT0.out HT1.out).mono ?_
    rintro e w1 ⟨rfl, b1⟩
    replace htb := blk_u htb b1
    replace hpb := blk_u hpb b1
    replace en := en.below b1
    replace bel := bel.trans (b1.mono bel.size)
    clear b1
    rw [HG.out]
    go_wp2_with fail
    go_roundg (n - (k + 1))
    case measure => have := HGK_.out; omega
    case rel => exact ⟨k + 1, rfl, by omega, by go_num, htb, hpb, en, bel⟩
set_option linter.unusedVariables false in
set_option linter.unusedSimpArgs false in
set_option maxRecDepth 100000 in
set_option maxHeartbeats 16000000 in
theorem idx_some {gt gb m c2 n c gE oE : Nat} {A : Option Addr} {age now : Int} {l : List En} (w : World) (htb : w.heap[gt]? = some (.cells #[.int .i64 age, .int .i64 now, .slice A m c2] 49 (0, 0))) (hpb : w.heap[gb]? = some (.cells #[.pointer (some ⟨gt, 0, none⟩)] 23 (0, 0))) (en : Sle enE 14 w (some ⟨gE, oE, none⟩) n c l) (hn : n ≤ 1000) (hok : ∀ e ∈ l, e.ok now) (n0 : 0 ≤ now) (n1 : now ≤ 1099511627776) {i : Nat} {x : En} (hx : l[i]? = some x) (hg : goneB age now x = true) (hN : ∀ j e, j < i → l[j]? = some e → goneB age now e = false) : Calls Try.prog 36 #[.slice (some ⟨gE, oE, none⟩) n c, .func (.func 25) #[] #[.pointer (some ⟨gb, 0, none⟩)]] w fun e w' => e = .returned (.int .i64 (i : Int)) ∧ Below w.heap.size w w' := by
  have HL := Lib.hid en.1
  have hn0 : (n : Int) ≤ 1000 := by omega
  have HOK := Lib.hid hok
  clear hok
  have HIN : Hid (i < n) := Lib.hid (by have := (List.getElem?_eq_some_iff.1 hx).1; have h_ := en.1; omega)
  have HN := Lib.hid hN
  have HXI := Lib.hid hx
  have HGI := Lib.hid hg
  clear hN hx hg
  have bel := Below.refl w.heap.size w
  go_enter Try.func36, Try.ntmps36
  go_wp2_with fail
  go_loopg [8] (n) (fun gk s8 wr => ∃ k : Nat, gk = n - k ∧ k ≤ i ∧ s8 = .int .i64 (k : Int) ∧ wr.heap[gt]? = some (.cells #[.int .i64 age, .int .i64 now, .slice A m c2] 49 (0, 0)) ∧ wr.heap[gb]? = some (.cells #[.pointer (some ⟨gt, 0, none⟩)] 23 (0, 0)) ∧ Sle enE 14 wr (some ⟨gE, oE, none⟩) (n) (c) (l) ∧ Below w.heap.size w wr)
  case atStart => exact ⟨0, Nat.sub_zero _, Nat.zero_le _, rfl, htb, hpb, en, bel⟩
  case round =>
    clear htb hpb en bel
    obtain ⟨k, HGK, hkn, rfl, htb, hpb, en, bel⟩ := hrel
    have HGK_ := Lib.hid HGK
    clear HGK
    by_cases h : k < n
    rotate_left
    · exfalso
      have := HIN.out
      omega
    obtain ⟨e, hx⟩ : ∃ e, l[k]? = some e := ⟨_, List.getElem?_eq_getElem (by have := HL.out; omega)⟩
    have k0 : (0 : Int) ≤ k := by omega
    have k1 : (k : Int) < n := by omega
    have HT0 : Hid (0 ≤ e.t) := Lib.hid (HOK.out e (List.mem_of_getElem? hx)).1
    have HT1 : Hid (e.t ≤ now) := Lib.hid (HOK.out e (List.mem_of_getElem? hx)).2.1
    have HX := Lib.hid hx
    clear hx
    by_cases h2 : k < i
    rotate_left
    · obtain rfl : k = i := by omega
      obtain rfl : e = x := Option.some.inj (HX.out.symm.trans HXI.out)
      have HG := HGI
      have R15 := Lib.hid (Sle.range0 en HX.out 14 [.int .u8 (e.ad.a.toNat : Int), .int .u8 (e.ad.b.toNat : Int), .int .u8 (e.ad.c.toNat : Int), .int .u8 (e.ad.d.toNat : Int), .int .i64 e.t, .bool e.k, .int .u8 (e.m.a.toNat : Int), .int .u8 (e.m.b.toNat : Int), .int .u8 (e.m.c.toNat : Int), .int .u8 (e.m.d.toNat : Int), .int .u8 (e.m.e.toNat : Int), .int .u8 (e.m.f.toNat : Int), .int .i64 e.r, .slice e.wA e.wn e.wc] rfl)
      go_wp2_with (first | ((with_reducible show wpList _ _ _ (⟨some 15, _, _, _, _, _⟩ :: _) _ _); refine wpList_load_rng 52 (.tmp 14) rfl (by kernel_rfl) _ _ rfl _ R15.out _ Try.underlying52 rfl (by kernel_rfl) ?_))
      try clear R15
      with_reducible refine (tickf_any e _ htb hpb n0 n1 HT0.out HT1.out).mono ?_
      rintro e w1 ⟨rfl, b1⟩
      replace htb := blk_u htb b1
      replace hpb := blk_u hpb b1
      replace en := en.below b1
      replace bel := bel.trans (b1.mono bel.size)
      clear b1
      rw [HG.out]
      go_wp2_with fail
      go_ret
      exact ⟨rfl, bel⟩
    have HG : Hid (goneB age now e = false) := Lib.hid (HN.out k e h2 HX.out)
    have R15 := Lib.hid (Sle.range0 en HX.out 14 [.int .u8 (e.ad.a.toNat : Int), .int .u8 (e.ad.b.toNat : Int), .int .u8 (e.ad.c.toNat : Int), .int .u8 (e.ad.d.toNat : Int), .int .i64 e.t, .bool e.k, .int .u8 (e.m.a.toNat : Int), .int .u8 (e.m.b.toNat : Int), .int .u8 (e.m.c.toNat : Int), .int .u8 (e.m.d.toNat : Int), .int .u8 (e.m.e.toNat : Int), .int .u8 (e.m.f.toNat : Int), .int .i64 e.r, .slice e.wA e.wn e.wc] rfl)
    go_wp2_with (first | ((with_reducible show wpList _ _ _ (⟨some 15, _, _, _, _, _⟩ :: _) _ _); refine wpList_load_rng 52 (.tmp 14) rfl (by kernel_rfl) _ _ rfl _ R15.out _ Try.underlying52 rfl (by kernel_rfl) ?_))
    try clear R15
    with_reducible refine (tickf_any e _ htb hpb n0 n1 HT0.out HT1.out).mono ?_
    rintro e w1 ⟨rfl, b1⟩
    replace htb := blk_u htb b1
    replace hpb := blk_u hpb b1
    replace en := en.below b1
    replace bel := bel.trans (b1.mono bel.size)
    clear b1
    rw [HG.out]
    go_wp2_with fail
    go_roundg (n - (k + 1))
    case measure => have := HGK_.out; omega
    case rel => exact ⟨k + 1, rfl, by omega, by go_num, htb, hpb, en, bel⟩
set_option linter.unusedVariables false in
set_option linter.unusedSimpArgs false in
set_option maxRecDepth 100000 in
set_option maxHeartbeats 16000000 in
theorem idx_nil {gb n c : Nat} {A2 : Option Addr} (w : World) (hn : n = 0) : Calls Try.prog 36 #[.slice A2 n c, .func (.func 25) #[] #[.pointer (some ⟨gb, 0, none⟩)]] w fun e w' => e = .returned (.int .i64 (-1)) ∧ w = w' := by
  subst hn
  skip
  go_enter Try.func36, Try.ntmps36
  go_wp2_with fail
  refine wp_loop_rounds 1 ?_
  rw [rounds_succ]
  go_wp2_with fail
  go_ret
  exact ⟨rfl, rfl⟩
theorem idx_none {gt gb m c2 n c : Nat} {A A2 : Option Addr} {age now : Int} {l : List En} (w : World) (htb : w.heap[gt]? = some (.cells #[.int .i64 age, .int .i64 now, .slice A m c2] 49 (0, 0))) (hpb : w.heap[gb]? = some (.cells #[.pointer (some ⟨gt, 0, none⟩)] 23 (0, 0))) (en : Sle enE 14 w A2 n c l) (hn : n ≤ 1000) (hok : ∀ e ∈ l, e.ok now) (n0 : 0 ≤ now) (n1 : now ≤ 1099511627776) (hN : ∀ e ∈ l, goneB age now e = false) : Calls Try.prog 36 #[.slice A2 n c, .func (.func 25) #[] #[.pointer (some ⟨gb, 0, none⟩)]] w fun e w' => e = .returned (.int .i64 (-1)) ∧ Below w.heap.size w w' := by
  rcases Nat.eq_zero_or_pos n with h | h
  · refine (idx_nil w h).mono ?_
    rintro e w' ⟨rfl, rfl⟩
    exact ⟨rfl, Below.refl _ _⟩
  · obtain ⟨g, o, rfl⟩ := en.place h
    exact idx_none_pos w htb hpb en hn hok n0 n1 hN
def keepB (age now : Int) (e : En) : Bool := !goneB age now e
theorem drop_head {l l' : List En} {j : Nat} (h : l.drop j = l'.drop j) : l[j]? = l'[j]? := by
  have := congrArg (fun x => x[0]?) h
  simpa only [List.getElem?_drop, Nat.add_zero] using this
theorem drop_more {l l' : List En} {j : Nat} (h : l.drop j = l'.drop j) : l.drop (j + 1) = l'.drop (j + 1) := by
  have := congrArg (fun x => x.drop 1) h
  simpa only [List.drop_drop] using this
theorem filt_skip {l : List En} {j : Nat} {e : En} {p : En → Bool} (he : l[j]? = some e) (h : p e = false) : (l.take (j + 1)).filter p = (l.take j).filter p := by
  rw [List.take_add_one, he, List.filter_append]
  simp [h]
theorem filt_keep {l : List En} {j : Nat} {e : En} {p : En → Bool} (he : l[j]? = some e) (h : p e = true) : (l.take (j + 1)).filter p = (l.take j).filter p ++ [e] := by
  rw [List.take_add_one, he, List.filter_append]
  simp [h]
theorem take_set_next {l : List En} {i : Nat} {e : En} (hi : i < l.length) : (l.set i e).take (i + 1) = l.take i ++ [e] := by
  rw [List.take_add_one, List.take_set_of_le (Nat.le_refl _), List.getElem?_set_self hi]
  rfl
theorem drop_set_next {l : List En} {i j : Nat} {e : En} (hi : i < j) : (l.set i e).drop j = l.drop j := List.drop_set_of_lt hi
theorem filt_first {l : List En} {i : Nat} {p : En → Bool} (h : ∀ j e, j < i → l[j]? = some e → p e = true) : l.take i = (l.take i).filter p := by
  symm
  rw [List.filter_eq_self]
  intro e he
  obtain ⟨j, hj⟩ := List.getElem?_of_mem he
  rw [List.getElem?_take] at hj
  split at hj
  · exact h j e ‹_› hj
  · cases hj
set_option linter.unusedVariables false in
set_option linter.unusedSimpArgs false in
set_option maxRecDepth 100000 in
set_option maxHeartbeats 16000000 in
theorem del_some {lo gt gb gE m c2 n c k : Nat} {A : Option Addr} {age now : Int} {l : List En} {x : En} (w : World) (hlo : lo ≤ w.heap.size) (htb : w.heap[gt]? = some (.cells #[.int .i64 age, .int .i64 now, .slice A m c2] 49 (0, 0))) (hpb : w.heap[gb]? = some (.cells #[.pointer (some ⟨gt, 0, none⟩)] 23 (0, 0))) (hown : w.ownsRow lo 52 14 (.slice (some ⟨gE, 0, none⟩) n c) n (l.flatMap enE)) (hn : n ≤ 1000) (hok : ∀ e ∈ l, e.ok now) (n0 : 0 ≤ now) (n1 : now ≤ 1099511627776) (hx : l[k]? = some x) (hg : goneB age now x = true) (hN : ∀ j e, j < k → l[j]? = some e → goneB age now e = false) : Calls Try.prog 24 #[.slice (some ⟨gE, 0, none⟩) n c, .func (.func 25) #[] #[.pointer (some ⟨gb, 0, none⟩)]] w fun e w' => ∃ i, e = .returned (.slice (some ⟨gE, 0, none⟩) i c) ∧ w'.ownsRow lo 52 14 (.slice (some ⟨gE, 0, none⟩) i c) i ((l.filter (keepB age now)).flatMap enE) ∧ Kt [52] w w' ∧ Below lo w w' := by
  have own := hown
  clear hown
  have off_tb := ofs_type own htb (by decide)
  have off_pb := ofs_type own hpb (by decide)
  have en := (owk_sle (by decide) enE_len own).1
  have HLL := Lib.hid (row_len (by decide) enE_len own)
  have HCAP := Lib.hid (row_cap own)
  have HKN : Hid (k + 1 ≤ n) := Lib.hid (by have := (List.getElem?_eq_some_iff.1 hx).1; have h_ := HLL.out; omega)
  have HF0 : Hid (l.take k = (l.take (k + 1)).filter (keepB age now)) := Lib.hid (by rw [filt_skip hx (by unfold keepB; rw [hg]; rfl)]; exact filt_first (fun j e h1 h2 => by unfold keepB; rw [hN j e h1 h2]; rfl))
  have hn0 : (n : Int) ≤ 1000 := by omega
  have hne : ((k : Int) == -1) = false := beq_eq_false_iff_ne.2 (by omega)
  have k0 : (0 : Int) ≤ k := by omega
  have k1 : (k : Int) < n := by have := HKN.out; omega
  have HN := Lib.hid hn
  have HOK := Lib.hid hok
  have HXI := Lib.hid hx
  have HGI := Lib.hid hg
  have HNI := Lib.hid hN
  have kt := Kt.refl [52] w
  clear hn hok hx hg hN
  have bel := Below.refl lo w
  go_enter Try.func24, Try.ntmps24
  go_wp2_with fail
  have H1000 := HN.out
  with_reducible refine (idx_some _ htb hpb en H1000 HOK.out n0 n1 HXI.out HGI.out HNI.out).mono ?_
  rintro e w1 ⟨rfl, b1⟩
  replace htb := blk_u htb b1
  replace hpb := blk_u hpb b1
  replace en := en.below b1
  replace own := owk_under own b1
  replace kt := kt.trans (kt_below b1)
  replace bel := bel.trans (b1.mono (Nat.le_trans hlo bel.size))
  clear b1
  clear H1000
  go_wp2_with fail
  go_loopg [6, 5] (n - (k + 1)) (fun gk s6 s5 wr => ∃ j : Nat, ∃ i : Nat, ∃ cur : List En, gk = n - j ∧ i < j ∧ j ≤ n ∧ Hid (cur.length = n) ∧ Hid (cur.take i = (l.take j).filter (keepB age now)) ∧ Hid (cur.drop j = l.drop j) ∧ wr.ownsRow lo 52 14 (.slice (some ⟨gE, 0, none⟩) n c) n (cur.flatMap enE) ∧ Kt [52] w wr ∧ s6 = .int .i64 (j : Int) ∧ s5 = .int .i64 (i : Int) ∧ wr.heap[gt]? = some (.cells #[.int .i64 age, .int .i64 now, .slice A m c2] 49 (0, 0)) ∧ wr.heap[gb]? = some (.cells #[.pointer (some ⟨gt, 0, none⟩)] 23 (0, 0)) ∧ Sle enE 14 wr (some ⟨gE, 0, none⟩) (n) (c) (cur) ∧ Below lo w wr)
  case atStart => exact ⟨k + 1, k, l, rfl, Nat.lt_succ_self k, HKN.out, HLL, HF0, Lib.hid rfl, own, kt, by go_num, rfl, htb, hpb, en, bel⟩
  case round =>
    clear own kt htb hpb en bel
    obtain ⟨j, i, cur, HGK, hij, hjn, HCL, HCT, HCD, own, kt, rfl, rfl, htb, hpb, en, bel⟩ := hrel
    have HGK_ := Lib.hid HGK
    clear HGK
    by_cases h : j < n
    rotate_left
    · obtain rfl : j = n := by omega
      replace h : decide (j < j) = false := decide_eq_false (by omega)
      obtain ⟨q, hq⟩ : ∃ q, i + q = j := ⟨j - i, by omega⟩
      have HQ := Lib.hid hq
      have HQ0 : Hid (0 < q) := Lib.hid (by omega)
      have r38 := fun W => en_back gE j c i (by omega) (by have := HCAP.out; omega) W
      rw [show j - i = q by omega] at r38
      have r41 := fun W => en_front gE j c i (by have := HCAP.out; omega) W
      clear hq
      have R38 := r38
      go_wp2_with (first | ((with_reducible show wpList _ _ _ (⟨none, Op.call _, _, _, _, _⟩ :: _) _ _); refine wpList_clear_row rfl (.tmp 38) 47 52 rfl (.agg #[.int .u8 0, .int .u8 0, .int .u8 0, .int .u8 0, .int .i64 0, .bool false, .int .u8 0, .int .u8 0, .int .u8 0, .int .u8 0, .int .u8 0, .int .u8 0, .int .i64 0, .slice none 0 0]) Try.underlying47 en_zero en_zs en_z1 _ HQ.out own HQ0.out _ rfl ?_; intro w90 own_ gw; replace kt := kt.trans (kt_row gw own (by simp)); replace bel := bel.trans (row_bel gw own (Nat.le_trans hlo bel.size)); clear own gw htb hpb en; have own := own_; clear own_; have R41 := r41))
      try clear R38
      try clear R41
      go_ret
      exact ⟨i, rfl, by rw [← flat_take enE_len, HCT.out, List.take_of_length_le (Nat.le_of_eq HLL.out)] at own; exact own, kt, bel⟩
    have HX0 := drop_head HCD.out
    obtain ⟨e, hx⟩ : ∃ e, l[j]? = some e := ⟨_, List.getElem?_eq_getElem (by have := HLL.out; omega)⟩
    have HXL := Lib.hid hx
    have HX : Hid (cur[j]? = some e) := Lib.hid (HX0.trans hx)
    obtain ⟨xi, hxi⟩ : ∃ xi, cur[i]? = some xi := ⟨_, List.getElem?_eq_getElem (by have := HCL.out; omega)⟩
    have HXI2 := Lib.hid hxi
    have j0 : (0 : Int) ≤ j := by omega
    have j1 : (j : Int) < n := by omega
    have i0_ : (0 : Int) ≤ i := by omega
    have i1_ : (i : Int) < n := by omega
    have HT0 : Hid (0 ≤ e.t) := Lib.hid (HOK.out e (List.mem_of_getElem? hx)).1
    have HT1 : Hid (e.t ≤ now) := Lib.hid (HOK.out e (List.mem_of_getElem? hx)).2.1
    clear hx HX0 hxi
    rcases hb : goneB age now e with _ | _
    rotate_left
    · have HG := Lib.hid hb
      clear hb
      have HKE : Hid (keepB age now e = false) := Lib.hid (by unfold keepB; rw [HG.out]; rfl)
      have R25 := Lib.hid (Sle.zrange0 en HX.out 14 [.int .u8 (e.ad.a.toNat : Int), .int .u8 (e.ad.b.toNat : Int), .int .u8 (e.ad.c.toNat : Int), .int .u8 (e.ad.d.toNat : Int), .int .i64 e.t, .bool e.k, .int .u8 (e.m.a.toNat : Int), .int .u8 (e.m.b.toNat : Int), .int .u8 (e.m.c.toNat : Int), .int .u8 (e.m.d.toNat : Int), .int .u8 (e.m.e.toNat : Int), .int .u8 (e.m.f.toNat : Int), .int .i64 e.r, .slice e.wA e.wn e.wc] rfl)
      go_wp2_with (first | ((with_reducible show wpList _ _ _ (⟨some 25, _, _, _, _, _⟩ :: _) _ _); refine wpList_load_rng 52 (.tmp 24) rfl (by kernel_rfl) _ _ rfl _ R25.out _ Try.underlying52 rfl (by kernel_rfl) ?_) | ((with_reducible show wpList _ _ _ (⟨some 7, _, _, _, _, _⟩ :: _) _ _); refine wpList_new_a rfl 52 rfl #[.int .u8 0, .int .u8 0, .int .u8 0, .int .u8 0, .int .i64 0, .bool false, .int .u8 0, .int .u8 0, .int .u8 0, .int .u8 0, .int .u8 0, .int .u8 0, .int .i64 0, .slice none 0 0] (by kernel_rfl) ?_; intro g7 w2 ge hh bb; have d_tb_vb := ne_new (hlt htb) ge; have d_pb_vb := ne_new (hlt hpb) ge; have av_en_vb := en.av_new ge; have ovb := Nat.le_trans (Nat.le_trans hlo bel.size) ge; have off_vb := owk_new own ge; replace htb := blk_u htb bb; replace hpb := blk_u hpb bb; replace en := en.below bb; replace own := owk_under own bb; replace kt := kt.trans (kt_below bb); replace bel := bel.trans (bb.mono (Nat.le_trans hlo bel.size)); have hvb := hh; clear hh ge bb) | ((with_reducible show wpList _ _ _ (⟨none, Op.store _ (.tmp 7) _, _, _, _, _⟩ :: _) _ _); refine wpList_store_blk rfl 52 (.tmp 7) (.tmp 25) rfl g7 rfl _ rfl _ 52 hvb (by rfl) (by kernel_rfl) (by kernel_rfl) ?_; intro w3 hq gr; replace en := en.away av_en_vb gr; replace htb := blk_a htb gr d_tb_vb; replace hpb := blk_a hpb gr d_pb_vb; replace own := owk_off own off_vb gr; replace kt := kt.trans (kt_grown gr hvb (by simp)); replace bel := below_grown bel gr ovb (Nat.le_trans hlo bel.size); clear hvb; have hvb := hq; clear hq gr; have R27 := Lib.hid (range_lit hvb 0 14 [.int .u8 (e.ad.a.toNat : Int), .int .u8 (e.ad.b.toNat : Int), .int .u8 (e.ad.c.toNat : Int), .int .u8 (e.ad.d.toNat : Int), .int .i64 e.t, .bool e.k, .int .u8 (e.m.a.toNat : Int), .int .u8 (e.m.b.toNat : Int), .int .u8 (e.m.c.toNat : Int), .int .u8 (e.m.d.toNat : Int), .int .u8 (e.m.e.toNat : Int), .int .u8 (e.m.f.toNat : Int), .int .i64 e.r, .slice e.wA e.wn e.wc] rfl)) | ((with_reducible show wpList _ _ _ (⟨some 27, _, _, _, _, _⟩ :: _) _ _); refine wpList_load_rng 52 (.tmp 7) rfl (by kernel_rfl) _ _ rfl _ R27.out _ Try.underlying52 rfl (by kernel_rfl) ?_))
      try clear R25
      try clear R27
      with_reducible refine (tickf_any e _ htb hpb n0 n1 HT0.out HT1.out).mono ?_
      rintro e w4 ⟨rfl, b4⟩
      replace htb := blk_u htb b4
      replace hpb := blk_u hpb b4
      replace hvb := blk_u hvb b4
      replace en := en.below b4
      replace own := owk_under own b4
      replace kt := kt.trans (kt_below b4)
      replace bel := bel.trans (b4.mono (Nat.le_trans hlo bel.size))
      clear b4
      rw [HG.out]
      go_wp2_with fail
      go_roundg (n - (j + 1))
      case measure => have := HGK_.out; omega
      case rel => exact ⟨j + 1, i, cur, rfl, by omega, by omega, HCL, Lib.hid (by rw [filt_skip HXL.out HKE.out]; exact HCT.out), Lib.hid (drop_more HCD.out), own, kt, by go_num, by go_num, htb, hpb, en, bel⟩
    have HG := Lib.hid hb
    clear hb
    have HKE : Hid (keepB age now e = true) := Lib.hid (by unfold keepB; rw [HG.out]; rfl)
    have R25 := Lib.hid (Sle.zrange0 en HX.out 14 [.int .u8 (e.ad.a.toNat : Int), .int .u8 (e.ad.b.toNat : Int), .int .u8 (e.ad.c.toNat : Int), .int .u8 (e.ad.d.toNat : Int), .int .i64 e.t, .bool e.k, .int .u8 (e.m.a.toNat : Int), .int .u8 (e.m.b.toNat : Int), .int .u8 (e.m.c.toNat : Int), .int .u8 (e.m.d.toNat : Int), .int .u8 (e.m.e.toNat : Int), .int .u8 (e.m.f.toNat : Int), .int .i64 e.r, .slice e.wA e.wn e.wc] rfl)
    go_wp2_with (first | ((with_reducible show wpList _ _ _ (⟨some 25, _, _, _, _, _⟩ :: _) _ _); refine wpList_load_rng 52 (.tmp 24) rfl (by kernel_rfl) _ _ rfl _ R25.out _ Try.underlying52 rfl (by kernel_rfl) ?_) | ((with_reducible show wpList _ _ _ (⟨some 7, _, _, _, _, _⟩ :: _) _ _); refine wpList_new_a rfl 52 rfl #[.int .u8 0, .int .u8 0, .int .u8 0, .int .u8 0, .int .i64 0, .bool false, .int .u8 0, .int .u8 0, .int .u8 0, .int .u8 0, .int .u8 0, .int .u8 0, .int .i64 0, .slice none 0 0] (by kernel_rfl) ?_; intro g7 w2 ge hh bb; have d_tb_vb := ne_new (hlt htb) ge; have d_pb_vb := ne_new (hlt hpb) ge; have av_en_vb := en.av_new ge; have ovb := Nat.le_trans (Nat.le_trans hlo bel.size) ge; have off_vb := owk_new own ge; replace htb := blk_u htb bb; replace hpb := blk_u hpb bb; replace en := en.below bb; replace own := owk_under own bb; replace kt := kt.trans (kt_below bb); replace bel := bel.trans (bb.mono (Nat.le_trans hlo bel.size)); have hvb := hh; clear hh ge bb) | ((with_reducible show wpList _ _ _ (⟨none, Op.store _ (.tmp 7) _, _, _, _, _⟩ :: _) _ _); refine wpList_store_blk rfl 52 (.tmp 7) (.tmp 25) rfl g7 rfl _ rfl _ 52 hvb (by rfl) (by kernel_rfl) (by kernel_rfl) ?_; intro w3 hq gr; replace en := en.away av_en_vb gr; replace htb := blk_a htb gr d_tb_vb; replace hpb := blk_a hpb gr d_pb_vb; replace own := owk_off own off_vb gr; replace kt := kt.trans (kt_grown gr hvb (by simp)); replace bel := below_grown bel gr ovb (Nat.le_trans hlo bel.size); clear hvb; have hvb := hq; clear hq gr; have R27 := Lib.hid (range_lit hvb 0 14 [.int .u8 (e.ad.a.toNat : Int), .int .u8 (e.ad.b.toNat : Int), .int .u8 (e.ad.c.toNat : Int), .int .u8 (e.ad.d.toNat : Int), .int .i64 e.t, .bool e.k, .int .u8 (e.m.a.toNat : Int), .int .u8 (e.m.b.toNat : Int), .int .u8 (e.m.c.toNat : Int), .int .u8 (e.m.d.toNat : Int), .int .u8 (e.m.e.toNat : Int), .int .u8 (e.m.f.toNat : Int), .int .i64 e.r, .slice e.wA e.wn e.wc] rfl)) | ((with_reducible show wpList _ _ _ (⟨some 27, _, _, _, _, _⟩ :: _) _ _); refine wpList_load_rng 52 (.tmp 7) rfl (by kernel_rfl) _ _ rfl _ R27.out _ Try.underlying52 rfl (by kernel_rfl) ?_))
    try clear R25
    try clear R27
    with_reducible refine (tickf_any e _ htb hpb n0 n1 HT0.out HT1.out).mono ?_
    rintro e w4 ⟨rfl, b4⟩
    replace htb := blk_u htb b4
    replace hpb := blk_u hpb b4
    replace hvb := blk_u hvb b4
    replace en := en.below b4
    replace own := owk_under own b4
    replace kt := kt.trans (kt_below b4)
    replace bel := bel.trans (b4.mono (Nat.le_trans hlo bel.size))
    clear b4
    rw [HG.out]
    have R32 := Lib.hid (range_lit hvb 0 14 [.int .u8 (e.ad.a.toNat : Int), .int .u8 (e.ad.b.toNat : Int), .int .u8 (e.ad.c.toNat : Int), .int .u8 (e.ad.d.toNat : Int), .int .i64 e.t, .bool e.k, .int .u8 (e.m.a.toNat : Int), .int .u8 (e.m.b.toNat : Int), .int .u8 (e.m.c.toNat : Int), .int .u8 (e.m.d.toNat : Int), .int .u8 (e.m.e.toNat : Int), .int .u8 (e.m.f.toNat : Int), .int .i64 e.r, .slice e.wA e.wn e.wc] rfl)
    go_wp2_with (first | ((with_reducible show wpList _ _ _ (⟨some 32, _, _, _, _, _⟩ :: _) _ _); refine wpList_load_rng 52 (.tmp 7) rfl (by kernel_rfl) _ _ rfl _ R32.out _ Try.underlying52 rfl (by kernel_rfl) ?_) | ((with_reducible show wpList _ _ _ (⟨none, Op.store _ (.tmp 33) _, _, _, _, _⟩ :: _) _ _); refine wpList_store_el rfl 52 (.tmp 33) (.tmp 32) rfl gE i 0 xi e rfl [.int .u8 (e.ad.a.toNat : Int), .int .u8 (e.ad.b.toNat : Int), .int .u8 (e.ad.c.toNat : Int), .int .u8 (e.ad.d.toNat : Int), .int .i64 e.t, .bool e.k, .int .u8 (e.m.a.toNat : Int), .int .u8 (e.m.b.toNat : Int), .int .u8 (e.m.c.toNat : Int), .int .u8 (e.m.d.toNat : Int), .int .u8 (e.m.e.toNat : Int), .int .u8 (e.m.f.toNat : Int), .int .i64 e.r, .slice e.wA e.wn e.wc] rfl (by decide) enE_len own HXI2.out (Nat.le_of_ble_eq_true rfl) rfl (by kernel_rfl) (by rfl) ?_; intro w5 own_ gw; replace htb := blk_own (v := .slice (some ⟨gE, 0, none⟩) n c) htb gw off_tb; replace hpb := blk_own (v := .slice (some ⟨gE, 0, none⟩) n c) hpb gw off_pb; replace hvb := blk_own (v := .slice (some ⟨gE, 0, none⟩) n c) hvb gw off_vb; replace kt := kt.trans (kt_row gw own (by simp)); replace bel := bel.trans (row_bel gw own (Nat.le_trans hlo bel.size)); clear own; have own := own_; clear own_ gw; replace en := (owk_sle (by decide) enE_len own).1))
    try clear R32
    go_roundg (n - (j + 1))
    case measure => have := HGK_.out; omega
    case rel => exact ⟨j + 1, i + 1, cur.set i e, rfl, by omega, by omega, Lib.hid (by rw [List.length_set]; exact HCL.out), Lib.hid (by rw [take_set_next (by have := HCL.out; omega), filt_keep HXL.out HKE.out, HCT.out]), Lib.hid (by rw [drop_set_next (by omega)]; exact drop_more HCD.out), own, kt, by go_num, by go_num, htb, hpb, en, bel⟩
set_option linter.unusedVariables false in
set_option linter.unusedSimpArgs false in
set_option maxRecDepth 100000 in
set_option maxHeartbeats 16000000 in
theorem del_none {gt gb m c2 n c : Nat} {A A2 : Option Addr} {age now : Int} {l : List En} (w : World) (htb : w.heap[gt]? = some (.cells #[.int .i64 age, .int .i64 now, .slice A m c2] 49 (0, 0))) (hpb : w.heap[gb]? = some (.cells #[.pointer (some ⟨gt, 0, none⟩)] 23 (0, 0))) (en : Sle enE 14 w A2 n c l) (hn : n ≤ 1000) (hok : ∀ e ∈ l, e.ok now) (n0 : 0 ≤ now) (n1 : now ≤ 1099511627776) (hN : ∀ e ∈ l, goneB age now e = false) : Calls Try.prog 24 #[.slice A2 n c, .func (.func 25) #[] #[.pointer (some ⟨gb, 0, none⟩)]] w fun e w' => e = .returned (.slice A2 n c) ∧ Below w.heap.size w w' := by
  have bel := Below.refl w.heap.size w
  go_enter Try.func24, Try.ntmps24
  go_wp2_with fail
  with_reducible refine (idx_none _ htb hpb en hn hok n0 n1 hN).mono ?_
  rintro e w1 ⟨rfl, b1⟩
  replace htb := blk_u htb b1
  replace hpb := blk_u hpb b1
  replace en := en.below b1
  replace bel := bel.trans (b1.mono bel.size)
  clear b1
  go_wp2_with fail
  go_ret
  exact ⟨rfl, bel⟩
theorem first_of (p : En → Bool) : ∀ (l : List En), (∀ e ∈ l, p e = false) ∨ ∃ (k : Nat) (x : En), l[k]? = some x ∧ p x = true ∧ ∀ (j : Nat) (e : En), j < k → l[j]? = some e → p e = false
  | [] => .inl fun e h => by cases h
  | y :: l => by
    cases hy : p y with
    | true => exact .inr ⟨0, y, rfl, hy, fun j e h => absurd h (by omega)⟩
    | false =>
      rcases first_of p l with h | ⟨k, x, h1, h2, h3⟩
      · exact .inl fun e he => (List.mem_cons.1 he).elim (fun h' => h' ▸ hy) (h e)
      · refine .inr ⟨k + 1, x, by simpa using h1, h2, fun j e hj he => ?_⟩
        cases j with
        | zero => simp only [List.getElem?_cons_zero, Option.some.injEq] at he; exact he ▸ hy
        | succ j => exact h3 j e (by omega) (by simpa using he)
theorem del_any {lo gt gb m c2 n c : Nat} {A A2 : Option Addr} {age now : Int} {l : List En} (w : World) (hlo : lo ≤ w.heap.size) (htb : w.heap[gt]? = some (.cells #[.int .i64 age, .int .i64 now, .slice A m c2] 49 (0, 0))) (hpb : w.heap[gb]? = some (.cells #[.pointer (some ⟨gt, 0, none⟩)] 23 (0, 0))) (hown : w.ownsRow lo 52 14 (.slice A2 n c) n (l.flatMap enE)) (hn : n ≤ 1000) (hok : ∀ e ∈ l, e.ok now) (n0 : 0 ≤ now) (n1 : now ≤ 1099511627776) : Calls Try.prog 24 #[.slice A2 n c, .func (.func 25) #[] #[.pointer (some ⟨gb, 0, none⟩)]] w fun e w' => ∃ A3 n3 c3, e = .returned (.slice A3 n3 c3) ∧ w'.ownsRow lo 52 14 (.slice A3 n3 c3) n3 ((l.filter (keepB age now)).flatMap enE) ∧ Kt [52] w w' ∧ Below lo w w' := by
  rcases first_of (goneB age now) l with h | ⟨k, x, h1, h2, h3⟩
  · refine (del_none w htb hpb (owk_sle (by decide) enE_len hown).1 hn hok n0 n1 h).mono ?_
    rintro e w' ⟨rfl, bel⟩
    refine ⟨A2, n, c, rfl, ?_, kt_below bel, bel.mono hlo⟩
    rw [show l.filter (keepB age now) = l from List.filter_eq_self.2 (fun e he => by unfold keepB; rw [h e he]; rfl)]
    exact owk_under hown bel
  · obtain ⟨gE, rfl, _⟩ := row_at hown (by have := (List.getElem?_eq_some_iff.1 h1).1; have h_ := row_len (by decide) enE_len hown; omega)
    refine (del_some w hlo htb hpb hown hn hok n0 n1 h1 h2 h3).mono ?_
    rintro e w' ⟨i, rfl, h4, h5, h6⟩
    exact ⟨_, i, c, rfl, h4, h5, h6⟩
/-- Is one asked for again now? What becomes of it. -/
def dueB (now : Int) (e : En) : Bool := !e.k && decide (1 ≤ now - e.t)
def updE (now : Int) (e : En) : En := if dueB now e = true then { e with r := e.r + 1, t := now } else e
theorem updE_num (now : Int) (e : En) : (updE now e).num = e.num := by unfold updE; split <;> rfl
theorem updE_ok {now : Int} {e : En} (h : e.ok now) (h0 : 0 ≤ now) : (updE now e).ok now := by
  unfold updE
  split
  · rename_i hd
    unfold dueB at hd
    simp only [Bool.and_eq_true, decide_eq_true_eq] at hd
    obtain ⟨h1, h2, h3, h4⟩ := h
    exact ⟨h0, Int.le_refl _, by show 0 ≤ e.r + 1; omega, by show e.r + 1 ≤ now + 1; omega⟩
  · exact h
def tickL (age now : Int) (l : List En) : List En := (l.filter (keepB age now)).map (updE now)
theorem Srt.tick {l : List En} (h : Srt l) (age now : Int) : Srt (tickL age now l) := by
  unfold tickL Srt
  rw [List.pairwise_map]
  refine List.Pairwise.imp ?_ (List.Pairwise.sublist List.filter_sublist h)
  intro x y hxy
  rw [updE_num, updE_num]; exact hxy
theorem tickL_ok {l : List En} {age now : Int} (h : ∀ e ∈ l, e.ok now) (h0 : 0 ≤ now) : ∀ e ∈ tickL age now l, e.ok now := by
  intro e he
  unfold tickL at he
  obtain ⟨x, hx, rfl⟩ := List.mem_map.1 he
  exact updE_ok (h x (List.mem_filter.1 hx).1) h0
theorem tickL_len {l : List En} {age now : Int} (h : l.length ≤ 32) : (tickL age now l).length ≤ 32 := by
  unfold tickL
  rw [List.length_map]
  exact Nat.le_trans (List.length_filter_le _ _) h
theorem map_skip {l l1 : List En} {k : Nat} {e : En} {f : En → En} (he : l1[k]? = some e) (hx : l[k]? = some e) (hf : f e = e) (h : l.take k = (l1.take k).map f) : l.take (k + 1) = (l1.take (k + 1)).map f := by
  rw [List.take_add_one, List.take_add_one, hx, he, List.map_append, h]
  simp [hf]
theorem map_set {l l1 : List En} {k : Nat} {e y : En} {f : En → En} (he : l1[k]? = some e) (hx : l[k]? = some e) (hf : f e = y) (h : l.take k = (l1.take k).map f) : (l.set k y).take (k + 1) = (l1.take (k + 1)).map f := by
  rw [take_set_next (List.getElem?_eq_some_iff.1 hx).1, List.take_add_one, he, List.map_append, h]
  simp [hf]
def adf (a : Ad4) : List Value := [.int .u8 (a.a.toNat : Int), .int .u8 (a.b.toNat : Int), .int .u8 (a.c.toNat : Int), .int .u8 (a.d.toNat : Int)]
theorem adf_len (a : Ad4) : (adf a).length = 4 := rfl
theorem adf_one (a : Ad4) : ∀ u ∈ adf a, u.oneCell' = true := by
  intro u hu
  simp only [adf, List.mem_cons, List.not_mem_nil, or_false] at hu
  rcases hu with h | h | h | h <;> rw [h] <;> rfl
theorem Try.info_adr : (Try.prog.info? 30).map (fun i => (i.zero, i.size, i.bytes)) = some (some (.agg #[.int .u8 0, .int .u8 0, .int .u8 0, .int .u8 0]), 4, 4) := by kernel_rfl
set_option linter.unusedVariables false in
set_option linter.unusedSimpArgs false in
set_option maxRecDepth 100000 in
set_option maxHeartbeats 16000000 in
theorem tick_any {lo gt : Nat} {age now : Int} {l : List En} {t : Int} (w : World) (hT : Tb lo gt w age now l) : Calls Try.prog 12 #[.pointer (some ⟨gt, 0, none⟩), .int .i64 t] w fun e w' => ∃ A2 c2, e = .returned (.slice A2 ((l.filter (keepB age (adv now t))).filter (dueB (adv now t))).length c2) ∧ Tb lo gt w' age (adv now t) (tickL age (adv now t) l) ∧ Kt [49, 52, 42, 30] w w' ∧ Below lo w w' := by
  obtain ⟨A, n, c, htb, otb, own, hS, hok, hlen, n0, n1⟩ := hT
  have hlo : lo ≤ w.heap.size := Nat.le_trans otb (Nat.le_of_lt (hlt htb))
  have off_tb := ofs_type own htb (by decide)
  have hl := row_len (by decide) enE_len own
  have h32 : n ≤ 32 := by omega
  have HLL := Lib.hid hl
  have HLO := Lib.hid hlo
  have HS := Lib.hid hS
  have HOK := Lib.hid hok
  have HLEN := Lib.hid hlen
  have H32 := Lib.hid h32
  obtain ⟨nw, hnw⟩ : ∃ x, adv now t = x := ⟨_, rfl⟩
  have hnw1 : now ≤ nw := by rw [← hnw]; exact adv_ge now t
  have hnw2 : nw ≤ 1099511627776 := by rw [← hnw]; exact adv_le n1
  have m0 : 0 ≤ nw := by omega
  have HNW := Lib.hid hnw
  have HM0 := Lib.hid m0
  have HM2 := Lib.hid hnw2
  have HOK2 : Hid (∀ e ∈ l, e.ok nw) := Lib.hid (fun e he => (hok e he).le hnw1)
  have kt := Kt.refl [49, 52, 42, 30] w
  clear hl hS hok hlen hnw n0 n1
  obtain ⟨ia, hia, hia0, hia1, hia2⟩ := info_parts Try.info_adr
  have bel := Below.refl lo w
  go_enter Try.func12, Try.ntmps12
  go_wp2_with (first | ((with_reducible show wpList _ _ _ (⟨some 2, _, _, _, _, _⟩ :: _) _ _); refine wpList_box_n rfl 23 (.tmp 0) rfl #[.pointer (some ⟨gt, 0, none⟩)] rfl ?_; intro g2 w1 ge lt hh bb; have d_tb_pb := ne_new (hlt htb) ge; have opb := Nat.le_trans (Nat.le_trans hlo bel.size) ge; have off_pb := owk_new own ge; have pn_pb := Nat.le_trans bel.size ge; replace htb := blk_u htb bb; replace own := owk_under own bb; replace kt := kt.trans (kt_below bb); replace bel := bel.trans (bb.mono (Nat.le_trans hlo bel.size)); have hpb := hh; clear hh lt ge bb; have R8 := cell_lit hpb 0 _ rfl))
  try clear R8
  with_reducible refine (adv_any _ _ htb).mono ?_
  rintro e w2 ⟨rfl, htb_, b2⟩
  replace hpb := blk_a hpb b2 (ne_symm d_tb_pb)
  replace own := owk_off own off_tb b2
  replace kt := kt.trans (kt_grown b2 htb (by simp))
  replace bel := below_grown bel b2 otb (Nat.le_trans hlo bel.size)
  clear b2
  clear htb
  rw [HNW.out] at htb_
  have htb := htb_
  clear htb_
  go_wp2_with fail
  replace bel := bel.drew
  replace htb : w2.drew.heap[gt]? = _ := htb
  replace hpb : w2.drew.heap[g2]? = _ := hpb
  replace own := World.ownsRow.drew own
  replace kt := kt_drew kt
  refine wp_region_z 9 (S := fun W => W.heap[g2]? = some (.cells #[.pointer (some ⟨gt, 0, none⟩)] 23 (0, 0)) ∧ W.heap[gt]? = some (.cells #[.int .i64 age, .int .i64 nw, .slice A n c] 49 (0, 0))) (by kernel_rfl) ⟨hpb, htb⟩ (fun hH => ?_)
  generalize w2.drew = w3 at bel htb hpb own kt hH ⊢
  refine wpAnyZ_take (i := 0) (v := ?_) rfl (by kernel_rfl) (by kernel_rfl) (by kernel_rfl) (fun _ _ _ h => h) (Or.inl ⟨by rfl, ?_⟩) hH ?_
  rotate_left
  · ((intro W hW; have hk := cell_lit (hW.1) 0 _ rfl; clear hW; go_simp) <;> with_reducible rfl)
  simp only [Act.put, List.getElem_toArray, List.getElem_cons_zero, List.setIfInBounds_toArray, List.set_cons_zero, List.set_cons_succ]
  refine wpAnyZ_take (i := 1) (v := ?_) rfl (by kernel_rfl) (by kernel_rfl) (by kernel_rfl) (fun _ _ _ h => h) (Or.inl ⟨by rfl, ?_⟩) hH ?_
  rotate_left
  · ((intro W hW; have hk := cell_lit (hW.1) 0 _ rfl; clear hW; go_simp) <;> with_reducible rfl)
  simp only [Act.put, List.getElem_toArray, List.getElem_cons_zero, List.getElem_cons_succ, List.setIfInBounds_toArray, List.set_cons_zero, List.set_cons_succ]
  refine wpAnyZ_take (i := 2) (v := ?_) rfl (by kernel_rfl) (by kernel_rfl) (by kernel_rfl) (fun _ _ _ h => h) (Or.inl ⟨by rfl, ?_⟩) hH ?_
  rotate_left
  · ((intro W hW; clear hW; go_simp) <;> with_reducible rfl)
  simp only [Act.put, List.getElem_toArray, List.getElem_cons_zero, List.getElem_cons_succ, List.setIfInBounds_toArray, List.set_cons_zero, List.set_cons_succ]
  refine wpAnyZ_take (i := 3) (v := ?_) rfl (by kernel_rfl) (by kernel_rfl) (by kernel_rfl) (fun _ _ _ h => h) (Or.inl ⟨by rfl, ?_⟩) hH ?_
  rotate_left
  · ((intro W hW; clear hW; go_simp) <;> with_reducible rfl)
  simp only [Act.put, List.getElem_toArray, List.getElem_cons_zero, List.getElem_cons_succ, List.setIfInBounds_toArray, List.set_cons_zero, List.set_cons_succ]
  refine wpAnyZ_take (i := 4) (v := ?_) rfl (by kernel_rfl) (by kernel_rfl) (by kernel_rfl) (fun _ _ _ h => h) (Or.inl ⟨by rfl, ?_⟩) hH ?_
  rotate_left
  · ((intro W hW; have hk := cell_lit (hW.2) 2 _ rfl; clear hW; go_simp) <;> with_reducible rfl)
  simp only [Act.put, List.getElem_toArray, List.getElem_cons_zero, List.getElem_cons_succ, List.setIfInBounds_toArray, List.set_cons_zero, List.set_cons_succ]
  refine wpAnyZ_take (i := 5) (v := ?_) rfl (by kernel_rfl) (by kernel_rfl) (by kernel_rfl) (fun _ _ _ h => h) (Or.inl ⟨by rfl, ?_⟩) hH ?_
  rotate_left
  · ((intro W hW; clear hW; go_simp) <;> with_reducible rfl)
  simp only [Act.put, List.getElem_toArray, List.getElem_cons_zero, List.getElem_cons_succ, List.setIfInBounds_toArray, List.set_cons_zero, List.set_cons_succ]
  refine wpAnyZ_ready (rs := [6]) (by kernel_rfl) (by simp) ?_
  refine AllReadyZ.cons (o := _) rfl (fun K hK => ?_) AllReadyZ.nil
  simp only [List.getElem_toArray, List.getElem_cons_zero, List.getElem_cons_succ]
  go_simp
  have HLO_ := Nat.le_trans HLO.out bel.size
  with_reducible refine (del_any _ HLO_ htb hpb own (Nat.le_trans H32.out (by decide)) HOK2.out HM0.out HM2.out).mono ?_
  rintro e w4 ⟨A3, n3, c3, rfl, own_, k2_, bb⟩
  dsimp only
  replace htb := Kt.blk k2_ htb (by decide)
  replace hpb := Kt.blk k2_ hpb (by decide)
  replace kt := kt.trans (k2_.mono (by simp))
  replace bel := bel.trans bb
  clear own bb k2_
  have own := own_
  clear own_
  clear off_tb
  have off_tb := ofs_type own htb (by decide)
  clear off_pb
  have off_pb := ofs_type own hpb (by decide)
  clear HLO_
  obtain ⟨l1, hl1⟩ : ∃ x, l.filter (keepB age nw) = x := ⟨_, rfl⟩
  rw [hl1] at own
  have HL1 := Lib.hid hl1
  clear hl1
  have HLN := Lib.hid (row_len (by decide) enE_len own)
  have HN3 : Hid (n3 ≤ 32) := Lib.hid (by rw [← HLN.out, ← HL1.out]; exact Nat.le_trans (List.length_filter_le _ _) HLEN.out)
  have ask : w4.ownsRow lo 30 4 (.slice none 0 0) 0 (([] : List Ad4).flatMap adf) := World.ownsRow_nil _ _ _ _
  refine hK.out _ _ ⟨hpb, htb⟩ (fun hH5 => ?_)
  clear hK K
  refine wpAnyZ_take (i := 7) (v := ?_) rfl (by kernel_rfl) (by kernel_rfl) (by kernel_rfl) (fun _ _ _ h => h) (Or.inl ⟨by rfl, ?_⟩) hH5 ?_
  rotate_left
  · ((intro W hW; clear hW; go_simp) <;> with_reducible rfl)
  simp only [Act.put, List.getElem_toArray, List.getElem_cons_zero, List.getElem_cons_succ, List.setIfInBounds_toArray, List.set_cons_zero, List.set_cons_succ]
  refine wpAnyZ_take (i := 8) (v := ?_) rfl (by kernel_rfl) (by kernel_rfl) (by kernel_rfl) (fun _ _ _ h => h) (Or.inl ⟨by rfl, ?_⟩) hH5 ?_
  rotate_left
  · ((intro W hW; clear hW; go_simp) <;> with_reducible rfl)
  simp only [Act.put, List.getElem_toArray, List.getElem_cons_zero, List.getElem_cons_succ, List.setIfInBounds_toArray, List.set_cons_zero, List.set_cons_succ]
  refine wpAnyZ_ready (rs := [9]) (by kernel_rfl) (by simp) ?_
  refine AllReadyZ.last (o := _) rfl (fun K hK => ?_)
  simp only [List.getElem_toArray, List.getElem_cons_zero, List.getElem_cons_succ]
  rw [if_pos (by rfl)]
  refine wp_store_part 47 (.tmp 19) (.tmp 17) rfl gt 2 rfl [.slice A3 n3 c3] rfl [.int .i64 age, .int .i64 nw, .slice A n c] 49 htb (by simp) [.int .i64 age, .int .i64 nw, .slice A3 n3 c3] rfl (by kernel_rfl) (by rfl) ?_
  intro w6 hq gr
  replace hpb := blk_a hpb gr (ne_symm d_tb_pb)
  replace own := owk_off own off_tb gr
  replace kt := kt.trans (kt_grown gr htb (by simp))
  replace ask := owk_off ask (ofs_type ask htb (by decide)) gr
  replace bel := below_grown bel gr otb (Nat.le_trans hlo bel.size)
  clear htb
  have htb := hq
  clear hq gr
  refine hK.out _ _ trivial (fun hH7 => ?_)
  clear hK K
  simp only [Act.put]
  refine wpAnyZ_done (by kernel_rfl) ?_ _
  have R20 := cell_lit hpb 0 _ rfl
  have R23 := cell_lit htb 2 _ rfl
  go_wp2_with fail
  clear R20 R23
  go_loopg [25, 5] (n3) (fun gk s25 s5 wr => ∃ k : Nat, ∃ cur : List En, ∃ Aa : Option Addr, ∃ na : Nat, ∃ ca : Nat, ∃ la : List Ad4, gk = n3 - k ∧ k ≤ n3 ∧ Hid (cur.length = n3) ∧ Hid (cur.take k = (l1.take k).map (updE nw)) ∧ Hid (cur.drop k = l1.drop k) ∧ Hid (na = ((l1.take k).filter (dueB nw)).length) ∧ na ≤ k ∧ wr.ownsRow lo 52 14 (.slice A3 n3 c3) n3 (cur.flatMap enE) ∧ Kt [49, 52, 42, 30] w wr ∧ wr.ownsRow lo 30 4 (.slice Aa na ca) na (la.flatMap adf) ∧ s25 = .int .i64 (k : Int) ∧ s5 = .slice Aa na ca ∧ wr.heap[gt]? = some (.cells #[.int .i64 age, .int .i64 nw, .slice A3 n3 c3] 49 (0, 0)) ∧ wr.heap[g2]? = some (.cells #[.pointer (some ⟨gt, 0, none⟩)] 23 (0, 0)) ∧ Below lo w wr)
  case atStart => exact ⟨0, l1, none, 0, 0, [], Nat.sub_zero _, Nat.zero_le _, HLN, Lib.hid rfl, Lib.hid rfl, Lib.hid rfl, Nat.le_refl _, own, kt, ask, rfl, rfl, htb, hpb, bel⟩
  case round =>
    clear own kt ask htb hpb bel
    obtain ⟨k, cur, Aa, na, ca, la, HGK, hkn, HCL, HCT, HCD, HNA, hnk, own, kt, ask, rfl, rfl, htb, hpb, bel⟩ := hrel
    have HGK_ := Lib.hid HGK
    clear HGK
    by_cases h : k < n3
    rotate_left
    · obtain rfl : k = n3 := by omega
      replace h : decide (k < k) = false := decide_eq_false (by omega)
      have HCT_ : Hid (cur = tickL age nw l) := Lib.hid (by have h1 := HCT.out; rw [List.take_of_length_le (Nat.le_of_eq HCL.out), List.take_of_length_le (Nat.le_of_eq HLN.out)] at h1; unfold tickL; rw [HL1.out]; exact h1)
      go_wp2_with fail
      go_ret
      exact ⟨Aa, ca, by rw [HNA.out, List.take_of_length_le (Nat.le_of_eq HLN.out), ← HL1.out, HNW.out]; rfl, by rw [HNW.out]; exact ⟨A3, k, c3, htb, otb, by rw [← HCT_.out]; exact own, HS.out.tick age nw, tickL_ok HOK2.out HM0.out, tickL_len HLEN.out, HM0.out, HM2.out⟩, kt, bel⟩
    have HX0 := drop_head HCD.out
    obtain ⟨e, hx⟩ : ∃ e, l1[k]? = some e := ⟨_, List.getElem?_eq_getElem (by have := HLN.out; omega)⟩
    have HXL := Lib.hid hx
    have HX : Hid (cur[k]? = some e) := Lib.hid (HX0.trans hx)
    have k0 : (0 : Int) ≤ k := by omega
    have k1 : (k : Int) < n3 := by omega
    have k2 : (k : Int) ≤ 1000 := by have := HN3.out; omega
    have hoke := HOK2.out e (List.mem_filter.1 (by rw [HL1.out]; exact List.mem_of_getElem? hx)).1
    obtain ⟨gE, rfl, _⟩ := row_at own (by omega)
    have en := (owk_sle (by decide) enE_len own).1
    clear HX0 hx
    obtain ⟨ade, te, ke, me, re, wAe, wne, wce⟩ := e
    have hte0 : 0 ≤ te := hoke.1
    have hte1 : te ≤ nw := hoke.2.1
    have hre0 : 0 ≤ re := hoke.2.2.1
    have hre1 : re ≤ 1099511627777 := by have h1 : re ≤ te + 1 := hoke.2.2.2; have h2 := HM2.out; omega
    clear hoke
    rcases (by decide : ∀ b : Bool, b = true ∨ b = false) ke with rfl | rfl
    · have HDF : Hid (dueB nw (⟨ade, te, true, me, re, wAe, wne, wce⟩) = false) := Lib.hid (rfl)
      have HUF : Hid (updE nw (⟨ade, te, true, me, re, wAe, wne, wce⟩) = (⟨ade, te, true, me, re, wAe, wne, wce⟩)) := Lib.hid (by unfold updE; rw [HDF.out]; rfl)
      have R28 := cell_lit hpb 0 _ rfl
      have R31 := cell_lit htb 2 _ rfl
      have R37 := Sle.zcell en HX.out 5 _ rfl
      go_wp2_with fail
      clear R28 R31 R37
      go_roundg (n3 - (k + 1))
      case measure => have := HGK_.out; omega
      case rel => exact ⟨k + 1, cur, Aa, na, ca, la, rfl, by omega, HCL, Lib.hid (map_skip HXL.out HX.out HUF.out HCT.out), Lib.hid (drop_more HCD.out), Lib.hid (by rw [filt_skip HXL.out HDF.out]; exact HNA.out), by omega, own, kt, ask, by go_num, by go_num, htb, hpb, bel⟩
    by_cases hd : 1 ≤ nw - te
    rotate_left
    · have HDF0 := hd
      have HDF : Hid (dueB nw (⟨ade, te, false, me, re, wAe, wne, wce⟩) = false) := Lib.hid (by unfold dueB; simp; omega)
      have HUF : Hid (updE nw (⟨ade, te, false, me, re, wAe, wne, wce⟩) = (⟨ade, te, false, me, re, wAe, wne, wce⟩)) := Lib.hid (by unfold updE; rw [HDF.out]; rfl)
      clear HDF0
      have HDU : Hid (nw - te < 1) := Lib.hid (by omega)
      clear hd
      have R28 := cell_lit hpb 0 _ rfl
      have R31 := cell_lit htb 2 _ rfl
      have R37 := Sle.zcell en HX.out 5 _ rfl
      have R41 := cell_lit hpb 0 _ rfl
      have R44 := cell_lit htb 1 _ rfl
      go_wp2_with fail
      clear R28 R31 R37 R41 R44
      with_reducible refine (request_no (x := ⟨ade, te, false, me, re, wAe, wne, wce⟩) _ own HX.out HM0.out HM2.out hte0 hte1 (Int.not_le.2 HDU.out)).mono ?_
      rintro e _ ⟨rfl, rfl⟩
      go_wp2_with fail
      go_roundg (n3 - (k + 1))
      case measure => have := HGK_.out; omega
      case rel => exact ⟨k + 1, cur, Aa, na, ca, la, rfl, by omega, HCL, Lib.hid (map_skip HXL.out HX.out HUF.out HCT.out), Lib.hid (drop_more HCD.out), Lib.hid (by rw [filt_skip HXL.out HDF.out]; exact HNA.out), by omega, own, kt, ask, by go_num, by go_num, htb, hpb, bel⟩
    have HDT : Hid (dueB nw (⟨ade, te, false, me, re, wAe, wne, wce⟩) = true) := Lib.hid (by unfold dueB; simp; omega)
    have HUF : Hid (updE nw (⟨ade, te, false, me, re, wAe, wne, wce⟩) = (⟨ade, nw, false, me, re + 1, wAe, wne, wce⟩)) := Lib.hid (by unfold updE; rw [HDT.out]; rfl)
    have HDU := Lib.hid hd
    clear hd
    have HB1 : Hid (na + 1 ≤ maxLen) := Lib.hid (by have := HN3.out; unfold maxLen; omega)
    have HB2 : Hid ((na + 1) * 4 ≤ 140737488355328) := Lib.hid (by have := HN3.out; omega)
    have R28 := cell_lit hpb 0 _ rfl
    have R31 := cell_lit htb 2 _ rfl
    have R37 := Sle.zcell en HX.out 5 _ rfl
    have R41 := cell_lit hpb 0 _ rfl
    have R44 := cell_lit htb 1 _ rfl
    go_wp2_with fail
    clear R28 R31 R37 R41 R44
    have HLO_ := Nat.le_trans HLO.out bel.size
    with_reducible refine (request_yes (x := ⟨ade, te, false, me, re, wAe, wne, wce⟩) _ own HX.out HLO_ HM0.out HM2.out hte0 hte1 HDU.out hre0 hre1).mono ?_
    rintro e w8 ⟨rfl, own_, gw⟩
    replace htb := blk_own (v := .slice (some ⟨gE, 0, none⟩) n3 c3) htb gw off_tb
    replace hpb := blk_own (v := .slice (some ⟨gE, 0, none⟩) n3 c3) hpb gw off_pb
    replace kt := kt.trans (kt_row gw own (by simp))
    replace ask := (kt_row gw own (by decide) : Kt [52] _ _).own ask (by decide)
    replace bel := bel.trans (row_bel gw own (Nat.le_trans hlo bel.size))
    clear own
    have own := own_
    clear own_ gw
    replace en := (owk_sle (by decide) enE_len own).1
    clear HLO_
    have HX3 : Hid ((cur.set k ⟨ade, nw, false, me, re + 1, wAe, wne, wce⟩)[k]? = some ⟨ade, nw, false, me, re + 1, wAe, wne, wce⟩) := Lib.hid (List.getElem?_set_self (List.getElem?_eq_some_iff.1 HX.out).1)
    have R51 := Lib.hid (Sle.zrange0 en HX3.out 4 [.int .u8 (ade.a.toNat : Int), .int .u8 (ade.b.toNat : Int), .int .u8 (ade.c.toNat : Int), .int .u8 (ade.d.toNat : Int)] rfl)
    go_wp2_with (first | ((with_reducible show wpList _ _ _ (⟨some 51, _, _, _, _, _⟩ :: _) _ _); refine wpList_load_rng 30 (.tmp 50) rfl (by kernel_rfl) _ _ rfl _ R51.out _ Try.underlying30 rfl (by kernel_rfl) ?_) | ((with_reducible show wpList _ _ _ (⟨some 52, _, _, _, _, _⟩ :: _) _ _); refine wpList_lit_n rfl 36 30 1 _ rfl #[.int .u8 (ade.a.toNat : Int), .int .u8 (ade.b.toNat : Int), .int .u8 (ade.c.toNat : Int), .int .u8 (ade.d.toNat : Int)] (.agg #[.int .u8 0, .int .u8 0, .int .u8 0, .int .u8 0]) Try.underlying36 (by kernel_rfl) 4 (by kernel_rfl) (by decide) (by kernel_rfl) ?_; intro g52 w9 ge lt hh bb; have d_tb_b52 := ne_new (hlt htb) ge; have d_pb_b52 := ne_new (hlt hpb) ge; have av_en_b52 := en.av_new ge; have ob52 := Nat.le_trans (Nat.le_trans hlo bel.size) ge; have off_b52 := owk_new own ge; have pn_b52 := Nat.le_trans bel.size ge; replace htb := blk_u htb bb; replace hpb := blk_u hpb bb; replace en := en.below bb; replace own := owk_under own bb; replace kt := kt.trans (kt_below bb); replace ask := owk_under ask bb; replace bel := bel.trans (bb.mono (Nat.le_trans hlo bel.size)); have hb52 := hh; clear hh lt ge bb; have lt : Sle adf 4 w9 (some ⟨g52, 0, none⟩) (1) (1) ([ade]) := sle_lit ([ade]) (by decide) adf_len hb52 rfl (by simp [maxLen])) | ((with_reducible show wpList _ _ _ (⟨some 53, _, _, _, _, _⟩ :: _) _ _); refine wpList_append_sle rfl (.tmp 47) (.tmp 52) 36 rfl lo 30 ia (.agg #[.int .u8 0, .int .u8 0, .int .u8 0, .int .u8 0]) 4 Try.underlying36 hia hia0 hia1 hia2 rfl adf_one _ na la rfl ask (some ⟨g52, 0, none⟩) 1 1 [ade] rfl lt HB1.out HB2.out (Nat.le_trans hlo bel.size) ?_; intro v53 w91 own_ bb gw ofw; have k9 := kt_row (S := [30]) gw ask (by simp); replace own := k9.own own (by decide); replace en := (owk_sle (by decide) enE_len own).1; replace htb := k9.blk htb (by decide); replace hpb := k9.blk hpb (by decide); replace kt := kt.trans (k9.mono (by simp)); replace bel := bel.trans bb; clear ask k9 bb gw ofw lt hb52; obtain ⟨A53, c53, rfl⟩ := owk_val own_; have ask := own_; clear own_))
    try clear R51
    go_roundg (n3 - (k + 1))
    case measure => have := HGK_.out; omega
    case rel => exact ⟨k + 1, cur.set k ⟨ade, nw, false, me, re + 1, wAe, wne, wce⟩, A53, na + 1, c53, la ++ [ade], rfl, by omega, Lib.hid (by rw [List.length_set]; exact HCL.out), Lib.hid (map_set HXL.out HX.out HUF.out HCT.out), Lib.hid (by rw [drop_set_next (Nat.lt_succ_self k)]; exact drop_more HCD.out), Lib.hid (by rw [filt_keep HXL.out HDT.out, List.length_append, HNA.out]; rfl), by omega, own, kt, ask, by go_num, by go_num, htb, hpb, bel⟩
end Go.Proofs.Ytfghmckeogajnaa
