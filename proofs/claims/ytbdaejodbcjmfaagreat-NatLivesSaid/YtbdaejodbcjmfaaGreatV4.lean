/- Texts put together: Law19l. -/
import Derived.Test.YtbdaejodbcjmfaaGreatQ1
import Derived.Test.YtbdaejodbcjmfaaGreatQ2
import Derived.Test.YtbdaejodbcjmfaaGreatQ3
import Derived.Test.YtbdaejodbcjmfaaGreatQ4
import Derived.Test.YtbdaejodbcjmfaaGreatQ5
import Derived.Test.YtbdaejodbcjmfaaGreatQ6
import Derived.Test.YtbdaejodbcjmfaaGreatQ7
import Derived.Test.YtbdaejodbcjmfaaGreatQ8
import Derived.Test.YtbdaejodbcjmfaaGreatQ9
import Derived.Test.YtbdaejodbcjmfaaGreatQ10
import Derived.Test.YtbdaejodbcjmfaaGreatQ11
import Derived.Test.YtbdaejodbcjmfaaGreatQ12
import Derived.Test.YtbdaejodbcjmfaaGreatQ13
import Derived.Test.YtbdaejodbcjmfaaGreatV1
import Derived.Test.YtbdaejodbcjmfaaGreatV2
import Derived.Test.YtbdaejodbcjmfaaGreatV3
import Derived.Deep.RegionHeld3
import Derived.Deep.CutRange
namespace Go.Proofs.YtbdaejodbcjmfaaGreat
open Go.RowKit
open Go.RowKit

def lM (un : Int) : Mp := ⟨6, 40000, ⟨10, 0, 0, byteOf 5⟩, 777, 1, un⟩
def lS (t un : Int) : Ts := ⟨40000, 128, t, [lM un], []⟩
def lK (st : Int) : Ks := ⟨128, [⟨40000, ⟨8, 8, 8, 8⟩, 80, st, false⟩]⟩
theorem l_mk1 {lo gt : Nat} : MakeC lo gt nS0 (lS 0 10) 6 10 0 0 (byteOf 5) 777 0 10 (lM 10) 0 := fun W hT => mk_least (s1 := nS0) (q := 40000) (ad := ⟨10, 0, 0, byteOf 5⟩) W hT rfl (by decide) (by decide) rfl rfl (by decide) (fun h => absurd h (by decide)) (by decide) (by decide) (fun o h1 h2 => by have h1' : (40000 : Int) ≤ o := h1; omega) rfl rfl
theorem l_mk2 {lo gt : Nat} : MakeC lo gt (lS 0 240) (lS 0 10) 6 10 0 0 (byteOf 5) 777 0 10 (lM 10) 0 := fun W hT => mk_old (s1 := lS 0 240) (i := 0) (ad := ⟨10, 0, 0, byteOf 5⟩) W hT rfl (by decide) (by decide) rfl (by kernel_rfl) rfl rfl rfl
theorem l_in {lo gt : Nat} {un : Int} : InC lo gt (lS 0 un) (lS 0 un) 6 40000 0 (lM un) := fun W hT => in_some (s1 := lS 0 un) (i := 0) W hT rfl (by unfold okP; omega) (by kernel_rfl) (by kernel_rfl) rfl
theorem l_lv {lo gt : Nat} {a b sc : Int} (h : a < sc) (h1 : secsB sc = true) (hb : sc = b) : LiveC lo gt (lS 0 a) (lS 0 b) 6 40000 0 sc true := fun W hT => by
  subst hb
  exact lv_set (s1 := lS 0 a) (i := 0) W hT rfl (by unfold okP; omega) (by kernel_rfl) (by kernel_rfl) rfl rfl h1 (by show a < 0 + sc; omega) (by show (⟨40000, 128, 0, [⟨6, 40000, ⟨10, 0, 0, byteOf 5⟩, 777, 1, 0 + sc⟩], []⟩ : Ts) = _; rw [Int.zero_add]; rfl)
theorem l_lo {lo gt : Nat} {a sc : Int} (h : sc ≤ a) (h1 : secsB sc = true) : LiveC lo gt (lS 0 a) (lS 0 a) 6 40000 0 sc false := fun W hT => lv_old (s1 := lS 0 a) (i := 0) W hT rfl (by unfold okP; omega) (by kernel_rfl) (by kernel_rfl) rfl rfl h1 (by show 0 + sc ≤ a; omega)
theorem l_see1 {lo gk : Nat} : SeeC lo gk nK0 (lK 1) 40000 8 8 8 8 80 false 777 80 0 0 2 0 0 0 0 1 := fun W Q cq D cd hT => see_new (s := nK0) (ad := ⟨8, 8, 8, 8⟩) W hT rfl rfl rfl (by decide) (by decide) rfl
theorem l_see2 {lo gk : Nat} : SeeC lo gk (lK 1) (lK 2) 40000 8 8 8 8 80 true 80 40000 0 0 18 0 0 0 0 2 := fun W Q cq D cd hT => see_old (s := lK 1) (i := 0) (ad := ⟨8, 8, 8, 8⟩) W hT (by kernel_rfl) rfl rfl (by kernel_rfl) (by kernel_rfl)
theorem l_see3 {lo gk : Nat} : SeeC lo gk (lK 2) (lK 3) 40000 8 8 8 8 80 false 777 80 0 0 16 0 0 0 0 3 := fun W Q cq D cd hT => see_old (s := lK 2) (i := 0) (ad := ⟨8, 8, 8, 8⟩) W hT (by kernel_rfl) rfl rfl (by kernel_rfl) (by kernel_rfl)
theorem l_see4 {lo gk : Nat} : SeeC lo gk (lK 3) (lK 6) 40000 8 8 8 8 80 true 80 40000 0 0 4 0 0 0 0 6 := fun W Q cq D cd hT => see_old (s := lK 3) (i := 0) (ad := ⟨8, 8, 8, 8⟩) W hT (by kernel_rfl) rfl rfl (by kernel_rfl) (by kernel_rfl)
theorem l_some {lo gn gt gk : Nat} {un t : Int} {k : Ks} (w : World) (hT : Np lo gn gt gk w (lS 0 un) k) (h0 : 0 ≤ t) (h1 : t ≤ 8000) (h2 : t < un) : Calls Tryz.prog 29 #[.pointer (some ⟨gt, 0, none⟩), .int .i64 6, .int .i64 40000, .int .i64 t] w fun e w' => e = .returned (.tuple #[.agg #[.int .i64 6, .int .i64 40000, .int .u8 ((⟨10, 0, 0, byteOf 5⟩ : Ad4).a.toNat : Int), .int .u8 ((⟨10, 0, 0, byteOf 5⟩ : Ad4).b.toNat : Int), .int .u8 ((⟨10, 0, 0, byteOf 5⟩ : Ad4).c.toNat : Int), .int .u8 ((⟨10, 0, 0, byteOf 5⟩ : Ad4).d.toNat : Int), .int .i64 777, .int .i64 1, .int .i64 un], .bool true]) ∧ Np lo gn gt gk w' (lS t un) k ∧ Fn gn gt gk w w' ∧ Below lo w w' := by
  have ha : (lS 0 un).adv t = lS t un := by
    by_cases h : 0 < t
    · rw [Ts.adv_yes h (by omega)]
      have hl : liveB t (lM un) = true := decide_eq_true h2
      have hd : deadB t (lM un) = false := by unfold deadB; rw [hl]; rfl
      show (⟨40000, 128, t, [lM un].filter (liveB t), ([lM un].filter (deadB t)).foldl oput []⟩ : Ts) = _
      rw [List.filter_cons_of_pos hl, List.filter_cons_of_neg (by rw [hd]; decide)]
      rfl
    · obtain rfl : t = 0 := by omega
      exact Ts.adv_no (Int.lt_irrefl 0)
  exact np_t hT (in_some (s1 := lS t un) (i := 0) w hT.tp ha (by unfold okP; omega) (by kernel_rfl) (by kernel_rfl) rfl)
theorem l_none {lo gn gt gk : Nat} {un t : Int} {k : Ks} (w : World) (hT : Np lo gn gt gk w (lS 0 un) k) (h0 : 0 < t) (h1 : t ≤ 8000) (h2 : un ≤ t) : Calls Tryz.prog 29 #[.pointer (some ⟨gt, 0, none⟩), .int .i64 6, .int .i64 40000, .int .i64 t] w fun e w' => e = .returned (.tuple #[.agg #[.int .i64 0, .int .i64 0, .int .u8 0, .int .u8 0, .int .u8 0, .int .u8 0, .int .i64 0, .int .i64 0, .int .i64 0], .bool false]) ∧ Np lo gn gt gk w' ⟨40000, 128, t, [], [lM un]⟩ k ∧ Fn gn gt gk w w' ∧ Below lo w w' := by
  have ha : (lS 0 un).adv t = ⟨40000, 128, t, [], [lM un]⟩ := by
    rw [Ts.adv_yes h0 (by omega)]
    have hl : liveB t (lM un) = false := decide_eq_false (show ¬ t < un by omega)
    have hd : deadB t (lM un) = true := by unfold deadB; rw [hl]; rfl
    show (⟨40000, 128, t, [lM un].filter (liveB t), ([lM un].filter (deadB t)).foldl oput []⟩ : Ts) = _
    rw [List.filter_cons_of_neg (by rw [hl]; decide), List.filter_cons_of_pos hd]
    rfl
  exact np_t hT (in_none (s1 := ⟨40000, 128, t, [], [lM un]⟩) w hT.tp ha (by unfold okP; omega) rfl)
set_option linter.unusedVariables false in
set_option maxRecDepth 100000 in
theorem l_o1 {lo gn gt gk : Nat} {Ao Ab : Option Addr} {co cb : Nat} (w : World) (hT : Np lo gn gt gk w nS0 nK0) (po : Sl w Ao 0 co []) (pb : Sl w Ab 20 cb (tcBytes 10 0 0 (byteOf 5) 8 8 8 8 777 80 0 0 2 0 0 [] []))  : Calls Tryz.prog 19 #[.pointer (some ⟨gn, 0, none⟩), .agg #[.int .i64 0, .int .i64 0, .int .i64 0, .int .i64 0, .int .i64 64, .int .i64 6, .int .u8 10, .int .u8 0, .int .u8 0, .int .u8 ((byteOf 5).toNat : Int), .int .u8 8, .int .u8 8, .int .u8 8, .int .u8 8, .slice Ao 0 co, .slice Ab 20 cb], .agg #[.int .u8 203, .int .u8 0, .int .u8 113, .int .u8 7], .int .i64 0] w fun e w' => ∃ Ao co' Ab cb', e = .returned (.tuple #[.agg #[.int .i64 0, .int .i64 0, .int .i64 0, .int .i64 0, .int .i64 64, .int .i64 6, .int .u8 203, .int .u8 0, .int .u8 113, .int .u8 7, .int .u8 8, .int .u8 8, .int .u8 8, .int .u8 8, .slice Ao 0 co', .slice Ab 20 cb'], .int .i64 0]) ∧ Np lo gn gt gk w' (lS 0 240) (lK 1) ∧ Fn gn gt gk w w' ∧ Below lo w w' ∧ Sl w' Ao 0 co' [] ∧ Sl w' Ab 20 cb' (tcBytes 203 0 113 7 8 8 8 8 40000 80 0 0 2 0 0 [] []) ∧ An gn gt gk w' Ao 0 ∧ An gn gt gk w' Ab 20 ∧ Fr w.heap.size Ao 0 ∧ Fr w.heap.size Ab 20 := by
  have h_ := nout_t (m := lM 10) (r := 1) (tos := 0) (id := 0) (fl := 0) (pt := 0) (ttl := 64) (t := 0) (sf := 777) (st := 80) (se := 0) (ak := 0) (fg := 2) (wn := 0) (ug := 0) (lq := []) (ld := []) (nq := 0) (nd := 0) (lp := []) (a0 := 10) (a1 := 0) (a2 := 0) (a3 := (byteOf 5)) (b0 := 8) (b1 := 8) (b2 := 8) (b3 := 8) (c0 := 203) (c1 := 0) (c2 := 113) (c3 := 7) w hT po pb an_zero (by decide) (by decide) (by decide) (tc_back (by decide) 10 0 0 (byteOf 5) 8 8 8 8 [] [] (by decide) (by decide) (by decide) (by decide) (by decide)) rfl rfl (by decide) l_mk1 l_see1 (l_lv (b := 240) (by decide) (by decide) (by decide)) (by decide) (by decide) (by decide) (by decide)
  exact h_
set_option linter.unusedVariables false in
set_option maxRecDepth 100000 in
theorem l_i2 {lo gn gt gk : Nat} {Ao Ab : Option Addr} {co cb : Nat} (w : World) (hT : Np lo gn gt gk w (lS 0 240) (lK 1)) (po : Sl w Ao 0 co []) (pb : Sl w Ab 20 cb (tcBytes 8 8 8 8 203 0 113 7 80 40000 0 0 18 0 0 [] []))  : Calls Tryz.prog 14 #[.pointer (some ⟨gn, 0, none⟩), .agg #[.int .i64 0, .int .i64 0, .int .i64 0, .int .i64 0, .int .i64 64, .int .i64 6, .int .u8 8, .int .u8 8, .int .u8 8, .int .u8 8, .int .u8 203, .int .u8 0, .int .u8 113, .int .u8 7, .slice Ao 0 co, .slice Ab 20 cb], .agg #[.int .u8 203, .int .u8 0, .int .u8 113, .int .u8 7], .int .i64 0] w fun e w' => ∃ Ao co' Ab cb', e = .returned (.tuple #[.agg #[.int .i64 0, .int .i64 0, .int .i64 0, .int .i64 0, .int .i64 64, .int .i64 6, .int .u8 8, .int .u8 8, .int .u8 8, .int .u8 8, .int .u8 10, .int .u8 0, .int .u8 0, .int .u8 ((byteOf 5).toNat : Int), .slice Ao 0 co', .slice Ab 20 cb'], .int .i64 0]) ∧ Np lo gn gt gk w' (lS 0 240) (lK 2) ∧ Fn gn gt gk w w' ∧ Below lo w w' ∧ Sl w' Ao 0 co' [] ∧ Sl w' Ab 20 cb' (tcBytes 8 8 8 8 10 0 0 (byteOf 5) 80 777 0 0 18 0 0 [] []) ∧ An gn gt gk w' Ao 0 ∧ An gn gt gk w' Ab 20 ∧ Fr w.heap.size Ao 0 ∧ Fr w.heap.size Ab 20 := by
  have h_ := nin_t (m := lM 240) (r := 2) (tos := 0) (id := 0) (fl := 0) (pt := 0) (ttl := 64) (t := 0) (sf := 80) (st := 40000) (se := 0) (ak := 0) (fg := 18) (wn := 0) (ug := 0) (lq := []) (ld := []) (nq := 0) (nd := 0) (lp := []) (a0 := 8) (a1 := 8) (a2 := 8) (a3 := 8) (b0 := 203) (b1 := 0) (b2 := 113) (b3 := 7) w hT po pb an_zero (by decide) (by decide) (by decide) (tc_back (by decide) 8 8 8 8 203 0 113 7 [] [] (by decide) (by decide) (by decide) (by decide) (by decide)) rfl rfl l_in l_see2 (l_lo (by decide) (by decide)) (by decide) (by decide) (by decide) (by decide)
  exact h_
set_option linter.unusedVariables false in
set_option maxRecDepth 100000 in
theorem l_o3 {lo gn gt gk : Nat} {Ao Ab : Option Addr} {co cb : Nat} (w : World) (hT : Np lo gn gt gk w (lS 0 240) (lK 2)) (po : Sl w Ao 0 co []) (pb : Sl w Ab 20 cb (tcBytes 10 0 0 (byteOf 5) 8 8 8 8 777 80 0 0 16 0 0 [] []))  : Calls Tryz.prog 19 #[.pointer (some ⟨gn, 0, none⟩), .agg #[.int .i64 0, .int .i64 0, .int .i64 0, .int .i64 0, .int .i64 64, .int .i64 6, .int .u8 10, .int .u8 0, .int .u8 0, .int .u8 ((byteOf 5).toNat : Int), .int .u8 8, .int .u8 8, .int .u8 8, .int .u8 8, .slice Ao 0 co, .slice Ab 20 cb], .agg #[.int .u8 203, .int .u8 0, .int .u8 113, .int .u8 7], .int .i64 0] w fun e w' => ∃ Ao co' Ab cb', e = .returned (.tuple #[.agg #[.int .i64 0, .int .i64 0, .int .i64 0, .int .i64 0, .int .i64 64, .int .i64 6, .int .u8 203, .int .u8 0, .int .u8 113, .int .u8 7, .int .u8 8, .int .u8 8, .int .u8 8, .int .u8 8, .slice Ao 0 co', .slice Ab 20 cb'], .int .i64 0]) ∧ Np lo gn gt gk w' (lS 0 7200) (lK 3) ∧ Fn gn gt gk w w' ∧ Below lo w w' ∧ Sl w' Ao 0 co' [] ∧ Sl w' Ab 20 cb' (tcBytes 203 0 113 7 8 8 8 8 40000 80 0 0 16 0 0 [] []) ∧ An gn gt gk w' Ao 0 ∧ An gn gt gk w' Ab 20 ∧ Fr w.heap.size Ao 0 ∧ Fr w.heap.size Ab 20 := by
  have h_ := nout_t (m := lM 10) (r := 3) (tos := 0) (id := 0) (fl := 0) (pt := 0) (ttl := 64) (t := 0) (sf := 777) (st := 80) (se := 0) (ak := 0) (fg := 16) (wn := 0) (ug := 0) (lq := []) (ld := []) (nq := 0) (nd := 0) (lp := []) (a0 := 10) (a1 := 0) (a2 := 0) (a3 := (byteOf 5)) (b0 := 8) (b1 := 8) (b2 := 8) (b3 := 8) (c0 := 203) (c1 := 0) (c2 := 113) (c3 := 7) w hT po pb an_zero (by decide) (by decide) (by decide) (tc_back (by decide) 10 0 0 (byteOf 5) 8 8 8 8 [] [] (by decide) (by decide) (by decide) (by decide) (by decide)) rfl rfl (by decide) l_mk2 l_see3 (l_lv (b := 7200) (by decide) (by decide) (by decide)) (by decide) (by decide) (by decide) (by decide)
  exact h_
set_option linter.unusedVariables false in
set_option maxRecDepth 100000 in
theorem l_i4 {lo gn gt gk : Nat} {Ao Ab : Option Addr} {co cb : Nat} (w : World) (hT : Np lo gn gt gk w (lS 0 7200) (lK 3)) (po : Sl w Ao 0 co []) (pb : Sl w Ab 20 cb (tcBytes 8 8 8 8 203 0 113 7 80 40000 0 0 4 0 0 [] []))  : Calls Tryz.prog 14 #[.pointer (some ⟨gn, 0, none⟩), .agg #[.int .i64 0, .int .i64 0, .int .i64 0, .int .i64 0, .int .i64 64, .int .i64 6, .int .u8 8, .int .u8 8, .int .u8 8, .int .u8 8, .int .u8 203, .int .u8 0, .int .u8 113, .int .u8 7, .slice Ao 0 co, .slice Ab 20 cb], .agg #[.int .u8 203, .int .u8 0, .int .u8 113, .int .u8 7], .int .i64 0] w fun e w' => ∃ Ao co' Ab cb', e = .returned (.tuple #[.agg #[.int .i64 0, .int .i64 0, .int .i64 0, .int .i64 0, .int .i64 64, .int .i64 6, .int .u8 8, .int .u8 8, .int .u8 8, .int .u8 8, .int .u8 10, .int .u8 0, .int .u8 0, .int .u8 ((byteOf 5).toNat : Int), .slice Ao 0 co', .slice Ab 20 cb'], .int .i64 0]) ∧ Np lo gn gt gk w' (lS 0 7200) (lK 6) ∧ Fn gn gt gk w w' ∧ Below lo w w' ∧ Sl w' Ao 0 co' [] ∧ Sl w' Ab 20 cb' (tcBytes 8 8 8 8 10 0 0 (byteOf 5) 80 777 0 0 4 0 0 [] []) ∧ An gn gt gk w' Ao 0 ∧ An gn gt gk w' Ab 20 ∧ Fr w.heap.size Ao 0 ∧ Fr w.heap.size Ab 20 := by
  have h_ := nin_t (m := lM 7200) (r := 6) (tos := 0) (id := 0) (fl := 0) (pt := 0) (ttl := 64) (t := 0) (sf := 80) (st := 40000) (se := 0) (ak := 0) (fg := 4) (wn := 0) (ug := 0) (lq := []) (ld := []) (nq := 0) (nd := 0) (lp := []) (a0 := 8) (a1 := 8) (a2 := 8) (a3 := 8) (b0 := 203) (b1 := 0) (b2 := 113) (b3 := 7) w hT po pb an_zero (by decide) (by decide) (by decide) (tc_back (by decide) 8 8 8 8 203 0 113 7 [] [] (by decide) (by decide) (by decide) (by decide) (by decide)) rfl rfl l_in l_see4 (l_lo (by decide) (by decide)) (by decide) (by decide) (by decide) (by decide)
  exact h_
set_option linter.unusedVariables false in
set_option maxRecDepth 100000 in
theorem l_pu {f : Int} (w : World) (hf : segOk 777 80 f 0 0 0 = true) : Calls Tryz.prog 64 #[.agg #[.int .i64 0, .int .i64 0, .int .i64 0, .int .i64 0, .int .i64 64, .int .i64 0, .int .u8 10, .int .u8 0, .int .u8 0, .int .u8 ((byteOf 5).toNat : Int), .int .u8 8, .int .u8 8, .int .u8 8, .int .u8 8, .slice none 0 0, .slice none 0 0], .agg #[.int .i64 777, .int .i64 80, .int .u32 0, .int .u32 0, .int .i64 f, .int .i64 0, .int .i64 0, .slice none 0 0, .slice none 0 0]] w fun e w' => ∃ Ao co' Ab cb', e = .returned (.tuple #[.agg #[.int .i64 0, .int .i64 0, .int .i64 0, .int .i64 0, .int .i64 64, .int .i64 6, .int .u8 10, .int .u8 0, .int .u8 0, .int .u8 ((byteOf 5).toNat : Int), .int .u8 8, .int .u8 8, .int .u8 8, .int .u8 8, .slice Ao 0 co', .slice Ab 20 cb'], .int .i64 0]) ∧ Sl w' Ao 0 co' [] ∧ Sl w' Ab 20 cb' (tcBytes 10 0 0 (byteOf 5) 8 8 8 8 777 80 0 0 f 0 0 [] []) ∧ Fr w.heap.size Ao 0 ∧ Fr w.heap.size Ab 20 ∧ Below w.heap.size w w' := tcput_is 0 0 0 0 64 0 10 0 0 (byteOf 5) 8 8 8 8 none none 0 0 0 0 777 80 0 0 f 0 0 none 0 0 none 0 0 w (Sl.nil _) (Sl.nil _) (Sl.nil _) hf (by decide) (by decide) (by decide) (by decide) (by decide) (by decide)
set_option linter.unusedVariables false in
set_option maxRecDepth 100000 in
theorem l_pi {f : Int} (w : World) (hf : segOk 80 40000 f 0 0 0 = true) : Calls Tryz.prog 64 #[.agg #[.int .i64 0, .int .i64 0, .int .i64 0, .int .i64 0, .int .i64 64, .int .i64 0, .int .u8 8, .int .u8 8, .int .u8 8, .int .u8 8, .int .u8 203, .int .u8 0, .int .u8 113, .int .u8 7, .slice none 0 0, .slice none 0 0], .agg #[.int .i64 80, .int .i64 40000, .int .u32 0, .int .u32 0, .int .i64 f, .int .i64 0, .int .i64 0, .slice none 0 0, .slice none 0 0]] w fun e w' => ∃ Ao co' Ab cb', e = .returned (.tuple #[.agg #[.int .i64 0, .int .i64 0, .int .i64 0, .int .i64 0, .int .i64 64, .int .i64 6, .int .u8 8, .int .u8 8, .int .u8 8, .int .u8 8, .int .u8 203, .int .u8 0, .int .u8 113, .int .u8 7, .slice Ao 0 co', .slice Ab 20 cb'], .int .i64 0]) ∧ Sl w' Ao 0 co' [] ∧ Sl w' Ab 20 cb' (tcBytes 8 8 8 8 203 0 113 7 80 40000 0 0 f 0 0 [] []) ∧ Fr w.heap.size Ao 0 ∧ Fr w.heap.size Ab 20 ∧ Below w.heap.size w w' := tcput_is 0 0 0 0 64 0 8 8 8 8 203 0 113 7 none none 0 0 0 0 80 40000 0 0 f 0 0 none 0 0 none 0 0 w (Sl.nil _) (Sl.nil _) (Sl.nil _) hf (by decide) (by decide) (by decide) (by decide) (by decide) (by decide)
set_option linter.unusedVariables false in
set_option linter.unusedVariables false in
set_option linter.unusedSimpArgs false in
set_option maxRecDepth 100000 in
set_option maxHeartbeats 16000000 in
theorem l_so {lo gn gt gk : Nat} {s s2 : Ts} {k k2 : Ks} {f : Int} (w : World) (hT : Np lo gn gt gk w s k) (hsg : segOk 777 80 f 0 0 0 = true) (hO : ∀ (W : World) (Ao : Option Addr) (co : Nat) (Ab : Option Addr) (cb : Nat), Np lo gn gt gk W s k → Sl W Ao 0 co [] → Sl W Ab 20 cb (tcBytes 10 0 0 (byteOf 5) 8 8 8 8 777 80 0 0 f 0 0 [] []) → Calls Tryz.prog 19 #[.pointer (some ⟨gn, 0, none⟩), .agg #[.int .i64 0, .int .i64 0, .int .i64 0, .int .i64 0, .int .i64 64, .int .i64 6, .int .u8 10, .int .u8 0, .int .u8 0, .int .u8 ((byteOf 5).toNat : Int), .int .u8 8, .int .u8 8, .int .u8 8, .int .u8 8, .slice Ao 0 co, .slice Ab 20 cb], .agg #[.int .u8 203, .int .u8 0, .int .u8 113, .int .u8 7], .int .i64 0] W fun e w' => ∃ Ao' co' Ab' cb', e = .returned (.tuple #[.agg #[.int .i64 0, .int .i64 0, .int .i64 0, .int .i64 0, .int .i64 64, .int .i64 6, .int .u8 203, .int .u8 0, .int .u8 113, .int .u8 7, .int .u8 8, .int .u8 8, .int .u8 8, .int .u8 8, .slice Ao' 0 co', .slice Ab' 20 cb'], .int .i64 0]) ∧ Np lo gn gt gk w' s2 k2 ∧ Fn gn gt gk W w' ∧ Below lo W w' ∧ Sl w' Ao' 0 co' [] ∧ Sl w' Ab' 20 cb' (tcBytes 203 0 113 7 8 8 8 8 40000 80 0 0 f 0 0 [] []) ∧ An gn gt gk w' Ao' 0 ∧ An gn gt gk w' Ab' 20 ∧ Fr W.heap.size Ao' 0 ∧ Fr W.heap.size Ab' 20) : Calls Tryz.prog 28 #[.pointer (some ⟨gn, 0, none⟩), .bool false, .int .i64 f] w fun e w' => e = .returned (.bool true) ∧ Np lo gn gt gk w' s2 k2 ∧ Fn gn gt gk w w' ∧ Below lo w w' := by
  have hlo : lo ≤ w.heap.size := hT.lo_le
  have HLO := Lib.hid hlo
  have fr := Fn.refl gn gt gk w
  have HSG := Lib.hid hsg
  clear hsg
  have bel := Below.refl lo w
  go_enter Tryz.func28, Tryz.ntmps28
  go_wp2_with fail
  with_reducible refine (at19 5 _).mono ?_
  rintro e w1 ⟨rfl, b1⟩
  replace hT := hT.below b1
  replace fr := fr.below b1
  replace bel := bel.trans (b1.mono (Nat.le_trans hlo bel.size))
  clear b1
  go_wp2_with fail
  with_reducible refine (far19 _).mono ?_
  rintro e w2 ⟨rfl, b2⟩
  replace hT := hT.below b2
  replace fr := fr.below b2
  replace bel := bel.trans (b2.mono (Nat.le_trans hlo bel.size))
  clear b2
  go_wp2_with (first | ((with_reducible show wpList _ _ _ (⟨some 7, _, _, _, _, _⟩ :: _) _ _); refine wpList_new_a rfl 38 rfl #[.int .i64 0, .int .i64 0, .int .i64 0, .int .i64 0, .int .i64 0, .int .i64 0, .int .u8 0, .int .u8 0, .int .u8 0, .int .u8 0, .int .u8 0, .int .u8 0, .int .u8 0, .int .u8 0, .slice none 0 0, .slice none 0 0] (by kernel_rfl) ?_; intro g7 w3 ge hh bb; have ap_pB := hT.ap ge; have opB := Nat.le_trans (Nat.le_trans hlo bel.size) ge; have ppB := Nat.le_trans bel.size ge; replace hT := hT.below bb; replace fr := fr.below bb; replace ap_pB := ap_pB.below bb; replace bel := bel.trans (bb.mono (Nat.le_trans hlo bel.size)); have hpB := hh; clear hh ge bb) | ((with_reducible show wpList _ _ _ (⟨none, Op.store _ (.tmp 7) _, _, _, _, _⟩ :: _) _ _); refine wpList_store_blk rfl 38 (.tmp 7) (.tmp 14) rfl g7 rfl _ rfl _ 38 hpB (by rfl) (by kernel_rfl) (by kernel_rfl) ?_; intro w4 hq gr; replace hT := hT.away ap_pB gr hpB; replace fr := fr.newer ap_pB gr ppB; replace ap_pB := ap_pB.grown ap_pB gr; replace bel := below_grown bel gr opB (Nat.le_trans hlo bel.size); clear hpB; have hpB := hq; clear hq gr) | ((with_reducible show wpList _ _ _ (⟨some 8, _, _, _, _, _⟩ :: _) _ _); refine wpList_new_a rfl 105 rfl #[.int .i64 0, .int .i64 0, .int .u32 0, .int .u32 0, .int .i64 0, .int .i64 0, .int .i64 0, .slice none 0 0, .slice none 0 0] (by kernel_rfl) ?_; intro g8 w5 ge hh bb; have ap_sB := hT.ap ge; have d_pB_sB := ne_new (hlt hpB) ge; have osB := Nat.le_trans (Nat.le_trans hlo bel.size) ge; have psB := Nat.le_trans bel.size ge; replace hpB := blk_u hpB bb; replace hT := hT.below bb; replace fr := fr.below bb; replace ap_pB := ap_pB.below bb; replace ap_sB := ap_sB.below bb; replace bel := bel.trans (bb.mono (Nat.le_trans hlo bel.size)); have hsB := hh; clear hh ge bb) | ((with_reducible show wpList _ _ _ (⟨none, Op.store _ (.tmp 8) _, _, _, _, _⟩ :: _) _ _); refine wpList_store_blk rfl 105 (.tmp 8) (.tmp 16) rfl g8 rfl _ rfl _ 105 hsB (by rfl) (by kernel_rfl) (by kernel_rfl) ?_; intro w6 hq gr; replace hpB := blk_a hpB gr d_pB_sB; replace hT := hT.away ap_sB gr hsB; replace fr := fr.newer ap_sB gr psB; replace ap_pB := ap_pB.grown ap_sB gr; replace ap_sB := ap_sB.grown ap_sB gr; replace bel := below_grown bel gr osB (Nat.le_trans hlo bel.size); clear hsB; have hsB := hq; clear hq gr; have R25 := Lib.hid (range_lit hpB 0 16 [.int .i64 0, .int .i64 0, .int .i64 0, .int .i64 0, .int .i64 64, .int .i64 0, .int .u8 10, .int .u8 0, .int .u8 0, .int .u8 ((byteOf 5).toNat : Int), .int .u8 8, .int .u8 8, .int .u8 8, .int .u8 8, .slice none 0 0, .slice none 0 0] rfl)) | ((with_reducible show wpList _ _ _ (⟨some 25, _, _, _, _, _⟩ :: _) _ _); refine wpList_load_rng 38 (.tmp 7) rfl (by kernel_rfl) _ _ rfl _ R25.out _ Tryz.underlying38 rfl (by kernel_rfl) ?_; have R26 := Lib.hid (range_lit hsB 0 9 [.int .i64 777, .int .i64 80, .int .u32 0, .int .u32 0, .int .i64 f, .int .i64 0, .int .i64 0, .slice none 0 0, .slice none 0 0] rfl)) | ((with_reducible show wpList _ _ _ (⟨some 26, _, _, _, _, _⟩ :: _) _ _); refine wpList_load_rng 105 (.tmp 8) rfl (by kernel_rfl) _ _ rfl _ R26.out _ Tryz.underlying105 rfl (by kernel_rfl) ?_))
  try clear R25
  try clear R26
  with_reducible refine (l_pu _ HSG.out).mono ?_
  rintro e w7 ⟨Apo, cpo, Apb, cpb, rfl, po, pb, fpo, fpb, b7⟩
  have av_po_pB := fpo.av (hlt hpB)
  have av_po_sB := fpo.av (hlt hsB)
  have av_pb_pB := fpb.av (hlt hpB)
  have av_pb_sB := fpb.av (hlt hsB)
  have an_po := hT.an fpo
  have an_pb := hT.an fpb
  replace hpB := blk_u hpB b7
  replace hsB := blk_u hsB b7
  replace hT := hT.below b7
  replace fr := fr.below b7
  replace ap_pB := ap_pB.below b7
  replace ap_sB := ap_sB.below b7
  replace an_po := an_po.below b7
  replace an_pb := an_pb.below b7
  replace bel := bel.trans (b7.mono (Nat.le_trans hlo bel.size))
  clear b7
  replace po : Sl w7 (Apo) (0) (cpo) ([]) := po
  replace pb : Sl w7 (Apb) (20) (cpb) (tcBytes 10 0 0 (byteOf 5) 8 8 8 8 777 80 0 0 f 0 0 [] []) := pb
  go_wp2_with (first | ((with_reducible show wpList _ _ _ (⟨some 9, _, _, _, _, _⟩ :: _) _ _); refine wpList_new_a rfl 38 rfl #[.int .i64 0, .int .i64 0, .int .i64 0, .int .i64 0, .int .i64 0, .int .i64 0, .int .u8 0, .int .u8 0, .int .u8 0, .int .u8 0, .int .u8 0, .int .u8 0, .int .u8 0, .int .u8 0, .slice none 0 0, .slice none 0 0] (by kernel_rfl) ?_; intro g9 w8 ge hh bb; have ap_qB := hT.ap ge; have d_pB_qB := ne_new (hlt hpB) ge; have d_sB_qB := ne_new (hlt hsB) ge; have av_po_qB := po.av_new ge; have av_pb_qB := pb.av_new ge; have oqB := Nat.le_trans (Nat.le_trans hlo bel.size) ge; have pqB := Nat.le_trans bel.size ge; replace hpB := blk_u hpB bb; replace hsB := blk_u hsB bb; replace po := po.below bb; replace pb := pb.below bb; replace hT := hT.below bb; replace fr := fr.below bb; replace ap_pB := ap_pB.below bb; replace ap_sB := ap_sB.below bb; replace an_po := an_po.below bb; replace an_pb := an_pb.below bb; replace ap_qB := ap_qB.below bb; replace bel := bel.trans (bb.mono (Nat.le_trans hlo bel.size)); have hqB := hh; clear hh ge bb) | ((with_reducible show wpList _ _ _ (⟨none, Op.store _ (.tmp 9) _, _, _, _, _⟩ :: _) _ _); refine wpList_store_blk rfl 38 (.tmp 9) (.tmp 28) rfl g9 rfl _ rfl _ 38 hqB (by rfl) (by kernel_rfl) (by kernel_rfl) ?_; intro w9 hq gr; replace po := po.away av_po_qB gr; replace pb := pb.away av_pb_qB gr; replace hpB := blk_a hpB gr d_pB_qB; replace hsB := blk_a hsB gr d_sB_qB; replace hT := hT.away ap_qB gr hqB; replace fr := fr.newer ap_qB gr pqB; replace ap_pB := ap_pB.grown ap_qB gr; replace ap_sB := ap_sB.grown ap_qB gr; replace an_po := an_po.grown ap_qB gr; replace an_pb := an_pb.grown ap_qB gr; replace ap_qB := ap_qB.grown ap_qB gr; replace bel := below_grown bel gr oqB (Nat.le_trans hlo bel.size); clear hqB; have hqB := hq; clear hq gr))
  replace bel := bel.drew
  replace hpB : w9.drew.heap[g7]? = _ := hpB
  replace hsB : w9.drew.heap[g8]? = _ := hsB
  replace hqB : w9.drew.heap[g9]? = _ := hqB
  replace po := po.drew
  replace pb := pb.drew
  replace hT := np_drew hT
  replace fr := fn_drew fr
  replace ap_pB := anp_drew ap_pB
  replace ap_sB := anp_drew ap_sB
  replace an_po := an_drew an_po
  replace an_pb := an_drew an_pb
  replace ap_qB := anp_drew ap_qB
  refine wp_region_held_drew (S := fun W => W.heap[g9]? = some (.cells #[.int .i64 0, .int .i64 0, .int .i64 0, .int .i64 0, .int .i64 64, .int .i64 6, .int .u8 10, .int .u8 0, .int .u8 0, .int .u8 ((byteOf 5).toNat : Int), .int .u8 8, .int .u8 8, .int .u8 8, .int .u8 8, .slice Apo 0 cpo, .slice Apb 20 cpb] 38 (0, 0))) (by kernel_rfl) hqB (fun hH => ?_)
  generalize w9.drew = w10 at bel hpB hsB hqB po pb hT fr ap_pB ap_sB an_po an_pb ap_qB hH ⊢
  refine wpAnyH_take (i := 0) (v := ?_) rfl (by kernel_rfl) (by kernel_rfl) (by kernel_rfl) (fun _ _ _ h => h) (Or.inl ⟨by rfl, ?_⟩) hH ?_
  rotate_left
  · ((intro W hW; clear hW; go_simp) <;> with_reducible rfl)
  simp only [Act.put, List.getElem_toArray, List.getElem_cons_zero, List.setIfInBounds_toArray, List.set_cons_zero, List.set_cons_succ]
  refine wpAnyH_take (i := 1) (v := .agg #[.int .i64 0, .int .i64 0, .int .i64 0, .int .i64 0, .int .i64 64, .int .i64 6, .int .u8 10, .int .u8 0, .int .u8 0, .int .u8 ((byteOf 5).toNat : Int), .int .u8 8, .int .u8 8, .int .u8 8, .int .u8 8, .slice Apo 0 cpo, .slice Apb 20 cpb]) rfl (by kernel_rfl) (by kernel_rfl) (by kernel_rfl) (fun _ _ _ h => h) (yieldsIf_load_part (by kernel_rfl) 38 _ rfl g9 0 16 rfl _ 38 (0, 0) (fun W hW => hW) _ rfl _ Tryz.underlying38 rfl (by kernel_rfl)) hH ?_
  simp only [sq3, sq4]
  refine wpAnyH_ready (rs := [2]) (by kernel_rfl) (by simp) ?_
  refine AllReadyH.cons (o := _) rfl (fun K hK => ?_) AllReadyH.nil
  simp only [sq3]
  go_simp
  with_reducible refine (wan19 _).mono ?_
  rintro e w11 ⟨rfl, b11⟩
  dsimp only
  replace hpB := blk_u hpB b11
  replace hsB := blk_u hsB b11
  replace hqB := blk_u hqB b11
  replace po := po.below b11
  replace pb := pb.below b11
  replace hT := hT.below b11
  replace fr := fr.below b11
  replace ap_pB := ap_pB.below b11
  replace ap_sB := ap_sB.below b11
  replace an_po := an_po.below b11
  replace an_pb := an_pb.below b11
  replace ap_qB := ap_qB.below b11
  replace bel := bel.trans (b11.mono (Nat.le_trans hlo bel.size))
  clear b11
  refine hK.out _ _ hqB (fun hH12 => ?_)
  clear hK K
  refine wpAnyH_ready (rs := [3]) (by kernel_rfl) (by simp) ?_
  refine AllReadyH.cons (o := _) rfl (fun K hK => ?_) AllReadyH.nil
  simp only [sq3]
  go_simp
  with_reducible refine (hO _ _ _ _ _ hT po pb).mono ?_
  rintro e w13 ⟨Aqo, cqo, Aqb, cqb, rfl, hT_, f_, bb, _, _, _, _, _, _⟩
  dsimp only
  have x_ := f_ _ _ _ _ hpB ap_pB
  replace hpB := x_.1
  replace ap_pB := x_.2
  clear x_
  have x_ := f_ _ _ _ _ hsB ap_sB
  replace hsB := x_.1
  replace ap_sB := x_.2
  clear x_
  have x_ := f_ _ _ _ _ hqB ap_qB
  replace hqB := x_.1
  replace ap_qB := x_.2
  clear x_
  have x_ := f_.sl po an_po
  replace po := x_.1
  replace an_po := x_.2
  clear x_
  have x_ := f_.sl pb an_pb
  replace pb := x_.1
  replace an_pb := x_.2
  clear x_
  replace fr := fr.trans f_
  clear hT
  have hT := hT_
  replace bel := bel.trans bb
  clear bb f_ hT_
  refine hK.out _ _ hqB (fun hH14 => ?_)
  clear hK K
  refine wpAnyH_take (i := 4) (v := ?_) rfl (by kernel_rfl) (by kernel_rfl) (by kernel_rfl) (fun _ _ _ h => h) (Or.inl ⟨by rfl, ?_⟩) hH14 ?_
  rotate_left
  · ((intro W hW; clear hW; go_simp) <;> with_reducible rfl)
  simp only [sq3, sq4]
  refine wpAnyH_take (i := 5) (v := ?_) rfl (by kernel_rfl) (by kernel_rfl) (by kernel_rfl) (fun _ _ _ h => h) (Or.inl ⟨by rfl, ?_⟩) hH14 ?_
  rotate_left
  · ((intro W hW; clear hW; go_simp) <;> with_reducible rfl)
  simp only [sq3, sq4]
  refine wpAnyH_take (i := 6) (v := ?_) rfl (by kernel_rfl) (by kernel_rfl) (by kernel_rfl) (fun _ _ _ h => h) (Or.inl ⟨by rfl, ?_⟩) hH14 ?_
  rotate_left
  · ((intro W hW; clear hW; go_simp) <;> with_reducible rfl)
  simp only [sq3, sq4]
  refine wpAnyH_take (i := 7) (v := ?_) rfl (by kernel_rfl) (by kernel_rfl) (by kernel_rfl) (fun _ _ _ h => h) (Or.inl ⟨by rfl, ?_⟩) hH14 ?_
  rotate_left
  · ((intro W hW; clear hW; go_simp) <;> with_reducible rfl)
  simp only [sq3, sq4]
  refine wpAnyH_done (by kernel_rfl) ?_ _
  go_wp2_with fail
  go_ret
  exact ⟨rfl, hT, fr, bel⟩
set_option linter.unusedVariables false in
set_option linter.unusedVariables false in
set_option linter.unusedSimpArgs false in
set_option maxRecDepth 100000 in
set_option maxHeartbeats 16000000 in
theorem l_si {lo gn gt gk : Nat} {s s2 : Ts} {k k2 : Ks} {f : Int} (w : World) (hT : Np lo gn gt gk w s k) (hsg : segOk 80 40000 f 0 0 0 = true) (hO : ∀ (W : World) (Ao : Option Addr) (co : Nat) (Ab : Option Addr) (cb : Nat), Np lo gn gt gk W s k → Sl W Ao 0 co [] → Sl W Ab 20 cb (tcBytes 8 8 8 8 203 0 113 7 80 40000 0 0 f 0 0 [] []) → Calls Tryz.prog 14 #[.pointer (some ⟨gn, 0, none⟩), .agg #[.int .i64 0, .int .i64 0, .int .i64 0, .int .i64 0, .int .i64 64, .int .i64 6, .int .u8 8, .int .u8 8, .int .u8 8, .int .u8 8, .int .u8 203, .int .u8 0, .int .u8 113, .int .u8 7, .slice Ao 0 co, .slice Ab 20 cb], .agg #[.int .u8 203, .int .u8 0, .int .u8 113, .int .u8 7], .int .i64 0] W fun e w' => ∃ Ao' co' Ab' cb', e = .returned (.tuple #[.agg #[.int .i64 0, .int .i64 0, .int .i64 0, .int .i64 0, .int .i64 64, .int .i64 6, .int .u8 8, .int .u8 8, .int .u8 8, .int .u8 8, .int .u8 10, .int .u8 0, .int .u8 0, .int .u8 ((byteOf 5).toNat : Int), .slice Ao' 0 co', .slice Ab' 20 cb'], .int .i64 0]) ∧ Np lo gn gt gk w' s2 k2 ∧ Fn gn gt gk W w' ∧ Below lo W w' ∧ Sl w' Ao' 0 co' [] ∧ Sl w' Ab' 20 cb' (tcBytes 8 8 8 8 10 0 0 (byteOf 5) 80 777 0 0 f 0 0 [] []) ∧ An gn gt gk w' Ao' 0 ∧ An gn gt gk w' Ab' 20 ∧ Fr W.heap.size Ao' 0 ∧ Fr W.heap.size Ab' 20) : Calls Tryz.prog 28 #[.pointer (some ⟨gn, 0, none⟩), .bool true, .int .i64 f] w fun e w' => e = .returned (.bool true) ∧ Np lo gn gt gk w' s2 k2 ∧ Fn gn gt gk w w' ∧ Below lo w w' := by
  have hlo : lo ≤ w.heap.size := hT.lo_le
  have HLO := Lib.hid hlo
  have fr := Fn.refl gn gt gk w
  have HSG := Lib.hid hsg
  clear hsg
  have bel := Below.refl lo w
  go_enter Tryz.func28, Tryz.ntmps28
  go_wp2_with fail
  with_reducible refine (at19 5 _).mono ?_
  rintro e w1 ⟨rfl, b1⟩
  replace hT := hT.below b1
  replace fr := fr.below b1
  replace bel := bel.trans (b1.mono (Nat.le_trans hlo bel.size))
  clear b1
  go_wp2_with fail
  with_reducible refine (far19 _).mono ?_
  rintro e w2 ⟨rfl, b2⟩
  replace hT := hT.below b2
  replace fr := fr.below b2
  replace bel := bel.trans (b2.mono (Nat.le_trans hlo bel.size))
  clear b2
  go_wp2_with (first | ((with_reducible show wpList _ _ _ (⟨some 7, _, _, _, _, _⟩ :: _) _ _); refine wpList_new_a rfl 38 rfl #[.int .i64 0, .int .i64 0, .int .i64 0, .int .i64 0, .int .i64 0, .int .i64 0, .int .u8 0, .int .u8 0, .int .u8 0, .int .u8 0, .int .u8 0, .int .u8 0, .int .u8 0, .int .u8 0, .slice none 0 0, .slice none 0 0] (by kernel_rfl) ?_; intro g7 w3 ge hh bb; have ap_pB := hT.ap ge; have opB := Nat.le_trans (Nat.le_trans hlo bel.size) ge; have ppB := Nat.le_trans bel.size ge; replace hT := hT.below bb; replace fr := fr.below bb; replace ap_pB := ap_pB.below bb; replace bel := bel.trans (bb.mono (Nat.le_trans hlo bel.size)); have hpB := hh; clear hh ge bb) | ((with_reducible show wpList _ _ _ (⟨none, Op.store _ (.tmp 7) _, _, _, _, _⟩ :: _) _ _); refine wpList_store_blk rfl 38 (.tmp 7) (.tmp 14) rfl g7 rfl _ rfl _ 38 hpB (by rfl) (by kernel_rfl) (by kernel_rfl) ?_; intro w4 hq gr; replace hT := hT.away ap_pB gr hpB; replace fr := fr.newer ap_pB gr ppB; replace ap_pB := ap_pB.grown ap_pB gr; replace bel := below_grown bel gr opB (Nat.le_trans hlo bel.size); clear hpB; have hpB := hq; clear hq gr) | ((with_reducible show wpList _ _ _ (⟨some 8, _, _, _, _, _⟩ :: _) _ _); refine wpList_new_a rfl 105 rfl #[.int .i64 0, .int .i64 0, .int .u32 0, .int .u32 0, .int .i64 0, .int .i64 0, .int .i64 0, .slice none 0 0, .slice none 0 0] (by kernel_rfl) ?_; intro g8 w5 ge hh bb; have ap_sB := hT.ap ge; have d_pB_sB := ne_new (hlt hpB) ge; have osB := Nat.le_trans (Nat.le_trans hlo bel.size) ge; have psB := Nat.le_trans bel.size ge; replace hpB := blk_u hpB bb; replace hT := hT.below bb; replace fr := fr.below bb; replace ap_pB := ap_pB.below bb; replace ap_sB := ap_sB.below bb; replace bel := bel.trans (bb.mono (Nat.le_trans hlo bel.size)); have hsB := hh; clear hh ge bb) | ((with_reducible show wpList _ _ _ (⟨none, Op.store _ (.tmp 8) _, _, _, _, _⟩ :: _) _ _); refine wpList_store_blk rfl 105 (.tmp 8) (.tmp 16) rfl g8 rfl _ rfl _ 105 hsB (by rfl) (by kernel_rfl) (by kernel_rfl) ?_; intro w6 hq gr; replace hpB := blk_a hpB gr d_pB_sB; replace hT := hT.away ap_sB gr hsB; replace fr := fr.newer ap_sB gr psB; replace ap_pB := ap_pB.grown ap_sB gr; replace ap_sB := ap_sB.grown ap_sB gr; replace bel := below_grown bel gr osB (Nat.le_trans hlo bel.size); clear hsB; have hsB := hq; clear hq gr))
  with_reducible refine (far19 _).mono ?_
  rintro e w7 ⟨rfl, b7⟩
  replace hpB := blk_u hpB b7
  replace hsB := blk_u hsB b7
  replace hT := hT.below b7
  replace fr := fr.below b7
  replace ap_pB := ap_pB.below b7
  replace ap_sB := ap_sB.below b7
  replace bel := bel.trans (b7.mono (Nat.le_trans hlo bel.size))
  clear b7
  go_wp2_with fail
  with_reducible refine (wan19 _).mono ?_
  rintro e w8 ⟨rfl, b8⟩
  replace hpB := blk_u hpB b8
  replace hsB := blk_u hsB b8
  replace hT := hT.below b8
  replace fr := fr.below b8
  replace ap_pB := ap_pB.below b8
  replace ap_sB := ap_sB.below b8
  replace bel := bel.trans (b8.mono (Nat.le_trans hlo bel.size))
  clear b8
  go_wp2_with (first | ((with_reducible show wpList _ _ _ (⟨none, Op.store _ (.tmp 20) _, _, _, _, _⟩ :: _) _ _); refine wpList_store_part rfl 35 (.tmp 20) (.tmp 18) rfl g7 6 rfl [.int .u8 8, .int .u8 8, .int .u8 8, .int .u8 8] rfl [.int .i64 0, .int .i64 0, .int .i64 0, .int .i64 0, .int .i64 64, .int .i64 0, .int .u8 10, .int .u8 0, .int .u8 0, .int .u8 ((byteOf 5).toNat : Int), .int .u8 8, .int .u8 8, .int .u8 8, .int .u8 8, .slice none 0 0, .slice none 0 0] 38 hpB (by simp) [.int .i64 0, .int .i64 0, .int .i64 0, .int .i64 0, .int .i64 64, .int .i64 0, .int .u8 8, .int .u8 8, .int .u8 8, .int .u8 8, .int .u8 8, .int .u8 8, .int .u8 8, .int .u8 8, .slice none 0 0, .slice none 0 0] rfl (by kernel_rfl) (by rfl) ?_; intro w9 hq gr; replace hsB := blk_a hsB gr (ne_symm d_pB_sB); replace hT := hT.away ap_pB gr hpB; replace fr := fr.newer ap_pB gr ppB; replace ap_pB := ap_pB.grown ap_pB gr; replace ap_sB := ap_sB.grown ap_pB gr; replace bel := below_grown bel gr opB (Nat.le_trans hlo bel.size); clear hpB; have hpB := hq; clear hq gr) | ((with_reducible show wpList _ _ _ (⟨none, Op.store _ (.tmp 21) _, _, _, _, _⟩ :: _) _ _); refine wpList_store_part rfl 35 (.tmp 21) (.tmp 19) rfl g7 10 rfl [.int .u8 203, .int .u8 0, .int .u8 113, .int .u8 7] rfl [.int .i64 0, .int .i64 0, .int .i64 0, .int .i64 0, .int .i64 64, .int .i64 0, .int .u8 8, .int .u8 8, .int .u8 8, .int .u8 8, .int .u8 8, .int .u8 8, .int .u8 8, .int .u8 8, .slice none 0 0, .slice none 0 0] 38 hpB (by simp) [.int .i64 0, .int .i64 0, .int .i64 0, .int .i64 0, .int .i64 64, .int .i64 0, .int .u8 8, .int .u8 8, .int .u8 8, .int .u8 8, .int .u8 203, .int .u8 0, .int .u8 113, .int .u8 7, .slice none 0 0, .slice none 0 0] rfl (by kernel_rfl) (by rfl) ?_; intro w10 hq gr; replace hsB := blk_a hsB gr (ne_symm d_pB_sB); replace hT := hT.away ap_pB gr hpB; replace fr := fr.newer ap_pB gr ppB; replace ap_pB := ap_pB.grown ap_pB gr; replace ap_sB := ap_sB.grown ap_pB gr; replace bel := below_grown bel gr opB (Nat.le_trans hlo bel.size); clear hpB; have hpB := hq; clear hq gr) | ((with_reducible show wpList _ _ _ (⟨none, Op.store _ (.tmp 22) _, _, _, _, _⟩ :: _) _ _); refine wpList_store_part rfl 3 (.tmp 22) (.const (.int .i64 80)) rfl g8 0 rfl [.int .i64 80] rfl [.int .i64 777, .int .i64 80, .int .u32 0, .int .u32 0, .int .i64 f, .int .i64 0, .int .i64 0, .slice none 0 0, .slice none 0 0] 105 hsB (by simp) [.int .i64 80, .int .i64 80, .int .u32 0, .int .u32 0, .int .i64 f, .int .i64 0, .int .i64 0, .slice none 0 0, .slice none 0 0] rfl (by kernel_rfl) (by rfl) ?_; intro w11 hq gr; replace hpB := blk_a hpB gr d_pB_sB; replace hT := hT.away ap_sB gr hsB; replace fr := fr.newer ap_sB gr psB; replace ap_pB := ap_pB.grown ap_sB gr; replace ap_sB := ap_sB.grown ap_sB gr; replace bel := below_grown bel gr osB (Nat.le_trans hlo bel.size); clear hsB; have hsB := hq; clear hq gr) | ((with_reducible show wpList _ _ _ (⟨none, Op.store _ (.tmp 23) _, _, _, _, _⟩ :: _) _ _); refine wpList_store_part rfl 3 (.tmp 23) (.const (.int .i64 40000)) rfl g8 1 rfl [.int .i64 40000] rfl [.int .i64 80, .int .i64 80, .int .u32 0, .int .u32 0, .int .i64 f, .int .i64 0, .int .i64 0, .slice none 0 0, .slice none 0 0] 105 hsB (by simp) [.int .i64 80, .int .i64 40000, .int .u32 0, .int .u32 0, .int .i64 f, .int .i64 0, .int .i64 0, .slice none 0 0, .slice none 0 0] rfl (by kernel_rfl) (by rfl) ?_; intro w12 hq gr; replace hpB := blk_a hpB gr d_pB_sB; replace hT := hT.away ap_sB gr hsB; replace fr := fr.newer ap_sB gr psB; replace ap_pB := ap_pB.grown ap_sB gr; replace ap_sB := ap_sB.grown ap_sB gr; replace bel := below_grown bel gr osB (Nat.le_trans hlo bel.size); clear hsB; have hsB := hq; clear hq gr; have R25 := Lib.hid (range_lit hpB 0 16 [.int .i64 0, .int .i64 0, .int .i64 0, .int .i64 0, .int .i64 64, .int .i64 0, .int .u8 8, .int .u8 8, .int .u8 8, .int .u8 8, .int .u8 203, .int .u8 0, .int .u8 113, .int .u8 7, .slice none 0 0, .slice none 0 0] rfl)) | ((with_reducible show wpList _ _ _ (⟨some 25, _, _, _, _, _⟩ :: _) _ _); refine wpList_load_rng 38 (.tmp 7) rfl (by kernel_rfl) _ _ rfl _ R25.out _ Tryz.underlying38 rfl (by kernel_rfl) ?_; have R26 := Lib.hid (range_lit hsB 0 9 [.int .i64 80, .int .i64 40000, .int .u32 0, .int .u32 0, .int .i64 f, .int .i64 0, .int .i64 0, .slice none 0 0, .slice none 0 0] rfl)) | ((with_reducible show wpList _ _ _ (⟨some 26, _, _, _, _, _⟩ :: _) _ _); refine wpList_load_rng 105 (.tmp 8) rfl (by kernel_rfl) _ _ rfl _ R26.out _ Tryz.underlying105 rfl (by kernel_rfl) ?_))
  try clear R25
  try clear R26
  with_reducible refine (l_pi _ HSG.out).mono ?_
  rintro e w13 ⟨Apo, cpo, Apb, cpb, rfl, po, pb, fpo, fpb, b13⟩
  have av_po_pB := fpo.av (hlt hpB)
  have av_po_sB := fpo.av (hlt hsB)
  have av_pb_pB := fpb.av (hlt hpB)
  have av_pb_sB := fpb.av (hlt hsB)
  have an_po := hT.an fpo
  have an_pb := hT.an fpb
  replace hpB := blk_u hpB b13
  replace hsB := blk_u hsB b13
  replace hT := hT.below b13
  replace fr := fr.below b13
  replace ap_pB := ap_pB.below b13
  replace ap_sB := ap_sB.below b13
  replace an_po := an_po.below b13
  replace an_pb := an_pb.below b13
  replace bel := bel.trans (b13.mono (Nat.le_trans hlo bel.size))
  clear b13
  replace po : Sl w13 (Apo) (0) (cpo) ([]) := po
  replace pb : Sl w13 (Apb) (20) (cpb) (tcBytes 8 8 8 8 203 0 113 7 80 40000 0 0 f 0 0 [] []) := pb
  go_wp2_with (first | ((with_reducible show wpList _ _ _ (⟨some 9, _, _, _, _, _⟩ :: _) _ _); refine wpList_new_a rfl 38 rfl #[.int .i64 0, .int .i64 0, .int .i64 0, .int .i64 0, .int .i64 0, .int .i64 0, .int .u8 0, .int .u8 0, .int .u8 0, .int .u8 0, .int .u8 0, .int .u8 0, .int .u8 0, .int .u8 0, .slice none 0 0, .slice none 0 0] (by kernel_rfl) ?_; intro g9 w14 ge hh bb; have ap_qB := hT.ap ge; have d_pB_qB := ne_new (hlt hpB) ge; have d_sB_qB := ne_new (hlt hsB) ge; have av_po_qB := po.av_new ge; have av_pb_qB := pb.av_new ge; have oqB := Nat.le_trans (Nat.le_trans hlo bel.size) ge; have pqB := Nat.le_trans bel.size ge; replace hpB := blk_u hpB bb; replace hsB := blk_u hsB bb; replace po := po.below bb; replace pb := pb.below bb; replace hT := hT.below bb; replace fr := fr.below bb; replace ap_pB := ap_pB.below bb; replace ap_sB := ap_sB.below bb; replace an_po := an_po.below bb; replace an_pb := an_pb.below bb; replace ap_qB := ap_qB.below bb; replace bel := bel.trans (bb.mono (Nat.le_trans hlo bel.size)); have hqB := hh; clear hh ge bb) | ((with_reducible show wpList _ _ _ (⟨none, Op.store _ (.tmp 9) _, _, _, _, _⟩ :: _) _ _); refine wpList_store_blk rfl 38 (.tmp 9) (.tmp 28) rfl g9 rfl _ rfl _ 38 hqB (by rfl) (by kernel_rfl) (by kernel_rfl) ?_; intro w15 hq gr; replace po := po.away av_po_qB gr; replace pb := pb.away av_pb_qB gr; replace hpB := blk_a hpB gr d_pB_qB; replace hsB := blk_a hsB gr d_sB_qB; replace hT := hT.away ap_qB gr hqB; replace fr := fr.newer ap_qB gr pqB; replace ap_pB := ap_pB.grown ap_qB gr; replace ap_sB := ap_sB.grown ap_qB gr; replace an_po := an_po.grown ap_qB gr; replace an_pb := an_pb.grown ap_qB gr; replace ap_qB := ap_qB.grown ap_qB gr; replace bel := below_grown bel gr oqB (Nat.le_trans hlo bel.size); clear hqB; have hqB := hq; clear hq gr))
  replace bel := bel.drew
  replace hpB : w15.drew.heap[g7]? = _ := hpB
  replace hsB : w15.drew.heap[g8]? = _ := hsB
  replace hqB : w15.drew.heap[g9]? = _ := hqB
  replace po := po.drew
  replace pb := pb.drew
  replace hT := np_drew hT
  replace fr := fn_drew fr
  replace ap_pB := anp_drew ap_pB
  replace ap_sB := anp_drew ap_sB
  replace an_po := an_drew an_po
  replace an_pb := an_drew an_pb
  replace ap_qB := anp_drew ap_qB
  refine wp_region_held_drew (S := fun W => W.heap[g9]? = some (.cells #[.int .i64 0, .int .i64 0, .int .i64 0, .int .i64 0, .int .i64 64, .int .i64 6, .int .u8 8, .int .u8 8, .int .u8 8, .int .u8 8, .int .u8 203, .int .u8 0, .int .u8 113, .int .u8 7, .slice Apo 0 cpo, .slice Apb 20 cpb] 38 (0, 0))) (by kernel_rfl) hqB (fun hH => ?_)
  generalize w15.drew = w16 at bel hpB hsB hqB po pb hT fr ap_pB ap_sB an_po an_pb ap_qB hH ⊢
  refine wpAnyH_take (i := 0) (v := ?_) rfl (by kernel_rfl) (by kernel_rfl) (by kernel_rfl) (fun _ _ _ h => h) (Or.inl ⟨by rfl, ?_⟩) hH ?_
  rotate_left
  · ((intro W hW; clear hW; go_simp) <;> with_reducible rfl)
  simp only [Act.put, List.getElem_toArray, List.getElem_cons_zero, List.setIfInBounds_toArray, List.set_cons_zero, List.set_cons_succ]
  refine wpAnyH_take (i := 1) (v := .agg #[.int .i64 0, .int .i64 0, .int .i64 0, .int .i64 0, .int .i64 64, .int .i64 6, .int .u8 8, .int .u8 8, .int .u8 8, .int .u8 8, .int .u8 203, .int .u8 0, .int .u8 113, .int .u8 7, .slice Apo 0 cpo, .slice Apb 20 cpb]) rfl (by kernel_rfl) (by kernel_rfl) (by kernel_rfl) (fun _ _ _ h => h) (yieldsIf_load_part (by kernel_rfl) 38 _ rfl g9 0 16 rfl _ 38 (0, 0) (fun W hW => hW) _ rfl _ Tryz.underlying38 rfl (by kernel_rfl)) hH ?_
  simp only [sq3, sq4]
  refine wpAnyH_ready (rs := [2]) (by kernel_rfl) (by simp) ?_
  refine AllReadyH.cons (o := _) rfl (fun K hK => ?_) AllReadyH.nil
  simp only [sq3]
  go_simp
  with_reducible refine (wan19 _).mono ?_
  rintro e w17 ⟨rfl, b17⟩
  dsimp only
  replace hpB := blk_u hpB b17
  replace hsB := blk_u hsB b17
  replace hqB := blk_u hqB b17
  replace po := po.below b17
  replace pb := pb.below b17
  replace hT := hT.below b17
  replace fr := fr.below b17
  replace ap_pB := ap_pB.below b17
  replace ap_sB := ap_sB.below b17
  replace an_po := an_po.below b17
  replace an_pb := an_pb.below b17
  replace ap_qB := ap_qB.below b17
  replace bel := bel.trans (b17.mono (Nat.le_trans hlo bel.size))
  clear b17
  refine hK.out _ _ hqB (fun hH18 => ?_)
  clear hK K
  refine wpAnyH_ready (rs := [3]) (by kernel_rfl) (by simp) ?_
  refine AllReadyH.cons (o := _) rfl (fun K hK => ?_) AllReadyH.nil
  simp only [sq3]
  go_simp
  with_reducible refine (hO _ _ _ _ _ hT po pb).mono ?_
  rintro e w19 ⟨Aqo, cqo, Aqb, cqb, rfl, hT_, f_, bb, _, _, _, _, _, _⟩
  dsimp only
  have x_ := f_ _ _ _ _ hpB ap_pB
  replace hpB := x_.1
  replace ap_pB := x_.2
  clear x_
  have x_ := f_ _ _ _ _ hsB ap_sB
  replace hsB := x_.1
  replace ap_sB := x_.2
  clear x_
  have x_ := f_ _ _ _ _ hqB ap_qB
  replace hqB := x_.1
  replace ap_qB := x_.2
  clear x_
  have x_ := f_.sl po an_po
  replace po := x_.1
  replace an_po := x_.2
  clear x_
  have x_ := f_.sl pb an_pb
  replace pb := x_.1
  replace an_pb := x_.2
  clear x_
  replace fr := fr.trans f_
  clear hT
  have hT := hT_
  replace bel := bel.trans bb
  clear bb f_ hT_
  refine hK.out _ _ hqB (fun hH20 => ?_)
  clear hK K
  refine wpAnyH_take (i := 4) (v := ?_) rfl (by kernel_rfl) (by kernel_rfl) (by kernel_rfl) (fun _ _ _ h => h) (Or.inl ⟨by rfl, ?_⟩) hH20 ?_
  rotate_left
  · ((intro W hW; clear hW; go_simp) <;> with_reducible rfl)
  simp only [sq3, sq4]
  refine wpAnyH_take (i := 5) (v := ?_) rfl (by kernel_rfl) (by kernel_rfl) (by kernel_rfl) (fun _ _ _ h => h) (Or.inl ⟨by rfl, ?_⟩) hH20 ?_
  rotate_left
  · ((intro W hW; clear hW; go_simp) <;> with_reducible rfl)
  simp only [sq3, sq4]
  refine wpAnyH_take (i := 6) (v := ?_) rfl (by kernel_rfl) (by kernel_rfl) (by kernel_rfl) (fun _ _ _ h => h) (Or.inl ⟨by rfl, ?_⟩) hH20 ?_
  rotate_left
  · ((intro W hW; clear hW; go_simp) <;> with_reducible rfl)
  simp only [sq3, sq4]
  refine wpAnyH_take (i := 7) (v := ?_) rfl (by kernel_rfl) (by kernel_rfl) (by kernel_rfl) (fun _ _ _ h => h) (Or.inl ⟨by rfl, ?_⟩) hH20 ?_
  rotate_left
  · ((intro W hW; clear hW; go_simp) <;> with_reducible rfl)
  simp only [sq3, sq4]
  refine wpAnyH_done (by kernel_rfl) ?_ _
  go_wp2_with fail
  go_ret
  exact ⟨rfl, hT, fr, bel⟩
set_option linter.unusedVariables false in
set_option linter.unusedVariables false in
set_option linter.unusedSimpArgs false in
set_option maxRecDepth 100000 in
set_option maxHeartbeats 16000000 in
theorem natLives_walk (how later : Int) (w : World) : Calls Tryz.prog 8 #[.int .i64 how, .int .i64 later] w fun e w' => e = .returned (.bool true) ∧ Below w.heap.size w w' := by
  have bel := Below.refl w.heap.size w
  go_enter Tryz.func8, Tryz.ntmps8
  go_wp2_with fail
  with_reducible refine (awake19 _).mono ?_
  rintro e w1 ⟨rfl, b1⟩
  replace bel := bel.trans (b1.mono bel.size)
  clear b1
  by_cases c1 : how < 0
  · go_wp2_with fail
    go_ret
    exact ⟨rfl, bel⟩
  have Hc1 : Hid (0 ≤ how) := Lib.hid (by omega)
  replace c1 : decide (how < 0) = false := decide_eq_false c1
  by_cases c2 : 2 < how
  · go_wp2_with fail
    go_ret
    exact ⟨rfl, bel⟩
  have Hc2 : Hid (how ≤ 2) := Lib.hid (by omega)
  replace c2 : decide (2 < how) = false := decide_eq_false c2
  by_cases c3 : later < 0
  · go_wp2_with fail
    go_ret
    exact ⟨rfl, bel⟩
  have Hc3 : Hid (0 ≤ later) := Lib.hid (by omega)
  replace c3 : decide (later < 0) = false := decide_eq_false c3
  by_cases c4 : 8000 < later
  · go_wp2_with fail
    go_ret
    exact ⟨rfl, bel⟩
  have Hc4 : Hid (later ≤ 8000) := Lib.hid (by omega)
  replace c4 : decide (8000 < later) = false := decide_eq_false c4
  go_wp2_with fail
  have HLO_ := bel.size
  with_reducible refine (begun19 _).mono ?_
  rintro e w2 ⟨gn, gt, gk, rfl, hT, b2⟩
  replace bel := bel.trans (b2.mono bel.size)
  clear b2
  replace hT : Np w.heap.size gn gt gk w2 nS0 nK0 := hT.lo_mono HLO_
  clear HLO_
  go_wp2_with fail
  with_reducible refine (l_so (f := 2) _ hT (by decide) (fun W _ _ _ _ h1 h2 h3 => l_o1 W h1 h2 h3)).mono ?_
  rintro e w3 ⟨rfl, hT_, f_, bb⟩
  clear hT
  have hT := hT_
  replace bel := bel.trans bb
  clear bb f_ hT_
  by_cases hp0 : 0 < how
  rotate_left
  · have hp : decide (0 < how) = false := decide_eq_false hp0
    have hp_ : decide (how > 0) = false := hp
    have h2_ : (how == 2) = false := beq_eq_false_iff_ne.2 (by omega)
    clear hp0
    by_cases hl : later < 240
    · have HL := Lib.hid hl
      go_wp2_with fail
      with_reducible refine (l_some _ hT Hc3.out Hc4.out HL.out).mono ?_
      rintro e w4 ⟨rfl, hT_, f_, bb⟩
      clear hT
      have hT := hT_
      replace bel := bel.trans bb
      clear bb f_ hT_
      go_wp2_with (first | ((with_reducible show wpList _ _ _ (⟨some 8, _, _, _, _, _⟩ :: _) _ _); refine wpList_new_a rfl 65 rfl #[.int .i64 0, .int .i64 0, .int .u8 0, .int .u8 0, .int .u8 0, .int .u8 0, .int .i64 0, .int .i64 0, .int .i64 0] (by kernel_rfl) ?_; intro g8 w5 ge hh bb; have ap_mB := hT.ap ge; have omB := Nat.le_trans bel.size ge; replace hT := hT.below bb; replace ap_mB := ap_mB.below bb; replace bel := bel.trans (bb.mono bel.size); have hmB := hh; clear hh ge bb) | ((with_reducible show wpList _ _ _ (⟨none, Op.store _ (.tmp 8) _, _, _, _, _⟩ :: _) _ _); refine wpList_store_blk rfl 65 (.tmp 8) (.tmp 54) rfl g8 rfl _ rfl _ 65 hmB (by rfl) (by kernel_rfl) (by kernel_rfl) ?_; intro w6 hq gr; replace hT := hT.away ap_mB gr hmB; replace ap_mB := ap_mB.grown ap_mB gr; replace bel := below_grown bel gr omB bel.size; clear hmB; have hmB := hq; clear hq gr))
      go_ret
      exact ⟨rfl, bel⟩
    have HL : Hid (240 ≤ later) := Lib.hid (by omega)
    replace hl : decide (later < 240) = false := decide_eq_false hl
    go_wp2_with fail
    with_reducible refine (l_none _ hT (by have := HL.out; omega) Hc4.out HL.out).mono ?_
    rintro e w4 ⟨rfl, hT_, f_, bb⟩
    clear hT
    have hT := hT_
    replace bel := bel.trans bb
    clear bb f_ hT_
    go_wp2_with (first | ((with_reducible show wpList _ _ _ (⟨some 8, _, _, _, _, _⟩ :: _) _ _); refine wpList_new_a rfl 65 rfl #[.int .i64 0, .int .i64 0, .int .u8 0, .int .u8 0, .int .u8 0, .int .u8 0, .int .i64 0, .int .i64 0, .int .i64 0] (by kernel_rfl) ?_; intro g8 w5 ge hh bb; have ap_mB := hT.ap ge; have omB := Nat.le_trans bel.size ge; replace hT := hT.below bb; replace ap_mB := ap_mB.below bb; replace bel := bel.trans (bb.mono bel.size); have hmB := hh; clear hh ge bb) | ((with_reducible show wpList _ _ _ (⟨none, Op.store _ (.tmp 8) _, _, _, _, _⟩ :: _) _ _); refine wpList_store_blk rfl 65 (.tmp 8) (.tmp 54) rfl g8 rfl _ rfl _ 65 hmB (by rfl) (by kernel_rfl) (by kernel_rfl) ?_; intro w6 hq gr; replace hT := hT.away ap_mB gr hmB; replace ap_mB := ap_mB.grown ap_mB gr; replace bel := below_grown bel gr omB bel.size; clear hmB; have hmB := hq; clear hq gr))
    go_ret
    exact ⟨rfl, bel⟩
  have hp : how > 0 := hp0
  go_wp2_with fail
  with_reducible refine (l_si (f := 18) _ hT (by decide) (fun W _ _ _ _ h1 h2 h3 => l_i2 W h1 h2 h3)).mono ?_
  rintro e w4 ⟨rfl, hT_, f_, bb⟩
  clear hT
  have hT := hT_
  replace bel := bel.trans bb
  clear bb f_ hT_
  go_wp2_with fail
  with_reducible refine (l_so (f := 16) _ hT (by decide) (fun W _ _ _ _ h1 h2 h3 => l_o3 W h1 h2 h3)).mono ?_
  rintro e w5 ⟨rfl, hT_, f_, bb⟩
  clear hT
  have hT := hT_
  replace bel := bel.trans bb
  clear bb f_ hT_
  by_cases h2 : how = 2
  rotate_left
  · have h2_ : (how == 2) = false := beq_eq_false_iff_ne.2 h2
    clear h2 hp hp0
    by_cases hl : later < 7200
    · have HL := Lib.hid hl
      go_wp2_with fail
      with_reducible refine (l_some _ hT Hc3.out Hc4.out HL.out).mono ?_
      rintro e w6 ⟨rfl, hT_, f_, bb⟩
      clear hT
      have hT := hT_
      replace bel := bel.trans bb
      clear bb f_ hT_
      go_wp2_with (first | ((with_reducible show wpList _ _ _ (⟨some 8, _, _, _, _, _⟩ :: _) _ _); refine wpList_new_a rfl 65 rfl #[.int .i64 0, .int .i64 0, .int .u8 0, .int .u8 0, .int .u8 0, .int .u8 0, .int .i64 0, .int .i64 0, .int .i64 0] (by kernel_rfl) ?_; intro g8 w7 ge hh bb; have ap_mB := hT.ap ge; have omB := Nat.le_trans bel.size ge; replace hT := hT.below bb; replace ap_mB := ap_mB.below bb; replace bel := bel.trans (bb.mono bel.size); have hmB := hh; clear hh ge bb) | ((with_reducible show wpList _ _ _ (⟨none, Op.store _ (.tmp 8) _, _, _, _, _⟩ :: _) _ _); refine wpList_store_blk rfl 65 (.tmp 8) (.tmp 54) rfl g8 rfl _ rfl _ 65 hmB (by rfl) (by kernel_rfl) (by kernel_rfl) ?_; intro w8 hq gr; replace hT := hT.away ap_mB gr hmB; replace ap_mB := ap_mB.grown ap_mB gr; replace bel := below_grown bel gr omB bel.size; clear hmB; have hmB := hq; clear hq gr))
      go_ret
      exact ⟨rfl, bel⟩
    have HL : Hid (7200 ≤ later) := Lib.hid (by omega)
    replace hl : decide (later < 7200) = false := decide_eq_false hl
    go_wp2_with fail
    with_reducible refine (l_none _ hT (by have := HL.out; omega) Hc4.out HL.out).mono ?_
    rintro e w6 ⟨rfl, hT_, f_, bb⟩
    clear hT
    have hT := hT_
    replace bel := bel.trans bb
    clear bb f_ hT_
    go_wp2_with (first | ((with_reducible show wpList _ _ _ (⟨some 8, _, _, _, _, _⟩ :: _) _ _); refine wpList_new_a rfl 65 rfl #[.int .i64 0, .int .i64 0, .int .u8 0, .int .u8 0, .int .u8 0, .int .u8 0, .int .i64 0, .int .i64 0, .int .i64 0] (by kernel_rfl) ?_; intro g8 w7 ge hh bb; have ap_mB := hT.ap ge; have omB := Nat.le_trans bel.size ge; replace hT := hT.below bb; replace ap_mB := ap_mB.below bb; replace bel := bel.trans (bb.mono bel.size); have hmB := hh; clear hh ge bb) | ((with_reducible show wpList _ _ _ (⟨none, Op.store _ (.tmp 8) _, _, _, _, _⟩ :: _) _ _); refine wpList_store_blk rfl 65 (.tmp 8) (.tmp 54) rfl g8 rfl _ rfl _ 65 hmB (by rfl) (by kernel_rfl) (by kernel_rfl) ?_; intro w8 hq gr; replace hT := hT.away ap_mB gr hmB; replace ap_mB := ap_mB.grown ap_mB gr; replace bel := below_grown bel gr omB bel.size; clear hmB; have hmB := hq; clear hq gr))
    go_ret
    exact ⟨rfl, bel⟩
  have h2_ : (how == 2) = true := beq_iff_eq.2 h2
  clear h2 hp hp0
  go_wp2_with fail
  with_reducible refine (l_si (f := 4) _ hT (by decide) (fun W _ _ _ _ h1 h2 h3 => l_i4 W h1 h2 h3)).mono ?_
  rintro e w6 ⟨rfl, hT_, f_, bb⟩
  clear hT
  have hT := hT_
  replace bel := bel.trans bb
  clear bb f_ hT_
  by_cases hl : later < 7200
  · have HL := Lib.hid hl
    go_wp2_with fail
    with_reducible refine (l_some _ hT Hc3.out Hc4.out HL.out).mono ?_
    rintro e w7 ⟨rfl, hT_, f_, bb⟩
    clear hT
    have hT := hT_
    replace bel := bel.trans bb
    clear bb f_ hT_
    go_wp2_with (first | ((with_reducible show wpList _ _ _ (⟨some 8, _, _, _, _, _⟩ :: _) _ _); refine wpList_new_a rfl 65 rfl #[.int .i64 0, .int .i64 0, .int .u8 0, .int .u8 0, .int .u8 0, .int .u8 0, .int .i64 0, .int .i64 0, .int .i64 0] (by kernel_rfl) ?_; intro g8 w8 ge hh bb; have ap_mB := hT.ap ge; have omB := Nat.le_trans bel.size ge; replace hT := hT.below bb; replace ap_mB := ap_mB.below bb; replace bel := bel.trans (bb.mono bel.size); have hmB := hh; clear hh ge bb) | ((with_reducible show wpList _ _ _ (⟨none, Op.store _ (.tmp 8) _, _, _, _, _⟩ :: _) _ _); refine wpList_store_blk rfl 65 (.tmp 8) (.tmp 54) rfl g8 rfl _ rfl _ 65 hmB (by rfl) (by kernel_rfl) (by kernel_rfl) ?_; intro w9 hq gr; replace hT := hT.away ap_mB gr hmB; replace ap_mB := ap_mB.grown ap_mB gr; replace bel := below_grown bel gr omB bel.size; clear hmB; have hmB := hq; clear hq gr))
    go_ret
    exact ⟨rfl, bel⟩
  have HL : Hid (7200 ≤ later) := Lib.hid (by omega)
  replace hl : decide (later < 7200) = false := decide_eq_false hl
  go_wp2_with fail
  with_reducible refine (l_none _ hT (by have := HL.out; omega) Hc4.out HL.out).mono ?_
  rintro e w7 ⟨rfl, hT_, f_, bb⟩
  clear hT
  have hT := hT_
  replace bel := bel.trans bb
  clear bb f_ hT_
  go_wp2_with (first | ((with_reducible show wpList _ _ _ (⟨some 8, _, _, _, _, _⟩ :: _) _ _); refine wpList_new_a rfl 65 rfl #[.int .i64 0, .int .i64 0, .int .u8 0, .int .u8 0, .int .u8 0, .int .u8 0, .int .i64 0, .int .i64 0, .int .i64 0] (by kernel_rfl) ?_; intro g8 w8 ge hh bb; have ap_mB := hT.ap ge; have omB := Nat.le_trans bel.size ge; replace hT := hT.below bb; replace ap_mB := ap_mB.below bb; replace bel := bel.trans (bb.mono bel.size); have hmB := hh; clear hh ge bb) | ((with_reducible show wpList _ _ _ (⟨none, Op.store _ (.tmp 8) _, _, _, _, _⟩ :: _) _ _); refine wpList_store_blk rfl 65 (.tmp 8) (.tmp 54) rfl g8 rfl _ rfl _ 65 hmB (by rfl) (by kernel_rfl) (by kernel_rfl) ?_; intro w9 hq gr; replace hT := hT.away ap_mB gr hmB; replace ap_mB := ap_mB.grown ap_mB gr; replace bel := below_grown bel gr omB bel.size; clear hmB; have hmB := hq; clear hq gr))
  go_ret
  exact ⟨rfl, bel⟩
end Go.Proofs.YtbdaejodbcjmfaaGreat
