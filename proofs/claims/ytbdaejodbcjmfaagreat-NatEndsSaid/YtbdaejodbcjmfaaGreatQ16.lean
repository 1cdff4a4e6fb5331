/- Texts put together: Law19e. -/
import Derived.Test.YtbdaejodbcjmfaaGreatQ1
import Derived.Test.YtbdaejodbcjmfaaGreatQ13
import Derived.Test.YtbdaejodbcjmfaaGreatQ15
namespace Go.Proofs.YtbdaejodbcjmfaaGreat
open Go.RowKit

def eQ (p : Int) : Int := if 40000 < p then 40000 else 40001
def eM (n p : Int) : Mp := ⟨17, eQ p, ⟨10, 0, 0, byteOf n⟩, p, 1, 120⟩
def eL (n1 n2 p : Int) : List Mp := if 40000 < p then [eM n2 p, nM n1 p 120] else [nM n1 p 120, eM n2 p]
def eS (n1 n2 p : Int) : Ts := ⟨40000, 128, 0, eL n1 n2 p, []⟩
def eA (n1 n2 p : Int) : Nat → Ts
  | 0 => nS0
  | _ + 1 => eS n1 n2 p
def eB (n1 n2 p : Int) : Nat → Ts
  | 0 => nS n1 p 0 120
  | _ + 1 => eS n1 n2 p
def eX (p : Int) : Nat → Int
  | 0 => -1
  | _ + 1 => nQ p
def eY (p : Int) : Nat → Int
  | 0 => -1
  | _ + 1 => eQ p
theorem eQ_ok (p : Int) : 40000 ≤ eQ p ∧ eQ p ≤ 40001 := by
  unfold eQ
  split <;> omega
theorem eQ_ne (p : Int) : nQ p ≠ eQ p := by
  unfold eQ nQ
  split <;> split <;> omega
theorem at_ne {n1 n2 : Int} (a1 : 0 ≤ n1) (a2 : n1 ≤ 255) (b1 : 0 ≤ n2) (b2 : n2 ≤ 255) (ab : n1 ≠ n2) : (⟨10, 0, 0, byteOf n1⟩ : Ad4).eqB ⟨10, 0, 0, byteOf n2⟩ = false := by
  rcases h : (⟨10, 0, 0, byteOf n1⟩ : Ad4).eqB ⟨10, 0, 0, byteOf n2⟩ with _ | _
  · rfl
  · exfalso
    have e : byteOf n1 = byteOf n2 := by
      have h9 := Ad4.eqB_iff.1 h
      injection h9
    have e1 := byteOf_val n1
    have e2 := byteOf_val n2
    rw [e, e2] at e1
    omega
theorem forB_n {n m p o k u : Int} : forB 17 ⟨10, 0, 0, byteOf n⟩ p ⟨17, o, ⟨10, 0, 0, byteOf m⟩, p, k, u⟩ = (⟨10, 0, 0, byteOf m⟩ : Ad4).eqB ⟨10, 0, 0, byteOf n⟩ := by
  show ((17 : Int) == 17 && ((⟨10, 0, 0, byteOf m⟩ : Ad4).eqB ⟨10, 0, 0, byteOf n⟩ && (p == p))) = _
  rw [beq_self_eq_true, beq_self_eq_true, Bool.true_and, Bool.and_true]
theorem best_0 {pr p : Int} {ad : Ad4} {x y : Mp} (h1 : forB pr ad p x = true) (h2 : forB pr ad p y = false) : bestF pr ad p [x, y] 2 = some 0 := by
  simp [bestF, betB, h1, h2]
theorem best_1 {pr p : Int} {ad : Ad4} {x y : Mp} (h1 : forB pr ad p x = false) (h2 : forB pr ad p y = true) : bestF pr ad p [x, y] 2 = some 1 := by
  simp [bestF, betB, h1, h2]
theorem e_new {lo gt : Nat} {n1 n2 p : Int} (a1 : 0 ≤ n1) (a2 : n1 ≤ 255) (b1 : 0 ≤ n2) (b2 : n2 ≤ 255) (ab : n1 ≠ n2) (h1 : 1 ≤ p) (h2 : p ≤ 65535) : MakeC lo gt (nS n1 p 0 120) (eS n1 n2 p) 17 10 0 0 (byteOf n2) p 0 120 (eM n2 p) 0 := by
  have hb : bestF 17 ⟨10, 0, 0, byteOf n2⟩ p [nM n1 p 120] 1 = none := bestF_nil (fun e he => by
    obtain rfl := List.mem_singleton.1 he
    exact forB_n.trans (at_ne a1 a2 b1 b2 ab)) 1
  have hq := nQ_ok h2
  have hown := (msrt_one (nM n1 p 120)).found (j := 0) (x := kn 17 (nQ p)) rfl rfl
  have hno : ∀ o, 0 ≤ o → o ≤ 65535 → o ≠ nQ p → mfhas [nM n1 p 120] (kn 17 o) = false := fun o o1 o2 on => MSrt.none fun e he => by
    obtain rfl := List.mem_singleton.1 he
    exact fun h => on (kn_inj (okP_17 (by omega) hq.2) (okP_17 o1 o2) h).2.symm
  by_cases h : 40000 < p
  · have e : eM n2 p = ⟨17, 40000, ⟨10, 0, 0, byteOf n2⟩, p, 1, 120⟩ := by unfold eM eQ; rw [if_pos h]
    have eq : nQ p = p := if_pos (by omega)
    have e2 : mins [nM n1 p 120] ⟨17, 40000, ⟨10, 0, 0, byteOf n2⟩, p, 1, 120⟩ = [⟨17, 40000, ⟨10, 0, 0, byteOf n2⟩, p, 1, 120⟩, nM n1 p 120] := by
      have h0 : mfpos [nM n1 p 120] (kn 17 40000) = 0 := mfpos_of (Nat.zero_le _) (fun j e hj => absurd hj (by omega)) (fun j e _ he => by
        rcases j with _ | j
        · injection he with he
          subst he
          show kn 17 40000 ≤ kn 17 (nQ p)
          unfold kn
          omega
        · cases he)
      show [nM n1 p 120].take (mfpos [nM n1 p 120] (kn 17 40000)) ++ _ :: [nM n1 p 120].drop (mfpos [nM n1 p 120] (kn 17 40000)) = _
      rw [h0]; rfl
    have e3 : eS n1 n2 p = ⟨40000, 128, 0, mins [nM n1 p 120] ⟨17, 40000, ⟨10, 0, 0, byteOf n2⟩, p, 1, 120⟩, []⟩ := by
      unfold eS eL; rw [if_pos h, e2, e]
    rw [e, e3]
    exact fun W hT => mk_least (s1 := nS n1 p 0 120) (q := 40000) (ad := ⟨10, 0, 0, byteOf n2⟩) W hT rfl (portB_17 h1 h2) (by decide) rfl hb (by show ((1 : Nat) : Int) < 128; decide) (fun _ => by rw [eq] at hown; exact hown.2) (by show (40000 : Int) ≤ 40000; decide) (by decide) (fun o h3 h4 => by have h3' : (40000 : Int) ≤ o := h3; omega) (hno 40000 (by decide) (by decide) (by omega)) rfl
  · have e : eM n2 p = ⟨17, 40001, ⟨10, 0, 0, byteOf n2⟩, p, 1, 120⟩ := by unfold eM eQ; rw [if_neg h]
    have eq : nQ p = 40000 := by unfold nQ; split <;> omega
    have e2 : mins [nM n1 p 120] ⟨17, 40001, ⟨10, 0, 0, byteOf n2⟩, p, 1, 120⟩ = [nM n1 p 120, ⟨17, 40001, ⟨10, 0, 0, byteOf n2⟩, p, 1, 120⟩] := by
      have h0 : mfpos [nM n1 p 120] (kn 17 40001) = 1 := mfpos_of (Nat.le_refl _) (fun j e hj he => by
        obtain rfl : j = 0 := by omega
        injection he with he
        subst he
        show kn 17 (nQ p) < kn 17 40001
        rw [eq]; decide) (fun j e hj he => by
        rcases j with _ | j
        · omega
        · cases he)
      show [nM n1 p 120].take (mfpos [nM n1 p 120] (kn 17 40001)) ++ _ :: [nM n1 p 120].drop (mfpos [nM n1 p 120] (kn 17 40001)) = _
      rw [h0]; rfl
    have e3 : eS n1 n2 p = ⟨40000, 128, 0, mins [nM n1 p 120] ⟨17, 40001, ⟨10, 0, 0, byteOf n2⟩, p, 1, 120⟩, []⟩ := by
      unfold eS eL; rw [if_neg h, e2, e]
    rw [e, e3]
    rw [eq] at hown
    exact fun W hT => mk_least (s1 := nS n1 p 0 120) (q := 40001) (ad := ⟨10, 0, 0, byteOf n2⟩) W hT rfl (portB_17 h1 h2) (by decide) rfl hb (by show ((1 : Nat) : Int) < 128; decide) (fun h3 => by have h3' : (40000 : Int) ≤ p := h3; obtain rfl : p = 40000 := (by omega); exact hown.2) (by show (40000 : Int) ≤ 40001; decide) (by decide) (fun o h3 h4 => by have h3' : (40000 : Int) ≤ o := h3; obtain rfl : o = 40000 := (by omega); exact hown.2) (hno 40001 (by decide) (by decide) (by omega)) rfl
theorem e_old1 {lo gt : Nat} {n1 n2 p : Int} (a1 : 0 ≤ n1) (a2 : n1 ≤ 255) (b1 : 0 ≤ n2) (b2 : n2 ≤ 255) (ab : n1 ≠ n2) (h1 : 1 ≤ p) (h2 : p ≤ 65535) : MakeC lo gt (eS n1 n2 p) (eS n1 n2 p) 17 10 0 0 (byteOf n1) p 0 120 (nM n1 p 120) 0 := fun W hT => by
  have f1 : forB 17 ⟨10, 0, 0, byteOf n1⟩ p (nM n1 p 120) = true := forB_n.trans (Ad4.eqB_self _)
  have f2 : forB 17 ⟨10, 0, 0, byteOf n1⟩ p (eM n2 p) = false := forB_n.trans (at_ne b1 b2 a1 a2 (Ne.symm ab))
  by_cases h : 40000 < p
  · have e3 : eS n1 n2 p = ⟨40000, 128, 0, [eM n2 p, nM n1 p 120], []⟩ := by unfold eS eL; rw [if_pos h]
    rw [e3] at hT ⊢
    exact mk_old (s1 := ⟨40000, 128, 0, [eM n2 p, nM n1 p 120], []⟩) (i := 1) (ad := ⟨10, 0, 0, byteOf n1⟩) W hT rfl (portB_17 h1 h2) (by decide) rfl (best_1 f2 f1) rfl rfl rfl
  · have e3 : eS n1 n2 p = ⟨40000, 128, 0, [nM n1 p 120, eM n2 p], []⟩ := by unfold eS eL; rw [if_neg h]
    rw [e3] at hT ⊢
    exact mk_old (s1 := ⟨40000, 128, 0, [nM n1 p 120, eM n2 p], []⟩) (i := 0) (ad := ⟨10, 0, 0, byteOf n1⟩) W hT rfl (portB_17 h1 h2) (by decide) rfl (best_0 f1 f2) rfl rfl rfl
theorem e_old2 {lo gt : Nat} {n1 n2 p : Int} (a1 : 0 ≤ n1) (a2 : n1 ≤ 255) (b1 : 0 ≤ n2) (b2 : n2 ≤ 255) (ab : n1 ≠ n2) (h1 : 1 ≤ p) (h2 : p ≤ 65535) : MakeC lo gt (eS n1 n2 p) (eS n1 n2 p) 17 10 0 0 (byteOf n2) p 0 120 (eM n2 p) 0 := fun W hT => by
  have f1 : forB 17 ⟨10, 0, 0, byteOf n2⟩ p (nM n1 p 120) = false := forB_n.trans (at_ne a1 a2 b1 b2 ab)
  have f2 : forB 17 ⟨10, 0, 0, byteOf n2⟩ p (eM n2 p) = true := forB_n.trans (Ad4.eqB_self _)
  by_cases h : 40000 < p
  · have e3 : eS n1 n2 p = ⟨40000, 128, 0, [eM n2 p, nM n1 p 120], []⟩ := by unfold eS eL; rw [if_pos h]
    rw [e3] at hT ⊢
    exact mk_old (s1 := ⟨40000, 128, 0, [eM n2 p, nM n1 p 120], []⟩) (i := 0) (ad := ⟨10, 0, 0, byteOf n2⟩) W hT rfl (portB_17 h1 h2) (by decide) rfl (best_0 f2 f1) rfl rfl rfl
  · have e3 : eS n1 n2 p = ⟨40000, 128, 0, [nM n1 p 120, eM n2 p], []⟩ := by unfold eS eL; rw [if_neg h]
    rw [e3] at hT ⊢
    exact mk_old (s1 := ⟨40000, 128, 0, [nM n1 p 120, eM n2 p], []⟩) (i := 1) (ad := ⟨10, 0, 0, byteOf n2⟩) W hT rfl (portB_17 h1 h2) (by decide) rfl (best_1 f1 f2) rfl rfl rfl
theorem e_a {lo gt : Nat} {n1 n2 p : Int} {k : Nat} (a1 : 0 ≤ n1) (a2 : n1 ≤ 255) (b1 : 0 ≤ n2) (b2 : n2 ≤ 255) (ab : n1 ≠ n2) (h1 : 1 ≤ p) (h2 : p ≤ 65535) : MakeC lo gt (eA n1 n2 p k) (eB n1 n2 p k) 17 10 0 0 (byteOf n1) p 0 120 (nM n1 p 120) 0 := by
  cases k with
  | zero => exact one_mk h1 h2
  | succ k => exact e_old1 a1 a2 b1 b2 ab h1 h2
theorem e_b {lo gt : Nat} {n1 n2 p : Int} {k : Nat} (a1 : 0 ≤ n1) (a2 : n1 ≤ 255) (b1 : 0 ≤ n2) (b2 : n2 ≤ 255) (ab : n1 ≠ n2) (h1 : 1 ≤ p) (h2 : p ≤ 65535) : MakeC lo gt (eB n1 n2 p k) (eA n1 n2 p (k + 1)) 17 10 0 0 (byteOf n2) p 0 120 (eM n2 p) 0 := by
  cases k with
  | zero => exact e_new a1 a2 b1 b2 ab h1 h2
  | succ k => exact e_old2 a1 a2 b1 b2 ab h1 h2
theorem dg_peer (n p x : Int) (w : World) (h1 : portOk p = true) : Calls Tryz.prog 15 #[.agg #[.int .u8 10, .int .u8 0, .int .u8 0, .int .u8 ((byteOf n).toNat : Int)], .int .i64 p, .agg #[.int .u8 8, .int .u8 8, .int .u8 (x / 256 % 256), .int .u8 (x % 256)], .int .i64 53] w fun e w' => ∃ Ao co Ab cb, e = .returned (.agg #[.int .i64 0, .int .i64 0, .int .i64 0, .int .i64 0, .int .i64 64, .int .i64 17, .int .u8 10, .int .u8 0, .int .u8 0, .int .u8 ((byteOf n).toNat : Int), .int .u8 8, .int .u8 8, .int .u8 ((byteOf (x / 256)).toNat : Int), .int .u8 ((byteOf x).toNat : Int), .slice Ao 0 co, .slice Ab 9 cb]) ∧ Sl w' Ao 0 co [] ∧ Sl w' Ab 9 cb (udBytes 10 0 0 (byteOf n) 8 8 (byteOf (x / 256)) (byteOf x) p 53 [120]) ∧ Fr w.heap.size Ao 0 ∧ Fr w.heap.size Ab 9 ∧ Below w.heap.size w w' := by
  have h_ := dg_any 10 0 0 (byteOf n) 8 8 (byteOf (x / 256)) (byteOf x) p 53 w h1 (by decide)
  have e1 : x / 256 % 256 = ((byteOf (x / 256)).toNat : Int) := (byteOf_val _).symm
  have e2 : x % 256 = ((byteOf x).toNat : Int) := (byteOf_val _).symm
  rw [e1, e2]
  exact h_
set_option linter.unusedVariables false in
set_option maxRecDepth 100000 in
theorem e_o1 {lo gn gt gk : Nat} {n1 n2 p x : Int} {k : Nat} {Ao Ab : Option Addr} {co cb : Nat} (w : World) (hT : Np lo gn gt gk w (eA n1 n2 p k) nK0) (po : Sl w Ao 0 co []) (pb : Sl w Ab 9 cb (udBytes 10 0 0 (byteOf n1) 8 8 (byteOf (x / 256)) (byteOf x) p 53 [120])) (a1 : 0 ≤ n1) (a2 : n1 ≤ 255) (b1 : 0 ≤ n2) (b2 : n2 ≤ 255) (ab : n1 ≠ n2) (h1 : 1 ≤ p) (h2 : p ≤ 65535)  : Calls Tryz.prog 19 #[.pointer (some ⟨gn, 0, none⟩), .agg #[.int .i64 0, .int .i64 0, .int .i64 0, .int .i64 0, .int .i64 64, .int .i64 17, .int .u8 10, .int .u8 0, .int .u8 0, .int .u8 ((byteOf n1).toNat : Int), .int .u8 8, .int .u8 8, .int .u8 ((byteOf (x / 256)).toNat : Int), .int .u8 ((byteOf x).toNat : Int), .slice Ao 0 co, .slice Ab 9 cb], .agg #[.int .u8 203, .int .u8 0, .int .u8 113, .int .u8 7], .int .i64 0] w fun e w' => ∃ Ao co' Ab cb', e = .returned (.tuple #[.agg #[.int .i64 0, .int .i64 0, .int .i64 0, .int .i64 0, .int .i64 64, .int .i64 17, .int .u8 203, .int .u8 0, .int .u8 113, .int .u8 7, .int .u8 8, .int .u8 8, .int .u8 ((byteOf (x / 256)).toNat : Int), .int .u8 ((byteOf x).toNat : Int), .slice Ao 0 co', .slice Ab 9 cb'], .int .i64 0]) ∧ Np lo gn gt gk w' (eB n1 n2 p k) nK0 ∧ Fn gn gt gk w w' ∧ Below lo w w' ∧ Sl w' Ao 0 co' [] ∧ Sl w' Ab 9 cb' (udBytes 203 0 113 7 8 8 (byteOf (x / 256)) (byteOf x) (nQ p) 53 [120]) ∧ An gn gt gk w' Ao 0 ∧ An gn gt gk w' Ab 9 ∧ Fr w.heap.size Ao 0 ∧ Fr w.heap.size Ab 9 := by
  have h_ := nout_ok (m := nM n1 p 120) (tos := 0) (id := 0) (fl := 0) (pt := 0) (ttl := 64) (t := 0) (df := p) (dt := 53) (ld := [120]) (nd := 1) (lp := []) (a0 := 10) (a1 := 0) (a2 := 0) (a3 := (byteOf n1)) (b0 := 8) (b1 := 8) (b2 := (byteOf (x / 256))) (b3 := (byteOf x)) (c0 := 203) (c1 := 0) (c2 := 113) (c3 := 7) w hT po pb an_zero (by decide) (by decide) (by decide) (udp_back (by decide) 10 0 0 (byteOf n1) 8 8 (byteOf (x / 256)) (byteOf x) (portOk_of (Int.le_trans (by decide) h1) h2) (by decide) [120] (by decide)) rfl (Int.ne_of_gt (Int.lt_of_lt_of_le (by decide) h1)) (e_a (k := k) a1 a2 b1 b2 ab h1 h2) (portOk_of (Int.le_trans (by decide) (nQ_ok h2).1) (nQ_ok h2).2) (by decide) (by decide)
  exact h_
set_option linter.unusedVariables false in
set_option maxRecDepth 100000 in
theorem e_g1 {p x : Int} {So Sb : Option Addr} {no co cb : Nat} (w : World) (pb : Sl w Sb 9 cb (udBytes 203 0 113 7 8 8 (byteOf (x / 256)) (byteOf x) (nQ p) 53 [120])) (h2 : p ≤ 65535)  : Calls Tryz.prog 24 #[.agg #[.int .i64 0, .int .i64 0, .int .i64 0, .int .i64 0, .int .i64 64, .int .i64 17, .int .u8 203, .int .u8 0, .int .u8 113, .int .u8 7, .int .u8 8, .int .u8 8, .int .u8 ((byteOf (x / 256)).toNat : Int), .int .u8 ((byteOf x).toNat : Int), .slice So no co, .slice Sb 9 cb]] w fun e w' => ∃ A c, e = .returned (.tuple #[.agg #[.int .i64 (nQ p), .int .i64 53, .slice A 1 c], .int .i64 0]) ∧ Sl w' A 1 c [120] ∧ Fr w.heap.size A 1 ∧ Below w.heap.size w w' := udget_is _ _ 0 0 _ 203 0 113 7 8 8 (byteOf (x / 256)) (byteOf x) _ _ _ _ _ _ w pb (by decide) (udp_back (by decide) 203 0 113 7 8 8 (byteOf (x / 256)) (byteOf x) (portOk_of (Int.le_trans (by decide) (nQ_ok h2).1) (nQ_ok h2).2) (by decide) [120] (by decide)) rfl
set_option linter.unusedVariables false in
set_option maxRecDepth 100000 in
theorem e_o2 {lo gn gt gk : Nat} {n1 n2 p x : Int} {k : Nat} {Ao Ab : Option Addr} {co cb : Nat} (w : World) (hT : Np lo gn gt gk w (eB n1 n2 p k) nK0) (po : Sl w Ao 0 co []) (pb : Sl w Ab 9 cb (udBytes 10 0 0 (byteOf n2) 8 8 (byteOf (x / 256)) (byteOf x) p 53 [120])) (a1 : 0 ≤ n1) (a2 : n1 ≤ 255) (b1 : 0 ≤ n2) (b2 : n2 ≤ 255) (ab : n1 ≠ n2) (h1 : 1 ≤ p) (h2 : p ≤ 65535)  : Calls Tryz.prog 19 #[.pointer (some ⟨gn, 0, none⟩), .agg #[.int .i64 0, .int .i64 0, .int .i64 0, .int .i64 0, .int .i64 64, .int .i64 17, .int .u8 10, .int .u8 0, .int .u8 0, .int .u8 ((byteOf n2).toNat : Int), .int .u8 8, .int .u8 8, .int .u8 ((byteOf (x / 256)).toNat : Int), .int .u8 ((byteOf x).toNat : Int), .slice Ao 0 co, .slice Ab 9 cb], .agg #[.int .u8 203, .int .u8 0, .int .u8 113, .int .u8 7], .int .i64 0] w fun e w' => ∃ Ao co' Ab cb', e = .returned (.tuple #[.agg #[.int .i64 0, .int .i64 0, .int .i64 0, .int .i64 0, .int .i64 64, .int .i64 17, .int .u8 203, .int .u8 0, .int .u8 113, .int .u8 7, .int .u8 8, .int .u8 8, .int .u8 ((byteOf (x / 256)).toNat : Int), .int .u8 ((byteOf x).toNat : Int), .slice Ao 0 co', .slice Ab 9 cb'], .int .i64 0]) ∧ Np lo gn gt gk w' (eA n1 n2 p (k + 1)) nK0 ∧ Fn gn gt gk w w' ∧ Below lo w w' ∧ Sl w' Ao 0 co' [] ∧ Sl w' Ab 9 cb' (udBytes 203 0 113 7 8 8 (byteOf (x / 256)) (byteOf x) (eQ p) 53 [120]) ∧ An gn gt gk w' Ao 0 ∧ An gn gt gk w' Ab 9 ∧ Fr w.heap.size Ao 0 ∧ Fr w.heap.size Ab 9 := by
  have h_ := nout_ok (m := eM n2 p) (tos := 0) (id := 0) (fl := 0) (pt := 0) (ttl := 64) (t := 0) (df := p) (dt := 53) (ld := [120]) (nd := 1) (lp := []) (a0 := 10) (a1 := 0) (a2 := 0) (a3 := (byteOf n2)) (b0 := 8) (b1 := 8) (b2 := (byteOf (x / 256))) (b3 := (byteOf x)) (c0 := 203) (c1 := 0) (c2 := 113) (c3 := 7) w hT po pb an_zero (by decide) (by decide) (by decide) (udp_back (by decide) 10 0 0 (byteOf n2) 8 8 (byteOf (x / 256)) (byteOf x) (portOk_of (Int.le_trans (by decide) h1) h2) (by decide) [120] (by decide)) rfl (Int.ne_of_gt (Int.lt_of_lt_of_le (by decide) h1)) (e_b (k := k) a1 a2 b1 b2 ab h1 h2) (portOk_of (Int.le_trans (by decide) (eQ_ok p).1) (Int.le_trans (eQ_ok p).2 (by decide))) (by decide) (by decide)
  exact h_
set_option linter.unusedVariables false in
set_option maxRecDepth 100000 in
theorem e_g2 {p x : Int} {So Sb : Option Addr} {no co cb : Nat} (w : World) (pb : Sl w Sb 9 cb (udBytes 203 0 113 7 8 8 (byteOf (x / 256)) (byteOf x) (eQ p) 53 [120]))  : Calls Tryz.prog 24 #[.agg #[.int .i64 0, .int .i64 0, .int .i64 0, .int .i64 0, .int .i64 64, .int .i64 17, .int .u8 203, .int .u8 0, .int .u8 113, .int .u8 7, .int .u8 8, .int .u8 8, .int .u8 ((byteOf (x / 256)).toNat : Int), .int .u8 ((byteOf x).toNat : Int), .slice So no co, .slice Sb 9 cb]] w fun e w' => ∃ A c, e = .returned (.tuple #[.agg #[.int .i64 (eQ p), .int .i64 53, .slice A 1 c], .int .i64 0]) ∧ Sl w' A 1 c [120] ∧ Fr w.heap.size A 1 ∧ Below w.heap.size w w' := udget_is _ _ 0 0 _ 203 0 113 7 8 8 (byteOf (x / 256)) (byteOf x) _ _ _ _ _ _ w pb (by decide) (udp_back (by decide) 203 0 113 7 8 8 (byteOf (x / 256)) (byteOf x) (portOk_of (Int.le_trans (by decide) (eQ_ok p).1) (Int.le_trans (eQ_ok p).2 (by decide))) (by decide) [120] (by decide)) rfl
theorem e_len {lo gn gt gk : Nat} {n1 n2 p : Int} {k : Nat} (w : World) (hT : Np lo gn gt gk w (eA n1 n2 p k) nK0) (hk : 1 ≤ k) : Calls Tryz.prog 26 #[.pointer (some ⟨gt, 0, none⟩), .int .i64 0] w fun e w' => e = .returned (.int .i64 2) ∧ Np lo gn gt gk w' (eS n1 n2 p) nK0 ∧ Fn gn gt gk w w' ∧ Below lo w w' := by
  obtain ⟨j, rfl⟩ : ∃ j, k = j + 1 := ⟨k - 1, by omega⟩
  exact np_t hT (len_is (s1 := eS n1 n2 p) w hT.tp rfl (by show ((eL n1 n2 p).length : Int) = 2; unfold eL; split <;> rfl))
set_option linter.unusedVariables false in
set_option linter.unusedVariables false in
set_option linter.unusedSimpArgs false in
set_option maxRecDepth 100000 in
set_option maxHeartbeats 16000000 in
theorem natEnds_walk (n1 n2 p : Int) (A : Option Addr) (n cp : Nat) (L : List Int) (w : World) (ll : Sle inf 1 w A n cp L) : Calls Tryz.prog 6 #[.int .i64 n1, .int .i64 n2, .int .i64 p, .slice A n cp] w fun e w' => e = .returned (.bool true) ∧ Below w.heap.size w w' := by
  have HL0 := Lib.hid ll
  have HN : Hid (L.length = n) := Lib.hid ll.1
  have bel := Below.refl w.heap.size w
  go_enter Tryz.func6, Tryz.ntmps6
  go_wp2_with fail
  with_reducible refine (awake19 _).mono ?_
  rintro e w1 ⟨rfl, b1⟩
  replace ll := ll.below b1
  replace bel := bel.trans (b1.mono bel.size)
  clear b1
  by_cases c1 : n1 < 0
  · go_wp2_with fail
    go_ret
    exact ⟨rfl, bel⟩
  have Hc1 : Hid (0 ≤ n1) := Lib.hid (by omega)
  replace c1 : decide (n1 < 0) = false := decide_eq_false c1
  by_cases c2 : n2 < 0
  · go_wp2_with fail
    go_ret
    exact ⟨rfl, bel⟩
  have Hc2 : Hid (0 ≤ n2) := Lib.hid (by omega)
  replace c2 : decide (n2 < 0) = false := decide_eq_false c2
  by_cases c3 : 255 < n1
  · go_wp2_with fail
    go_ret
    exact ⟨rfl, bel⟩
  have Hc3 : Hid (n1 ≤ 255) := Lib.hid (by omega)
  replace c3 : decide (255 < n1) = false := decide_eq_false c3
  by_cases c4 : 255 < n2
  · go_wp2_with fail
    go_ret
    exact ⟨rfl, bel⟩
  have Hc4 : Hid (n2 ≤ 255) := Lib.hid (by omega)
  replace c4 : decide (255 < n2) = false := decide_eq_false c4
  rcases c5 : (n1 == n2) with _ | _
  rotate_left
  · go_wp2_with fail
    go_ret
    exact ⟨rfl, bel⟩
  have Hc5 : Hid (n1 ≠ n2) := Lib.hid (beq_eq_false_iff_ne.1 c5)
  by_cases c6 : p < 1
  · go_wp2_with fail
    go_ret
    exact ⟨rfl, bel⟩
  have Hc6 : Hid (1 ≤ p) := Lib.hid (by omega)
  replace c6 : decide (p < 1) = false := decide_eq_false c6
  by_cases c7 : 65535 < p
  · go_wp2_with fail
    go_ret
    exact ⟨rfl, bel⟩
  have Hc7 : Hid (p ≤ 65535) := Lib.hid (by omega)
  replace c7 : decide (65535 < p) = false := decide_eq_false c7
  by_cases c8 : (40 : Int) < n
  · go_wp2_with fail
    go_ret
    exact ⟨rfl, bel⟩
  have Hc8 : Hid ((n : Int) ≤ 40) := Lib.hid (by omega)
  replace c8 : decide ((40 : Int) < n) = false := decide_eq_false c8
  have HN40 : Hid (n ≤ 40) := Lib.hid (by have := Hc8.out; omega)
  go_wp2_with fail
  have HLO_ := bel.size
  with_reducible refine (begun19 _).mono ?_
  rintro e w2 ⟨gn, gt, gq, rfl, hT, b2⟩
  replace ll := ll.below b2
  replace bel := bel.trans (b2.mono bel.size)
  clear b2
  replace hT : Np w.heap.size gn gt gq w2 nS0 nK0 := hT.lo_mono HLO_
  clear HLO_
  go_wp2_with fail
  go_loopg [13, 11, 12] (n) (fun gk s13 s11 s12 wr => ∃ k : Nat, gk = n - k ∧ k ≤ n ∧ Np w.heap.size gn gt gq wr (eA n1 n2 p k) nK0 ∧ s13 = .int .i64 (k : Int) ∧ s11 = .int .i64 (eX p k) ∧ s12 = .int .i64 (eY p k) ∧ Sle inf 1 wr (A) (n) (cp) (L) ∧ Below w.heap.size w wr)
  case atStart => exact ⟨0, Nat.sub_zero _, Nat.zero_le _, hT, rfl, rfl, rfl, ll, bel⟩
  case round =>
    clear hT ll bel
    obtain ⟨k, HGK, hkn, hT, rfl, rfl, rfl, ll, bel⟩ := hrel
    have HGK_ := Lib.hid HGK
    clear HGK
    by_cases h : (k : Int) < n
    rotate_left
    · have hkn2 : k = n := by omega
      replace h : decide ((k : Int) < n) = false := decide_eq_false h
      have hN_ : decide (k < n) = false := decide_eq_false (by omega)
      rcases Nat.eq_zero_or_pos n with hn0 | hn0
      · have hn1 : ((n : Int) == 0) = true := beq_iff_eq.2 (by omega)
        clear hn0 hkn2
        go_wp2_with fail
        go_ret
        exact ⟨rfl, bel⟩
      have hn1 : ((n : Int) == 0) = false := beq_eq_false_iff_ne.2 (by omega)
      have HN1 : Hid (1 ≤ k) := Lib.hid (by omega)
      clear hn0 hkn2
      go_wp2_with fail
      with_reducible refine (e_len _ hT HN1.out).mono ?_
      rintro e w3 ⟨rfl, hT_, f_, bb⟩
      clear hT
      have hT := hT_
      replace bel := bel.trans bb
      clear bb f_ hT_
      replace ll := HL0.out.below bel
      go_wp2_with fail
      go_ret
      exact ⟨rfl, bel⟩
    obtain ⟨x, hx⟩ : ∃ x, L[k]? = some x := ⟨_, List.getElem?_eq_getElem (by have := HN.out; omega)⟩
    have HX := Lib.hid hx
    clear hx
    have HK2 : Hid (k < n) := Lib.hid (by omega)
    have k0 : (0 : Int) ≤ k := by omega
    have k20 : (k : Int) < 40 := by have := HN40.out; omega
    obtain ⟨gI, oI, rfl⟩ := ll.place (by omega)
    go_wp2_with fail
    replace bel := bel.drew
    replace ll := ll.drew
    replace hT := np_drew hT
    refine wp_region_held_drew (S := fun W => Sle inf 1 W (some ⟨gI, oI, none⟩) (n) (cp) (L)) (by kernel_rfl) ll (fun hH => ?_)
    generalize wr.drew = w3 at bel ll hT hH ⊢
    refine wpAnyH_take (i := 0) (v := ?_) rfl (by kernel_rfl) (by kernel_rfl) (by kernel_rfl) (fun _ _ _ h => h) (Or.inl ⟨by rfl, ?_⟩) hH ?_
    rotate_left
    · ((intro W hW; clear hW; go_simp) <;> with_reducible rfl)
    simp only [Act.put, List.getElem_toArray, List.getElem_cons_zero, List.setIfInBounds_toArray, List.set_cons_zero, List.set_cons_succ]
    refine wpAnyH_take (i := 1) (v := ?_) rfl (by kernel_rfl) (by kernel_rfl) (by kernel_rfl) (fun _ _ _ h => h) (Or.inl ⟨by rfl, ?_⟩) hH ?_
    rotate_left
    · ((intro W hW; clear hW; go_simp) <;> with_reducible rfl)
    simp only [sq3, sq4]
    refine wpAnyH_take (i := 2) (v := ?_) rfl (by kernel_rfl) (by kernel_rfl) (by kernel_rfl) (fun _ _ _ h => h) (Or.inl ⟨by rfl, ?_⟩) hH ?_
    rotate_left
    · ((intro W hW; clear hW; go_simp) <;> with_reducible rfl)
    simp only [sq3, sq4]
    refine wpAnyH_take (i := 3) (v := ?_) rfl (by kernel_rfl) (by kernel_rfl) (by kernel_rfl) (fun _ _ _ h => h) (Or.inl ⟨by rfl, ?_⟩) hH ?_
    rotate_left
    · ((intro W hW; have hk := Sle.inc (i := k) (hW) HX.out; clear hW; go_simp) <;> with_reducible rfl)
    simp only [sq3, sq4]
    refine wpAnyH_take (i := 4) (v := ?_) rfl (by kernel_rfl) (by kernel_rfl) (by kernel_rfl) (fun _ _ _ h => h) (Or.inl ⟨by rfl, ?_⟩) hH ?_
    rotate_left
    · ((intro W hW; clear hW; go_simp) <;> with_reducible rfl)
    simp only [sq3, sq4]
    refine wpAnyH_take (i := 5) (v := ?_) rfl (by kernel_rfl) (by kernel_rfl) (by kernel_rfl) (fun _ _ _ h => h) (Or.inl ⟨by rfl, ?_⟩) hH ?_
    rotate_left
    · ((intro W hW; clear hW; go_simp) <;> with_reducible rfl)
    simp only [sq3, sq4]
    refine wpAnyH_take (i := 6) (v := ?_) rfl (by kernel_rfl) (by kernel_rfl) (by kernel_rfl) (fun _ _ _ h => h) (Or.inl ⟨by rfl, ?_⟩) hH ?_
    rotate_left
    · ((intro W hW; clear hW; go_simp) <;> with_reducible rfl)
    simp only [sq3, sq4]
    refine wpAnyH_take (i := 7) (v := ?_) rfl (by kernel_rfl) (by kernel_rfl) (by kernel_rfl) (fun _ _ _ h => h) (Or.inl ⟨by rfl, ?_⟩) hH ?_
    rotate_left
    · ((intro W hW; clear hW; go_simp) <;> with_reducible rfl)
    simp only [sq3, sq4]
    refine wpAnyH_take (i := 8) (v := ?_) rfl (by kernel_rfl) (by kernel_rfl) (by kernel_rfl) (fun _ _ _ h => h) (Or.inl ⟨by rfl, ?_⟩) hH ?_
    rotate_left
    · ((intro W hW; clear hW; go_simp) <;> with_reducible rfl)
    simp only [sq3, sq4]
    refine wpAnyH_take (i := 9) (v := ?_) rfl (by kernel_rfl) (by kernel_rfl) (by kernel_rfl) (fun _ _ _ h => h) (Or.inl ⟨by rfl, ?_⟩) hH ?_
    rotate_left
    · ((intro W hW; have hk := Sle.inc (i := k) (hW) HX.out; clear hW; go_simp) <;> with_reducible rfl)
    simp only [sq3, sq4]
    refine wpAnyH_take (i := 10) (v := ?_) rfl (by kernel_rfl) (by kernel_rfl) (by kernel_rfl) (fun _ _ _ h => h) (Or.inl ⟨by rfl, ?_⟩) hH ?_
    rotate_left
    · ((intro W hW; clear hW; go_simp) <;> with_reducible rfl)
    simp only [sq3, sq4]
    refine wpAnyH_take (i := 11) (v := ?_) rfl (by kernel_rfl) (by kernel_rfl) (by kernel_rfl) (fun _ _ _ h => h) (Or.inl ⟨by rfl, ?_⟩) hH ?_
    rotate_left
    · ((intro W hW; clear hW; go_simp) <;> with_reducible rfl)
    simp only [sq3, sq4]
    refine wpAnyH_ready (rs := [12]) (by kernel_rfl) (by simp) ?_
    refine AllReadyH.cons (o := _) rfl (fun K hK => ?_) AllReadyH.nil
    simp only [sq3]
    rw [if_pos (by rfl)]
    refine wp_new_a 35 rfl #[.int .u8 0, .int .u8 0, .int .u8 0, .int .u8 0] (by kernel_rfl) ?_
    intro g14 w4 ge hh bb
    have ap_tB := hT.ap ge
    have av_ll_tB := ll.av_new ge
    have otB := Nat.le_trans bel.size ge
    replace ll := ll.below bb
    replace hT := hT.below bb
    replace ap_tB := ap_tB.below bb
    replace bel := bel.trans (bb.mono bel.size)
    have htB := hh
    clear hh ge bb
    refine hK.out _ _ ll (fun hH5 => ?_)
    clear hK K
    simp only [sq4]
    refine wpAnyH_ready (rs := [13]) (by kernel_rfl) (by simp) ?_
    refine AllReadyH.cons (o := _) rfl (fun K hK => ?_) AllReadyH.nil
    simp only [sq3]
    rw [if_pos (by rfl)]
    refine wp_store_blk 35 (.tmp 14) (.tmp 78) rfl g14 rfl _ rfl _ 35 htB (by rfl) (by kernel_rfl) (by kernel_rfl) ?_
    intro w6 hq gr
    replace ll := ll.away av_ll_tB gr
    replace hT := hT.away ap_tB gr htB
    replace ap_tB := ap_tB.grown ap_tB gr
    replace bel := below_grown bel gr otB bel.size
    clear htB
    have htB := hq
    clear hq gr
    refine hK.out _ _ ll (fun hH7 => ?_)
    clear hK K
    simp only [Act.put]
    refine wpAnyH_done (by kernel_rfl) ?_ _
    go_wp2_with fail
    go_cut [15, 16] from 9999 (fun s15 s16 W => ∃ g15 : Nat, ∃ Auo : Option Addr, ∃ cuo : Nat, ∃ Aub : Option Addr, ∃ cub : Nat, ∃ Apo : Option Addr, ∃ cpo : Nat, ∃ Apb : Option Addr, ∃ cpb : Nat, s15 = .pointer (some ⟨g15, 0, none⟩) ∧ s16 = .int .i64 0 ∧ W.heap[g14]? = some (.cells #[.int .u8 8, .int .u8 8, .int .u8 (x / 256 % 256), .int .u8 (x % 256)] 35 (0, 0)) ∧ W.heap[g15]? = some (.cells #[.int .i64 0, .int .i64 0, .int .i64 0, .int .i64 0, .int .i64 64, .int .i64 17, .int .u8 203, .int .u8 0, .int .u8 113, .int .u8 7, .int .u8 8, .int .u8 8, .int .u8 ((byteOf (x / 256)).toNat : Int), .int .u8 ((byteOf x).toNat : Int), .slice Apo 0 cpo, .slice Apb 9 cpb] 38 (0, 0)) ∧ w.heap.size ≤ g15 ∧ Hid (g15 ≠ g14) ∧ Sle inf 1 W (some ⟨gI, oI, none⟩) (n) (cp) (L) ∧ Av (some ⟨gI, oI, none⟩) (n) g15 ∧ Av (some ⟨gI, oI, none⟩) (n) g14 ∧ Sl W (Auo) (0) (cuo) ([]) ∧ Av (Auo) (0) g15 ∧ Av (Auo) (0) g14 ∧ Sl W (Aub) (9) (cub) (udBytes 10 0 0 (byteOf n1) 8 8 (byteOf (x / 256)) (byteOf x) p 53 [120]) ∧ Av (Aub) (9) g15 ∧ Av (Aub) (9) g14 ∧ Sl W (Apo) (0) (cpo) ([]) ∧ Av (Apo) (0) g15 ∧ Av (Apo) (0) g14 ∧ Sl W (Apb) (9) (cpb) (udBytes 203 0 113 7 8 8 (byteOf (x / 256)) (byteOf x) (nQ p) 53 [120]) ∧ Av (Apb) (9) g15 ∧ Av (Apb) (9) g14 ∧ Np w.heap.size gn gt gq W (eB n1 n2 p k) nK0 ∧ Anp gn gt gq W g14 ∧ An gn gt gq W (Auo) (0) ∧ An gn gt gq W (Aub) (9) ∧ An gn gt gq W (Apo) (0) ∧ An gn gt gq W (Apb) (9) ∧ Anp gn gt gq W g15 ∧ Below w.heap.size w W)
    case first =>
      replace bel := bel.drew
      replace htB : w6.drew.heap[g14]? = _ := htB
      replace ll := ll.drew
      replace hT := np_drew hT
      replace ap_tB := anp_drew ap_tB
      refine wp_region_held_drew (S := fun W => W.heap[g14]? = some (.cells #[.int .u8 8, .int .u8 8, .int .u8 (x / 256 % 256), .int .u8 (x % 256)] 35 (0, 0))) (by kernel_rfl) htB (fun hH => ?_)
      generalize w6.drew = w8 at bel htB ll hT ap_tB hH ⊢
      refine wpAnyH_take (i := 0) (v := ?_) rfl (by kernel_rfl) (by kernel_rfl) (by kernel_rfl) (fun _ _ _ h => h) (Or.inl ⟨by rfl, ?_⟩) hH ?_
      rotate_left
      · ((intro W hW; clear hW; go_simp) <;> with_reducible rfl)
      simp only [Act.put, List.getElem_toArray, List.getElem_cons_zero, List.setIfInBounds_toArray, List.set_cons_zero, List.set_cons_succ]
      refine wpAnyH_take (i := 1) (v := ?_) rfl (by kernel_rfl) (by kernel_rfl) (by kernel_rfl) (fun _ _ _ h => h) (Or.inl ⟨by rfl, ?_⟩) hH ?_
      rotate_left
      · ((intro W hW; clear hW; go_simp) <;> with_reducible rfl)
      simp only [sq3, sq4]
      refine wpAnyH_take (i := 3) (v := ?_) rfl (by kernel_rfl) (by kernel_rfl) (by kernel_rfl) (fun _ _ _ h => h) (Or.inl ⟨by rfl, ?_⟩) hH ?_
      rotate_left
      · ((intro W hW; clear hW; go_simp) <;> with_reducible rfl)
      simp only [sq3, sq4]
      refine wpAnyH_take (i := 4) (v := .agg #[.int .u8 8, .int .u8 8, .int .u8 (x / 256 % 256), .int .u8 (x % 256)]) rfl (by kernel_rfl) (by kernel_rfl) (by kernel_rfl) (fun _ _ _ h => h) (yieldsIf_load_part (by kernel_rfl) 35 _ rfl g14 0 4 rfl _ 35 (0, 0) (fun W hW => hW) _ rfl _ Tryz.underlying35 rfl (by kernel_rfl)) hH ?_
      simp only [sq3, sq4]
      refine wpAnyH_ready (rs := [2, 11]) (by kernel_rfl) (by simp) ?_
      refine AllReadyH.cons (o := _) rfl (fun K hK => ?_) (AllReadyH.cons (o := _) rfl (fun K hK => ?_) AllReadyH.nil)
      rotate_left
      · simp only [sq3]
        rw [if_pos (by rfl)]
        refine wp_new_a 38 rfl #[.int .i64 0, .int .i64 0, .int .i64 0, .int .i64 0, .int .i64 0, .int .i64 0, .int .u8 0, .int .u8 0, .int .u8 0, .int .u8 0, .int .u8 0, .int .u8 0, .int .u8 0, .int .u8 0, .slice none 0 0, .slice none 0 0] (by kernel_rfl) ?_
        intro g15 w9 ge hh bb
        have ap_pB := hT.ap ge
        have d_tB_pB := ne_new (hlt htB) ge
        have av_ll_pB := ll.av_new ge
        have opB := Nat.le_trans bel.size ge
        replace htB := blk_u htB bb
        replace ll := ll.below bb
        replace hT := hT.below bb
        replace ap_tB := ap_tB.below bb
        replace ap_pB := ap_pB.below bb
        replace bel := bel.trans (bb.mono bel.size)
        have hpB := hh
        clear hh ge bb
        refine hK.out _ _ htB (fun hH10 => ?_)
        clear hK K
        simp only [sq4]
        refine wpAnyH_ready (rs := [2]) (by kernel_rfl) (by simp) ?_
        refine AllReadyH.cons (o := _) rfl (fun K hK => ?_) AllReadyH.nil
        simp only [sq3]
        go_simp
        with_reducible refine (at19 n1 _).mono ?_
        rintro e w11 ⟨rfl, b11⟩
        dsimp only
        replace htB := blk_u htB b11
        replace hpB := blk_u hpB b11
        replace ll := ll.below b11
        replace hT := hT.below b11
        replace ap_tB := ap_tB.below b11
        replace ap_pB := ap_pB.below b11
        replace bel := bel.trans (b11.mono bel.size)
        clear b11
        refine hK.out _ _ htB (fun hH12 => ?_)
        clear hK K
        refine wpAnyH_ready (rs := [5]) (by kernel_rfl) (by simp) ?_
        refine AllReadyH.cons (o := _) rfl (fun K hK => ?_) AllReadyH.nil
        simp only [sq3]
        go_simp
        with_reducible refine (dg_peer n1 p x _ (portOk_of (Int.le_trans (by decide) Hc6.out) Hc7.out)).mono ?_
        rintro e w13 ⟨Auo, cuo, Aub, cub, rfl, uo, ub, fuo, fub, b13⟩
        dsimp only
        have av_uo_tB := fuo.av (hlt htB)
        have av_uo_pB := fuo.av (hlt hpB)
        have av_ub_tB := fub.av (hlt htB)
        have av_ub_pB := fub.av (hlt hpB)
        have an_uo := hT.an fuo
        have an_ub := hT.an fub
        replace htB := blk_u htB b13
        replace hpB := blk_u hpB b13
        replace ll := ll.below b13
        replace hT := hT.below b13
        replace ap_tB := ap_tB.below b13
        replace ap_pB := ap_pB.below b13
        replace an_uo := an_uo.below b13
        replace an_ub := an_ub.below b13
        replace bel := bel.trans (b13.mono bel.size)
        clear b13
        replace uo : Sl w13 (Auo) (0) (cuo) ([]) := uo
        replace ub : Sl w13 (Aub) (9) (cub) (udBytes 10 0 0 (byteOf n1) 8 8 (byteOf (x / 256)) (byteOf x) p 53 [120]) := ub
        refine hK.out _ _ htB (fun hH14 => ?_)
        clear hK K
        refine wpAnyH_ready (rs := [6]) (by kernel_rfl) (by simp) ?_
        refine AllReadyH.cons (o := _) rfl (fun K hK => ?_) AllReadyH.nil
        simp only [sq3]
        go_simp
        with_reducible refine (wan19 _).mono ?_
        rintro e w15 ⟨rfl, b15⟩
        dsimp only
        replace htB := blk_u htB b15
        replace hpB := blk_u hpB b15
        replace ll := ll.below b15
        replace uo := uo.below b15
        replace ub := ub.below b15
        replace hT := hT.below b15
        replace ap_tB := ap_tB.below b15
        replace ap_pB := ap_pB.below b15
        replace an_uo := an_uo.below b15
        replace an_ub := an_ub.below b15
        replace bel := bel.trans (b15.mono bel.size)
        clear b15
        refine hK.out _ _ htB (fun hH16 => ?_)
        clear hK K
        refine wpAnyH_ready (rs := [7]) (by kernel_rfl) (by simp) ?_
        refine AllReadyH.cons (o := _) rfl (fun K hK => ?_) AllReadyH.nil
        simp only [sq3]
        go_simp
        have lt_tB := hlt htB
        have lt_pB := hlt hpB
        with_reducible refine (e_o1 _ hT uo ub Hc1.out Hc3.out Hc2.out Hc4.out Hc5.out Hc6.out Hc7.out).mono ?_
        rintro e w17 ⟨Apo, cpo, Apb, cpb, rfl, hT_, f_, bb, po, pb, an_po, an_pb, fpo, fpb⟩
        dsimp only
        have x_ := f_ _ _ _ _ htB ap_tB
        replace htB := x_.1
        replace ap_tB := x_.2
        clear x_
        have x_ := f_ _ _ _ _ hpB ap_pB
        replace hpB := x_.1
        replace ap_pB := x_.2
        clear x_
        have x_ := f_.sl uo an_uo
        replace uo := x_.1
        replace an_uo := x_.2
        clear x_
        have x_ := f_.sl ub an_ub
        replace ub := x_.1
        replace an_ub := x_.2
        clear x_
        clear hT
        have hT := hT_
        replace bel := bel.trans bb
        clear bb f_ hT_
        replace ll := HL0.out.below bel
        have av_po_tB := fpo.av lt_tB
        have av_po_pB := fpo.av lt_pB
        have av_pb_tB := fpb.av lt_tB
        have av_pb_pB := fpb.av lt_pB
        clear lt_tB lt_pB
        clear fpo fpb
        refine hK.out _ _ htB (fun hH18 => ?_)
        clear hK K
        refine wpAnyH_take (i := 8) (v := ?_) rfl (by kernel_rfl) (by kernel_rfl) (by kernel_rfl) (fun _ _ _ h => h) (Or.inl ⟨by rfl, ?_⟩) hH18 ?_
        rotate_left
        · ((intro W hW; clear hW; go_simp) <;> with_reducible rfl)
        simp only [sq3, sq4]
        refine wpAnyH_take (i := 9) (v := ?_) rfl (by kernel_rfl) (by kernel_rfl) (by kernel_rfl) (fun _ _ _ h => h) (Or.inl ⟨by rfl, ?_⟩) hH18 ?_
        rotate_left
        · ((intro W hW; clear hW; go_simp) <;> with_reducible rfl)
        simp only [sq3, sq4]
        refine wpAnyH_take (i := 10) (v := ?_) rfl (by kernel_rfl) (by kernel_rfl) (by kernel_rfl) (fun _ _ _ h => h) (Or.inl ⟨by rfl, ?_⟩) hH18 ?_
        rotate_left
        · ((intro W hW; clear hW; go_simp) <;> with_reducible rfl)
        simp only [sq3, sq4]
        refine wpAnyH_ready (rs := [12]) (by kernel_rfl) (by simp) ?_
        refine AllReadyH.cons (o := _) rfl (fun K hK => ?_) AllReadyH.nil
        simp only [sq3]
        rw [if_pos (by rfl)]
        refine wp_store_blk 38 (.tmp 15) (.tmp 88) rfl g15 rfl _ rfl _ 38 hpB (by rfl) (by kernel_rfl) (by kernel_rfl) ?_
        intro w19 hq gr
        replace ll := ll.away av_ll_pB gr
        replace uo := uo.away av_uo_pB gr
        replace ub := ub.away av_ub_pB gr
        replace po := po.away av_po_pB gr
        replace pb := pb.away av_pb_pB gr
        replace htB := blk_a htB gr d_tB_pB
        replace hT := hT.away ap_pB gr hpB
        replace ap_tB := ap_tB.grown ap_pB gr
        replace ap_pB := ap_pB.grown ap_pB gr
        replace an_uo := an_uo.grown ap_pB gr
        replace an_ub := an_ub.grown ap_pB gr
        replace an_po := an_po.grown ap_pB gr
        replace an_pb := an_pb.grown ap_pB gr
        replace bel := below_grown bel gr opB bel.size
        clear hpB
        have hpB := hq
        clear hq gr
        refine hK.out _ _ htB (fun hH20 => ?_)
        clear hK K
        simp only [Act.put]
        refine wpAnyH_take (i := 13) (v := ?_) rfl (by kernel_rfl) (by kernel_rfl) (by kernel_rfl) (fun _ _ _ h => h) (Or.inl ⟨by rfl, ?_⟩) hH20 ?_
        rotate_left
        · ((intro W hW; clear hW; go_simp) <;> with_reducible rfl)
        simp only [sq3, sq4]
        refine wpAnyH_done (by kernel_rfl) ?_ _
        go_wp2_with fail
        go_meet
        case rel => exact ⟨g15, Auo, cuo, Aub, cub, Apo, cpo, Apb, cpb, rfl, rfl, htB, hpB, opB, (ne_symm d_tB_pB), ll, av_ll_pB, av_ll_tB, uo, av_uo_pB, av_uo_tB, ub, av_ub_pB, av_ub_tB, po, av_po_pB, av_po_tB, pb, av_pb_pB, av_pb_tB, hT, ap_tB, an_uo, an_ub, an_po, an_pb, ap_pB, bel⟩
      simp only [sq3]
      go_simp
      with_reducible refine (at19 n1 _).mono ?_
      rintro e w9 ⟨rfl, b9⟩
      dsimp only
      replace htB := blk_u htB b9
      replace ll := ll.below b9
      replace hT := hT.below b9
      replace ap_tB := ap_tB.below b9
      replace bel := bel.trans (b9.mono bel.size)
      clear b9
      refine hK.out _ _ htB (fun hH10 => ?_)
      clear hK K
      refine wpAnyH_ready (rs := [5, 11]) (by kernel_rfl) (by simp) ?_
      refine AllReadyH.cons (o := _) rfl (fun K hK => ?_) (AllReadyH.cons (o := _) rfl (fun K hK => ?_) AllReadyH.nil)
      rotate_left
      · simp only [sq3]
        rw [if_pos (by rfl)]
        refine wp_new_a 38 rfl #[.int .i64 0, .int .i64 0, .int .i64 0, .int .i64 0, .int .i64 0, .int .i64 0, .int .u8 0, .int .u8 0, .int .u8 0, .int .u8 0, .int .u8 0, .int .u8 0, .int .u8 0, .int .u8 0, .slice none 0 0, .slice none 0 0] (by kernel_rfl) ?_
        intro g15 w11 ge hh bb
        have ap_pB := hT.ap ge
        have d_tB_pB := ne_new (hlt htB) ge
        have av_ll_pB := ll.av_new ge
        have opB := Nat.le_trans bel.size ge
        replace htB := blk_u htB bb
        replace ll := ll.below bb
        replace hT := hT.below bb
        replace ap_tB := ap_tB.below bb
        replace ap_pB := ap_pB.below bb
        replace bel := bel.trans (bb.mono bel.size)
        have hpB := hh
        clear hh ge bb
        refine hK.out _ _ htB (fun hH12 => ?_)
        clear hK K
        simp only [sq4]
        refine wpAnyH_ready (rs := [5]) (by kernel_rfl) (by simp) ?_
        refine AllReadyH.cons (o := _) rfl (fun K hK => ?_) AllReadyH.nil
        simp only [sq3]
        go_simp
        with_reducible refine (dg_peer n1 p x _ (portOk_of (Int.le_trans (by decide) Hc6.out) Hc7.out)).mono ?_
        rintro e w13 ⟨Auo, cuo, Aub, cub, rfl, uo, ub, fuo, fub, b13⟩
        dsimp only
        have av_uo_tB := fuo.av (hlt htB)
        have av_uo_pB := fuo.av (hlt hpB)
        have av_ub_tB := fub.av (hlt htB)
        have av_ub_pB := fub.av (hlt hpB)
        have an_uo := hT.an fuo
        have an_ub := hT.an fub
        replace htB := blk_u htB b13
        replace hpB := blk_u hpB b13
        replace ll := ll.below b13
        replace hT := hT.below b13
        replace ap_tB := ap_tB.below b13
        replace ap_pB := ap_pB.below b13
        replace an_uo := an_uo.below b13
        replace an_ub := an_ub.below b13
        replace bel := bel.trans (b13.mono bel.size)
        clear b13
        replace uo : Sl w13 (Auo) (0) (cuo) ([]) := uo
        replace ub : Sl w13 (Aub) (9) (cub) (udBytes 10 0 0 (byteOf n1) 8 8 (byteOf (x / 256)) (byteOf x) p 53 [120]) := ub
        refine hK.out _ _ htB (fun hH14 => ?_)
        clear hK K
        refine wpAnyH_ready (rs := [6]) (by kernel_rfl) (by simp) ?_
        refine AllReadyH.cons (o := _) rfl (fun K hK => ?_) AllReadyH.nil
        simp only [sq3]
        go_simp
        with_reducible refine (wan19 _).mono ?_
        rintro e w15 ⟨rfl, b15⟩
        dsimp only
        replace htB := blk_u htB b15
        replace hpB := blk_u hpB b15
        replace ll := ll.below b15
        replace uo := uo.below b15
        replace ub := ub.below b15
        replace hT := hT.below b15
        replace ap_tB := ap_tB.below b15
        replace ap_pB := ap_pB.below b15
        replace an_uo := an_uo.below b15
        replace an_ub := an_ub.below b15
        replace bel := bel.trans (b15.mono bel.size)
        clear b15
        refine hK.out _ _ htB (fun hH16 => ?_)
        clear hK K
        refine wpAnyH_ready (rs := [7]) (by kernel_rfl) (by simp) ?_
        refine AllReadyH.cons (o := _) rfl (fun K hK => ?_) AllReadyH.nil
        simp only [sq3]
        go_simp
        have lt_tB := hlt htB
        have lt_pB := hlt hpB
        with_reducible refine (e_o1 _ hT uo ub Hc1.out Hc3.out Hc2.out Hc4.out Hc5.out Hc6.out Hc7.out).mono ?_
        rintro e w17 ⟨Apo, cpo, Apb, cpb, rfl, hT_, f_, bb, po, pb, an_po, an_pb, fpo, fpb⟩
        dsimp only
        have x_ := f_ _ _ _ _ htB ap_tB
        replace htB := x_.1
        replace ap_tB := x_.2
        clear x_
        have x_ := f_ _ _ _ _ hpB ap_pB
        replace hpB := x_.1
        replace ap_pB := x_.2
        clear x_
        have x_ := f_.sl uo an_uo
        replace uo := x_.1
        replace an_uo := x_.2
        clear x_
        have x_ := f_.sl ub an_ub
        replace ub := x_.1
        replace an_ub := x_.2
        clear x_
        clear hT
        have hT := hT_
        replace bel := bel.trans bb
        clear bb f_ hT_
        replace ll := HL0.out.below bel
        have av_po_tB := fpo.av lt_tB
        have av_po_pB := fpo.av lt_pB
        have av_pb_tB := fpb.av lt_tB
        have av_pb_pB := fpb.av lt_pB
        clear lt_tB lt_pB
        clear fpo fpb
        refine hK.out _ _ htB (fun hH18 => ?_)
        clear hK K
        refine wpAnyH_take (i := 8) (v := ?_) rfl (by kernel_rfl) (by kernel_rfl) (by kernel_rfl) (fun _ _ _ h => h) (Or.inl ⟨by rfl, ?_⟩) hH18 ?_
        rotate_left
        · ((intro W hW; clear hW; go_simp) <;> with_reducible rfl)
        simp only [sq3, sq4]
        refine wpAnyH_take (i := 9) (v := ?_) rfl (by kernel_rfl) (by kernel_rfl) (by kernel_rfl) (fun _ _ _ h => h) (Or.inl ⟨by rfl, ?_⟩) hH18 ?_
        rotate_left
        · ((intro W hW; clear hW; go_simp) <;> with_reducible rfl)
        simp only [sq3, sq4]
        refine wpAnyH_take (i := 10) (v := ?_) rfl (by kernel_rfl) (by kernel_rfl) (by kernel_rfl) (fun _ _ _ h => h) (Or.inl ⟨by rfl, ?_⟩) hH18 ?_
        rotate_left
        · ((intro W hW; clear hW; go_simp) <;> with_reducible rfl)
        simp only [sq3, sq4]
        refine wpAnyH_ready (rs := [12]) (by kernel_rfl) (by simp) ?_
        refine AllReadyH.cons (o := _) rfl (fun K hK => ?_) AllReadyH.nil
        simp only [sq3]
        rw [if_pos (by rfl)]
        refine wp_store_blk 38 (.tmp 15) (.tmp 88) rfl g15 rfl _ rfl _ 38 hpB (by rfl) (by kernel_rfl) (by kernel_rfl) ?_
        intro w19 hq gr
        replace ll := ll.away av_ll_pB gr
        replace uo := uo.away av_uo_pB gr
        replace ub := ub.away av_ub_pB gr
        replace po := po.away av_po_pB gr
        replace pb := pb.away av_pb_pB gr
        replace htB := blk_a htB gr d_tB_pB
        replace hT := hT.away ap_pB gr hpB
        replace ap_tB := ap_tB.grown ap_pB gr
        replace ap_pB := ap_pB.grown ap_pB gr
        replace an_uo := an_uo.grown ap_pB gr
        replace an_ub := an_ub.grown ap_pB gr
        replace an_po := an_po.grown ap_pB gr
        replace an_pb := an_pb.grown ap_pB gr
        replace bel := below_grown bel gr opB bel.size
        clear hpB
        have hpB := hq
        clear hq gr
        refine hK.out _ _ htB (fun hH20 => ?_)
        clear hK K
        simp only [Act.put]
        refine wpAnyH_take (i := 13) (v := ?_) rfl (by kernel_rfl) (by kernel_rfl) (by kernel_rfl) (fun _ _ _ h => h) (Or.inl ⟨by rfl, ?_⟩) hH20 ?_
        rotate_left
        · ((intro W hW; clear hW; go_simp) <;> with_reducible rfl)
        simp only [sq3, sq4]
        refine wpAnyH_done (by kernel_rfl) ?_ _
        go_wp2_with fail
        go_meet
        case rel => exact ⟨g15, Auo, cuo, Aub, cub, Apo, cpo, Apb, cpb, rfl, rfl, htB, hpB, opB, (ne_symm d_tB_pB), ll, av_ll_pB, av_ll_tB, uo, av_uo_pB, av_uo_tB, ub, av_ub_pB, av_ub_tB, po, av_po_pB, av_po_tB, pb, av_pb_pB, av_pb_tB, hT, ap_tB, an_uo, an_ub, an_po, an_pb, ap_pB, bel⟩
      simp only [sq3]
      go_simp
      with_reducible refine (dg_peer n1 p x _ (portOk_of (Int.le_trans (by decide) Hc6.out) Hc7.out)).mono ?_
      rintro e w11 ⟨Auo, cuo, Aub, cub, rfl, uo, ub, fuo, fub, b11⟩
      dsimp only
      have av_uo_tB := fuo.av (hlt htB)
      have av_ub_tB := fub.av (hlt htB)
      have an_uo := hT.an fuo
      have an_ub := hT.an fub
      replace htB := blk_u htB b11
      replace ll := ll.below b11
      replace hT := hT.below b11
      replace ap_tB := ap_tB.below b11
      replace an_uo := an_uo.below b11
      replace an_ub := an_ub.below b11
      replace bel := bel.trans (b11.mono bel.size)
      clear b11
      replace uo : Sl w11 (Auo) (0) (cuo) ([]) := uo
      replace ub : Sl w11 (Aub) (9) (cub) (udBytes 10 0 0 (byteOf n1) 8 8 (byteOf (x / 256)) (byteOf x) p 53 [120]) := ub
      refine hK.out _ _ htB (fun hH12 => ?_)
      clear hK K
      refine wpAnyH_ready (rs := [6, 11]) (by kernel_rfl) (by simp) ?_
      refine AllReadyH.cons (o := _) rfl (fun K hK => ?_) (AllReadyH.cons (o := _) rfl (fun K hK => ?_) AllReadyH.nil)
      rotate_left
      · simp only [sq3]
        rw [if_pos (by rfl)]
        refine wp_new_a 38 rfl #[.int .i64 0, .int .i64 0, .int .i64 0, .int .i64 0, .int .i64 0, .int .i64 0, .int .u8 0, .int .u8 0, .int .u8 0, .int .u8 0, .int .u8 0, .int .u8 0, .int .u8 0, .int .u8 0, .slice none 0 0, .slice none 0 0] (by kernel_rfl) ?_
        intro g15 w13 ge hh bb
        have ap_pB := hT.ap ge
        have d_tB_pB := ne_new (hlt htB) ge
        have av_ll_pB := ll.av_new ge
        have av_uo_pB := uo.av_new ge
        have av_ub_pB := ub.av_new ge
        have opB := Nat.le_trans bel.size ge
        replace htB := blk_u htB bb
        replace ll := ll.below bb
        replace uo := uo.below bb
        replace ub := ub.below bb
        replace hT := hT.below bb
        replace ap_tB := ap_tB.below bb
        replace an_uo := an_uo.below bb
        replace an_ub := an_ub.below bb
        replace ap_pB := ap_pB.below bb
        replace bel := bel.trans (bb.mono bel.size)
        have hpB := hh
        clear hh ge bb
        refine hK.out _ _ htB (fun hH14 => ?_)
        clear hK K
        simp only [sq4]
        refine wpAnyH_ready (rs := [6]) (by kernel_rfl) (by simp) ?_
        refine AllReadyH.cons (o := _) rfl (fun K hK => ?_) AllReadyH.nil
        simp only [sq3]
        go_simp
        with_reducible refine (wan19 _).mono ?_
        rintro e w15 ⟨rfl, b15⟩
        dsimp only
        replace htB := blk_u htB b15
        replace hpB := blk_u hpB b15
        replace ll := ll.below b15
        replace uo := uo.below b15
        replace ub := ub.below b15
        replace hT := hT.below b15
        replace ap_tB := ap_tB.below b15
        replace an_uo := an_uo.below b15
        replace an_ub := an_ub.below b15
        replace ap_pB := ap_pB.below b15
        replace bel := bel.trans (b15.mono bel.size)
        clear b15
        refine hK.out _ _ htB (fun hH16 => ?_)
        clear hK K
        refine wpAnyH_ready (rs := [7]) (by kernel_rfl) (by simp) ?_
        refine AllReadyH.cons (o := _) rfl (fun K hK => ?_) AllReadyH.nil
        simp only [sq3]
        go_simp
        have lt_tB := hlt htB
        have lt_pB := hlt hpB
        with_reducible refine (e_o1 _ hT uo ub Hc1.out Hc3.out Hc2.out Hc4.out Hc5.out Hc6.out Hc7.out).mono ?_
        rintro e w17 ⟨Apo, cpo, Apb, cpb, rfl, hT_, f_, bb, po, pb, an_po, an_pb, fpo, fpb⟩
        dsimp only
        have x_ := f_ _ _ _ _ htB ap_tB
        replace htB := x_.1
        replace ap_tB := x_.2
        clear x_
        have x_ := f_ _ _ _ _ hpB ap_pB
        replace hpB := x_.1
        replace ap_pB := x_.2
        clear x_
        have x_ := f_.sl uo an_uo
        replace uo := x_.1
        replace an_uo := x_.2
        clear x_
        have x_ := f_.sl ub an_ub
        replace ub := x_.1
        replace an_ub := x_.2
        clear x_
        clear hT
        have hT := hT_
        replace bel := bel.trans bb
        clear bb f_ hT_
        replace ll := HL0.out.below bel
        have av_po_tB := fpo.av lt_tB
        have av_po_pB := fpo.av lt_pB
        have av_pb_tB := fpb.av lt_tB
        have av_pb_pB := fpb.av lt_pB
        clear lt_tB lt_pB
        clear fpo fpb
        refine hK.out _ _ htB (fun hH18 => ?_)
        clear hK K
        refine wpAnyH_take (i := 8) (v := ?_) rfl (by kernel_rfl) (by kernel_rfl) (by kernel_rfl) (fun _ _ _ h => h) (Or.inl ⟨by rfl, ?_⟩) hH18 ?_
        rotate_left
        · ((intro W hW; clear hW; go_simp) <;> with_reducible rfl)
        simp only [sq3, sq4]
        refine wpAnyH_take (i := 9) (v := ?_) rfl (by kernel_rfl) (by kernel_rfl) (by kernel_rfl) (fun _ _ _ h => h) (Or.inl ⟨by rfl, ?_⟩) hH18 ?_
        rotate_left
        · ((intro W hW; clear hW; go_simp) <;> with_reducible rfl)
        simp only [sq3, sq4]
        refine wpAnyH_take (i := 10) (v := ?_) rfl (by kernel_rfl) (by kernel_rfl) (by kernel_rfl) (fun _ _ _ h => h) (Or.inl ⟨by rfl, ?_⟩) hH18 ?_
        rotate_left
        · ((intro W hW; clear hW; go_simp) <;> with_reducible rfl)
        simp only [sq3, sq4]
        refine wpAnyH_ready (rs := [12]) (by kernel_rfl) (by simp) ?_
        refine AllReadyH.cons (o := _) rfl (fun K hK => ?_) AllReadyH.nil
        simp only [sq3]
        rw [if_pos (by rfl)]
        refine wp_store_blk 38 (.tmp 15) (.tmp 88) rfl g15 rfl _ rfl _ 38 hpB (by rfl) (by kernel_rfl) (by kernel_rfl) ?_
        intro w19 hq gr
        replace ll := ll.away av_ll_pB gr
        replace uo := uo.away av_uo_pB gr
        replace ub := ub.away av_ub_pB gr
        replace po := po.away av_po_pB gr
        replace pb := pb.away av_pb_pB gr
        replace htB := blk_a htB gr d_tB_pB
        replace hT := hT.away ap_pB gr hpB
        replace ap_tB := ap_tB.grown ap_pB gr
        replace an_uo := an_uo.grown ap_pB gr
        replace an_ub := an_ub.grown ap_pB gr
        replace ap_pB := ap_pB.grown ap_pB gr
        replace an_po := an_po.grown ap_pB gr
        replace an_pb := an_pb.grown ap_pB gr
        replace bel := below_grown bel gr opB bel.size
        clear hpB
        have hpB := hq
        clear hq gr
        refine hK.out _ _ htB (fun hH20 => ?_)
        clear hK K
        simp only [Act.put]
        refine wpAnyH_take (i := 13) (v := ?_) rfl (by kernel_rfl) (by kernel_rfl) (by kernel_rfl) (fun _ _ _ h => h) (Or.inl ⟨by rfl, ?_⟩) hH20 ?_
        rotate_left
        · ((intro W hW; clear hW; go_simp) <;> with_reducible rfl)
        simp only [sq3, sq4]
        refine wpAnyH_done (by kernel_rfl) ?_ _
        go_wp2_with fail
        go_meet
        case rel => exact ⟨g15, Auo, cuo, Aub, cub, Apo, cpo, Apb, cpb, rfl, rfl, htB, hpB, opB, (ne_symm d_tB_pB), ll, av_ll_pB, av_ll_tB, uo, av_uo_pB, av_uo_tB, ub, av_ub_pB, av_ub_tB, po, av_po_pB, av_po_tB, pb, av_pb_pB, av_pb_tB, hT, ap_tB, an_uo, an_ub, an_po, an_pb, ap_pB, bel⟩
      simp only [sq3]
      go_simp
      with_reducible refine (wan19 _).mono ?_
      rintro e w13 ⟨rfl, b13⟩
      dsimp only
      replace htB := blk_u htB b13
      replace ll := ll.below b13
      replace uo := uo.below b13
      replace ub := ub.below b13
      replace hT := hT.below b13
      replace ap_tB := ap_tB.below b13
      replace an_uo := an_uo.below b13
      replace an_ub := an_ub.below b13
      replace bel := bel.trans (b13.mono bel.size)
      clear b13
      refine hK.out _ _ htB (fun hH14 => ?_)
      clear hK K
      refine wpAnyH_ready (rs := [7, 11]) (by kernel_rfl) (by simp) ?_
      refine AllReadyH.cons (o := _) rfl (fun K hK => ?_) (AllReadyH.cons (o := _) rfl (fun K hK => ?_) AllReadyH.nil)
      · simp only [sq3]
        go_simp
        have lt_tB := hlt htB
        with_reducible refine (e_o1 _ hT uo ub Hc1.out Hc3.out Hc2.out Hc4.out Hc5.out Hc6.out Hc7.out).mono ?_
        rintro e w15 ⟨Apo, cpo, Apb, cpb, rfl, hT_, f_, bb, po, pb, an_po, an_pb, fpo, fpb⟩
        dsimp only
        have x_ := f_ _ _ _ _ htB ap_tB
        replace htB := x_.1
        replace ap_tB := x_.2
        clear x_
        have x_ := f_.sl uo an_uo
        replace uo := x_.1
        replace an_uo := x_.2
        clear x_
        have x_ := f_.sl ub an_ub
        replace ub := x_.1
        replace an_ub := x_.2
        clear x_
        clear hT
        have hT := hT_
        replace bel := bel.trans bb
        clear bb f_ hT_
        replace ll := HL0.out.below bel
        have av_po_tB := fpo.av lt_tB
        have av_pb_tB := fpb.av lt_tB
        clear lt_tB
        clear fpo fpb
        refine hK.out _ _ htB (fun hH16 => ?_)
        clear hK K
        refine wpAnyH_take (i := 8) (v := ?_) rfl (by kernel_rfl) (by kernel_rfl) (by kernel_rfl) (fun _ _ _ h => h) (Or.inl ⟨by rfl, ?_⟩) hH16 ?_
        rotate_left
        · ((intro W hW; clear hW; go_simp) <;> with_reducible rfl)
        simp only [sq3, sq4]
        refine wpAnyH_take (i := 9) (v := ?_) rfl (by kernel_rfl) (by kernel_rfl) (by kernel_rfl) (fun _ _ _ h => h) (Or.inl ⟨by rfl, ?_⟩) hH16 ?_
        rotate_left
        · ((intro W hW; clear hW; go_simp) <;> with_reducible rfl)
        simp only [sq3, sq4]
        refine wpAnyH_take (i := 10) (v := ?_) rfl (by kernel_rfl) (by kernel_rfl) (by kernel_rfl) (fun _ _ _ h => h) (Or.inl ⟨by rfl, ?_⟩) hH16 ?_
        rotate_left
        · ((intro W hW; clear hW; go_simp) <;> with_reducible rfl)
        simp only [sq3, sq4]
        refine wpAnyH_ready (rs := [11]) (by kernel_rfl) (by simp) ?_
        refine AllReadyH.cons (o := _) rfl (fun K hK => ?_) AllReadyH.nil
        simp only [sq3]
        rw [if_pos (by rfl)]
        refine wp_new_a 38 rfl #[.int .i64 0, .int .i64 0, .int .i64 0, .int .i64 0, .int .i64 0, .int .i64 0, .int .u8 0, .int .u8 0, .int .u8 0, .int .u8 0, .int .u8 0, .int .u8 0, .int .u8 0, .int .u8 0, .slice none 0 0, .slice none 0 0] (by kernel_rfl) ?_
        intro g15 w17 ge hh bb
        have ap_pB := hT.ap ge
        have d_tB_pB := ne_new (hlt htB) ge
        have av_ll_pB := ll.av_new ge
        have av_uo_pB := uo.av_new ge
        have av_ub_pB := ub.av_new ge
        have av_po_pB := po.av_new ge
        have av_pb_pB := pb.av_new ge
        have opB := Nat.le_trans bel.size ge
        replace htB := blk_u htB bb
        replace ll := ll.below bb
        replace uo := uo.below bb
        replace ub := ub.below bb
        replace po := po.below bb
        replace pb := pb.below bb
        replace hT := hT.below bb
        replace ap_tB := ap_tB.below bb
        replace an_uo := an_uo.below bb
        replace an_ub := an_ub.below bb
        replace an_po := an_po.below bb
        replace an_pb := an_pb.below bb
        replace ap_pB := ap_pB.below bb
        replace bel := bel.trans (bb.mono bel.size)
        have hpB := hh
        clear hh ge bb
        refine hK.out _ _ htB (fun hH18 => ?_)
        clear hK K
        simp only [sq4]
        refine wpAnyH_ready (rs := [12]) (by kernel_rfl) (by simp) ?_
        refine AllReadyH.cons (o := _) rfl (fun K hK => ?_) AllReadyH.nil
        simp only [sq3]
        rw [if_pos (by rfl)]
        refine wp_store_blk 38 (.tmp 15) (.tmp 88) rfl g15 rfl _ rfl _ 38 hpB (by rfl) (by kernel_rfl) (by kernel_rfl) ?_
        intro w19 hq gr
        replace ll := ll.away av_ll_pB gr
        replace uo := uo.away av_uo_pB gr
        replace ub := ub.away av_ub_pB gr
        replace po := po.away av_po_pB gr
        replace pb := pb.away av_pb_pB gr
        replace htB := blk_a htB gr d_tB_pB
        replace hT := hT.away ap_pB gr hpB
        replace ap_tB := ap_tB.grown ap_pB gr
        replace an_uo := an_uo.grown ap_pB gr
        replace an_ub := an_ub.grown ap_pB gr
        replace an_po := an_po.grown ap_pB gr
        replace an_pb := an_pb.grown ap_pB gr
        replace ap_pB := ap_pB.grown ap_pB gr
        replace bel := below_grown bel gr opB bel.size
        clear hpB
        have hpB := hq
        clear hq gr
        refine hK.out _ _ htB (fun hH20 => ?_)
        clear hK K
        simp only [Act.put]
        refine wpAnyH_take (i := 13) (v := ?_) rfl (by kernel_rfl) (by kernel_rfl) (by kernel_rfl) (fun _ _ _ h => h) (Or.inl ⟨by rfl, ?_⟩) hH20 ?_
        rotate_left
        · ((intro W hW; clear hW; go_simp) <;> with_reducible rfl)
        simp only [sq3, sq4]
        refine wpAnyH_done (by kernel_rfl) ?_ _
        go_wp2_with fail
        go_meet
        case rel => exact ⟨g15, Auo, cuo, Aub, cub, Apo, cpo, Apb, cpb, rfl, rfl, htB, hpB, opB, (ne_symm d_tB_pB), ll, av_ll_pB, av_ll_tB, uo, av_uo_pB, av_uo_tB, ub, av_ub_pB, av_ub_tB, po, av_po_pB, av_po_tB, pb, av_pb_pB, av_pb_tB, hT, ap_tB, an_uo, an_ub, an_po, an_pb, ap_pB, bel⟩
      simp only [sq3]
      rw [if_pos (by rfl)]
      refine wp_new_a 38 rfl #[.int .i64 0, .int .i64 0, .int .i64 0, .int .i64 0, .int .i64 0, .int .i64 0, .int .u8 0, .int .u8 0, .int .u8 0, .int .u8 0, .int .u8 0, .int .u8 0, .int .u8 0, .int .u8 0, .slice none 0 0, .slice none 0 0] (by kernel_rfl) ?_
      intro g15 w15 ge hh bb
      have ap_pB := hT.ap ge
      have d_tB_pB := ne_new (hlt htB) ge
      have av_ll_pB := ll.av_new ge
      have av_uo_pB := uo.av_new ge
      have av_ub_pB := ub.av_new ge
      have opB := Nat.le_trans bel.size ge
      replace htB := blk_u htB bb
      replace ll := ll.below bb
      replace uo := uo.below bb
      replace ub := ub.below bb
      replace hT := hT.below bb
      replace ap_tB := ap_tB.below bb
      replace an_uo := an_uo.below bb
      replace an_ub := an_ub.below bb
      replace ap_pB := ap_pB.below bb
      replace bel := bel.trans (bb.mono bel.size)
      have hpB := hh
      clear hh ge bb
      refine hK.out _ _ htB (fun hH16 => ?_)
      clear hK K
      simp only [sq4]
      refine wpAnyH_ready (rs := [7]) (by kernel_rfl) (by simp) ?_
      refine AllReadyH.cons (o := _) rfl (fun K hK => ?_) AllReadyH.nil
      simp only [sq3]
      go_simp
      have lt_tB := hlt htB
      have lt_pB := hlt hpB
      with_reducible refine (e_o1 _ hT uo ub Hc1.out Hc3.out Hc2.out Hc4.out Hc5.out Hc6.out Hc7.out).mono ?_
      rintro e w17 ⟨Apo, cpo, Apb, cpb, rfl, hT_, f_, bb, po, pb, an_po, an_pb, fpo, fpb⟩
      dsimp only
      have x_ := f_ _ _ _ _ htB ap_tB
      replace htB := x_.1
      replace ap_tB := x_.2
      clear x_
      have x_ := f_ _ _ _ _ hpB ap_pB
      replace hpB := x_.1
      replace ap_pB := x_.2
      clear x_
      have x_ := f_.sl uo an_uo
      replace uo := x_.1
      replace an_uo := x_.2
      clear x_
      have x_ := f_.sl ub an_ub
      replace ub := x_.1
      replace an_ub := x_.2
      clear x_
      clear hT
      have hT := hT_
      replace bel := bel.trans bb
      clear bb f_ hT_
      replace ll := HL0.out.below bel
      have av_po_tB := fpo.av lt_tB
      have av_po_pB := fpo.av lt_pB
      have av_pb_tB := fpb.av lt_tB
      have av_pb_pB := fpb.av lt_pB
      clear lt_tB lt_pB
      clear fpo fpb
      refine hK.out _ _ htB (fun hH18 => ?_)
      clear hK K
      refine wpAnyH_take (i := 8) (v := ?_) rfl (by kernel_rfl) (by kernel_rfl) (by kernel_rfl) (fun _ _ _ h => h) (Or.inl ⟨by rfl, ?_⟩) hH18 ?_
      rotate_left
      · ((intro W hW; clear hW; go_simp) <;> with_reducible rfl)
      simp only [sq3, sq4]
      refine wpAnyH_take (i := 9) (v := ?_) rfl (by kernel_rfl) (by kernel_rfl) (by kernel_rfl) (fun _ _ _ h => h) (Or.inl ⟨by rfl, ?_⟩) hH18 ?_
      rotate_left
      · ((intro W hW; clear hW; go_simp) <;> with_reducible rfl)
      simp only [sq3, sq4]
      refine wpAnyH_take (i := 10) (v := ?_) rfl (by kernel_rfl) (by kernel_rfl) (by kernel_rfl) (fun _ _ _ h => h) (Or.inl ⟨by rfl, ?_⟩) hH18 ?_
      rotate_left
      · ((intro W hW; clear hW; go_simp) <;> with_reducible rfl)
      simp only [sq3, sq4]
      refine wpAnyH_ready (rs := [12]) (by kernel_rfl) (by simp) ?_
      refine AllReadyH.cons (o := _) rfl (fun K hK => ?_) AllReadyH.nil
      simp only [sq3]
      rw [if_pos (by rfl)]
      refine wp_store_blk 38 (.tmp 15) (.tmp 88) rfl g15 rfl _ rfl _ 38 hpB (by rfl) (by kernel_rfl) (by kernel_rfl) ?_
      intro w19 hq gr
      replace ll := ll.away av_ll_pB gr
      replace uo := uo.away av_uo_pB gr
      replace ub := ub.away av_ub_pB gr
      replace po := po.away av_po_pB gr
      replace pb := pb.away av_pb_pB gr
      replace htB := blk_a htB gr d_tB_pB
      replace hT := hT.away ap_pB gr hpB
      replace ap_tB := ap_tB.grown ap_pB gr
      replace an_uo := an_uo.grown ap_pB gr
      replace an_ub := an_ub.grown ap_pB gr
      replace ap_pB := ap_pB.grown ap_pB gr
      replace an_po := an_po.grown ap_pB gr
      replace an_pb := an_pb.grown ap_pB gr
      replace bel := below_grown bel gr opB bel.size
      clear hpB
      have hpB := hq
      clear hq gr
      refine hK.out _ _ htB (fun hH20 => ?_)
      clear hK K
      simp only [Act.put]
      refine wpAnyH_take (i := 13) (v := ?_) rfl (by kernel_rfl) (by kernel_rfl) (by kernel_rfl) (fun _ _ _ h => h) (Or.inl ⟨by rfl, ?_⟩) hH20 ?_
      rotate_left
      · ((intro W hW; clear hW; go_simp) <;> with_reducible rfl)
      simp only [sq3, sq4]
      refine wpAnyH_done (by kernel_rfl) ?_ _
      go_wp2_with fail
      go_meet
      case rel => exact ⟨g15, Auo, cuo, Aub, cub, Apo, cpo, Apb, cpb, rfl, rfl, htB, hpB, opB, (ne_symm d_tB_pB), ll, av_ll_pB, av_ll_tB, uo, av_uo_pB, av_uo_tB, ub, av_ub_pB, av_ub_tB, po, av_po_pB, av_po_tB, pb, av_pb_pB, av_pb_tB, hT, ap_tB, an_uo, an_ub, an_po, an_pb, ap_pB, bel⟩
    obtain ⟨w21, hw_⟩ : ∃ x, x = wc := ⟨_, rfl⟩
    subst hw_
    obtain ⟨g15, Auo, cuo, Aub, cub, Apo, cpo, Apb, cpb, rfl, rfl, htB, hpB, opB, d_pB_tB, ll, av_ll_pB, av_ll_tB, uo, av_uo_pB, av_uo_tB, ub, av_ub_pB, av_ub_tB, po, av_po_pB, av_po_tB, pb, av_pb_pB, av_pb_tB, hT, ap_tB, an_uo, an_ub, an_po, an_pb, ap_pB, bel⟩ := hcut
    go_wp2_with fail
    go_cut [17, 18] from 9999 (fun s17 s18 W => ∃ g17 : Nat, ∃ Avo : Option Addr, ∃ cvo : Nat, ∃ Avb : Option Addr, ∃ cvb : Nat, ∃ Aqo : Option Addr, ∃ cqo : Nat, ∃ Aqb : Option Addr, ∃ cqb : Nat, s17 = .pointer (some ⟨g17, 0, none⟩) ∧ s18 = .int .i64 0 ∧ W.heap[g14]? = some (.cells #[.int .u8 8, .int .u8 8, .int .u8 (x / 256 % 256), .int .u8 (x % 256)] 35 (0, 0)) ∧ W.heap[g15]? = some (.cells #[.int .i64 0, .int .i64 0, .int .i64 0, .int .i64 0, .int .i64 64, .int .i64 17, .int .u8 203, .int .u8 0, .int .u8 113, .int .u8 7, .int .u8 8, .int .u8 8, .int .u8 ((byteOf (x / 256)).toNat : Int), .int .u8 ((byteOf x).toNat : Int), .slice Apo 0 cpo, .slice Apb 9 cpb] 38 (0, 0)) ∧ W.heap[g17]? = some (.cells #[.int .i64 0, .int .i64 0, .int .i64 0, .int .i64 0, .int .i64 64, .int .i64 17, .int .u8 203, .int .u8 0, .int .u8 113, .int .u8 7, .int .u8 8, .int .u8 8, .int .u8 ((byteOf (x / 256)).toNat : Int), .int .u8 ((byteOf x).toNat : Int), .slice Aqo 0 cqo, .slice Aqb 9 cqb] 38 (0, 0)) ∧ w.heap.size ≤ g17 ∧ Hid (g15 ≠ g17) ∧ Hid (g15 ≠ g14) ∧ Hid (g17 ≠ g14) ∧ Sle inf 1 W (some ⟨gI, oI, none⟩) (n) (cp) (L) ∧ Av (some ⟨gI, oI, none⟩) (n) g15 ∧ Av (some ⟨gI, oI, none⟩) (n) g17 ∧ Av (some ⟨gI, oI, none⟩) (n) g14 ∧ Sl W (Auo) (0) (cuo) ([]) ∧ Av (Auo) (0) g15 ∧ Av (Auo) (0) g17 ∧ Av (Auo) (0) g14 ∧ Sl W (Aub) (9) (cub) (udBytes 10 0 0 (byteOf n1) 8 8 (byteOf (x / 256)) (byteOf x) p 53 [120]) ∧ Av (Aub) (9) g15 ∧ Av (Aub) (9) g17 ∧ Av (Aub) (9) g14 ∧ Sl W (Apo) (0) (cpo) ([]) ∧ Av (Apo) (0) g15 ∧ Av (Apo) (0) g17 ∧ Av (Apo) (0) g14 ∧ Sl W (Apb) (9) (cpb) (udBytes 203 0 113 7 8 8 (byteOf (x / 256)) (byteOf x) (nQ p) 53 [120]) ∧ Av (Apb) (9) g15 ∧ Av (Apb) (9) g17 ∧ Av (Apb) (9) g14 ∧ Sl W (Avo) (0) (cvo) ([]) ∧ Av (Avo) (0) g15 ∧ Av (Avo) (0) g17 ∧ Av (Avo) (0) g14 ∧ Sl W (Avb) (9) (cvb) (udBytes 10 0 0 (byteOf n2) 8 8 (byteOf (x / 256)) (byteOf x) p 53 [120]) ∧ Av (Avb) (9) g15 ∧ Av (Avb) (9) g17 ∧ Av (Avb) (9) g14 ∧ Sl W (Aqo) (0) (cqo) ([]) ∧ Av (Aqo) (0) g15 ∧ Av (Aqo) (0) g17 ∧ Av (Aqo) (0) g14 ∧ Sl W (Aqb) (9) (cqb) (udBytes 203 0 113 7 8 8 (byteOf (x / 256)) (byteOf x) (eQ p) 53 [120]) ∧ Av (Aqb) (9) g15 ∧ Av (Aqb) (9) g17 ∧ Av (Aqb) (9) g14 ∧ Np w.heap.size gn gt gq W (eA n1 n2 p (k + 1)) nK0 ∧ Anp gn gt gq W g14 ∧ An gn gt gq W (Auo) (0) ∧ An gn gt gq W (Aub) (9) ∧ An gn gt gq W (Apo) (0) ∧ An gn gt gq W (Apb) (9) ∧ Anp gn gt gq W g15 ∧ An gn gt gq W (Avo) (0) ∧ An gn gt gq W (Avb) (9) ∧ An gn gt gq W (Aqo) (0) ∧ An gn gt gq W (Aqb) (9) ∧ Anp gn gt gq W g17 ∧ Below w.heap.size w W)
    case first =>
      replace bel := bel.drew
      replace htB : w21.drew.heap[g14]? = _ := htB
      replace hpB : w21.drew.heap[g15]? = _ := hpB
      replace ll := ll.drew
      replace uo := uo.drew
      replace ub := ub.drew
      replace po := po.drew
      replace pb := pb.drew
      replace hT := np_drew hT
      replace ap_tB := anp_drew ap_tB
      replace an_uo := an_drew an_uo
      replace an_ub := an_drew an_ub
      replace an_po := an_drew an_po
      replace an_pb := an_drew an_pb
      replace ap_pB := anp_drew ap_pB
      refine wp_region_held_drew (S := fun W => W.heap[g14]? = some (.cells #[.int .u8 8, .int .u8 8, .int .u8 (x / 256 % 256), .int .u8 (x % 256)] 35 (0, 0))) (by kernel_rfl) htB (fun hH => ?_)
      generalize w21.drew = w22 at bel htB hpB ll uo ub po pb hT ap_tB an_uo an_ub an_po an_pb ap_pB hH ⊢
      refine wpAnyH_take (i := 0) (v := ?_) rfl (by kernel_rfl) (by kernel_rfl) (by kernel_rfl) (fun _ _ _ h => h) (Or.inl ⟨by rfl, ?_⟩) hH ?_
      rotate_left
      · ((intro W hW; clear hW; go_simp) <;> with_reducible rfl)
      simp only [Act.put, List.getElem_toArray, List.getElem_cons_zero, List.setIfInBounds_toArray, List.set_cons_zero, List.set_cons_succ]
      refine wpAnyH_take (i := 1) (v := ?_) rfl (by kernel_rfl) (by kernel_rfl) (by kernel_rfl) (fun _ _ _ h => h) (Or.inl ⟨by rfl, ?_⟩) hH ?_
      rotate_left
      · ((intro W hW; clear hW; go_simp) <;> with_reducible rfl)
      simp only [sq3, sq4]
      refine wpAnyH_take (i := 3) (v := ?_) rfl (by kernel_rfl) (by kernel_rfl) (by kernel_rfl) (fun _ _ _ h => h) (Or.inl ⟨by rfl, ?_⟩) hH ?_
      rotate_left
      · ((intro W hW; clear hW; go_simp) <;> with_reducible rfl)
      simp only [sq3, sq4]
      refine wpAnyH_take (i := 4) (v := .agg #[.int .u8 8, .int .u8 8, .int .u8 (x / 256 % 256), .int .u8 (x % 256)]) rfl (by kernel_rfl) (by kernel_rfl) (by kernel_rfl) (fun _ _ _ h => h) (yieldsIf_load_part (by kernel_rfl) 35 _ rfl g14 0 4 rfl _ 35 (0, 0) (fun W hW => hW) _ rfl _ Tryz.underlying35 rfl (by kernel_rfl)) hH ?_
      simp only [sq3, sq4]
      refine wpAnyH_ready (rs := [2, 11]) (by kernel_rfl) (by simp) ?_
      refine AllReadyH.cons (o := _) rfl (fun K hK => ?_) (AllReadyH.cons (o := _) rfl (fun K hK => ?_) AllReadyH.nil)
      rotate_left
      · simp only [sq3]
        rw [if_pos (by rfl)]
        refine wp_new_a 38 rfl #[.int .i64 0, .int .i64 0, .int .i64 0, .int .i64 0, .int .i64 0, .int .i64 0, .int .u8 0, .int .u8 0, .int .u8 0, .int .u8 0, .int .u8 0, .int .u8 0, .int .u8 0, .int .u8 0, .slice none 0 0, .slice none 0 0] (by kernel_rfl) ?_
        intro g17 w23 ge hh bb
        have ap_qB := hT.ap ge
        have d_tB_qB := ne_new (hlt htB) ge
        have d_pB_qB := ne_new (hlt hpB) ge
        have av_ll_qB := ll.av_new ge
        have av_uo_qB := uo.av_new ge
        have av_ub_qB := ub.av_new ge
        have av_po_qB := po.av_new ge
        have av_pb_qB := pb.av_new ge
        have oqB := Nat.le_trans bel.size ge
        replace htB := blk_u htB bb
        replace hpB := blk_u hpB bb
        replace ll := ll.below bb
        replace uo := uo.below bb
        replace ub := ub.below bb
        replace po := po.below bb
        replace pb := pb.below bb
        replace hT := hT.below bb
        replace ap_tB := ap_tB.below bb
        replace an_uo := an_uo.below bb
        replace an_ub := an_ub.below bb
        replace an_po := an_po.below bb
        replace an_pb := an_pb.below bb
        replace ap_pB := ap_pB.below bb
        replace ap_qB := ap_qB.below bb
        replace bel := bel.trans (bb.mono bel.size)
        have hqB := hh
        clear hh ge bb
        refine hK.out _ _ htB (fun hH24 => ?_)
        clear hK K
        simp only [sq4]
        refine wpAnyH_ready (rs := [2]) (by kernel_rfl) (by simp) ?_
        refine AllReadyH.cons (o := _) rfl (fun K hK => ?_) AllReadyH.nil
        simp only [sq3]
        go_simp
        with_reducible refine (at19 n2 _).mono ?_
        rintro e w25 ⟨rfl, b25⟩
        dsimp only
        replace htB := blk_u htB b25
        replace hpB := blk_u hpB b25
        replace hqB := blk_u hqB b25
        replace ll := ll.below b25
        replace uo := uo.below b25
        replace ub := ub.below b25
        replace po := po.below b25
        replace pb := pb.below b25
        replace hT := hT.below b25
        replace ap_tB := ap_tB.below b25
        replace an_uo := an_uo.below b25
        replace an_ub := an_ub.below b25
        replace an_po := an_po.below b25
        replace an_pb := an_pb.below b25
        replace ap_pB := ap_pB.below b25
        replace ap_qB := ap_qB.below b25
        replace bel := bel.trans (b25.mono bel.size)
        clear b25
        refine hK.out _ _ htB (fun hH26 => ?_)
        clear hK K
        refine wpAnyH_ready (rs := [5]) (by kernel_rfl) (by simp) ?_
        refine AllReadyH.cons (o := _) rfl (fun K hK => ?_) AllReadyH.nil
        simp only [sq3]
        go_simp
        with_reducible refine (dg_peer n2 p x _ (portOk_of (Int.le_trans (by decide) Hc6.out) Hc7.out)).mono ?_
        rintro e w27 ⟨Avo, cvo, Avb, cvb, rfl, vo, vb, fvo, fvb, b27⟩
        dsimp only
        have av_vo_tB := fvo.av (hlt htB)
        have av_vo_pB := fvo.av (hlt hpB)
        have av_vo_qB := fvo.av (hlt hqB)
        have av_vb_tB := fvb.av (hlt htB)
        have av_vb_pB := fvb.av (hlt hpB)
        have av_vb_qB := fvb.av (hlt hqB)
        have an_vo := hT.an fvo
        have an_vb := hT.an fvb
        replace htB := blk_u htB b27
        replace hpB := blk_u hpB b27
        replace hqB := blk_u hqB b27
        replace ll := ll.below b27
        replace uo := uo.below b27
        replace ub := ub.below b27
        replace po := po.below b27
        replace pb := pb.below b27
        replace hT := hT.below b27
        replace ap_tB := ap_tB.below b27
        replace an_uo := an_uo.below b27
        replace an_ub := an_ub.below b27
        replace an_po := an_po.below b27
        replace an_pb := an_pb.below b27
        replace ap_pB := ap_pB.below b27
        replace ap_qB := ap_qB.below b27
        replace an_vo := an_vo.below b27
        replace an_vb := an_vb.below b27
        replace bel := bel.trans (b27.mono bel.size)
        clear b27
        replace vo : Sl w27 (Avo) (0) (cvo) ([]) := vo
        replace vb : Sl w27 (Avb) (9) (cvb) (udBytes 10 0 0 (byteOf n2) 8 8 (byteOf (x / 256)) (byteOf x) p 53 [120]) := vb
        refine hK.out _ _ htB (fun hH28 => ?_)
        clear hK K
        refine wpAnyH_ready (rs := [6]) (by kernel_rfl) (by simp) ?_
        refine AllReadyH.cons (o := _) rfl (fun K hK => ?_) AllReadyH.nil
        simp only [sq3]
        go_simp
        with_reducible refine (wan19 _).mono ?_
        rintro e w29 ⟨rfl, b29⟩
        dsimp only
        replace htB := blk_u htB b29
        replace hpB := blk_u hpB b29
        replace hqB := blk_u hqB b29
        replace ll := ll.below b29
        replace uo := uo.below b29
        replace ub := ub.below b29
        replace po := po.below b29
        replace pb := pb.below b29
        replace vo := vo.below b29
        replace vb := vb.below b29
        replace hT := hT.below b29
        replace ap_tB := ap_tB.below b29
        replace an_uo := an_uo.below b29
        replace an_ub := an_ub.below b29
        replace an_po := an_po.below b29
        replace an_pb := an_pb.below b29
        replace ap_pB := ap_pB.below b29
        replace ap_qB := ap_qB.below b29
        replace an_vo := an_vo.below b29
        replace an_vb := an_vb.below b29
        replace bel := bel.trans (b29.mono bel.size)
        clear b29
        refine hK.out _ _ htB (fun hH30 => ?_)
        clear hK K
        refine wpAnyH_ready (rs := [7]) (by kernel_rfl) (by simp) ?_
        refine AllReadyH.cons (o := _) rfl (fun K hK => ?_) AllReadyH.nil
        simp only [sq3]
        go_simp
        have lt_tB := hlt htB
        have lt_pB := hlt hpB
        have lt_qB := hlt hqB
        with_reducible refine (e_o2 _ hT vo vb Hc1.out Hc3.out Hc2.out Hc4.out Hc5.out Hc6.out Hc7.out).mono ?_
        rintro e w31 ⟨Aqo, cqo, Aqb, cqb, rfl, hT_, f_, bb, qo, qb, an_qo, an_qb, fqo, fqb⟩
        dsimp only
        have x_ := f_ _ _ _ _ htB ap_tB
        replace htB := x_.1
        replace ap_tB := x_.2
        clear x_
        have x_ := f_ _ _ _ _ hpB ap_pB
        replace hpB := x_.1
        replace ap_pB := x_.2
        clear x_
        have x_ := f_ _ _ _ _ hqB ap_qB
        replace hqB := x_.1
        replace ap_qB := x_.2
        clear x_
        have x_ := f_.sl uo an_uo
        replace uo := x_.1
        replace an_uo := x_.2
        clear x_
        have x_ := f_.sl ub an_ub
        replace ub := x_.1
        replace an_ub := x_.2
        clear x_
        have x_ := f_.sl po an_po
        replace po := x_.1
        replace an_po := x_.2
        clear x_
        have x_ := f_.sl pb an_pb
        replace pb := x_.1
        replace an_pb := x_.2
        clear x_
        have x_ := f_.sl vo an_vo
        replace vo := x_.1
        replace an_vo := x_.2
        clear x_
        have x_ := f_.sl vb an_vb
        replace vb := x_.1
        replace an_vb := x_.2
        clear x_
        clear hT
        have hT := hT_
        replace bel := bel.trans bb
        clear bb f_ hT_
        replace ll := HL0.out.below bel
        have av_qo_tB := fqo.av lt_tB
        have av_qo_pB := fqo.av lt_pB
        have av_qo_qB := fqo.av lt_qB
        have av_qb_tB := fqb.av lt_tB
        have av_qb_pB := fqb.av lt_pB
        have av_qb_qB := fqb.av lt_qB
        clear lt_tB lt_pB lt_qB
        clear fqo fqb
        refine hK.out _ _ htB (fun hH32 => ?_)
        clear hK K
        refine wpAnyH_take (i := 8) (v := ?_) rfl (by kernel_rfl) (by kernel_rfl) (by kernel_rfl) (fun _ _ _ h => h) (Or.inl ⟨by rfl, ?_⟩) hH32 ?_
        rotate_left
        · ((intro W hW; clear hW; go_simp) <;> with_reducible rfl)
        simp only [sq3, sq4]
        refine wpAnyH_take (i := 9) (v := ?_) rfl (by kernel_rfl) (by kernel_rfl) (by kernel_rfl) (fun _ _ _ h => h) (Or.inl ⟨by rfl, ?_⟩) hH32 ?_
        rotate_left
        · ((intro W hW; clear hW; go_simp) <;> with_reducible rfl)
        simp only [sq3, sq4]
        refine wpAnyH_take (i := 10) (v := ?_) rfl (by kernel_rfl) (by kernel_rfl) (by kernel_rfl) (fun _ _ _ h => h) (Or.inl ⟨by rfl, ?_⟩) hH32 ?_
        rotate_left
        · ((intro W hW; clear hW; go_simp) <;> with_reducible rfl)
        simp only [sq3, sq4]
        refine wpAnyH_ready (rs := [12]) (by kernel_rfl) (by simp) ?_
        refine AllReadyH.cons (o := _) rfl (fun K hK => ?_) AllReadyH.nil
        simp only [sq3]
        rw [if_pos (by rfl)]
        refine wp_store_blk 38 (.tmp 17) (.tmp 99) rfl g17 rfl _ rfl _ 38 hqB (by rfl) (by kernel_rfl) (by kernel_rfl) ?_
        intro w33 hq gr
        replace ll := ll.away av_ll_qB gr
        replace uo := uo.away av_uo_qB gr
        replace ub := ub.away av_ub_qB gr
        replace po := po.away av_po_qB gr
        replace pb := pb.away av_pb_qB gr
        replace vo := vo.away av_vo_qB gr
        replace vb := vb.away av_vb_qB gr
        replace qo := qo.away av_qo_qB gr
        replace qb := qb.away av_qb_qB gr
        replace htB := blk_a htB gr d_tB_qB
        replace hpB := blk_a hpB gr d_pB_qB
        replace hT := hT.away ap_qB gr hqB
        replace ap_tB := ap_tB.grown ap_qB gr
        replace an_uo := an_uo.grown ap_qB gr
        replace an_ub := an_ub.grown ap_qB gr
        replace an_po := an_po.grown ap_qB gr
        replace an_pb := an_pb.grown ap_qB gr
        replace ap_pB := ap_pB.grown ap_qB gr
        replace ap_qB := ap_qB.grown ap_qB gr
        replace an_vo := an_vo.grown ap_qB gr
        replace an_vb := an_vb.grown ap_qB gr
        replace an_qo := an_qo.grown ap_qB gr
        replace an_qb := an_qb.grown ap_qB gr
        replace bel := below_grown bel gr oqB bel.size
        clear hqB
        have hqB := hq
        clear hq gr
        refine hK.out _ _ htB (fun hH34 => ?_)
        clear hK K
        simp only [Act.put]
        refine wpAnyH_take (i := 13) (v := ?_) rfl (by kernel_rfl) (by kernel_rfl) (by kernel_rfl) (fun _ _ _ h => h) (Or.inl ⟨by rfl, ?_⟩) hH34 ?_
        rotate_left
        · ((intro W hW; clear hW; go_simp) <;> with_reducible rfl)
        simp only [sq3, sq4]
        refine wpAnyH_done (by kernel_rfl) ?_ _
        go_wp2_with fail
        go_meet
        case rel => exact ⟨g17, Avo, cvo, Avb, cvb, Aqo, cqo, Aqb, cqb, rfl, rfl, htB, hpB, hqB, oqB, d_pB_qB, d_pB_tB, (ne_symm d_tB_qB), ll, av_ll_pB, av_ll_qB, av_ll_tB, uo, av_uo_pB, av_uo_qB, av_uo_tB, ub, av_ub_pB, av_ub_qB, av_ub_tB, po, av_po_pB, av_po_qB, av_po_tB, pb, av_pb_pB, av_pb_qB, av_pb_tB, vo, av_vo_pB, av_vo_qB, av_vo_tB, vb, av_vb_pB, av_vb_qB, av_vb_tB, qo, av_qo_pB, av_qo_qB, av_qo_tB, qb, av_qb_pB, av_qb_qB, av_qb_tB, hT, ap_tB, an_uo, an_ub, an_po, an_pb, ap_pB, an_vo, an_vb, an_qo, an_qb, ap_qB, bel⟩
      simp only [sq3]
      go_simp
      with_reducible refine (at19 n2 _).mono ?_
      rintro e w23 ⟨rfl, b23⟩
      dsimp only
      replace htB := blk_u htB b23
      replace hpB := blk_u hpB b23
      replace ll := ll.below b23
      replace uo := uo.below b23
      replace ub := ub.below b23
      replace po := po.below b23
      replace pb := pb.below b23
      replace hT := hT.below b23
      replace ap_tB := ap_tB.below b23
      replace an_uo := an_uo.below b23
      replace an_ub := an_ub.below b23
      replace an_po := an_po.below b23
      replace an_pb := an_pb.below b23
      replace ap_pB := ap_pB.below b23
      replace bel := bel.trans (b23.mono bel.size)
      clear b23
      refine hK.out _ _ htB (fun hH24 => ?_)
      clear hK K
      refine wpAnyH_ready (rs := [5, 11]) (by kernel_rfl) (by simp) ?_
      refine AllReadyH.cons (o := _) rfl (fun K hK => ?_) (AllReadyH.cons (o := _) rfl (fun K hK => ?_) AllReadyH.nil)
      rotate_left
      · simp only [sq3]
        rw [if_pos (by rfl)]
        refine wp_new_a 38 rfl #[.int .i64 0, .int .i64 0, .int .i64 0, .int .i64 0, .int .i64 0, .int .i64 0, .int .u8 0, .int .u8 0, .int .u8 0, .int .u8 0, .int .u8 0, .int .u8 0, .int .u8 0, .int .u8 0, .slice none 0 0, .slice none 0 0] (by kernel_rfl) ?_
        intro g17 w25 ge hh bb
        have ap_qB := hT.ap ge
        have d_tB_qB := ne_new (hlt htB) ge
        have d_pB_qB := ne_new (hlt hpB) ge
        have av_ll_qB := ll.av_new ge
        have av_uo_qB := uo.av_new ge
        have av_ub_qB := ub.av_new ge
        have av_po_qB := po.av_new ge
        have av_pb_qB := pb.av_new ge
        have oqB := Nat.le_trans bel.size ge
        replace htB := blk_u htB bb
        replace hpB := blk_u hpB bb
        replace ll := ll.below bb
        replace uo := uo.below bb
        replace ub := ub.below bb
        replace po := po.below bb
        replace pb := pb.below bb
        replace hT := hT.below bb
        replace ap_tB := ap_tB.below bb
        replace an_uo := an_uo.below bb
        replace an_ub := an_ub.below bb
        replace an_po := an_po.below bb
        replace an_pb := an_pb.below bb
        replace ap_pB := ap_pB.below bb
        replace ap_qB := ap_qB.below bb
        replace bel := bel.trans (bb.mono bel.size)
        have hqB := hh
        clear hh ge bb
        refine hK.out _ _ htB (fun hH26 => ?_)
        clear hK K
        simp only [sq4]
        refine wpAnyH_ready (rs := [5]) (by kernel_rfl) (by simp) ?_
        refine AllReadyH.cons (o := _) rfl (fun K hK => ?_) AllReadyH.nil
        simp only [sq3]
        go_simp
        with_reducible refine (dg_peer n2 p x _ (portOk_of (Int.le_trans (by decide) Hc6.out) Hc7.out)).mono ?_
        rintro e w27 ⟨Avo, cvo, Avb, cvb, rfl, vo, vb, fvo, fvb, b27⟩
        dsimp only
        have av_vo_tB := fvo.av (hlt htB)
        have av_vo_pB := fvo.av (hlt hpB)
        have av_vo_qB := fvo.av (hlt hqB)
        have av_vb_tB := fvb.av (hlt htB)
        have av_vb_pB := fvb.av (hlt hpB)
        have av_vb_qB := fvb.av (hlt hqB)
        have an_vo := hT.an fvo
        have an_vb := hT.an fvb
        replace htB := blk_u htB b27
        replace hpB := blk_u hpB b27
        replace hqB := blk_u hqB b27
        replace ll := ll.below b27
        replace uo := uo.below b27
        replace ub := ub.below b27
        replace po := po.below b27
        replace pb := pb.below b27
        replace hT := hT.below b27
        replace ap_tB := ap_tB.below b27
        replace an_uo := an_uo.below b27
        replace an_ub := an_ub.below b27
        replace an_po := an_po.below b27
        replace an_pb := an_pb.below b27
        replace ap_pB := ap_pB.below b27
        replace ap_qB := ap_qB.below b27
        replace an_vo := an_vo.below b27
        replace an_vb := an_vb.below b27
        replace bel := bel.trans (b27.mono bel.size)
        clear b27
        replace vo : Sl w27 (Avo) (0) (cvo) ([]) := vo
        replace vb : Sl w27 (Avb) (9) (cvb) (udBytes 10 0 0 (byteOf n2) 8 8 (byteOf (x / 256)) (byteOf x) p 53 [120]) := vb
        refine hK.out _ _ htB (fun hH28 => ?_)
        clear hK K
        refine wpAnyH_ready (rs := [6]) (by kernel_rfl) (by simp) ?_
        refine AllReadyH.cons (o := _) rfl (fun K hK => ?_) AllReadyH.nil
        simp only [sq3]
        go_simp
        with_reducible refine (wan19 _).mono ?_
        rintro e w29 ⟨rfl, b29⟩
        dsimp only
        replace htB := blk_u htB b29
        replace hpB := blk_u hpB b29
        replace hqB := blk_u hqB b29
        replace ll := ll.below b29
        replace uo := uo.below b29
        replace ub := ub.below b29
        replace po := po.below b29
        replace pb := pb.below b29
        replace vo := vo.below b29
        replace vb := vb.below b29
        replace hT := hT.below b29
        replace ap_tB := ap_tB.below b29
        replace an_uo := an_uo.below b29
        replace an_ub := an_ub.below b29
        replace an_po := an_po.below b29
        replace an_pb := an_pb.below b29
        replace ap_pB := ap_pB.below b29
        replace ap_qB := ap_qB.below b29
        replace an_vo := an_vo.below b29
        replace an_vb := an_vb.below b29
        replace bel := bel.trans (b29.mono bel.size)
        clear b29
        refine hK.out _ _ htB (fun hH30 => ?_)
        clear hK K
        refine wpAnyH_ready (rs := [7]) (by kernel_rfl) (by simp) ?_
        refine AllReadyH.cons (o := _) rfl (fun K hK => ?_) AllReadyH.nil
        simp only [sq3]
        go_simp
        have lt_tB := hlt htB
        have lt_pB := hlt hpB
        have lt_qB := hlt hqB
        with_reducible refine (e_o2 _ hT vo vb Hc1.out Hc3.out Hc2.out Hc4.out Hc5.out Hc6.out Hc7.out).mono ?_
        rintro e w31 ⟨Aqo, cqo, Aqb, cqb, rfl, hT_, f_, bb, qo, qb, an_qo, an_qb, fqo, fqb⟩
        dsimp only
        have x_ := f_ _ _ _ _ htB ap_tB
        replace htB := x_.1
        replace ap_tB := x_.2
        clear x_
        have x_ := f_ _ _ _ _ hpB ap_pB
        replace hpB := x_.1
        replace ap_pB := x_.2
        clear x_
        have x_ := f_ _ _ _ _ hqB ap_qB
        replace hqB := x_.1
        replace ap_qB := x_.2
        clear x_
        have x_ := f_.sl uo an_uo
        replace uo := x_.1
        replace an_uo := x_.2
        clear x_
        have x_ := f_.sl ub an_ub
        replace ub := x_.1
        replace an_ub := x_.2
        clear x_
        have x_ := f_.sl po an_po
        replace po := x_.1
        replace an_po := x_.2
        clear x_
        have x_ := f_.sl pb an_pb
        replace pb := x_.1
        replace an_pb := x_.2
        clear x_
        have x_ := f_.sl vo an_vo
        replace vo := x_.1
        replace an_vo := x_.2
        clear x_
        have x_ := f_.sl vb an_vb
        replace vb := x_.1
        replace an_vb := x_.2
        clear x_
        clear hT
        have hT := hT_
        replace bel := bel.trans bb
        clear bb f_ hT_
        replace ll := HL0.out.below bel
        have av_qo_tB := fqo.av lt_tB
        have av_qo_pB := fqo.av lt_pB
        have av_qo_qB := fqo.av lt_qB
        have av_qb_tB := fqb.av lt_tB
        have av_qb_pB := fqb.av lt_pB
        have av_qb_qB := fqb.av lt_qB
        clear lt_tB lt_pB lt_qB
        clear fqo fqb
        refine hK.out _ _ htB (fun hH32 => ?_)
        clear hK K
        refine wpAnyH_take (i := 8) (v := ?_) rfl (by kernel_rfl) (by kernel_rfl) (by kernel_rfl) (fun _ _ _ h => h) (Or.inl ⟨by rfl, ?_⟩) hH32 ?_
        rotate_left
        · ((intro W hW; clear hW; go_simp) <;> with_reducible rfl)
        simp only [sq3, sq4]
        refine wpAnyH_take (i := 9) (v := ?_) rfl (by kernel_rfl) (by kernel_rfl) (by kernel_rfl) (fun _ _ _ h => h) (Or.inl ⟨by rfl, ?_⟩) hH32 ?_
        rotate_left
        · ((intro W hW; clear hW; go_simp) <;> with_reducible rfl)
        simp only [sq3, sq4]
        refine wpAnyH_take (i := 10) (v := ?_) rfl (by kernel_rfl) (by kernel_rfl) (by kernel_rfl) (fun _ _ _ h => h) (Or.inl ⟨by rfl, ?_⟩) hH32 ?_
        rotate_left
        · ((intro W hW; clear hW; go_simp) <;> with_reducible rfl)
        simp only [sq3, sq4]
        refine wpAnyH_ready (rs := [12]) (by kernel_rfl) (by simp) ?_
        refine AllReadyH.cons (o := _) rfl (fun K hK => ?_) AllReadyH.nil
        simp only [sq3]
        rw [if_pos (by rfl)]
        refine wp_store_blk 38 (.tmp 17) (.tmp 99) rfl g17 rfl _ rfl _ 38 hqB (by rfl) (by kernel_rfl) (by kernel_rfl) ?_
        intro w33 hq gr
        replace ll := ll.away av_ll_qB gr
        replace uo := uo.away av_uo_qB gr
        replace ub := ub.away av_ub_qB gr
        replace po := po.away av_po_qB gr
        replace pb := pb.away av_pb_qB gr
        replace vo := vo.away av_vo_qB gr
        replace vb := vb.away av_vb_qB gr
        replace qo := qo.away av_qo_qB gr
        replace qb := qb.away av_qb_qB gr
        replace htB := blk_a htB gr d_tB_qB
        replace hpB := blk_a hpB gr d_pB_qB
        replace hT := hT.away ap_qB gr hqB
        replace ap_tB := ap_tB.grown ap_qB gr
        replace an_uo := an_uo.grown ap_qB gr
        replace an_ub := an_ub.grown ap_qB gr
        replace an_po := an_po.grown ap_qB gr
        replace an_pb := an_pb.grown ap_qB gr
        replace ap_pB := ap_pB.grown ap_qB gr
        replace ap_qB := ap_qB.grown ap_qB gr
        replace an_vo := an_vo.grown ap_qB gr
        replace an_vb := an_vb.grown ap_qB gr
        replace an_qo := an_qo.grown ap_qB gr
        replace an_qb := an_qb.grown ap_qB gr
        replace bel := below_grown bel gr oqB bel.size
        clear hqB
        have hqB := hq
        clear hq gr
        refine hK.out _ _ htB (fun hH34 => ?_)
        clear hK K
        simp only [Act.put]
        refine wpAnyH_take (i := 13) (v := ?_) rfl (by kernel_rfl) (by kernel_rfl) (by kernel_rfl) (fun _ _ _ h => h) (Or.inl ⟨by rfl, ?_⟩) hH34 ?_
        rotate_left
        · ((intro W hW; clear hW; go_simp) <;> with_reducible rfl)
        simp only [sq3, sq4]
        refine wpAnyH_done (by kernel_rfl) ?_ _
        go_wp2_with fail
        go_meet
        case rel => exact ⟨g17, Avo, cvo, Avb, cvb, Aqo, cqo, Aqb, cqb, rfl, rfl, htB, hpB, hqB, oqB, d_pB_qB, d_pB_tB, (ne_symm d_tB_qB), ll, av_ll_pB, av_ll_qB, av_ll_tB, uo, av_uo_pB, av_uo_qB, av_uo_tB, ub, av_ub_pB, av_ub_qB, av_ub_tB, po, av_po_pB, av_po_qB, av_po_tB, pb, av_pb_pB, av_pb_qB, av_pb_tB, vo, av_vo_pB, av_vo_qB, av_vo_tB, vb, av_vb_pB, av_vb_qB, av_vb_tB, qo, av_qo_pB, av_qo_qB, av_qo_tB, qb, av_qb_pB, av_qb_qB, av_qb_tB, hT, ap_tB, an_uo, an_ub, an_po, an_pb, ap_pB, an_vo, an_vb, an_qo, an_qb, ap_qB, bel⟩
      simp only [sq3]
      go_simp
      with_reducible refine (dg_peer n2 p x _ (portOk_of (Int.le_trans (by decide) Hc6.out) Hc7.out)).mono ?_
      rintro e w25 ⟨Avo, cvo, Avb, cvb, rfl, vo, vb, fvo, fvb, b25⟩
      dsimp only
      have av_vo_tB := fvo.av (hlt htB)
      have av_vo_pB := fvo.av (hlt hpB)
      have av_vb_tB := fvb.av (hlt htB)
      have av_vb_pB := fvb.av (hlt hpB)
      have an_vo := hT.an fvo
      have an_vb := hT.an fvb
      replace htB := blk_u htB b25
      replace hpB := blk_u hpB b25
      replace ll := ll.below b25
      replace uo := uo.below b25
      replace ub := ub.below b25
      replace po := po.below b25
      replace pb := pb.below b25
      replace hT := hT.below b25
      replace ap_tB := ap_tB.below b25
      replace an_uo := an_uo.below b25
      replace an_ub := an_ub.below b25
      replace an_po := an_po.below b25
      replace an_pb := an_pb.below b25
      replace ap_pB := ap_pB.below b25
      replace an_vo := an_vo.below b25
      replace an_vb := an_vb.below b25
      replace bel := bel.trans (b25.mono bel.size)
      clear b25
      replace vo : Sl w25 (Avo) (0) (cvo) ([]) := vo
      replace vb : Sl w25 (Avb) (9) (cvb) (udBytes 10 0 0 (byteOf n2) 8 8 (byteOf (x / 256)) (byteOf x) p 53 [120]) := vb
      refine hK.out _ _ htB (fun hH26 => ?_)
      clear hK K
      refine wpAnyH_ready (rs := [6, 11]) (by kernel_rfl) (by simp) ?_
      refine AllReadyH.cons (o := _) rfl (fun K hK => ?_) (AllReadyH.cons (o := _) rfl (fun K hK => ?_) AllReadyH.nil)
      rotate_left
      · simp only [sq3]
        rw [if_pos (by rfl)]
        refine wp_new_a 38 rfl #[.int .i64 0, .int .i64 0, .int .i64 0, .int .i64 0, .int .i64 0, .int .i64 0, .int .u8 0, .int .u8 0, .int .u8 0, .int .u8 0, .int .u8 0, .int .u8 0, .int .u8 0, .int .u8 0, .slice none 0 0, .slice none 0 0] (by kernel_rfl) ?_
        intro g17 w27 ge hh bb
        have ap_qB := hT.ap ge
        have d_tB_qB := ne_new (hlt htB) ge
        have d_pB_qB := ne_new (hlt hpB) ge
        have av_ll_qB := ll.av_new ge
        have av_uo_qB := uo.av_new ge
        have av_ub_qB := ub.av_new ge
        have av_po_qB := po.av_new ge
        have av_pb_qB := pb.av_new ge
        have av_vo_qB := vo.av_new ge
        have av_vb_qB := vb.av_new ge
        have oqB := Nat.le_trans bel.size ge
        replace htB := blk_u htB bb
        replace hpB := blk_u hpB bb
        replace ll := ll.below bb
        replace uo := uo.below bb
        replace ub := ub.below bb
        replace po := po.below bb
        replace pb := pb.below bb
        replace vo := vo.below bb
        replace vb := vb.below bb
        replace hT := hT.below bb
        replace ap_tB := ap_tB.below bb
        replace an_uo := an_uo.below bb
        replace an_ub := an_ub.below bb
        replace an_po := an_po.below bb
        replace an_pb := an_pb.below bb
        replace ap_pB := ap_pB.below bb
        replace an_vo := an_vo.below bb
        replace an_vb := an_vb.below bb
        replace ap_qB := ap_qB.below bb
        replace bel := bel.trans (bb.mono bel.size)
        have hqB := hh
        clear hh ge bb
        refine hK.out _ _ htB (fun hH28 => ?_)
        clear hK K
        simp only [sq4]
        refine wpAnyH_ready (rs := [6]) (by kernel_rfl) (by simp) ?_
        refine AllReadyH.cons (o := _) rfl (fun K hK => ?_) AllReadyH.nil
        simp only [sq3]
        go_simp
        with_reducible refine (wan19 _).mono ?_
        rintro e w29 ⟨rfl, b29⟩
        dsimp only
        replace htB := blk_u htB b29
        replace hpB := blk_u hpB b29
        replace hqB := blk_u hqB b29
        replace ll := ll.below b29
        replace uo := uo.below b29
        replace ub := ub.below b29
        replace po := po.below b29
        replace pb := pb.below b29
        replace vo := vo.below b29
        replace vb := vb.below b29
        replace hT := hT.below b29
        replace ap_tB := ap_tB.below b29
        replace an_uo := an_uo.below b29
        replace an_ub := an_ub.below b29
        replace an_po := an_po.below b29
        replace an_pb := an_pb.below b29
        replace ap_pB := ap_pB.below b29
        replace an_vo := an_vo.below b29
        replace an_vb := an_vb.below b29
        replace ap_qB := ap_qB.below b29
        replace bel := bel.trans (b29.mono bel.size)
        clear b29
        refine hK.out _ _ htB (fun hH30 => ?_)
        clear hK K
        refine wpAnyH_ready (rs := [7]) (by kernel_rfl) (by simp) ?_
        refine AllReadyH.cons (o := _) rfl (fun K hK => ?_) AllReadyH.nil
        simp only [sq3]
        go_simp
        have lt_tB := hlt htB
        have lt_pB := hlt hpB
        have lt_qB := hlt hqB
        with_reducible refine (e_o2 _ hT vo vb Hc1.out Hc3.out Hc2.out Hc4.out Hc5.out Hc6.out Hc7.out).mono ?_
        rintro e w31 ⟨Aqo, cqo, Aqb, cqb, rfl, hT_, f_, bb, qo, qb, an_qo, an_qb, fqo, fqb⟩
        dsimp only
        have x_ := f_ _ _ _ _ htB ap_tB
        replace htB := x_.1
        replace ap_tB := x_.2
        clear x_
        have x_ := f_ _ _ _ _ hpB ap_pB
        replace hpB := x_.1
        replace ap_pB := x_.2
        clear x_
        have x_ := f_ _ _ _ _ hqB ap_qB
        replace hqB := x_.1
        replace ap_qB := x_.2
        clear x_
        have x_ := f_.sl uo an_uo
        replace uo := x_.1
        replace an_uo := x_.2
        clear x_
        have x_ := f_.sl ub an_ub
        replace ub := x_.1
        replace an_ub := x_.2
        clear x_
        have x_ := f_.sl po an_po
        replace po := x_.1
        replace an_po := x_.2
        clear x_
        have x_ := f_.sl pb an_pb
        replace pb := x_.1
        replace an_pb := x_.2
        clear x_
        have x_ := f_.sl vo an_vo
        replace vo := x_.1
        replace an_vo := x_.2
        clear x_
        have x_ := f_.sl vb an_vb
        replace vb := x_.1
        replace an_vb := x_.2
        clear x_
        clear hT
        have hT := hT_
        replace bel := bel.trans bb
        clear bb f_ hT_
        replace ll := HL0.out.below bel
        have av_qo_tB := fqo.av lt_tB
        have av_qo_pB := fqo.av lt_pB
        have av_qo_qB := fqo.av lt_qB
        have av_qb_tB := fqb.av lt_tB
        have av_qb_pB := fqb.av lt_pB
        have av_qb_qB := fqb.av lt_qB
        clear lt_tB lt_pB lt_qB
        clear fqo fqb
        refine hK.out _ _ htB (fun hH32 => ?_)
        clear hK K
        refine wpAnyH_take (i := 8) (v := ?_) rfl (by kernel_rfl) (by kernel_rfl) (by kernel_rfl) (fun _ _ _ h => h) (Or.inl ⟨by rfl, ?_⟩) hH32 ?_
        rotate_left
        · ((intro W hW; clear hW; go_simp) <;> with_reducible rfl)
        simp only [sq3, sq4]
        refine wpAnyH_take (i := 9) (v := ?_) rfl (by kernel_rfl) (by kernel_rfl) (by kernel_rfl) (fun _ _ _ h => h) (Or.inl ⟨by rfl, ?_⟩) hH32 ?_
        rotate_left
        · ((intro W hW; clear hW; go_simp) <;> with_reducible rfl)
        simp only [sq3, sq4]
        refine wpAnyH_take (i := 10) (v := ?_) rfl (by kernel_rfl) (by kernel_rfl) (by kernel_rfl) (fun _ _ _ h => h) (Or.inl ⟨by rfl, ?_⟩) hH32 ?_
        rotate_left
        · ((intro W hW; clear hW; go_simp) <;> with_reducible rfl)
        simp only [sq3, sq4]
        refine wpAnyH_ready (rs := [12]) (by kernel_rfl) (by simp) ?_
        refine AllReadyH.cons (o := _) rfl (fun K hK => ?_) AllReadyH.nil
        simp only [sq3]
        rw [if_pos (by rfl)]
        refine wp_store_blk 38 (.tmp 17) (.tmp 99) rfl g17 rfl _ rfl _ 38 hqB (by rfl) (by kernel_rfl) (by kernel_rfl) ?_
        intro w33 hq gr
        replace ll := ll.away av_ll_qB gr
        replace uo := uo.away av_uo_qB gr
        replace ub := ub.away av_ub_qB gr
        replace po := po.away av_po_qB gr
        replace pb := pb.away av_pb_qB gr
        replace vo := vo.away av_vo_qB gr
        replace vb := vb.away av_vb_qB gr
        replace qo := qo.away av_qo_qB gr
        replace qb := qb.away av_qb_qB gr
        replace htB := blk_a htB gr d_tB_qB
        replace hpB := blk_a hpB gr d_pB_qB
        replace hT := hT.away ap_qB gr hqB
        replace ap_tB := ap_tB.grown ap_qB gr
        replace an_uo := an_uo.grown ap_qB gr
        replace an_ub := an_ub.grown ap_qB gr
        replace an_po := an_po.grown ap_qB gr
        replace an_pb := an_pb.grown ap_qB gr
        replace ap_pB := ap_pB.grown ap_qB gr
        replace an_vo := an_vo.grown ap_qB gr
        replace an_vb := an_vb.grown ap_qB gr
        replace ap_qB := ap_qB.grown ap_qB gr
        replace an_qo := an_qo.grown ap_qB gr
        replace an_qb := an_qb.grown ap_qB gr
        replace bel := below_grown bel gr oqB bel.size
        clear hqB
        have hqB := hq
        clear hq gr
        refine hK.out _ _ htB (fun hH34 => ?_)
        clear hK K
        simp only [Act.put]
        refine wpAnyH_take (i := 13) (v := ?_) rfl (by kernel_rfl) (by kernel_rfl) (by kernel_rfl) (fun _ _ _ h => h) (Or.inl ⟨by rfl, ?_⟩) hH34 ?_
        rotate_left
        · ((intro W hW; clear hW; go_simp) <;> with_reducible rfl)
        simp only [sq3, sq4]
        refine wpAnyH_done (by kernel_rfl) ?_ _
        go_wp2_with fail
        go_meet
        case rel => exact ⟨g17, Avo, cvo, Avb, cvb, Aqo, cqo, Aqb, cqb, rfl, rfl, htB, hpB, hqB, oqB, d_pB_qB, d_pB_tB, (ne_symm d_tB_qB), ll, av_ll_pB, av_ll_qB, av_ll_tB, uo, av_uo_pB, av_uo_qB, av_uo_tB, ub, av_ub_pB, av_ub_qB, av_ub_tB, po, av_po_pB, av_po_qB, av_po_tB, pb, av_pb_pB, av_pb_qB, av_pb_tB, vo, av_vo_pB, av_vo_qB, av_vo_tB, vb, av_vb_pB, av_vb_qB, av_vb_tB, qo, av_qo_pB, av_qo_qB, av_qo_tB, qb, av_qb_pB, av_qb_qB, av_qb_tB, hT, ap_tB, an_uo, an_ub, an_po, an_pb, ap_pB, an_vo, an_vb, an_qo, an_qb, ap_qB, bel⟩
      simp only [sq3]
      go_simp
      with_reducible refine (wan19 _).mono ?_
      rintro e w27 ⟨rfl, b27⟩
      dsimp only
      replace htB := blk_u htB b27
      replace hpB := blk_u hpB b27
      replace ll := ll.below b27
      replace uo := uo.below b27
      replace ub := ub.below b27
      replace po := po.below b27
      replace pb := pb.below b27
      replace vo := vo.below b27
      replace vb := vb.below b27
      replace hT := hT.below b27
      replace ap_tB := ap_tB.below b27
      replace an_uo := an_uo.below b27
      replace an_ub := an_ub.below b27
      replace an_po := an_po.below b27
      replace an_pb := an_pb.below b27
      replace ap_pB := ap_pB.below b27
      replace an_vo := an_vo.below b27
      replace an_vb := an_vb.below b27
      replace bel := bel.trans (b27.mono bel.size)
      clear b27
      refine hK.out _ _ htB (fun hH28 => ?_)
      clear hK K
      refine wpAnyH_ready (rs := [7, 11]) (by kernel_rfl) (by simp) ?_
      refine AllReadyH.cons (o := _) rfl (fun K hK => ?_) (AllReadyH.cons (o := _) rfl (fun K hK => ?_) AllReadyH.nil)
      · simp only [sq3]
        go_simp
        have lt_tB := hlt htB
        have lt_pB := hlt hpB
        with_reducible refine (e_o2 _ hT vo vb Hc1.out Hc3.out Hc2.out Hc4.out Hc5.out Hc6.out Hc7.out).mono ?_
        rintro e w29 ⟨Aqo, cqo, Aqb, cqb, rfl, hT_, f_, bb, qo, qb, an_qo, an_qb, fqo, fqb⟩
        dsimp only
        have x_ := f_ _ _ _ _ htB ap_tB
        replace htB := x_.1
        replace ap_tB := x_.2
        clear x_
        have x_ := f_ _ _ _ _ hpB ap_pB
        replace hpB := x_.1
        replace ap_pB := x_.2
        clear x_
        have x_ := f_.sl uo an_uo
        replace uo := x_.1
        replace an_uo := x_.2
        clear x_
        have x_ := f_.sl ub an_ub
        replace ub := x_.1
        replace an_ub := x_.2
        clear x_
        have x_ := f_.sl po an_po
        replace po := x_.1
        replace an_po := x_.2
        clear x_
        have x_ := f_.sl pb an_pb
        replace pb := x_.1
        replace an_pb := x_.2
        clear x_
        have x_ := f_.sl vo an_vo
        replace vo := x_.1
        replace an_vo := x_.2
        clear x_
        have x_ := f_.sl vb an_vb
        replace vb := x_.1
        replace an_vb := x_.2
        clear x_
        clear hT
        have hT := hT_
        replace bel := bel.trans bb
        clear bb f_ hT_
        replace ll := HL0.out.below bel
        have av_qo_tB := fqo.av lt_tB
        have av_qo_pB := fqo.av lt_pB
        have av_qb_tB := fqb.av lt_tB
        have av_qb_pB := fqb.av lt_pB
        clear lt_tB lt_pB
        clear fqo fqb
        refine hK.out _ _ htB (fun hH30 => ?_)
        clear hK K
        refine wpAnyH_take (i := 8) (v := ?_) rfl (by kernel_rfl) (by kernel_rfl) (by kernel_rfl) (fun _ _ _ h => h) (Or.inl ⟨by rfl, ?_⟩) hH30 ?_
        rotate_left
        · ((intro W hW; clear hW; go_simp) <;> with_reducible rfl)
        simp only [sq3, sq4]
        refine wpAnyH_take (i := 9) (v := ?_) rfl (by kernel_rfl) (by kernel_rfl) (by kernel_rfl) (fun _ _ _ h => h) (Or.inl ⟨by rfl, ?_⟩) hH30 ?_
        rotate_left
        · ((intro W hW; clear hW; go_simp) <;> with_reducible rfl)
        simp only [sq3, sq4]
        refine wpAnyH_take (i := 10) (v := ?_) rfl (by kernel_rfl) (by kernel_rfl) (by kernel_rfl) (fun _ _ _ h => h) (Or.inl ⟨by rfl, ?_⟩) hH30 ?_
        rotate_left
        · ((intro W hW; clear hW; go_simp) <;> with_reducible rfl)
        simp only [sq3, sq4]
        refine wpAnyH_ready (rs := [11]) (by kernel_rfl) (by simp) ?_
        refine AllReadyH.cons (o := _) rfl (fun K hK => ?_) AllReadyH.nil
        simp only [sq3]
        rw [if_pos (by rfl)]
        refine wp_new_a 38 rfl #[.int .i64 0, .int .i64 0, .int .i64 0, .int .i64 0, .int .i64 0, .int .i64 0, .int .u8 0, .int .u8 0, .int .u8 0, .int .u8 0, .int .u8 0, .int .u8 0, .int .u8 0, .int .u8 0, .slice none 0 0, .slice none 0 0] (by kernel_rfl) ?_
        intro g17 w31 ge hh bb
        have ap_qB := hT.ap ge
        have d_tB_qB := ne_new (hlt htB) ge
        have d_pB_qB := ne_new (hlt hpB) ge
        have av_ll_qB := ll.av_new ge
        have av_uo_qB := uo.av_new ge
        have av_ub_qB := ub.av_new ge
        have av_po_qB := po.av_new ge
        have av_pb_qB := pb.av_new ge
        have av_vo_qB := vo.av_new ge
        have av_vb_qB := vb.av_new ge
        have av_qo_qB := qo.av_new ge
        have av_qb_qB := qb.av_new ge
        have oqB := Nat.le_trans bel.size ge
        replace htB := blk_u htB bb
        replace hpB := blk_u hpB bb
        replace ll := ll.below bb
        replace uo := uo.below bb
        replace ub := ub.below bb
        replace po := po.below bb
        replace pb := pb.below bb
        replace vo := vo.below bb
        replace vb := vb.below bb
        replace qo := qo.below bb
        replace qb := qb.below bb
        replace hT := hT.below bb
        replace ap_tB := ap_tB.below bb
        replace an_uo := an_uo.below bb
        replace an_ub := an_ub.below bb
        replace an_po := an_po.below bb
        replace an_pb := an_pb.below bb
        replace ap_pB := ap_pB.below bb
        replace an_vo := an_vo.below bb
        replace an_vb := an_vb.below bb
        replace an_qo := an_qo.below bb
        replace an_qb := an_qb.below bb
        replace ap_qB := ap_qB.below bb
        replace bel := bel.trans (bb.mono bel.size)
        have hqB := hh
        clear hh ge bb
        refine hK.out _ _ htB (fun hH32 => ?_)
        clear hK K
        simp only [sq4]
        refine wpAnyH_ready (rs := [12]) (by kernel_rfl) (by simp) ?_
        refine AllReadyH.cons (o := _) rfl (fun K hK => ?_) AllReadyH.nil
        simp only [sq3]
        rw [if_pos (by rfl)]
        refine wp_store_blk 38 (.tmp 17) (.tmp 99) rfl g17 rfl _ rfl _ 38 hqB (by rfl) (by kernel_rfl) (by kernel_rfl) ?_
        intro w33 hq gr
        replace ll := ll.away av_ll_qB gr
        replace uo := uo.away av_uo_qB gr
        replace ub := ub.away av_ub_qB gr
        replace po := po.away av_po_qB gr
        replace pb := pb.away av_pb_qB gr
        replace vo := vo.away av_vo_qB gr
        replace vb := vb.away av_vb_qB gr
        replace qo := qo.away av_qo_qB gr
        replace qb := qb.away av_qb_qB gr
        replace htB := blk_a htB gr d_tB_qB
        replace hpB := blk_a hpB gr d_pB_qB
        replace hT := hT.away ap_qB gr hqB
        replace ap_tB := ap_tB.grown ap_qB gr
        replace an_uo := an_uo.grown ap_qB gr
        replace an_ub := an_ub.grown ap_qB gr
        replace an_po := an_po.grown ap_qB gr
        replace an_pb := an_pb.grown ap_qB gr
        replace ap_pB := ap_pB.grown ap_qB gr
        replace an_vo := an_vo.grown ap_qB gr
        replace an_vb := an_vb.grown ap_qB gr
        replace an_qo := an_qo.grown ap_qB gr
        replace an_qb := an_qb.grown ap_qB gr
        replace ap_qB := ap_qB.grown ap_qB gr
        replace bel := below_grown bel gr oqB bel.size
        clear hqB
        have hqB := hq
        clear hq gr
        refine hK.out _ _ htB (fun hH34 => ?_)
        clear hK K
        simp only [Act.put]
        refine wpAnyH_take (i := 13) (v := ?_) rfl (by kernel_rfl) (by kernel_rfl) (by kernel_rfl) (fun _ _ _ h => h) (Or.inl ⟨by rfl, ?_⟩) hH34 ?_
        rotate_left
        · ((intro W hW; clear hW; go_simp) <;> with_reducible rfl)
        simp only [sq3, sq4]
        refine wpAnyH_done (by kernel_rfl) ?_ _
        go_wp2_with fail
        go_meet
        case rel => exact ⟨g17, Avo, cvo, Avb, cvb, Aqo, cqo, Aqb, cqb, rfl, rfl, htB, hpB, hqB, oqB, d_pB_qB, d_pB_tB, (ne_symm d_tB_qB), ll, av_ll_pB, av_ll_qB, av_ll_tB, uo, av_uo_pB, av_uo_qB, av_uo_tB, ub, av_ub_pB, av_ub_qB, av_ub_tB, po, av_po_pB, av_po_qB, av_po_tB, pb, av_pb_pB, av_pb_qB, av_pb_tB, vo, av_vo_pB, av_vo_qB, av_vo_tB, vb, av_vb_pB, av_vb_qB, av_vb_tB, qo, av_qo_pB, av_qo_qB, av_qo_tB, qb, av_qb_pB, av_qb_qB, av_qb_tB, hT, ap_tB, an_uo, an_ub, an_po, an_pb, ap_pB, an_vo, an_vb, an_qo, an_qb, ap_qB, bel⟩
      simp only [sq3]
      rw [if_pos (by rfl)]
      refine wp_new_a 38 rfl #[.int .i64 0, .int .i64 0, .int .i64 0, .int .i64 0, .int .i64 0, .int .i64 0, .int .u8 0, .int .u8 0, .int .u8 0, .int .u8 0, .int .u8 0, .int .u8 0, .int .u8 0, .int .u8 0, .slice none 0 0, .slice none 0 0] (by kernel_rfl) ?_
      intro g17 w29 ge hh bb
      have ap_qB := hT.ap ge
      have d_tB_qB := ne_new (hlt htB) ge
      have d_pB_qB := ne_new (hlt hpB) ge
      have av_ll_qB := ll.av_new ge
      have av_uo_qB := uo.av_new ge
      have av_ub_qB := ub.av_new ge
      have av_po_qB := po.av_new ge
      have av_pb_qB := pb.av_new ge
      have av_vo_qB := vo.av_new ge
      have av_vb_qB := vb.av_new ge
      have oqB := Nat.le_trans bel.size ge
      replace htB := blk_u htB bb
      replace hpB := blk_u hpB bb
      replace ll := ll.below bb
      replace uo := uo.below bb
      replace ub := ub.below bb
      replace po := po.below bb
      replace pb := pb.below bb
      replace vo := vo.below bb
      replace vb := vb.below bb
      replace hT := hT.below bb
      replace ap_tB := ap_tB.below bb
      replace an_uo := an_uo.below bb
      replace an_ub := an_ub.below bb
      replace an_po := an_po.below bb
      replace an_pb := an_pb.below bb
      replace ap_pB := ap_pB.below bb
      replace an_vo := an_vo.below bb
      replace an_vb := an_vb.below bb
      replace ap_qB := ap_qB.below bb
      replace bel := bel.trans (bb.mono bel.size)
      have hqB := hh
      clear hh ge bb
      refine hK.out _ _ htB (fun hH30 => ?_)
      clear hK K
      simp only [sq4]
      refine wpAnyH_ready (rs := [7]) (by kernel_rfl) (by simp) ?_
      refine AllReadyH.cons (o := _) rfl (fun K hK => ?_) AllReadyH.nil
      simp only [sq3]
      go_simp
      have lt_tB := hlt htB
      have lt_pB := hlt hpB
      have lt_qB := hlt hqB
      with_reducible refine (e_o2 _ hT vo vb Hc1.out Hc3.out Hc2.out Hc4.out Hc5.out Hc6.out Hc7.out).mono ?_
      rintro e w31 ⟨Aqo, cqo, Aqb, cqb, rfl, hT_, f_, bb, qo, qb, an_qo, an_qb, fqo, fqb⟩
      dsimp only
      have x_ := f_ _ _ _ _ htB ap_tB
      replace htB := x_.1
      replace ap_tB := x_.2
      clear x_
      have x_ := f_ _ _ _ _ hpB ap_pB
      replace hpB := x_.1
      replace ap_pB := x_.2
      clear x_
      have x_ := f_ _ _ _ _ hqB ap_qB
      replace hqB := x_.1
      replace ap_qB := x_.2
      clear x_
      have x_ := f_.sl uo an_uo
      replace uo := x_.1
      replace an_uo := x_.2
      clear x_
      have x_ := f_.sl ub an_ub
      replace ub := x_.1
      replace an_ub := x_.2
      clear x_
      have x_ := f_.sl po an_po
      replace po := x_.1
      replace an_po := x_.2
      clear x_
      have x_ := f_.sl pb an_pb
      replace pb := x_.1
      replace an_pb := x_.2
      clear x_
      have x_ := f_.sl vo an_vo
      replace vo := x_.1
      replace an_vo := x_.2
      clear x_
      have x_ := f_.sl vb an_vb
      replace vb := x_.1
      replace an_vb := x_.2
      clear x_
      clear hT
      have hT := hT_
      replace bel := bel.trans bb
      clear bb f_ hT_
      replace ll := HL0.out.below bel
      have av_qo_tB := fqo.av lt_tB
      have av_qo_pB := fqo.av lt_pB
      have av_qo_qB := fqo.av lt_qB
      have av_qb_tB := fqb.av lt_tB
      have av_qb_pB := fqb.av lt_pB
      have av_qb_qB := fqb.av lt_qB
      clear lt_tB lt_pB lt_qB
      clear fqo fqb
      refine hK.out _ _ htB (fun hH32 => ?_)
      clear hK K
      refine wpAnyH_take (i := 8) (v := ?_) rfl (by kernel_rfl) (by kernel_rfl) (by kernel_rfl) (fun _ _ _ h => h) (Or.inl ⟨by rfl, ?_⟩) hH32 ?_
      rotate_left
      · ((intro W hW; clear hW; go_simp) <;> with_reducible rfl)
      simp only [sq3, sq4]
      refine wpAnyH_take (i := 9) (v := ?_) rfl (by kernel_rfl) (by kernel_rfl) (by kernel_rfl) (fun _ _ _ h => h) (Or.inl ⟨by rfl, ?_⟩) hH32 ?_
      rotate_left
      · ((intro W hW; clear hW; go_simp) <;> with_reducible rfl)
      simp only [sq3, sq4]
      refine wpAnyH_take (i := 10) (v := ?_) rfl (by kernel_rfl) (by kernel_rfl) (by kernel_rfl) (fun _ _ _ h => h) (Or.inl ⟨by rfl, ?_⟩) hH32 ?_
      rotate_left
      · ((intro W hW; clear hW; go_simp) <;> with_reducible rfl)
      simp only [sq3, sq4]
      refine wpAnyH_ready (rs := [12]) (by kernel_rfl) (by simp) ?_
      refine AllReadyH.cons (o := _) rfl (fun K hK => ?_) AllReadyH.nil
      simp only [sq3]
      rw [if_pos (by rfl)]
      refine wp_store_blk 38 (.tmp 17) (.tmp 99) rfl g17 rfl _ rfl _ 38 hqB (by rfl) (by kernel_rfl) (by kernel_rfl) ?_
      intro w33 hq gr
      replace ll := ll.away av_ll_qB gr
      replace uo := uo.away av_uo_qB gr
      replace ub := ub.away av_ub_qB gr
      replace po := po.away av_po_qB gr
      replace pb := pb.away av_pb_qB gr
      replace vo := vo.away av_vo_qB gr
      replace vb := vb.away av_vb_qB gr
      replace qo := qo.away av_qo_qB gr
      replace qb := qb.away av_qb_qB gr
      replace htB := blk_a htB gr d_tB_qB
      replace hpB := blk_a hpB gr d_pB_qB
      replace hT := hT.away ap_qB gr hqB
      replace ap_tB := ap_tB.grown ap_qB gr
      replace an_uo := an_uo.grown ap_qB gr
      replace an_ub := an_ub.grown ap_qB gr
      replace an_po := an_po.grown ap_qB gr
      replace an_pb := an_pb.grown ap_qB gr
      replace ap_pB := ap_pB.grown ap_qB gr
      replace an_vo := an_vo.grown ap_qB gr
      replace an_vb := an_vb.grown ap_qB gr
      replace ap_qB := ap_qB.grown ap_qB gr
      replace an_qo := an_qo.grown ap_qB gr
      replace an_qb := an_qb.grown ap_qB gr
      replace bel := below_grown bel gr oqB bel.size
      clear hqB
      have hqB := hq
      clear hq gr
      refine hK.out _ _ htB (fun hH34 => ?_)
      clear hK K
      simp only [Act.put]
      refine wpAnyH_take (i := 13) (v := ?_) rfl (by kernel_rfl) (by kernel_rfl) (by kernel_rfl) (fun _ _ _ h => h) (Or.inl ⟨by rfl, ?_⟩) hH34 ?_
      rotate_left
      · ((intro W hW; clear hW; go_simp) <;> with_reducible rfl)
      simp only [sq3, sq4]
      refine wpAnyH_done (by kernel_rfl) ?_ _
      go_wp2_with fail
      go_meet
      case rel => exact ⟨g17, Avo, cvo, Avb, cvb, Aqo, cqo, Aqb, cqb, rfl, rfl, htB, hpB, hqB, oqB, d_pB_qB, d_pB_tB, (ne_symm d_tB_qB), ll, av_ll_pB, av_ll_qB, av_ll_tB, uo, av_uo_pB, av_uo_qB, av_uo_tB, ub, av_ub_pB, av_ub_qB, av_ub_tB, po, av_po_pB, av_po_qB, av_po_tB, pb, av_pb_pB, av_pb_qB, av_pb_tB, vo, av_vo_pB, av_vo_qB, av_vo_tB, vb, av_vb_pB, av_vb_qB, av_vb_tB, qo, av_qo_pB, av_qo_qB, av_qo_tB, qb, av_qb_pB, av_qb_qB, av_qb_tB, hT, ap_tB, an_uo, an_ub, an_po, an_pb, ap_pB, an_vo, an_vb, an_qo, an_qb, ap_qB, bel⟩
    obtain ⟨w35, hw_⟩ : ∃ x, x = wc := ⟨_, rfl⟩
    subst hw_
    obtain ⟨g17, Avo, cvo, Avb, cvb, Aqo, cqo, Aqb, cqb, rfl, rfl, htB, hpB, hqB, oqB, d_pB_qB, d_pB_tB, d_qB_tB, ll, av_ll_pB, av_ll_qB, av_ll_tB, uo, av_uo_pB, av_uo_qB, av_uo_tB, ub, av_ub_pB, av_ub_qB, av_ub_tB, po, av_po_pB, av_po_qB, av_po_tB, pb, av_pb_pB, av_pb_qB, av_pb_tB, vo, av_vo_pB, av_vo_qB, av_vo_tB, vb, av_vb_pB, av_vb_qB, av_vb_tB, qo, av_qo_pB, av_qo_qB, av_qo_tB, qb, av_qb_pB, av_qb_qB, av_qb_tB, hT, ap_tB, an_uo, an_ub, an_po, an_pb, ap_pB, an_vo, an_vb, an_qo, an_qb, ap_qB, bel⟩ := hcut
    have R102 := Lib.hid (range_lit hpB 0 16 [.int .i64 0, .int .i64 0, .int .i64 0, .int .i64 0, .int .i64 64, .int .i64 17, .int .u8 203, .int .u8 0, .int .u8 113, .int .u8 7, .int .u8 8, .int .u8 8, .int .u8 ((byteOf (x / 256)).toNat : Int), .int .u8 ((byteOf x).toNat : Int), .slice Apo 0 cpo, .slice Apb 9 cpb] rfl)
    go_wp2_with (first | ((with_reducible show wpList _ _ _ (⟨some 102, _, _, _, _, _⟩ :: _) _ _); refine wpList_load_rng 38 (.tmp 15) rfl (by kernel_rfl) _ _ rfl _ R102.out _ Tryz.underlying38 rfl (by kernel_rfl) ?_))
    try clear R102
    with_reducible refine (e_g1 _ pb Hc7.out).mono ?_
    rintro e w36 ⟨Agc, cgc, rfl, gc, fgc, b36⟩
    have av_gc_tB := fgc.av (hlt htB)
    have av_gc_pB := fgc.av (hlt hpB)
    have av_gc_qB := fgc.av (hlt hqB)
    have an_gc := hT.an fgc
    replace htB := blk_u htB b36
    replace hpB := blk_u hpB b36
    replace hqB := blk_u hqB b36
    replace ll := ll.below b36
    replace uo := uo.below b36
    replace ub := ub.below b36
    replace po := po.below b36
    replace pb := pb.below b36
    replace vo := vo.below b36
    replace vb := vb.below b36
    replace qo := qo.below b36
    replace qb := qb.below b36
    replace hT := hT.below b36
    replace ap_tB := ap_tB.below b36
    replace an_uo := an_uo.below b36
    replace an_ub := an_ub.below b36
    replace an_po := an_po.below b36
    replace an_pb := an_pb.below b36
    replace ap_pB := ap_pB.below b36
    replace an_vo := an_vo.below b36
    replace an_vb := an_vb.below b36
    replace an_qo := an_qo.below b36
    replace an_qb := an_qb.below b36
    replace ap_qB := ap_qB.below b36
    replace an_gc := an_gc.below b36
    replace bel := bel.trans (b36.mono bel.size)
    clear b36
    replace gc : Sl w36 (Agc) (1) (cgc) ([120]) := gc
    go_wp2_with (first | ((with_reducible show wpList _ _ _ (⟨some 19, _, _, _, _, _⟩ :: _) _ _); refine wpList_new_a rfl 54 rfl #[.int .i64 0, .int .i64 0, .slice none 0 0] (by kernel_rfl) ?_; intro g19 w37 ge hh bb; have ap_cB := hT.ap ge; have d_tB_cB := ne_new (hlt htB) ge; have d_pB_cB := ne_new (hlt hpB) ge; have d_qB_cB := ne_new (hlt hqB) ge; have av_ll_cB := ll.av_new ge; have av_uo_cB := uo.av_new ge; have av_ub_cB := ub.av_new ge; have av_po_cB := po.av_new ge; have av_pb_cB := pb.av_new ge; have av_vo_cB := vo.av_new ge; have av_vb_cB := vb.av_new ge; have av_qo_cB := qo.av_new ge; have av_qb_cB := qb.av_new ge; have av_gc_cB := gc.av_new ge; have ocB := Nat.le_trans bel.size ge; replace htB := blk_u htB bb; replace hpB := blk_u hpB bb; replace hqB := blk_u hqB bb; replace ll := ll.below bb; replace uo := uo.below bb; replace ub := ub.below bb; replace po := po.below bb; replace pb := pb.below bb; replace vo := vo.below bb; replace vb := vb.below bb; replace qo := qo.below bb; replace qb := qb.below bb; replace gc := gc.below bb; replace hT := hT.below bb; replace ap_tB := ap_tB.below bb; replace an_uo := an_uo.below bb; replace an_ub := an_ub.below bb; replace an_po := an_po.below bb; replace an_pb := an_pb.below bb; replace ap_pB := ap_pB.below bb; replace an_vo := an_vo.below bb; replace an_vb := an_vb.below bb; replace an_qo := an_qo.below bb; replace an_qb := an_qb.below bb; replace ap_qB := ap_qB.below bb; replace an_gc := an_gc.below bb; replace ap_cB := ap_cB.below bb; replace bel := bel.trans (bb.mono bel.size); have hcB := hh; clear hh ge bb) | ((with_reducible show wpList _ _ _ (⟨none, Op.store _ (.tmp 19) _, _, _, _, _⟩ :: _) _ _); refine wpList_store_blk rfl 54 (.tmp 19) (.tmp 104) rfl g19 rfl _ rfl _ 54 hcB (by rfl) (by kernel_rfl) (by kernel_rfl) ?_; intro w38 hq gr; replace ll := ll.away av_ll_cB gr; replace uo := uo.away av_uo_cB gr; replace ub := ub.away av_ub_cB gr; replace po := po.away av_po_cB gr; replace pb := pb.away av_pb_cB gr; replace vo := vo.away av_vo_cB gr; replace vb := vb.away av_vb_cB gr; replace qo := qo.away av_qo_cB gr; replace qb := qb.away av_qb_cB gr; replace gc := gc.away av_gc_cB gr; replace htB := blk_a htB gr d_tB_cB; replace hpB := blk_a hpB gr d_pB_cB; replace hqB := blk_a hqB gr d_qB_cB; replace hT := hT.away ap_cB gr hcB; replace ap_tB := ap_tB.grown ap_cB gr; replace an_uo := an_uo.grown ap_cB gr; replace an_ub := an_ub.grown ap_cB gr; replace an_po := an_po.grown ap_cB gr; replace an_pb := an_pb.grown ap_cB gr; replace ap_pB := ap_pB.grown ap_cB gr; replace an_vo := an_vo.grown ap_cB gr; replace an_vb := an_vb.grown ap_cB gr; replace an_qo := an_qo.grown ap_cB gr; replace an_qb := an_qb.grown ap_cB gr; replace ap_qB := ap_qB.grown ap_cB gr; replace an_gc := an_gc.grown ap_cB gr; replace ap_cB := ap_cB.grown ap_cB gr; replace bel := below_grown bel gr ocB bel.size; clear hcB; have hcB := hq; clear hq gr; have R107 := Lib.hid (range_lit hqB 0 16 [.int .i64 0, .int .i64 0, .int .i64 0, .int .i64 0, .int .i64 64, .int .i64 17, .int .u8 203, .int .u8 0, .int .u8 113, .int .u8 7, .int .u8 8, .int .u8 8, .int .u8 ((byteOf (x / 256)).toNat : Int), .int .u8 ((byteOf x).toNat : Int), .slice Aqo 0 cqo, .slice Aqb 9 cqb] rfl)) | ((with_reducible show wpList _ _ _ (⟨some 107, _, _, _, _, _⟩ :: _) _ _); refine wpList_load_rng 38 (.tmp 17) rfl (by kernel_rfl) _ _ rfl _ R107.out _ Tryz.underlying38 rfl (by kernel_rfl) ?_))
    try clear R107
    with_reducible refine (e_g2 _ qb).mono ?_
    rintro e w39 ⟨Agd, cgd, rfl, gd, fgd, b39⟩
    have av_gd_tB := fgd.av (hlt htB)
    have av_gd_pB := fgd.av (hlt hpB)
    have av_gd_qB := fgd.av (hlt hqB)
    have av_gd_cB := fgd.av (hlt hcB)
    have an_gd := hT.an fgd
    replace htB := blk_u htB b39
    replace hpB := blk_u hpB b39
    replace hqB := blk_u hqB b39
    replace hcB := blk_u hcB b39
    replace ll := ll.below b39
    replace uo := uo.below b39
    replace ub := ub.below b39
    replace po := po.below b39
    replace pb := pb.below b39
    replace vo := vo.below b39
    replace vb := vb.below b39
    replace qo := qo.below b39
    replace qb := qb.below b39
    replace gc := gc.below b39
    replace hT := hT.below b39
    replace ap_tB := ap_tB.below b39
    replace an_uo := an_uo.below b39
    replace an_ub := an_ub.below b39
    replace an_po := an_po.below b39
    replace an_pb := an_pb.below b39
    replace ap_pB := ap_pB.below b39
    replace an_vo := an_vo.below b39
    replace an_vb := an_vb.below b39
    replace an_qo := an_qo.below b39
    replace an_qb := an_qb.below b39
    replace ap_qB := ap_qB.below b39
    replace an_gc := an_gc.below b39
    replace ap_cB := ap_cB.below b39
    replace an_gd := an_gd.below b39
    replace bel := bel.trans (b39.mono bel.size)
    clear b39
    replace gd : Sl w39 (Agd) (1) (cgd) ([120]) := gd
    rcases Nat.eq_zero_or_pos k with hk0 | hk0
    · have hx0 : eX p k = -1 := by rw [hk0]; rfl
      have hy0 : eY p k = -1 := by rw [hk0]; rfl
      clear hk0
      have hne : (nQ p == eQ p) = false := beq_eq_false_iff_ne.2 (eQ_ne p)
      go_wp2_with (first | ((with_reducible show wpList _ _ _ (⟨some 21, _, _, _, _, _⟩ :: _) _ _); refine wpList_new_a rfl 54 rfl #[.int .i64 0, .int .i64 0, .slice none 0 0] (by kernel_rfl) ?_; intro g21 w40 ge hh bb; have ap_dB := hT.ap ge; have d_tB_dB := ne_new (hlt htB) ge; have d_pB_dB := ne_new (hlt hpB) ge; have d_qB_dB := ne_new (hlt hqB) ge; have d_cB_dB := ne_new (hlt hcB) ge; have av_ll_dB := ll.av_new ge; have av_uo_dB := uo.av_new ge; have av_ub_dB := ub.av_new ge; have av_po_dB := po.av_new ge; have av_pb_dB := pb.av_new ge; have av_vo_dB := vo.av_new ge; have av_vb_dB := vb.av_new ge; have av_qo_dB := qo.av_new ge; have av_qb_dB := qb.av_new ge; have av_gc_dB := gc.av_new ge; have av_gd_dB := gd.av_new ge; have odB := Nat.le_trans bel.size ge; replace htB := blk_u htB bb; replace hpB := blk_u hpB bb; replace hqB := blk_u hqB bb; replace hcB := blk_u hcB bb; replace ll := ll.below bb; replace uo := uo.below bb; replace ub := ub.below bb; replace po := po.below bb; replace pb := pb.below bb; replace vo := vo.below bb; replace vb := vb.below bb; replace qo := qo.below bb; replace qb := qb.below bb; replace gc := gc.below bb; replace gd := gd.below bb; replace hT := hT.below bb; replace ap_tB := ap_tB.below bb; replace an_uo := an_uo.below bb; replace an_ub := an_ub.below bb; replace an_po := an_po.below bb; replace an_pb := an_pb.below bb; replace ap_pB := ap_pB.below bb; replace an_vo := an_vo.below bb; replace an_vb := an_vb.below bb; replace an_qo := an_qo.below bb; replace an_qb := an_qb.below bb; replace ap_qB := ap_qB.below bb; replace an_gc := an_gc.below bb; replace ap_cB := ap_cB.below bb; replace an_gd := an_gd.below bb; replace ap_dB := ap_dB.below bb; replace bel := bel.trans (bb.mono bel.size); have hdB := hh; clear hh ge bb) | ((with_reducible show wpList _ _ _ (⟨none, Op.store _ (.tmp 21) _, _, _, _, _⟩ :: _) _ _); refine wpList_store_blk rfl 54 (.tmp 21) (.tmp 109) rfl g21 rfl _ rfl _ 54 hdB (by rfl) (by kernel_rfl) (by kernel_rfl) ?_; intro w41 hq gr; replace ll := ll.away av_ll_dB gr; replace uo := uo.away av_uo_dB gr; replace ub := ub.away av_ub_dB gr; replace po := po.away av_po_dB gr; replace pb := pb.away av_pb_dB gr; replace vo := vo.away av_vo_dB gr; replace vb := vb.away av_vb_dB gr; replace qo := qo.away av_qo_dB gr; replace qb := qb.away av_qb_dB gr; replace gc := gc.away av_gc_dB gr; replace gd := gd.away av_gd_dB gr; replace htB := blk_a htB gr d_tB_dB; replace hpB := blk_a hpB gr d_pB_dB; replace hqB := blk_a hqB gr d_qB_dB; replace hcB := blk_a hcB gr d_cB_dB; replace hT := hT.away ap_dB gr hdB; replace ap_tB := ap_tB.grown ap_dB gr; replace an_uo := an_uo.grown ap_dB gr; replace an_ub := an_ub.grown ap_dB gr; replace an_po := an_po.grown ap_dB gr; replace an_pb := an_pb.grown ap_dB gr; replace ap_pB := ap_pB.grown ap_dB gr; replace an_vo := an_vo.grown ap_dB gr; replace an_vb := an_vb.grown ap_dB gr; replace an_qo := an_qo.grown ap_dB gr; replace an_qb := an_qb.grown ap_dB gr; replace ap_qB := ap_qB.grown ap_dB gr; replace an_gc := an_gc.grown ap_dB gr; replace ap_cB := ap_cB.grown ap_dB gr; replace an_gd := an_gd.grown ap_dB gr; replace ap_dB := ap_dB.grown ap_dB gr; replace bel := below_grown bel gr odB bel.size; clear hdB; have hdB := hq; clear hq gr; have R127 := cell_lit hcB 0 _ rfl; have R129 := cell_lit hdB 0 _ rfl))
      try clear R127
      try clear R129
      replace bel := bel.drew
      replace htB : w41.drew.heap[g14]? = _ := htB
      replace hpB : w41.drew.heap[g15]? = _ := hpB
      replace hqB : w41.drew.heap[g17]? = _ := hqB
      replace hcB : w41.drew.heap[g19]? = _ := hcB
      replace hdB : w41.drew.heap[g21]? = _ := hdB
      replace ll := ll.drew
      replace uo := uo.drew
      replace ub := ub.drew
      replace po := po.drew
      replace pb := pb.drew
      replace vo := vo.drew
      replace vb := vb.drew
      replace qo := qo.drew
      replace qb := qb.drew
      replace gc := gc.drew
      replace gd := gd.drew
      replace hT := np_drew hT
      replace ap_tB := anp_drew ap_tB
      replace an_uo := an_drew an_uo
      replace an_ub := an_drew an_ub
      replace an_po := an_drew an_po
      replace an_pb := an_drew an_pb
      replace ap_pB := anp_drew ap_pB
      replace an_vo := an_drew an_vo
      replace an_vb := an_drew an_vb
      replace an_qo := an_drew an_qo
      replace an_qb := an_drew an_qb
      replace ap_qB := anp_drew ap_qB
      replace an_gc := an_drew an_gc
      replace ap_cB := anp_drew ap_cB
      replace an_gd := an_drew an_gd
      replace ap_dB := anp_drew ap_dB
      refine wp_region_held_drew (S := fun W => W.heap[g19]? = some (.cells #[.int .i64 (nQ p), .int .i64 53, .slice Agc 1 cgc] 54 (0, 0)) ∧ W.heap[g21]? = some (.cells #[.int .i64 (eQ p), .int .i64 53, .slice Agd 1 cgd] 54 (0, 0))) (by kernel_rfl) ⟨hcB, hdB⟩ (fun hH => ?_)
      generalize w41.drew = w42 at bel htB hpB hqB hcB hdB ll uo ub po pb vo vb qo qb gc gd hT ap_tB an_uo an_ub an_po an_pb ap_pB an_vo an_vb an_qo an_qb ap_qB an_gc ap_cB an_gd ap_dB hH ⊢
      refine wpAnyH_take (i := 0) (v := ?_) rfl (by kernel_rfl) (by kernel_rfl) (by kernel_rfl) (fun _ _ _ h => h) (Or.inl ⟨by rfl, ?_⟩) hH ?_
      rotate_left
      · ((intro W hW; clear hW; go_simp) <;> with_reducible rfl)
      simp only [Act.put, List.getElem_toArray, List.getElem_cons_zero, List.setIfInBounds_toArray, List.set_cons_zero, List.set_cons_succ]
      refine wpAnyH_take (i := 1) (v := ?_) rfl (by kernel_rfl) (by kernel_rfl) (by kernel_rfl) (fun _ _ _ h => h) (Or.inl ⟨by rfl, ?_⟩) hH ?_
      rotate_left
      · ((intro W hW; have hk := cell_lit (hW.1) 0 _ rfl; clear hW; go_simp) <;> with_reducible rfl)
      simp only [sq3, sq4]
      refine wpAnyH_take (i := 2) (v := ?_) rfl (by kernel_rfl) (by kernel_rfl) (by kernel_rfl) (fun _ _ _ h => h) (Or.inl ⟨by rfl, ?_⟩) hH ?_
      rotate_left
      · ((intro W hW; clear hW; go_simp) <;> with_reducible rfl)
      simp only [sq3, sq4]
      refine wpAnyH_take (i := 3) (v := ?_) rfl (by kernel_rfl) (by kernel_rfl) (by kernel_rfl) (fun _ _ _ h => h) (Or.inl ⟨by rfl, ?_⟩) hH ?_
      rotate_left
      · ((intro W hW; have hk := cell_lit (hW.2) 0 _ rfl; clear hW; go_simp) <;> with_reducible rfl)
      simp only [sq3, sq4]
      refine wpAnyH_take (i := 4) (v := ?_) rfl (by kernel_rfl) (by kernel_rfl) (by kernel_rfl) (fun _ _ _ h => h) (Or.inl ⟨by rfl, ?_⟩) hH ?_
      rotate_left
      · ((intro W hW; clear hW; go_simp) <;> with_reducible rfl)
      simp only [sq3, sq4]
      refine wpAnyH_take (i := 5) (v := ?_) rfl (by kernel_rfl) (by kernel_rfl) (by kernel_rfl) (fun _ _ _ h => h) (Or.inl ⟨by rfl, ?_⟩) hH ?_
      rotate_left
      · ((intro W hW; clear hW; go_simp) <;> with_reducible rfl)
      simp only [sq3, sq4]
      refine wpAnyH_done (by kernel_rfl) ?_ _
      go_wp2_with fail
      go_roundg (n - (k + 1))
      case measure => have := HGK_.out; have := HK2.out; omega
      case rel => exact ⟨k + 1, rfl, by have := HK2.out; omega, hT, by go_num, by go_num, by go_num, ll, bel⟩
    have hx0 : eX p k = nQ p := by obtain ⟨j, rfl⟩ : ∃ j, k = j + 1 := ⟨k - 1, by omega⟩; rfl
    have hy0 : eY p k = eQ p := by obtain ⟨j, rfl⟩ : ∃ j, k = j + 1 := ⟨k - 1, by omega⟩; rfl
    clear hk0
    have hq0 : nQ p ≥ 0 := Int.le_trans (by decide) (nQ_ok Hc7.out).1
    have hne : (nQ p == eQ p) = false := beq_eq_false_iff_ne.2 (eQ_ne p)
    go_wp2_with (first | ((with_reducible show wpList _ _ _ (⟨some 21, _, _, _, _, _⟩ :: _) _ _); refine wpList_new_a rfl 54 rfl #[.int .i64 0, .int .i64 0, .slice none 0 0] (by kernel_rfl) ?_; intro g21 w40 ge hh bb; have ap_dB := hT.ap ge; have d_tB_dB := ne_new (hlt htB) ge; have d_pB_dB := ne_new (hlt hpB) ge; have d_qB_dB := ne_new (hlt hqB) ge; have d_cB_dB := ne_new (hlt hcB) ge; have av_ll_dB := ll.av_new ge; have av_uo_dB := uo.av_new ge; have av_ub_dB := ub.av_new ge; have av_po_dB := po.av_new ge; have av_pb_dB := pb.av_new ge; have av_vo_dB := vo.av_new ge; have av_vb_dB := vb.av_new ge; have av_qo_dB := qo.av_new ge; have av_qb_dB := qb.av_new ge; have av_gc_dB := gc.av_new ge; have av_gd_dB := gd.av_new ge; have odB := Nat.le_trans bel.size ge; replace htB := blk_u htB bb; replace hpB := blk_u hpB bb; replace hqB := blk_u hqB bb; replace hcB := blk_u hcB bb; replace ll := ll.below bb; replace uo := uo.below bb; replace ub := ub.below bb; replace po := po.below bb; replace pb := pb.below bb; replace vo := vo.below bb; replace vb := vb.below bb; replace qo := qo.below bb; replace qb := qb.below bb; replace gc := gc.below bb; replace gd := gd.below bb; replace hT := hT.below bb; replace ap_tB := ap_tB.below bb; replace an_uo := an_uo.below bb; replace an_ub := an_ub.below bb; replace an_po := an_po.below bb; replace an_pb := an_pb.below bb; replace ap_pB := ap_pB.below bb; replace an_vo := an_vo.below bb; replace an_vb := an_vb.below bb; replace an_qo := an_qo.below bb; replace an_qb := an_qb.below bb; replace ap_qB := ap_qB.below bb; replace an_gc := an_gc.below bb; replace ap_cB := ap_cB.below bb; replace an_gd := an_gd.below bb; replace ap_dB := ap_dB.below bb; replace bel := bel.trans (bb.mono bel.size); have hdB := hh; clear hh ge bb) | ((with_reducible show wpList _ _ _ (⟨none, Op.store _ (.tmp 21) _, _, _, _, _⟩ :: _) _ _); refine wpList_store_blk rfl 54 (.tmp 21) (.tmp 109) rfl g21 rfl _ rfl _ 54 hdB (by rfl) (by kernel_rfl) (by kernel_rfl) ?_; intro w41 hq gr; replace ll := ll.away av_ll_dB gr; replace uo := uo.away av_uo_dB gr; replace ub := ub.away av_ub_dB gr; replace po := po.away av_po_dB gr; replace pb := pb.away av_pb_dB gr; replace vo := vo.away av_vo_dB gr; replace vb := vb.away av_vb_dB gr; replace qo := qo.away av_qo_dB gr; replace qb := qb.away av_qb_dB gr; replace gc := gc.away av_gc_dB gr; replace gd := gd.away av_gd_dB gr; replace htB := blk_a htB gr d_tB_dB; replace hpB := blk_a hpB gr d_pB_dB; replace hqB := blk_a hqB gr d_qB_dB; replace hcB := blk_a hcB gr d_cB_dB; replace hT := hT.away ap_dB gr hdB; replace ap_tB := ap_tB.grown ap_dB gr; replace an_uo := an_uo.grown ap_dB gr; replace an_ub := an_ub.grown ap_dB gr; replace an_po := an_po.grown ap_dB gr; replace an_pb := an_pb.grown ap_dB gr; replace ap_pB := ap_pB.grown ap_dB gr; replace an_vo := an_vo.grown ap_dB gr; replace an_vb := an_vb.grown ap_dB gr; replace an_qo := an_qo.grown ap_dB gr; replace an_qb := an_qb.grown ap_dB gr; replace ap_qB := ap_qB.grown ap_dB gr; replace an_gc := an_gc.grown ap_dB gr; replace ap_cB := ap_cB.grown ap_dB gr; replace an_gd := an_gd.grown ap_dB gr; replace ap_dB := ap_dB.grown ap_dB gr; replace bel := below_grown bel gr odB bel.size; clear hdB; have hdB := hq; clear hq gr; have R127 := cell_lit hcB 0 _ rfl; have R129 := cell_lit hdB 0 _ rfl; have R137 := cell_lit hcB 0 _ rfl; have R142 := cell_lit hdB 0 _ rfl))
    try clear R127
    try clear R129
    try clear R137
    try clear R142
    replace bel := bel.drew
    replace htB : w41.drew.heap[g14]? = _ := htB
    replace hpB : w41.drew.heap[g15]? = _ := hpB
    replace hqB : w41.drew.heap[g17]? = _ := hqB
    replace hcB : w41.drew.heap[g19]? = _ := hcB
    replace hdB : w41.drew.heap[g21]? = _ := hdB
    replace ll := ll.drew
    replace uo := uo.drew
    replace ub := ub.drew
    replace po := po.drew
    replace pb := pb.drew
    replace vo := vo.drew
    replace vb := vb.drew
    replace qo := qo.drew
    replace qb := qb.drew
    replace gc := gc.drew
    replace gd := gd.drew
    replace hT := np_drew hT
    replace ap_tB := anp_drew ap_tB
    replace an_uo := an_drew an_uo
    replace an_ub := an_drew an_ub
    replace an_po := an_drew an_po
    replace an_pb := an_drew an_pb
    replace ap_pB := anp_drew ap_pB
    replace an_vo := an_drew an_vo
    replace an_vb := an_drew an_vb
    replace an_qo := an_drew an_qo
    replace an_qb := an_drew an_qb
    replace ap_qB := anp_drew ap_qB
    replace an_gc := an_drew an_gc
    replace ap_cB := anp_drew ap_cB
    replace an_gd := an_drew an_gd
    replace ap_dB := anp_drew ap_dB
    refine wp_region_held_drew (S := fun W => W.heap[g19]? = some (.cells #[.int .i64 (nQ p), .int .i64 53, .slice Agc 1 cgc] 54 (0, 0)) ∧ W.heap[g21]? = some (.cells #[.int .i64 (eQ p), .int .i64 53, .slice Agd 1 cgd] 54 (0, 0))) (by kernel_rfl) ⟨hcB, hdB⟩ (fun hH => ?_)
    generalize w41.drew = w42 at bel htB hpB hqB hcB hdB ll uo ub po pb vo vb qo qb gc gd hT ap_tB an_uo an_ub an_po an_pb ap_pB an_vo an_vb an_qo an_qb ap_qB an_gc ap_cB an_gd ap_dB hH ⊢
    refine wpAnyH_take (i := 0) (v := ?_) rfl (by kernel_rfl) (by kernel_rfl) (by kernel_rfl) (fun _ _ _ h => h) (Or.inl ⟨by rfl, ?_⟩) hH ?_
    rotate_left
    · ((intro W hW; clear hW; go_simp) <;> with_reducible rfl)
    simp only [Act.put, List.getElem_toArray, List.getElem_cons_zero, List.setIfInBounds_toArray, List.set_cons_zero, List.set_cons_succ]
    refine wpAnyH_take (i := 1) (v := ?_) rfl (by kernel_rfl) (by kernel_rfl) (by kernel_rfl) (fun _ _ _ h => h) (Or.inl ⟨by rfl, ?_⟩) hH ?_
    rotate_left
    · ((intro W hW; have hk := cell_lit (hW.1) 0 _ rfl; clear hW; go_simp) <;> with_reducible rfl)
    simp only [sq3, sq4]
    refine wpAnyH_take (i := 2) (v := ?_) rfl (by kernel_rfl) (by kernel_rfl) (by kernel_rfl) (fun _ _ _ h => h) (Or.inl ⟨by rfl, ?_⟩) hH ?_
    rotate_left
    · ((intro W hW; clear hW; go_simp) <;> with_reducible rfl)
    simp only [sq3, sq4]
    refine wpAnyH_take (i := 3) (v := ?_) rfl (by kernel_rfl) (by kernel_rfl) (by kernel_rfl) (fun _ _ _ h => h) (Or.inl ⟨by rfl, ?_⟩) hH ?_
    rotate_left
    · ((intro W hW; have hk := cell_lit (hW.2) 0 _ rfl; clear hW; go_simp) <;> with_reducible rfl)
    simp only [sq3, sq4]
    refine wpAnyH_take (i := 4) (v := ?_) rfl (by kernel_rfl) (by kernel_rfl) (by kernel_rfl) (fun _ _ _ h => h) (Or.inl ⟨by rfl, ?_⟩) hH ?_
    rotate_left
    · ((intro W hW; clear hW; go_simp) <;> with_reducible rfl)
    simp only [sq3, sq4]
    refine wpAnyH_take (i := 5) (v := ?_) rfl (by kernel_rfl) (by kernel_rfl) (by kernel_rfl) (fun _ _ _ h => h) (Or.inl ⟨by rfl, ?_⟩) hH ?_
    rotate_left
    · ((intro W hW; clear hW; go_simp) <;> with_reducible rfl)
    simp only [sq3, sq4]
    refine wpAnyH_done (by kernel_rfl) ?_ _
    go_wp2_with fail
    go_roundg (n - (k + 1))
    case measure => have := HGK_.out; have := HK2.out; omega
    case rel => exact ⟨k + 1, rfl, by have := HK2.out; omega, hT, by go_num, by go_num, by go_num, ll, bel⟩
end Go.Proofs.YtbdaejodbcjmfaaGreat
