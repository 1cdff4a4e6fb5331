/- Texts put together: Ds3. -/
import Derived.Test.YtjedknjlpeccbaaQ1
import Derived.Test.YtjedknjlpeccbaaQ6
namespace Go.Proofs.Ytjedknjlpeccbaa
open Go.RowKit

def goR (b : List UInt8) : Nat → Nat → List UInt8 → Except Nat (List UInt8 × Nat)
 | 0, a, d => .ok (d, a)
 | k + 1, a, d => if (getN b a).2.2 ≠ 0 then .error (getN b a).2.2 else goR b k (getN b a).2.1 (d ++ putN (getN b a).1)
def expR (b : List UInt8) (a x k y : Nat) : Except Nat (List UInt8 × Nat) :=
 if b.length < a + x then .error 3 else
 match goR b k (a + x) ((b.drop a).take x) with
 | .error e => .error e
 | .ok (d, a2) => if b.length < a2 + y then .error 3 else .ok (d ++ (b.drop a2).take y, a2 + y)
theorem goR_no {b : List UInt8} {a k e nx : Nat} {l : List (List UInt8)} {d : List UInt8} (h : getN b (a : Int) = (l, nx, e)) (he : e ≠ 0) : goR b (k + 1) a d = .error e := by
 rw [goR, h]; simp only [if_pos he]
theorem goR_yes {b : List UInt8} {a k nx : Nat} {l : List (List UInt8)} {d : List UInt8} (h : getN b (a : Int) = (l, nx, 0)) : goR b (k + 1) a d = goR b k nx (d ++ putN l) := by
 rw [goR, h]; rfl
theorem goR_E (b : List UInt8) : ∀ (k a : Nat) (d : List UInt8), goE b k a d = match goR b k a d with | .error _ => none | .ok x => some x
 | 0, a, d => rfl
 | k + 1, a, d => by
  rw [goE, goR]
  split
  ·rfl
  ·exact goR_E b k _ _
theorem expR_E (b : List UInt8) (a x k y : Nat) : expE b a x k y = match expR b a x k y with | .error _ => none | .ok (d, p) => if p = b.length then some d else none := by
 unfold expE expR
 split
 ·rfl
 ·rw [goR_E]
  rcases goR b k (a + x) ((b.drop a).take x) with e | ⟨d, a2⟩
  ·rfl
  ·dsimp only
   by_cases h3 : b.length < a2 + y
   ·rw [if_pos h3, if_neg (by omega)]
   ·rw [if_neg h3]
    dsimp only
    by_cases h4 : a2 + y = b.length
    ·rw [if_pos h4, if_pos h4.symm]
    ·rw [if_neg h4, if_neg (fun e => h4 e.symm)]
theorem expR_le {b d : List UInt8} {a x k y p : Nat} (h : expR b a x k y = .ok (d, p)) : p ≤ b.length := by
 unfold expR at h
 split at h
 ·cases h
 ·split at h
  ·cases h
  ·split at h
   ·cases h
   ·injection h with h; injection h with h1 h2; omega
theorem expR_inv {b d : List UInt8} {a x k y p : Nat} (h : expR b a x k y = .ok (d, p)) : a + x ≤ b.length ∧ ∃ d2 a2, goR b k (a + x) ((b.drop a).take x) = .ok (d2, a2) ∧ a2 + y = p ∧ p ≤ b.length ∧ d2 ++ (b.drop a2).take y = d := by
 have hp := expR_le h
 unfold expR at h
 split at h
 ·cases h
 ·split at h
  ·cases h
  ·rename_i d2 a2 hg
   split at h
   ·cases h
   ·injection h with h; injection h with h1 h2
    exact ⟨by omega, d2, a2, hg, h2, hp, h1⟩
theorem expR_inv_no {b : List UInt8} {a x k y e : Nat} (h : expR b a x k y = .error e) : (b.length < a + x ∧ e = 3) ∨ (a + x ≤ b.length ∧ goR b k (a + x) ((b.drop a).take x) = .error e) ∨ (a + x ≤ b.length ∧ ∃ d2 a2, goR b k (a + x) ((b.drop a).take x) = .ok (d2, a2) ∧ b.length < a2 + y ∧ e = 3) := by
 unfold expR at h
 split at h
 ·injection h with h; exact .inl ⟨by assumption, h.symm⟩
 ·split at h
  ·rename_i hg; injection h with h; subst h; exact .inr (.inl ⟨by omega, hg⟩)
  ·rename_i d2 a2 hg
   split at h
   ·injection h with h; exact .inr (.inr ⟨by omega, d2, a2, hg, by assumption, h.symm⟩)
   ·cases h
theorem dAt_inv {b d : List UInt8} {t : Int} {a k : Nat} (h : dAt b t a k = .ok d) : a + k ≤ b.length ∧ expR (b.take (a + k)) a (lay t k).1 (lay t k).2.1 (lay t k).2.2 = .ok (d, a + k) := by
 unfold dAt at h
 split at h
 ·cases h
 ·have hl : (b.take (a + k)).length = a + k := by rw [List.length_take]; omega
  rw [expR_E] at h
  rcases hx : expR (b.take (a + k)) a (lay t k).1 (lay t k).2.1 (lay t k).2.2 with e | ⟨d2, p⟩
  ·rw [hx] at h; cases h
  ·rw [hx] at h
   dsimp only at h
   split at h
   ·cases h
   ·rename_i d3 he
    split at he
    ·injection he with he
     injection h with h
     subst he; subst h
     exact ⟨by omega, by rw [← hl]; rename_i hp; rw [hp]⟩
    ·cases he
theorem dAt_inv_no {b : List UInt8} {t : Int} {a k e : Nat} (h : dAt b t a k = .error e) : (b.length < a + k ∧ e = 3) ∨ (a + k ≤ b.length ∧ e = 4 ∧ ((∃ e2, expR (b.take (a + k)) a (lay t k).1 (lay t k).2.1 (lay t k).2.2 = .error e2) ∨ ∃ d p, expR (b.take (a + k)) a (lay t k).1 (lay t k).2.1 (lay t k).2.2 = .ok (d, p) ∧ p < a + k)) := by
 unfold dAt at h
 split at h
 ·injection h with h; exact .inl ⟨by assumption, h.symm⟩
 ·have hl : (b.take (a + k)).length = a + k := by rw [List.length_take]; omega
  refine .inr ⟨by omega, ?_⟩
  rw [expR_E] at h
  rcases hx : expR (b.take (a + k)) a (lay t k).1 (lay t k).2.1 (lay t k).2.2 with e2 | ⟨d2, p⟩
  ·rw [hx] at h
   injection h with h
   exact ⟨h.symm, .inl ⟨e2, rfl⟩⟩
  ·rw [hx] at h
   dsimp only at h
   have hp := expR_le hx
   split at h
   ·rename_i he
    split at he
    ·cases he
    ·injection h with h
     exact ⟨h.symm, .inr ⟨d2, p, rfl, by omega⟩⟩
   ·cases h
theorem rAt_inv {b : List UInt8} {a a2 : Nat} {r : Rn} (h : rAt b a = .ok (r, a2)) : ∃ q a1 kd, qAt b a = .ok (q, a1) ∧ a1 + 6 ≤ b.length ∧ nAt b (a1 + 4) 2 = kd ∧ dAt b q.t (a1 + 6) kd = .ok r.data ∧ a1 + 6 + kd = a2 ∧ q.name = r.name ∧ q.t = r.t ∧ q.k = r.k ∧ ((nAt b a1 4 : Nat) : Int) = r.ttl := by
 unfold rAt at h
 split at h
 ·cases h
 ·rename_i q a1 hq
  split at h
  ·cases h
  ·split at h
   ·cases h
   ·rename_i d hd
    injection h with h; injection h with h1 h2
    subst h1
    exact ⟨q, a1, _, hq, by omega, rfl, hd, h2, rfl, rfl, rfl, rfl⟩
theorem rAt_inv_no {b : List UInt8} {a e : Nat} (h : rAt b a = .error e) : qAt b a = .error e ∨ (∃ q a1, qAt b a = .ok (q, a1) ∧ b.length < a1 + 6 ∧ e = 3) ∨ ∃ q a1 kd, qAt b a = .ok (q, a1) ∧ a1 + 6 ≤ b.length ∧ nAt b (a1 + 4) 2 = kd ∧ dAt b q.t (a1 + 6) kd = .error e := by
 unfold rAt at h
 split at h
 ·rename_i hq; injection h with h; subst h; exact .inl hq
 ·rename_i q a1 hq
  split at h
  ·injection h with h; exact .inr (.inl ⟨q, a1, hq, by assumption, h.symm⟩)
  ·split at h
   ·rename_i hd; injection h with h; subst h; exact .inr (.inr ⟨q, a1, _, hq, by omega, rfl, hd⟩)
   ·cases h
set_option linter.unusedVariables false in
set_option linter.unusedSimpArgs false in
set_option maxRecDepth 100000 in
set_option maxHeartbeats 16000000 in
theorem dexp_ok {gx n c : Nat} {A : Option Addr} {b : List UInt8} {a : Nat} (w : World) (hwk : w.heap[gx]? = some (.cells #[.slice A n c, .int .i64 (a : Int)] 53 (0, 0))) (sb : Sl w A n c b) (av_sb_wk : Av A n gx) (hn : n ≤ 100000) (ha : a ≤ 100000) (x k y : Nat) (hx0 : x ≤ 66000) (hk2 : k ≤ 2) (hy0 : y ≤ 100000) {d : List UInt8} {p2 : Nat} (he : expR b a x k y = .ok (d, p2)) : Calls Try.prog 70 #[.pointer (some ⟨gx, 0, none⟩), .int .i64 (x : Int), .int .i64 (k : Int), .int .i64 (y : Int)] w fun e w' => ∃ B m cB, e = .returned (.tuple #[.slice B m cB, .int .i64 0]) ∧ w'.ownsRow w.heap.size 5 1 (.slice B m cB) m (d.map u8v) ∧ w'.heap[gx]? = some (.cells #[.slice A n c, .int .i64 (p2 : Int)] 53 (0, 0)) ∧ w.grownBy w' (some gx) := by
 have hlo := Nat.zero_le w.heap.size
 have owk := Nat.zero_le gx
 have HBL := Lib.hid sb.1
 have a0 : (0 : Int) ≤ a := by omega
 have a1 : (a : Int) ≤ 100000 := by omega
 have n0 : (0 : Int) ≤ n := by omega
 have n1 : (n : Int) ≤ 100000 := by omega
 have hsz := Nat.le_refl w.heap.size
 have fz := fz_refl w (some gx)
 have x0 : (0 : Int) ≤ x := by omega
 have x1 : (x : Int) ≤ 100000 := by omega
 have k0 : (0 : Int) ≤ k := by omega
 have k1 : (k : Int) ≤ 2 := by omega
 have y0 : (0 : Int) ≤ y := by omega
 have y1 : (y : Int) ≤ 100000 := by omega
 have HN := Lib.hid hn
 obtain ⟨ii, hii, hz0, hz1, hz2⟩ := info_parts Try.info5
 obtain ⟨hax_, d2, a2, hg_, hp_, hpl_, hd_⟩ := expR_inv he
 have HAX : Hid (a + x ≤ n) := Lib.hid (by have h_ := HBL.out; omega)
 have HGI := Lib.hid hg_
 have HPE : Hid (a2 + y = p2 ∧ p2 ≤ n) := Lib.hid ⟨hp_, by have h_ := HBL.out; omega⟩
 have HDE := Lib.hid hd_
 clear hax_ hg_ hp_ hpl_ hd_ he
 have bel := Below.refl 0 w
 go_enter Try.func70, Try.ntmps70
 go_wp2_with fail
 with_reducible refine (dtake_ok _ hwk sb av_sb_wk hn ha _ x (a + x) rfl (by omega) rfl (by have h_ := HAX.out; omega)).mono ?_
 rintro e w1 ⟨A6, c6, rfl, hq_, tk, u_, b1⟩
 replace sb := sb.away av_sb_wk b1
 replace fz := fz_self fz b1
 replace hsz := Nat.le_trans hsz b1.size
 replace bel := below_grown bel b1 owk (Nat.le_trans hlo bel.size)
 clear b1
 clear hwk
 have hwk := hq_
 clear hq_
 have av_tk_wk := av_sb_wk.sub u_
 clear u_
 go_wp2_with fail
 with_reducible refine (nclone_any _ tk (by omega)).mono ?_
 rintro e w2 ⟨vcl, rfl, clw, b2⟩
 have hz_cl := hsz
 have y_cl_wk := Lib.hid (hlt hwk)
 have bl_sb_cl := sb.bl_new
 have bl_tk_cl := tk.bl_new
 have cllo := (Nat.le_trans hlo bel.size)
 have lz_cl := b2.size
 replace hwk := blk_u hwk b2
 replace sb := sb.below b2
 replace tk := tk.below b2
 replace fz := gk_under fz b2 hsz
 replace hsz := Nat.le_trans hsz b2.size
 replace bel := bel.trans (b2.mono (Nat.le_trans hlo bel.size))
 clear b2
 obtain ⟨Acl, ccl, rfl⟩ := own_val clw
 have cl := (own_sl clw).1
 have fr_cl := (own_sl clw).2
 have av_cl_wk := fr_cl.av y_cl_wk.out
 clear tk
 have of_cl_wk := ofs_type clw hwk (by decide)
 go_wp2_with fail
 go_loopg [12, 28] (k) (fun gk s12 s28 wr => ∃ i : Nat, ∃ p : Nat, ∃ z : Nat, ∃ dd : List UInt8, ∃ (Aou : Option Addr) (cou : Nat), gk = k - i ∧ i ≤ k ∧ Hid (goR b (k - i) p dd = goR b k (a + x) ((b.drop a).take x)) ∧ Hid (p ≤ n) ∧ z ≤ 66000 + 300 * i ∧ w.grownBy wr (some gx) ∧ w.heap.size ≤ wr.heap.size ∧ s12 = .slice Aou z cou ∧ s28 = .int .i64 (i : Int) ∧ wr.ownsRow (w.heap.size) 5 1 (.slice Aou (z) cou) (z) ((dd : List UInt8).map u8v) ∧ Ofs (.slice Aou (z) cou) gx ∧ w.heap.size ≤ wr.heap.size ∧ wr.heap[gx]? = some (.cells #[.slice A n c, .int .i64 (p : Int)] 53 (0, 0)) ∧ Sl wr (A) (n) (c) (b) ∧ Below 0 w wr)
 case atStart => exact ⟨0, a + x, x, (b.drop a).take x, Acl, ccl, Nat.sub_zero _, Nat.zero_le _, Lib.hid rfl, Lib.hid (by have h_ := HAX.out; omega), by omega, fz, hsz, rfl, rfl, (owk_lo clw hz_cl), of_cl_wk, hsz, hwk, sb, bel⟩
 case round =>
  clear fz hsz hwk sb cl bel
  obtain ⟨i, p, z, dd, Aou, cou, HGK, hi, HG, HP, hz, fz, hsz, rfl, rfl, ouw, of_ou_wk, lz_ou, hwk, sb, bel⟩ := hrel
  have HGK_ := Lib.hid HGK
  clear HGK
  have ou := (own_sl ouw).1
  have fr_ou := (own_sl ouw).2
  have av_ou_wk := own_av ouw of_ou_wk
  have hz_ou := Nat.le_refl w.heap.size
  have i0 : (0 : Int) ≤ i := by omega
  have p0 : (0 : Int) ≤ p := by omega
  have p1 : (p : Int) ≤ 100000 := by have h_ := HP.out; have h1_ := HN.out; omega
  have PL : p ≤ 100000 := by omega
  have oulo := Nat.zero_le w.heap.size
  by_cases hik : i < k
  rotate_left
  ·have hh := Lib.hid hik
   obtain rfl : i = k := by omega
   replace hik : decide (i < i) = false := decide_eq_false (by omega)
   have HGE : Hid (goR b i (a + x) ((b.drop a).take x) = .ok (dd, p)) := Lib.hid (by rw [← HG.out, Nat.sub_self]; rfl)
   have HDD : Hid (dd = d2 ∧ p = a2) := Lib.hid (by have h_ := HGE.out.symm.trans HGI.out; injection h_ with h_; injection h_ with h1_ h2_; exact ⟨h1_, h2_⟩)
   have HPX : Hid (p + y ≤ n) := Lib.hid (by have h_ := HDD.out.2; have h1_ := HPE.out; omega)
   have HD2 : Hid (dd ++ (b.drop p).take y = d) := Lib.hid (by rw [HDD.out.1, HDD.out.2]; exact HDE.out)
   have HP2 : Hid (p + y = p2) := Lib.hid (by have h_ := HDD.out.2; have h1_ := HPE.out; omega)
   go_wp2_with fail
   with_reducible refine (dtake_ok _ hwk sb av_sb_wk hn PL _ y p2 rfl hy0 HP2.out (by have h_ := HPX.out; have h1_ := HP2.out; omega)).mono ?_
   rintro e w3 ⟨A6, c6, rfl, hq_, lt, u_, b3⟩
   replace sb := sb.away av_sb_wk b3
   replace ou := ou.away av_ou_wk b3
   replace ouw := own_off ouw of_ou_wk b3
   replace lz_ou := Nat.le_trans lz_ou b3.size
   replace fz := fz_self fz b3
   replace hsz := Nat.le_trans hsz b3.size
   replace bel := below_grown bel b3 owk (Nat.le_trans hlo bel.size)
   clear b3
   clear hwk
   have hwk := hq_
   clear hq_
   have av_lt_wk := av_sb_wk.sub u_
   clear u_
   skip
   go_wp2_with (first | ((with_reducible show wpList _ _ _ (⟨some 53, _, _, _, _, _⟩ :: _) _ _); refine wpList_append_bg _ rfl (.tmp 51) (.tmp 52) 30 rfl (w.heap.size) 5 ii (.int .u8 0) Try.underlying30 hii hz0 hz1 hz2 rfl _ (z) (dd) rfl ouw (A6) (y) (c6) ((b.drop p).take y) rfl lt (by omega) lz_ou ?_; intro v53 w4 own_ bb gw ofw; have of53_wk := ofw _ (hlt hwk) of_ou_wk; clear ofw; clear sb; clear lt; replace hwk := blk_own hwk gw of_ou_wk; clear gw; replace fz := gk_under fz bb hz_ou; replace hsz := Nat.le_trans hsz bb.size; replace bel := bel.trans (bb.mono oulo); have lz_s53 := Nat.le_trans lz_ou bb.size; clear bb; clear ou ouw lz_ou; replace own_ : w4.ownsRow (w.heap.size) 5 1 v53 (z + y) ((dd ++ ((b.drop p).take y) : List UInt8).map u8v) := own_; obtain ⟨A53, c53, rfl⟩ := own_val own_; have s53w := own_; have s53 := (own_sl own_).1; have fr_s53 := (own_sl own_).2; clear own_; have av_s53_wk := own_av s53w of53_wk))
   exact bodyPost_ret (v := .tuple #[.slice A53 (z + y) c53, .int .i64 0]) (by simp [results, Try.results70, go_sem]) rfl ⟨_, _, _, rfl, by rw [← HD2.out]; exact s53w, hwk, fz⟩
  obtain ⟨r, hr⟩ : ∃ r, k - i = r + 1 := ⟨k - i - 1, by omega⟩
  have HR := Lib.hid hr
  clear hr
  obtain ⟨l, nx, er, hgn⟩ : ∃ l nx er, getN b (p : Int) = (l, nx, er) := ⟨_, _, _, rfl⟩
  have HGN := Lib.hid hgn
  clear hgn
  by_cases he : er = 0
  rotate_left
  ·have h_ : goR b (k - i) p dd = .error er := by rw [HR.out]; exact goR_no HGN.out he
   have h1_ := HGI.out.symm.trans (HG.out.symm.trans h_)
   cases h1_
  obtain rfl : er = 0 := he
  obtain ⟨z2, HPZ_⟩ : ∃ u_, (dd ++ putN l).length = u_ := ⟨_, rfl⟩
  have HPZ := Lib.hid HPZ_
  clear HPZ_
  have HZ2 : Hid (z2 ≤ z + 255) := Lib.hid (by have h_ := HPZ.out; rw [List.length_append, put_len] at h_; have h1_ := good_size (getN_good b (p : Int)); rw [HGN.out] at h1_; have h2_ := ou.1; dsimp only at h1_; omega)
  go_wp2_with fail
  with_reducible refine (dlabels_ok _ hwk sb av_sb_wk hn PL HGN.out).mono ?_
  rintro e w3 ⟨Lq, mq, cq, rfl, nmw, hq_, b3⟩
  replace sb := sb.away av_sb_wk b3
  replace ou := ou.away av_ou_wk b3
  replace ouw := own_off ouw of_ou_wk b3
  replace lz_ou := Nat.le_trans lz_ou b3.size
  replace fz := fz_self fz b3
  replace hsz := Nat.le_trans hsz b3.size
  replace bel := below_grown bel b3 owk (Nat.le_trans hlo bel.size)
  clear b3
  clear hwk
  have hwk := hq_
  clear hq_
  have nm := (owk_sle (by decide) stf_len nmw).1
  have LNX : nx ≤ 100000 := by have h_ := nx_le HGN.out; have h1_ := HBL.out; have h2_ := HN.out; omega
  have HGD : Hid (goodN l = true) := Lib.hid (by have h_ := getN_good b (p : Int); rw [HGN.out] at h_; exact h_)
  go_wp2_with fail
  with_reducible refine (nput_lit _ ou nm (by omega) HGD.out rfl HPZ.out).mono ?_
  rintro e w4 ⟨v_pt, rfl, ptw, b4⟩
  have hz_pt := hsz
  have y_pt_wk := Lib.hid (hlt hwk)
  have bl_sb_pt := sb.bl_new
  have bl_ou_pt := ou.bl_new
  have bl_nm_pt := nm.bl_new
  have ptlo := (Nat.le_trans hlo bel.size)
  have lz_pt := b4.size
  replace hwk := blk_u hwk b4
  replace sb := sb.below b4
  replace ou := ou.below b4
  replace ouw := own_under ouw b4
  replace nm := nm.below b4
  replace lz_ou := Nat.le_trans lz_ou b4.size
  replace fz := gk_under fz b4 hsz
  replace hsz := Nat.le_trans hsz b4.size
  replace bel := bel.trans (b4.mono (Nat.le_trans hlo bel.size))
  clear b4
  obtain ⟨Apt, cpt, rfl⟩ := own_val ptw
  have pt := (own_sl ptw).1
  have fr_pt := (own_sl ptw).2
  have av_pt_wk := fr_pt.av y_pt_wk.out
  have of_pt_wk := ofs_type ptw hwk (by decide)
  go_wp2_with fail
  go_roundg (k - (i + 1))
  case measure => have := HGK_.out; omega
  case rel => exact ⟨i + 1, nx, z2, dd ++ putN l, Apt, cpt, rfl, hik, Lib.hid (by rw [← HG.out, HR.out, goR_yes HGN.out, show k - (i + 1) = r by have h_ := HR.out; omega]), Lib.hid (by have h_ := nx_le HGN.out; have h1_ := HBL.out; omega), by have h_ := HZ2.out; omega, fz, hsz, rfl, by go_num, (owk_lo ptw hz_pt), of_pt_wk, hsz, hwk, sb, bel⟩
theorem expR_end {b d : List UInt8} {a x k y e p : Nat} (h : expR b a x k y = .error e) (h1 : a + x ≤ b.length) (h2 : goR b k (a + x) ((b.drop a).take x) = .ok (d, p)) : b.length < p + y := by
 rcases expR_inv_no h with h3 | ⟨_, h3⟩ | ⟨_, d2, a2, h3, h4, _⟩
 ·omega
 ·rw [h2] at h3; cases h3
 ·rw [h2] at h3; injection h3 with h3; injection h3 with h5 h6; omega
theorem lay_le (t : Int) {k : Nat} (hk : k ≤ 65535) : (lay t k).1 ≤ 66000 ∧ (lay t k).2.1 ≤ 2 ∧ (lay t k).2.2 ≤ 100000 := by
 unfold lay
 split
 ·exact ⟨by dsimp only; omega, by dsimp only; omega, by dsimp only; omega⟩
 ·split
  ·exact ⟨by dsimp only; omega, by dsimp only; omega, by dsimp only; omega⟩
  ·split
   ·exact ⟨by dsimp only; omega, by dsimp only; omega, by dsimp only; omega⟩
   ·exact ⟨by dsimp only; omega, by dsimp only; omega, by dsimp only; omega⟩
set_option linter.unusedVariables false in
set_option linter.unusedSimpArgs false in
set_option maxRecDepth 100000 in
set_option maxHeartbeats 16000000 in
theorem dexp_no {gx n c : Nat} {A : Option Addr} {b : List UInt8} {a : Nat} (w : World) (hwk : w.heap[gx]? = some (.cells #[.slice A n c, .int .i64 (a : Int)] 53 (0, 0))) (sb : Sl w A n c b) (av_sb_wk : Av A n gx) (hn : n ≤ 100000) (ha : a ≤ 100000) (x k y : Nat) (hx0 : x ≤ 66000) (hk2 : k ≤ 2) (hy0 : y ≤ 100000) {er : Nat} (he : expR b a x k y = .error er) : Calls Try.prog 70 #[.pointer (some ⟨gx, 0, none⟩), .int .i64 (x : Int), .int .i64 (k : Int), .int .i64 (y : Int)] w fun e w' => ∃ v z, e = .returned (.tuple #[v, .int .i64 z]) ∧ z ≠ 0 ∧ w.grownBy w' (some gx) := by
 have hlo := Nat.zero_le w.heap.size
 have owk := Nat.zero_le gx
 have HBL := Lib.hid sb.1
 have a0 : (0 : Int) ≤ a := by omega
 have a1 : (a : Int) ≤ 100000 := by omega
 have n0 : (0 : Int) ≤ n := by omega
 have n1 : (n : Int) ≤ 100000 := by omega
 have hsz := Nat.le_refl w.heap.size
 have fz := fz_refl w (some gx)
 have x0 : (0 : Int) ≤ x := by omega
 have x1 : (x : Int) ≤ 100000 := by omega
 have k0 : (0 : Int) ≤ k := by omega
 have k1 : (k : Int) ≤ 2 := by omega
 have y0 : (0 : Int) ≤ y := by omega
 have y1 : (y : Int) ≤ 100000 := by omega
 have HN := Lib.hid hn
 obtain ⟨ii, hii, hz0, hz1, hz2⟩ := info_parts Try.info5
 have HER := Lib.hid he
 clear he
 have bel := Below.refl 0 w
 go_enter Try.func70, Try.ntmps70
 by_cases hax : a + x ≤ n
 rotate_left
 ·have HAX : Hid (n < a + x) := Lib.hid (by omega)
  clear hax
  go_wp2_with fail
  with_reducible refine (dtake_no _ hwk sb av_sb_wk hn ha _ x rfl (by omega) HAX.out).mono ?_
  rintro e w1 ⟨rfl, hq_, b1⟩
  replace sb := sb.away av_sb_wk b1
  replace fz := fz_self fz b1
  replace hsz := Nat.le_trans hsz b1.size
  replace bel := below_grown bel b1 owk (Nat.le_trans hlo bel.size)
  clear b1
  clear hwk
  have hwk := hq_
  clear hq_
  go_wp2_with fail
  exact bodyPost_ret (v := .tuple #[.slice none 0 0, .int .i64 3]) (by simp [results, Try.results70, go_sem]) rfl ⟨_, _, rfl, by decide, fz⟩
 have HAX := Lib.hid hax
 clear hax
 go_wp2_with fail
 with_reducible refine (dtake_ok _ hwk sb av_sb_wk hn ha _ x (a + x) rfl (by omega) rfl (by have h_ := HAX.out; omega)).mono ?_
 rintro e w1 ⟨A6, c6, rfl, hq_, tk, u_, b1⟩
 replace sb := sb.away av_sb_wk b1
 replace fz := fz_self fz b1
 replace hsz := Nat.le_trans hsz b1.size
 replace bel := below_grown bel b1 owk (Nat.le_trans hlo bel.size)
 clear b1
 clear hwk
 have hwk := hq_
 clear hq_
 have av_tk_wk := av_sb_wk.sub u_
 clear u_
 go_wp2_with fail
 with_reducible refine (nclone_any _ tk (by omega)).mono ?_
 rintro e w2 ⟨vcl, rfl, clw, b2⟩
 have hz_cl := hsz
 have y_cl_wk := Lib.hid (hlt hwk)
 have bl_sb_cl := sb.bl_new
 have bl_tk_cl := tk.bl_new
 have cllo := (Nat.le_trans hlo bel.size)
 have lz_cl := b2.size
 replace hwk := blk_u hwk b2
 replace sb := sb.below b2
 replace tk := tk.below b2
 replace fz := gk_under fz b2 hsz
 replace hsz := Nat.le_trans hsz b2.size
 replace bel := bel.trans (b2.mono (Nat.le_trans hlo bel.size))
 clear b2
 obtain ⟨Acl, ccl, rfl⟩ := own_val clw
 have cl := (own_sl clw).1
 have fr_cl := (own_sl clw).2
 have av_cl_wk := fr_cl.av y_cl_wk.out
 clear tk
 have of_cl_wk := ofs_type clw hwk (by decide)
 go_wp2_with fail
 go_loopg [12, 28] (k) (fun gk s12 s28 wr => ∃ i : Nat, ∃ p : Nat, ∃ z : Nat, ∃ dd : List UInt8, ∃ (Aou : Option Addr) (cou : Nat), gk = k - i ∧ i ≤ k ∧ Hid (goR b (k - i) p dd = goR b k (a + x) ((b.drop a).take x)) ∧ Hid (p ≤ n) ∧ z ≤ 66000 + 300 * i ∧ w.grownBy wr (some gx) ∧ w.heap.size ≤ wr.heap.size ∧ s12 = .slice Aou z cou ∧ s28 = .int .i64 (i : Int) ∧ wr.ownsRow (w.heap.size) 5 1 (.slice Aou (z) cou) (z) ((dd : List UInt8).map u8v) ∧ Ofs (.slice Aou (z) cou) gx ∧ w.heap.size ≤ wr.heap.size ∧ wr.heap[gx]? = some (.cells #[.slice A n c, .int .i64 (p : Int)] 53 (0, 0)) ∧ Sl wr (A) (n) (c) (b) ∧ Below 0 w wr)
 case atStart => exact ⟨0, a + x, x, (b.drop a).take x, Acl, ccl, Nat.sub_zero _, Nat.zero_le _, Lib.hid rfl, Lib.hid (by have h_ := HAX.out; omega), by omega, fz, hsz, rfl, rfl, (owk_lo clw hz_cl), of_cl_wk, hsz, hwk, sb, bel⟩
 case round =>
  clear fz hsz hwk sb cl bel
  obtain ⟨i, p, z, dd, Aou, cou, HGK, hi, HG, HP, hz, fz, hsz, rfl, rfl, ouw, of_ou_wk, lz_ou, hwk, sb, bel⟩ := hrel
  have HGK_ := Lib.hid HGK
  clear HGK
  have ou := (own_sl ouw).1
  have fr_ou := (own_sl ouw).2
  have av_ou_wk := own_av ouw of_ou_wk
  have hz_ou := Nat.le_refl w.heap.size
  have i0 : (0 : Int) ≤ i := by omega
  have p0 : (0 : Int) ≤ p := by omega
  have p1 : (p : Int) ≤ 100000 := by have h_ := HP.out; have h1_ := HN.out; omega
  have PL : p ≤ 100000 := by omega
  have oulo := Nat.zero_le w.heap.size
  by_cases hik : i < k
  rotate_left
  ·have hh := Lib.hid hik
   obtain rfl : i = k := by omega
   replace hik : decide (i < i) = false := decide_eq_false (by omega)
   have HGE : Hid (goR b i (a + x) ((b.drop a).take x) = .ok (dd, p)) := Lib.hid (by rw [← HG.out, Nat.sub_self]; rfl)
   have HPX : Hid (n < p + y) := Lib.hid (by have h_ := expR_end HER.out (by have h1_ := HAX.out; have h2_ := HBL.out; omega) HGE.out; have h1_ := HBL.out; omega)
   go_wp2_with fail
   with_reducible refine (dtake_no _ hwk sb av_sb_wk hn PL _ y rfl hy0 (by have h_ := HPX.out; omega)).mono ?_
   rintro e w3 ⟨rfl, hq_, b3⟩
   replace sb := sb.away av_sb_wk b3
   replace ou := ou.away av_ou_wk b3
   replace ouw := own_off ouw of_ou_wk b3
   replace lz_ou := Nat.le_trans lz_ou b3.size
   replace fz := fz_self fz b3
   replace hsz := Nat.le_trans hsz b3.size
   replace bel := below_grown bel b3 owk (Nat.le_trans hlo bel.size)
   clear b3
   clear hwk
   have hwk := hq_
   clear hq_
   have nl := Sl.nil w3
   go_wp2_with (first | ((with_reducible show wpList _ _ _ (⟨some 53, _, _, _, _, _⟩ :: _) _ _); refine wpList_append_bg _ rfl (.tmp 51) (.tmp 52) 30 rfl (w.heap.size) 5 ii (.int .u8 0) Try.underlying30 hii hz0 hz1 hz2 rfl _ (z) (dd) rfl ouw (none) (0) (0) ([]) rfl nl (by omega) lz_ou ?_; intro v53 w4 own_ bb gw ofw; have of53_wk := ofw _ (hlt hwk) of_ou_wk; clear ofw; clear sb; clear nl; replace hwk := blk_own hwk gw of_ou_wk; clear gw; replace fz := gk_under fz bb hz_ou; replace hsz := Nat.le_trans hsz bb.size; replace bel := bel.trans (bb.mono oulo); have lz_s53 := Nat.le_trans lz_ou bb.size; clear bb; clear ou ouw lz_ou; replace own_ : w4.ownsRow (w.heap.size) 5 1 v53 (z) ((dd ++ [] : List UInt8).map u8v) := (by simpa using own_); obtain ⟨A53, c53, rfl⟩ := own_val own_; have s53w := own_; have s53 := (own_sl own_).1; have fr_s53 := (own_sl own_).2; clear own_; have av_s53_wk := own_av s53w of53_wk))
   exact bodyPost_ret (v := .tuple #[.slice A53 z c53, .int .i64 3]) (by simp [results, Try.results70, go_sem]) rfl ⟨_, _, rfl, by decide, fz⟩
  obtain ⟨r, hr⟩ : ∃ r, k - i = r + 1 := ⟨k - i - 1, by omega⟩
  have HR := Lib.hid hr
  clear hr
  obtain ⟨l, nx, er2, hgn⟩ : ∃ l nx er2, getN b (p : Int) = (l, nx, er2) := ⟨_, _, _, rfl⟩
  have HGN := Lib.hid hgn
  clear hgn
  by_cases he0 : er2 = 0
  rotate_left
  ·have HE := Lib.hid he0
   obtain ⟨y2, hy2_⟩ : ∃ u_, (er2 : Int) = u_ := ⟨_, rfl⟩
   have HY2 := Lib.hid hy2_
   clear hy2_
   have HYN : Hid (y2 ≠ 0) := Lib.hid (by have h_ := HY2.out; have h1_ := HE.out; omega)
   have y3 : (y2 != 0) = true := by simpa using HYN.out
   clear he0
   go_wp2_with fail
   with_reducible refine (dlabels_no _ hwk sb av_sb_wk hn PL HGN.out HE.out y2 HY2.out).mono ?_
   rintro e w3 ⟨rfl, hq_, b3⟩
   replace sb := sb.away av_sb_wk b3
   replace ou := ou.away av_ou_wk b3
   replace ouw := own_off ouw of_ou_wk b3
   replace lz_ou := Nat.le_trans lz_ou b3.size
   replace fz := fz_self fz b3
   replace hsz := Nat.le_trans hsz b3.size
   replace bel := below_grown bel b3 owk (Nat.le_trans hlo bel.size)
   clear b3
   clear hwk
   have hwk := hq_
   clear hq_
   go_wp2_with fail
   exact bodyPost_ret (v := .tuple #[.slice none 0 0, .int .i64 y2]) (by simp [results, Try.results70, go_sem]) rfl ⟨_, _, rfl, HYN.out, fz⟩
  obtain rfl : er2 = 0 := he0
  obtain ⟨z2, HPZ_⟩ : ∃ u_, (dd ++ putN l).length = u_ := ⟨_, rfl⟩
  have HPZ := Lib.hid HPZ_
  clear HPZ_
  have HZ2 : Hid (z2 ≤ z + 255) := Lib.hid (by have h_ := HPZ.out; rw [List.length_append, put_len] at h_; have h1_ := good_size (getN_good b (p : Int)); rw [HGN.out] at h1_; have h2_ := ou.1; dsimp only at h1_; omega)
  go_wp2_with fail
  with_reducible refine (dlabels_ok _ hwk sb av_sb_wk hn PL HGN.out).mono ?_
  rintro e w3 ⟨Lq, mq, cq, rfl, nmw, hq_, b3⟩
  replace sb := sb.away av_sb_wk b3
  replace ou := ou.away av_ou_wk b3
  replace ouw := own_off ouw of_ou_wk b3
  replace lz_ou := Nat.le_trans lz_ou b3.size
  replace fz := fz_self fz b3
  replace hsz := Nat.le_trans hsz b3.size
  replace bel := below_grown bel b3 owk (Nat.le_trans hlo bel.size)
  clear b3
  clear hwk
  have hwk := hq_
  clear hq_
  have nm := (owk_sle (by decide) stf_len nmw).1
  have LNX : nx ≤ 100000 := by have h_ := nx_le HGN.out; have h1_ := HBL.out; have h2_ := HN.out; omega
  have HGD : Hid (goodN l = true) := Lib.hid (by have h_ := getN_good b (p : Int); rw [HGN.out] at h_; exact h_)
  go_wp2_with fail
  with_reducible refine (nput_lit _ ou nm (by omega) HGD.out rfl HPZ.out).mono ?_
  rintro e w4 ⟨v_pt, rfl, ptw, b4⟩
  have hz_pt := hsz
  have y_pt_wk := Lib.hid (hlt hwk)
  have bl_sb_pt := sb.bl_new
  have bl_ou_pt := ou.bl_new
  have bl_nm_pt := nm.bl_new
  have ptlo := (Nat.le_trans hlo bel.size)
  have lz_pt := b4.size
  replace hwk := blk_u hwk b4
  replace sb := sb.below b4
  replace ou := ou.below b4
  replace ouw := own_under ouw b4
  replace nm := nm.below b4
  replace lz_ou := Nat.le_trans lz_ou b4.size
  replace fz := gk_under fz b4 hsz
  replace hsz := Nat.le_trans hsz b4.size
  replace bel := bel.trans (b4.mono (Nat.le_trans hlo bel.size))
  clear b4
  obtain ⟨Apt, cpt, rfl⟩ := own_val ptw
  have pt := (own_sl ptw).1
  have fr_pt := (own_sl ptw).2
  have av_pt_wk := fr_pt.av y_pt_wk.out
  have of_pt_wk := ofs_type ptw hwk (by decide)
  go_wp2_with fail
  go_roundg (k - (i + 1))
  case measure => have := HGK_.out; omega
  case rel => exact ⟨i + 1, nx, z2, dd ++ putN l, Apt, cpt, rfl, hik, Lib.hid (by rw [← HG.out, HR.out, goR_yes HGN.out, show k - (i + 1) = r by have h_ := HR.out; omega]), Lib.hid (by have h_ := nx_le HGN.out; have h1_ := HBL.out; omega), by have h_ := HZ2.out; omega, fz, hsz, rfl, by go_num, (owk_lo ptw hz_pt), of_pt_wk, hsz, hwk, sb, bel⟩
set_option linter.unusedVariables false in
set_option linter.unusedSimpArgs false in
set_option maxRecDepth 100000 in
set_option maxHeartbeats 16000000 in
theorem ddata_ok {gx n c : Nat} {A : Option Addr} {b : List UInt8} {a : Nat} (w : World) (hwk : w.heap[gx]? = some (.cells #[.slice A n c, .int .i64 (a : Int)] 53 (0, 0))) (sb : Sl w A n c b) (av_sb_wk : Av A n gx) (hn : n ≤ 100000) (ha : a ≤ 100000) {t : Int} {k : Nat} (hk16 : k ≤ 65535) {d : List UInt8} (hd : dAt b t a k = .ok d) : Calls Try.prog 64 #[.pointer (some ⟨gx, 0, none⟩), .int .i64 t, .int .i64 (k : Int)] w fun e w' => ∃ B m cB, e = .returned (.tuple #[.slice B m cB, .int .i64 0]) ∧ w'.ownsRow w.heap.size 5 1 (.slice B m cB) m (d.map u8v) ∧ w'.heap[gx]? = some (.cells #[.slice A n c, .int .i64 (((a + k : Nat) : Int))] 53 (0, 0)) ∧ w.grownBy w' (some gx) := by
 have hlo := Nat.zero_le w.heap.size
 have owk := Nat.zero_le gx
 have HBL := Lib.hid sb.1
 have a0 : (0 : Int) ≤ a := by omega
 have a1 : (a : Int) ≤ 100000 := by omega
 have n0 : (0 : Int) ≤ n := by omega
 have n1 : (n : Int) ≤ 100000 := by omega
 have hsz := Nat.le_refl w.heap.size
 have fz := fz_refl w (some gx)
 have k0 : (0 : Int) ≤ k := by omega
 have k1 : (k : Int) ≤ 65535 := by omega
 obtain ⟨hle_, hx_⟩ := dAt_inv hd
 obtain ⟨a2, ha2_⟩ : ∃ u_, a + k = u_ := ⟨_, rfl⟩
 obtain ⟨p2, hp2_⟩ : ∃ u_, a + k = u_ := ⟨_, rfl⟩
 have HP2 : Hid (p2 ≤ a2) := Lib.hid (by omega)
 have t48 : decide (p2 < a2) = false := decide_eq_false (by omega)
 have HX : Hid (expR (b.take a2) a (lay t k).1 (lay t k).2.1 (lay t k).2.2 = .ok (d, p2)) := Lib.hid (by rw [← ha2_, ← hp2_]; exact hx_)
 have HA2 : Hid (a + k = a2) := Lib.hid ha2_
 have HLE : Hid (a2 ≤ n) := Lib.hid (by have h_ := HBL.out; omega)
 have HLY := Lib.hid (lay_le t hk16)
 have A2L : a2 ≤ 100000 := by have h_ := HLE.out; omega
 clear hx_ hp2_ ha2_ hd hle_
 have bel := Below.refl 0 w
 go_enter Try.func64, Try.ntmps64
 have R15 := Lib.hid (range_lit hwk 0 2 [.slice A n c, .int .i64 (a : Int)] rfl)
 go_wp2_with (first | ((with_reducible show wpList _ _ _ (⟨some 15, _, _, _, _, _⟩ :: _) _ _); refine wpList_load_rng 53 (.tmp 14) rfl (by kernel_rfl) _ _ rfl _ R15.out _ Try.underlying53 rfl (by kernel_rfl) ?_) | ((with_reducible show wpList _ _ _ (⟨some 8, _, _, _, _, _⟩ :: _) _ _); refine wpList_new_a rfl 53 rfl #[.slice none 0 0, .int .i64 0] (by kernel_rfl) ?_; intro g8 w1 ge hh bb; have d_wk_in := ne_new (hlt hwk) ge; have av_sb_in := sb.av_new ge; have oin := Nat.le_trans (Nat.le_trans hlo bel.size) ge; have pin := Nat.le_trans hsz ge; replace hwk := blk_u hwk bb; replace sb := sb.below bb; replace fz := gk_under fz bb hsz; replace hsz := Nat.le_trans hsz bb.size; replace bel := bel.trans (bb.mono (Nat.le_trans hlo bel.size)); have hin := hh; clear hh ge bb) | ((with_reducible show wpList _ _ _ (⟨none, Op.store _ (.tmp 8) _, _, _, _, _⟩ :: _) _ _); refine wpList_store_blk rfl 53 (.tmp 8) (.tmp 15) rfl g8 rfl _ rfl _ 53 hin (by rfl) (by kernel_rfl) (by kernel_rfl) ?_; intro w2 hq gr; replace sb := sb.away av_sb_in gr; replace hwk := blk_a hwk gr d_wk_in; replace fz := fz_new fz gr pin; replace hsz := Nat.le_trans hsz gr.size; replace bel := below_grown bel gr oin (Nat.le_trans hlo bel.size); clear hin; have hin := hq; clear hq gr))
 try clear R15
 with_reducible refine (dtake_ok _ hwk sb av_sb_wk hn ha (k : Int) k a2 rfl (by omega) HA2.out HLE.out).mono ?_
 rintro e w3 ⟨A6, c6, rfl, hq_, tk, u_, b3⟩
 replace sb := sb.away av_sb_wk b3
 replace hin := blk_a hin b3 (ne_symm d_wk_in)
 replace fz := fz_self fz b3
 replace hsz := Nat.le_trans hsz b3.size
 replace bel := below_grown bel b3 owk (Nat.le_trans hlo bel.size)
 clear b3
 clear hwk
 have hwk := hq_
 clear hq_
 have av_tk_wk := av_sb_wk.sub u_
 have av_tk_in := av_sb_in.sub u_
 clear u_
 clear tk
 obtain ⟨A33, c33, r33_, f33, u33⟩ := piece_front sb (k := a2) (by have h_ := HLE.out; omega)
 have r33 := r33_
 clear r33_
 go_wp2_with fail
 replace bel := bel.drew
 replace hwk : w3.drew.heap[gx]? = _ := hwk
 replace hin : w3.drew.heap[g8]? = _ := hin
 replace sb := sb.drew
 replace fz := gk_drew fz
 replace hsz := sz_drew' hsz
 refine wp_region_held_drew (S := fun W => W.heap[gx]? = some (.cells #[.slice A n c, .int .i64 (a2 : Int)] 53 (0, 0))) (by kernel_rfl) hwk (fun hH => ?_)
 generalize w3.drew = w4 at bel hwk hin sb fz hsz hH ⊢
 refine wpAnyH_take (i := 0) (v := ?_) rfl (by kernel_rfl) (by kernel_rfl) (by kernel_rfl) (fun _ _ _ h => h) (Or.inl ⟨by rfl, ?_⟩) hH ?_
 rotate_left
 ·((intro W hW; clear hW; go_simp) <;> with_reducible rfl)
 simp only [Act.put, List.getElem_toArray, List.getElem_cons_zero, List.setIfInBounds_toArray, List.set_cons_zero, List.set_cons_succ]
 refine wpAnyH_take (i := 1) (v := ?_) rfl (by kernel_rfl) (by kernel_rfl) (by kernel_rfl) (fun _ _ _ h => h) (Or.inl ⟨by rfl, ?_⟩) hH ?_
 rotate_left
 ·((intro W hW; clear hW; go_simp) <;> with_reducible rfl)
 simp only [sq3, sq4]
 refine wpAnyH_take (i := 2) (v := ?_) rfl (by kernel_rfl) (by kernel_rfl) (by kernel_rfl) (fun _ _ _ h => h) (Or.inl ⟨by rfl, ?_⟩) hH ?_
 rotate_left
 ·((intro W hW; clear hW; go_simp) <;> with_reducible rfl)
 simp only [sq3, sq4]
 refine wpAnyH_take (i := 3) (v := ?_) rfl (by kernel_rfl) (by kernel_rfl) (by kernel_rfl) (fun _ _ _ h => h) (Or.inl ⟨by rfl, ?_⟩) hH ?_
 rotate_left
 ·((intro W hW; have hk := cell_lit (hW) 0 _ rfl; clear hW; go_simp) <;> with_reducible rfl)
 simp only [sq3, sq4]
 refine wpAnyH_take (i := 4) (v := ?_) rfl (by kernel_rfl) (by kernel_rfl) (by kernel_rfl) (fun _ _ _ h => h) (Or.inl ⟨by rfl, ?_⟩) hH ?_
 rotate_left
 ·((intro W hW; clear hW; go_simp) <;> with_reducible rfl)
 simp only [sq3, sq4]
 refine wpAnyH_take (i := 5) (v := ?_) rfl (by kernel_rfl) (by kernel_rfl) (by kernel_rfl) (fun _ _ _ h => h) (Or.inl ⟨by rfl, ?_⟩) hH ?_
 rotate_left
 ·((intro W hW; clear hW; go_simp) <;> with_reducible rfl)
 simp only [sq3, sq4]
 refine wpAnyH_take (i := 6) (v := ?_) rfl (by kernel_rfl) (by kernel_rfl) (by kernel_rfl) (fun _ _ _ h => h) (Or.inl ⟨by rfl, ?_⟩) hH ?_
 rotate_left
 ·((intro W hW; clear hW; go_simp) <;> with_reducible rfl)
 simp only [sq3, sq4]
 refine wpAnyH_take (i := 7) (v := ?_) rfl (by kernel_rfl) (by kernel_rfl) (by kernel_rfl) (fun _ _ _ h => h) (Or.inl ⟨by rfl, ?_⟩) hH ?_
 rotate_left
 ·((intro W hW; have hk := cell_lit (hW) 1 _ rfl; clear hW; go_simp) <;> with_reducible rfl)
 simp only [sq3, sq4]
 refine wpAnyH_take (i := 8) (v := ?_) rfl (by kernel_rfl) (by kernel_rfl) (by kernel_rfl) (fun _ _ _ h => h) (Or.inl ⟨by rfl, ?_⟩) hH ?_
 rotate_left
 ·((intro W hW; clear hW; go_simp) <;> with_reducible rfl)
 simp only [sq3, sq4]
 refine wpAnyH_take (i := 9) (v := ?_) rfl (by kernel_rfl) (by kernel_rfl) (by kernel_rfl) (fun _ _ _ h => h) (Or.inl ⟨by rfl, ?_⟩) hH ?_
 rotate_left
 ·((intro W hW; clear hW; go_simp) <;> with_reducible rfl)
 simp only [sq3, sq4]
 refine wpAnyH_ready (rs := [10]) (by kernel_rfl) (by simp) ?_
 refine AllReadyH.cons (o := _) rfl (fun K hK => ?_) AllReadyH.nil
 simp only [sq3]
 rw [if_pos (by rfl)]
 refine wp_store_part 30 (.tmp 34) (.tmp 33) rfl g8 0 rfl [.slice A33 a2 c33] rfl [.slice A n c, .int .i64 (a : Int)] 53 hin (by simp) [.slice A33 a2 c33, .int .i64 (a : Int)] rfl (by kernel_rfl) (by rfl) ?_
 intro w5 hq gr
 replace sb := sb.away av_sb_in gr
 replace hwk := blk_a hwk gr d_wk_in
 replace fz := fz_new fz gr pin
 replace hsz := Nat.le_trans hsz gr.size
 replace bel := below_grown bel gr oin (Nat.le_trans hlo bel.size)
 clear hin
 have hin := hq
 clear hq gr
 refine hK.out _ _ hwk (fun hH6 => ?_)
 clear hK K
 simp only [Act.put]
 refine wpAnyH_done (by kernel_rfl) ?_ _
 have s33 := f33 _ sb
 have av_s33_in := av_sb_in.sub u33
 go_wp2_with fail
 with_reducible refine (dlayout_any t k _).mono ?_
 rintro e _ ⟨rfl, rfl⟩
 go_wp2_with fail
 have HS5 := hsz
 with_reducible refine (dexp_ok _ hin s33 av_s33_in (by have h_ := HLE.out; omega) ha (lay t k).1 (lay t k).2.1 (lay t k).2.2 HLY.out.1 HLY.out.2.1 HLY.out.2.2 HX.out).mono ?_
 rintro e w7 ⟨Bd, md, cd, rfl, dw_, hq_, b7⟩
 replace sb := sb.away av_sb_in b7
 replace s33 := s33.away av_s33_in b7
 replace hwk := blk_a hwk b7 d_wk_in
 replace fz := fz_new fz b7 pin
 replace hsz := Nat.le_trans hsz b7.size
 replace bel := below_grown bel b7 oin (Nat.le_trans hlo bel.size)
 clear b7
 clear hin
 have hin := hq_
 clear hq_
 replace dw_ := owk_lo dw_ HS5
 go_wp2_with fail
 with_reducible refine (dleft_any _ hin s33 av_s33_in (by have h_ := HLE.out; omega) (by have h_ := HP2.out; have h1_ := HLE.out; omega)).mono ?_
 rintro e w8 ⟨rfl, b8⟩
 replace hwk := blk_u hwk b8
 replace hin := blk_u hin b8
 replace sb := sb.below b8
 replace s33 := s33.below b8
 replace fz := gk_under fz b8 hsz
 replace hsz := Nat.le_trans hsz b8.size
 replace dw_ := owk_under dw_ b8
 replace bel := bel.trans (b8.mono (Nat.le_trans hlo bel.size))
 clear b8
 go_wp2_with fail
 exact bodyPost_ret (v := .tuple #[.slice Bd md cd, .int .i64 0]) (by simp [results, Try.results64, go_sem]) rfl ⟨_, _, _, rfl, dw_, by rw [HA2.out]; exact hwk, fz⟩
set_option linter.unusedVariables false in
set_option linter.unusedSimpArgs false in
set_option maxRecDepth 100000 in
set_option maxHeartbeats 16000000 in
theorem ddata_no {gx n c : Nat} {A : Option Addr} {b : List UInt8} {a : Nat} (w : World) (hwk : w.heap[gx]? = some (.cells #[.slice A n c, .int .i64 (a : Int)] 53 (0, 0))) (sb : Sl w A n c b) (av_sb_wk : Av A n gx) (hn : n ≤ 100000) (ha : a ≤ 100000) {t : Int} {k : Nat} (hk16 : k ≤ 65535) {er : Nat} (hd : dAt b t a k = .error er) (y : Int) (hy : (er : Int) = y) : Calls Try.prog 64 #[.pointer (some ⟨gx, 0, none⟩), .int .i64 t, .int .i64 (k : Int)] w fun e w' => e = .returned (.tuple #[.slice none 0 0, .int .i64 y]) ∧ w.grownBy w' (some gx) := by
 have hlo := Nat.zero_le w.heap.size
 have owk := Nat.zero_le gx
 have HBL := Lib.hid sb.1
 have a0 : (0 : Int) ≤ a := by omega
 have a1 : (a : Int) ≤ 100000 := by omega
 have n0 : (0 : Int) ≤ n := by omega
 have n1 : (n : Int) ≤ 100000 := by omega
 have hsz := Nat.le_refl w.heap.size
 have fz := fz_refl w (some gx)
 have k0 : (0 : Int) ≤ k := by omega
 have k1 : (k : Int) ≤ 65535 := by omega
 have HY := Lib.hid hy
 clear hy
 have bel := Below.refl 0 w
 go_enter Try.func64, Try.ntmps64
 rcases dAt_inv_no hd with ⟨hle_, he_⟩ | ⟨hle_, he_, ⟨e2, hx_⟩ | ⟨d, p2, hx_, hp_⟩⟩
 ·have HE := Lib.hid he_
  have HLE : Hid (n < a + k) := Lib.hid (by have h_ := HBL.out; omega)
  clear he_ hle_ hd
  have R15 := Lib.hid (range_lit hwk 0 2 [.slice A n c, .int .i64 (a : Int)] rfl)
  go_wp2_with (first | ((with_reducible show wpList _ _ _ (⟨some 15, _, _, _, _, _⟩ :: _) _ _); refine wpList_load_rng 53 (.tmp 14) rfl (by kernel_rfl) _ _ rfl _ R15.out _ Try.underlying53 rfl (by kernel_rfl) ?_) | ((with_reducible show wpList _ _ _ (⟨some 8, _, _, _, _, _⟩ :: _) _ _); refine wpList_new_a rfl 53 rfl #[.slice none 0 0, .int .i64 0] (by kernel_rfl) ?_; intro g8 w1 ge hh bb; have d_wk_in := ne_new (hlt hwk) ge; have av_sb_in := sb.av_new ge; have oin := Nat.le_trans (Nat.le_trans hlo bel.size) ge; have pin := Nat.le_trans hsz ge; replace hwk := blk_u hwk bb; replace sb := sb.below bb; replace fz := gk_under fz bb hsz; replace hsz := Nat.le_trans hsz bb.size; replace bel := bel.trans (bb.mono (Nat.le_trans hlo bel.size)); have hin := hh; clear hh ge bb) | ((with_reducible show wpList _ _ _ (⟨none, Op.store _ (.tmp 8) _, _, _, _, _⟩ :: _) _ _); refine wpList_store_blk rfl 53 (.tmp 8) (.tmp 15) rfl g8 rfl _ rfl _ 53 hin (by rfl) (by kernel_rfl) (by kernel_rfl) ?_; intro w2 hq gr; replace sb := sb.away av_sb_in gr; replace hwk := blk_a hwk gr d_wk_in; replace fz := fz_new fz gr pin; replace hsz := Nat.le_trans hsz gr.size; replace bel := below_grown bel gr oin (Nat.le_trans hlo bel.size); clear hin; have hin := hq; clear hq gr))
  try clear R15
  with_reducible refine (dtake_no _ hwk sb av_sb_wk hn ha (k : Int) k rfl (by omega) HLE.out).mono ?_
  rintro e w3 ⟨rfl, hq_, b3⟩
  replace sb := sb.away av_sb_wk b3
  replace hin := blk_a hin b3 (ne_symm d_wk_in)
  replace fz := fz_self fz b3
  replace hsz := Nat.le_trans hsz b3.size
  replace bel := below_grown bel b3 owk (Nat.le_trans hlo bel.size)
  clear b3
  clear hwk
  have hwk := hq_
  clear hq_
  go_wp2_with fail
  exact bodyPost_ret (v := .tuple #[.slice none 0 0, .int .i64 3]) (by simp [results, Try.results64, go_sem]) rfl ⟨by rw [← HY.out, HE.out]; rfl, fz⟩
 ·obtain ⟨a2, ha2_⟩ : ∃ u_, a + k = u_ := ⟨_, rfl⟩
  rw [ha2_] at hx_ hle_
  have HE := Lib.hid he_
  have HX := Lib.hid hx_
  have HA2 : Hid (a + k = a2) := Lib.hid ha2_
  have HLE : Hid (a2 ≤ n) := Lib.hid (by have h_ := HBL.out; omega)
  have HLY := Lib.hid (lay_le t hk16)
  have A2L : a2 ≤ 100000 := by have h_ := HLE.out; omega
  clear hx_ ha2_ hd hle_ he_
  have R15 := Lib.hid (range_lit hwk 0 2 [.slice A n c, .int .i64 (a : Int)] rfl)
  go_wp2_with (first | ((with_reducible show wpList _ _ _ (⟨some 15, _, _, _, _, _⟩ :: _) _ _); refine wpList_load_rng 53 (.tmp 14) rfl (by kernel_rfl) _ _ rfl _ R15.out _ Try.underlying53 rfl (by kernel_rfl) ?_) | ((with_reducible show wpList _ _ _ (⟨some 8, _, _, _, _, _⟩ :: _) _ _); refine wpList_new_a rfl 53 rfl #[.slice none 0 0, .int .i64 0] (by kernel_rfl) ?_; intro g8 w1 ge hh bb; have d_wk_in := ne_new (hlt hwk) ge; have av_sb_in := sb.av_new ge; have oin := Nat.le_trans (Nat.le_trans hlo bel.size) ge; have pin := Nat.le_trans hsz ge; replace hwk := blk_u hwk bb; replace sb := sb.below bb; replace fz := gk_under fz bb hsz; replace hsz := Nat.le_trans hsz bb.size; replace bel := bel.trans (bb.mono (Nat.le_trans hlo bel.size)); have hin := hh; clear hh ge bb) | ((with_reducible show wpList _ _ _ (⟨none, Op.store _ (.tmp 8) _, _, _, _, _⟩ :: _) _ _); refine wpList_store_blk rfl 53 (.tmp 8) (.tmp 15) rfl g8 rfl _ rfl _ 53 hin (by rfl) (by kernel_rfl) (by kernel_rfl) ?_; intro w2 hq gr; replace sb := sb.away av_sb_in gr; replace hwk := blk_a hwk gr d_wk_in; replace fz := fz_new fz gr pin; replace hsz := Nat.le_trans hsz gr.size; replace bel := below_grown bel gr oin (Nat.le_trans hlo bel.size); clear hin; have hin := hq; clear hq gr))
  try clear R15
  with_reducible refine (dtake_ok _ hwk sb av_sb_wk hn ha (k : Int) k a2 rfl (by omega) HA2.out HLE.out).mono ?_
  rintro e w3 ⟨A6, c6, rfl, hq_, tk, u_, b3⟩
  replace sb := sb.away av_sb_wk b3
  replace hin := blk_a hin b3 (ne_symm d_wk_in)
  replace fz := fz_self fz b3
  replace hsz := Nat.le_trans hsz b3.size
  replace bel := below_grown bel b3 owk (Nat.le_trans hlo bel.size)
  clear b3
  clear hwk
  have hwk := hq_
  clear hq_
  have av_tk_wk := av_sb_wk.sub u_
  have av_tk_in := av_sb_in.sub u_
  clear u_
  clear tk
  obtain ⟨A33, c33, r33_, f33, u33⟩ := piece_front sb (k := a2) (by have h_ := HLE.out; omega)
  have r33 := r33_
  clear r33_
  go_wp2_with fail
  replace bel := bel.drew
  replace hwk : w3.drew.heap[gx]? = _ := hwk
  replace hin : w3.drew.heap[g8]? = _ := hin
  replace sb := sb.drew
  replace fz := gk_drew fz
  replace hsz := sz_drew' hsz
  refine wp_region_held_drew (S := fun W => W.heap[gx]? = some (.cells #[.slice A n c, .int .i64 (a2 : Int)] 53 (0, 0))) (by kernel_rfl) hwk (fun hH => ?_)
  generalize w3.drew = w4 at bel hwk hin sb fz hsz hH ⊢
  refine wpAnyH_take (i := 0) (v := ?_) rfl (by kernel_rfl) (by kernel_rfl) (by kernel_rfl) (fun _ _ _ h => h) (Or.inl ⟨by rfl, ?_⟩) hH ?_
  rotate_left
  ·((intro W hW; clear hW; go_simp) <;> with_reducible rfl)
  simp only [Act.put, List.getElem_toArray, List.getElem_cons_zero, List.setIfInBounds_toArray, List.set_cons_zero, List.set_cons_succ]
  refine wpAnyH_take (i := 1) (v := ?_) rfl (by kernel_rfl) (by kernel_rfl) (by kernel_rfl) (fun _ _ _ h => h) (Or.inl ⟨by rfl, ?_⟩) hH ?_
  rotate_left
  ·((intro W hW; clear hW; go_simp) <;> with_reducible rfl)
  simp only [sq3, sq4]
  refine wpAnyH_take (i := 2) (v := ?_) rfl (by kernel_rfl) (by kernel_rfl) (by kernel_rfl) (fun _ _ _ h => h) (Or.inl ⟨by rfl, ?_⟩) hH ?_
  rotate_left
  ·((intro W hW; clear hW; go_simp) <;> with_reducible rfl)
  simp only [sq3, sq4]
  refine wpAnyH_take (i := 3) (v := ?_) rfl (by kernel_rfl) (by kernel_rfl) (by kernel_rfl) (fun _ _ _ h => h) (Or.inl ⟨by rfl, ?_⟩) hH ?_
  rotate_left
  ·((intro W hW; have hk := cell_lit (hW) 0 _ rfl; clear hW; go_simp) <;> with_reducible rfl)
  simp only [sq3, sq4]
  refine wpAnyH_take (i := 4) (v := ?_) rfl (by kernel_rfl) (by kernel_rfl) (by kernel_rfl) (fun _ _ _ h => h) (Or.inl ⟨by rfl, ?_⟩) hH ?_
  rotate_left
  ·((intro W hW; clear hW; go_simp) <;> with_reducible rfl)
  simp only [sq3, sq4]
  refine wpAnyH_take (i := 5) (v := ?_) rfl (by kernel_rfl) (by kernel_rfl) (by kernel_rfl) (fun _ _ _ h => h) (Or.inl ⟨by rfl, ?_⟩) hH ?_
  rotate_left
  ·((intro W hW; clear hW; go_simp) <;> with_reducible rfl)
  simp only [sq3, sq4]
  refine wpAnyH_take (i := 6) (v := ?_) rfl (by kernel_rfl) (by kernel_rfl) (by kernel_rfl) (fun _ _ _ h => h) (Or.inl ⟨by rfl, ?_⟩) hH ?_
  rotate_left
  ·((intro W hW; clear hW; go_simp) <;> with_reducible rfl)
  simp only [sq3, sq4]
  refine wpAnyH_take (i := 7) (v := ?_) rfl (by kernel_rfl) (by kernel_rfl) (by kernel_rfl) (fun _ _ _ h => h) (Or.inl ⟨by rfl, ?_⟩) hH ?_
  rotate_left
  ·((intro W hW; have hk := cell_lit (hW) 1 _ rfl; clear hW; go_simp) <;> with_reducible rfl)
  simp only [sq3, sq4]
  refine wpAnyH_take (i := 8) (v := ?_) rfl (by kernel_rfl) (by kernel_rfl) (by kernel_rfl) (fun _ _ _ h => h) (Or.inl ⟨by rfl, ?_⟩) hH ?_
  rotate_left
  ·((intro W hW; clear hW; go_simp) <;> with_reducible rfl)
  simp only [sq3, sq4]
  refine wpAnyH_take (i := 9) (v := ?_) rfl (by kernel_rfl) (by kernel_rfl) (by kernel_rfl) (fun _ _ _ h => h) (Or.inl ⟨by rfl, ?_⟩) hH ?_
  rotate_left
  ·((intro W hW; clear hW; go_simp) <;> with_reducible rfl)
  simp only [sq3, sq4]
  refine wpAnyH_ready (rs := [10]) (by kernel_rfl) (by simp) ?_
  refine AllReadyH.cons (o := _) rfl (fun K hK => ?_) AllReadyH.nil
  simp only [sq3]
  rw [if_pos (by rfl)]
  refine wp_store_part 30 (.tmp 34) (.tmp 33) rfl g8 0 rfl [.slice A33 a2 c33] rfl [.slice A n c, .int .i64 (a : Int)] 53 hin (by simp) [.slice A33 a2 c33, .int .i64 (a : Int)] rfl (by kernel_rfl) (by rfl) ?_
  intro w5 hq gr
  replace sb := sb.away av_sb_in gr
  replace hwk := blk_a hwk gr d_wk_in
  replace fz := fz_new fz gr pin
  replace hsz := Nat.le_trans hsz gr.size
  replace bel := below_grown bel gr oin (Nat.le_trans hlo bel.size)
  clear hin
  have hin := hq
  clear hq gr
  refine hK.out _ _ hwk (fun hH6 => ?_)
  clear hK K
  simp only [Act.put]
  refine wpAnyH_done (by kernel_rfl) ?_ _
  have s33 := f33 _ sb
  have av_s33_in := av_sb_in.sub u33
  go_wp2_with fail
  with_reducible refine (dlayout_any t k _).mono ?_
  rintro e _ ⟨rfl, rfl⟩
  go_wp2_with fail
  with_reducible refine (dexp_no _ hin s33 av_s33_in (by have h_ := HLE.out; omega) ha (lay t k).1 (lay t k).2.1 (lay t k).2.2 HLY.out.1 HLY.out.2.1 HLY.out.2.2 HX.out).mono ?_
  rintro e w7 ⟨v_, z_, rfl, hz_, b7⟩
  replace sb := sb.away av_sb_in b7
  replace s33 := s33.away av_s33_in b7
  replace hwk := blk_a hwk b7 d_wk_in
  replace fz := fz_new fz b7 pin
  replace hsz := Nat.le_trans hsz b7.size
  replace bel := below_grown bel b7 oin (Nat.le_trans hlo bel.size)
  clear b7
  clear hin
  have z3 : (z_ != 0) = true := by simpa using hz_
  clear hz_
  go_wp2_with fail
  exact bodyPost_ret (v := .tuple #[.slice none 0 0, .int .i64 4]) (by simp [results, Try.results64, go_sem]) rfl ⟨by rw [← HY.out, HE.out]; rfl, fz⟩
 obtain ⟨a2, ha2_⟩ : ∃ u_, a + k = u_ := ⟨_, rfl⟩
 rw [ha2_] at hx_ hle_ hp_
 have HE := Lib.hid he_
 have HX := Lib.hid hx_
 have HP2 : Hid (p2 ≤ a2) := Lib.hid (by omega)
 have t48 : p2 < a2 := by omega
 have HA2 : Hid (a + k = a2) := Lib.hid ha2_
 have HLE : Hid (a2 ≤ n) := Lib.hid (by have h_ := HBL.out; omega)
 have HLY := Lib.hid (lay_le t hk16)
 have A2L : a2 ≤ 100000 := by have h_ := HLE.out; omega
 clear hx_ ha2_ hd hle_ he_
 have R15 := Lib.hid (range_lit hwk 0 2 [.slice A n c, .int .i64 (a : Int)] rfl)
 go_wp2_with (first | ((with_reducible show wpList _ _ _ (⟨some 15, _, _, _, _, _⟩ :: _) _ _); refine wpList_load_rng 53 (.tmp 14) rfl (by kernel_rfl) _ _ rfl _ R15.out _ Try.underlying53 rfl (by kernel_rfl) ?_) | ((with_reducible show wpList _ _ _ (⟨some 8, _, _, _, _, _⟩ :: _) _ _); refine wpList_new_a rfl 53 rfl #[.slice none 0 0, .int .i64 0] (by kernel_rfl) ?_; intro g8 w1 ge hh bb; have d_wk_in := ne_new (hlt hwk) ge; have av_sb_in := sb.av_new ge; have oin := Nat.le_trans (Nat.le_trans hlo bel.size) ge; have pin := Nat.le_trans hsz ge; replace hwk := blk_u hwk bb; replace sb := sb.below bb; replace fz := gk_under fz bb hsz; replace hsz := Nat.le_trans hsz bb.size; replace bel := bel.trans (bb.mono (Nat.le_trans hlo bel.size)); have hin := hh; clear hh ge bb) | ((with_reducible show wpList _ _ _ (⟨none, Op.store _ (.tmp 8) _, _, _, _, _⟩ :: _) _ _); refine wpList_store_blk rfl 53 (.tmp 8) (.tmp 15) rfl g8 rfl _ rfl _ 53 hin (by rfl) (by kernel_rfl) (by kernel_rfl) ?_; intro w2 hq gr; replace sb := sb.away av_sb_in gr; replace hwk := blk_a hwk gr d_wk_in; replace fz := fz_new fz gr pin; replace hsz := Nat.le_trans hsz gr.size; replace bel := below_grown bel gr oin (Nat.le_trans hlo bel.size); clear hin; have hin := hq; clear hq gr))
 try clear R15
 with_reducible refine (dtake_ok _ hwk sb av_sb_wk hn ha (k : Int) k a2 rfl (by omega) HA2.out HLE.out).mono ?_
 rintro e w3 ⟨A6, c6, rfl, hq_, tk, u_, b3⟩
 replace sb := sb.away av_sb_wk b3
 replace hin := blk_a hin b3 (ne_symm d_wk_in)
 replace fz := fz_self fz b3
 replace hsz := Nat.le_trans hsz b3.size
 replace bel := below_grown bel b3 owk (Nat.le_trans hlo bel.size)
 clear b3
 clear hwk
 have hwk := hq_
 clear hq_
 have av_tk_wk := av_sb_wk.sub u_
 have av_tk_in := av_sb_in.sub u_
 clear u_
 clear tk
 obtain ⟨A33, c33, r33_, f33, u33⟩ := piece_front sb (k := a2) (by have h_ := HLE.out; omega)
 have r33 := r33_
 clear r33_
 go_wp2_with fail
 replace bel := bel.drew
 replace hwk : w3.drew.heap[gx]? = _ := hwk
 replace hin : w3.drew.heap[g8]? = _ := hin
 replace sb := sb.drew
 replace fz := gk_drew fz
 replace hsz := sz_drew' hsz
 refine wp_region_held_drew (S := fun W => W.heap[gx]? = some (.cells #[.slice A n c, .int .i64 (a2 : Int)] 53 (0, 0))) (by kernel_rfl) hwk (fun hH => ?_)
 generalize w3.drew = w4 at bel hwk hin sb fz hsz hH ⊢
 refine wpAnyH_take (i := 0) (v := ?_) rfl (by kernel_rfl) (by kernel_rfl) (by kernel_rfl) (fun _ _ _ h => h) (Or.inl ⟨by rfl, ?_⟩) hH ?_
 rotate_left
 ·((intro W hW; clear hW; go_simp) <;> with_reducible rfl)
 simp only [Act.put, List.getElem_toArray, List.getElem_cons_zero, List.setIfInBounds_toArray, List.set_cons_zero, List.set_cons_succ]
 refine wpAnyH_take (i := 1) (v := ?_) rfl (by kernel_rfl) (by kernel_rfl) (by kernel_rfl) (fun _ _ _ h => h) (Or.inl ⟨by rfl, ?_⟩) hH ?_
 rotate_left
 ·((intro W hW; clear hW; go_simp) <;> with_reducible rfl)
 simp only [sq3, sq4]
 refine wpAnyH_take (i := 2) (v := ?_) rfl (by kernel_rfl) (by kernel_rfl) (by kernel_rfl) (fun _ _ _ h => h) (Or.inl ⟨by rfl, ?_⟩) hH ?_
 rotate_left
 ·((intro W hW; clear hW; go_simp) <;> with_reducible rfl)
 simp only [sq3, sq4]
 refine wpAnyH_take (i := 3) (v := ?_) rfl (by kernel_rfl) (by kernel_rfl) (by kernel_rfl) (fun _ _ _ h => h) (Or.inl ⟨by rfl, ?_⟩) hH ?_
 rotate_left
 ·((intro W hW; have hk := cell_lit (hW) 0 _ rfl; clear hW; go_simp) <;> with_reducible rfl)
 simp only [sq3, sq4]
 refine wpAnyH_take (i := 4) (v := ?_) rfl (by kernel_rfl) (by kernel_rfl) (by kernel_rfl) (fun _ _ _ h => h) (Or.inl ⟨by rfl, ?_⟩) hH ?_
 rotate_left
 ·((intro W hW; clear hW; go_simp) <;> with_reducible rfl)
 simp only [sq3, sq4]
 refine wpAnyH_take (i := 5) (v := ?_) rfl (by kernel_rfl) (by kernel_rfl) (by kernel_rfl) (fun _ _ _ h => h) (Or.inl ⟨by rfl, ?_⟩) hH ?_
 rotate_left
 ·((intro W hW; clear hW; go_simp) <;> with_reducible rfl)
 simp only [sq3, sq4]
 refine wpAnyH_take (i := 6) (v := ?_) rfl (by kernel_rfl) (by kernel_rfl) (by kernel_rfl) (fun _ _ _ h => h) (Or.inl ⟨by rfl, ?_⟩) hH ?_
 rotate_left
 ·((intro W hW; clear hW; go_simp) <;> with_reducible rfl)
 simp only [sq3, sq4]
 refine wpAnyH_take (i := 7) (v := ?_) rfl (by kernel_rfl) (by kernel_rfl) (by kernel_rfl) (fun _ _ _ h => h) (Or.inl ⟨by rfl, ?_⟩) hH ?_
 rotate_left
 ·((intro W hW; have hk := cell_lit (hW) 1 _ rfl; clear hW; go_simp) <;> with_reducible rfl)
 simp only [sq3, sq4]
 refine wpAnyH_take (i := 8) (v := ?_) rfl (by kernel_rfl) (by kernel_rfl) (by kernel_rfl) (fun _ _ _ h => h) (Or.inl ⟨by rfl, ?_⟩) hH ?_
 rotate_left
 ·((intro W hW; clear hW; go_simp) <;> with_reducible rfl)
 simp only [sq3, sq4]
 refine wpAnyH_take (i := 9) (v := ?_) rfl (by kernel_rfl) (by kernel_rfl) (by kernel_rfl) (fun _ _ _ h => h) (Or.inl ⟨by rfl, ?_⟩) hH ?_
 rotate_left
 ·((intro W hW; clear hW; go_simp) <;> with_reducible rfl)
 simp only [sq3, sq4]
 refine wpAnyH_ready (rs := [10]) (by kernel_rfl) (by simp) ?_
 refine AllReadyH.cons (o := _) rfl (fun K hK => ?_) AllReadyH.nil
 simp only [sq3]
 rw [if_pos (by rfl)]
 refine wp_store_part 30 (.tmp 34) (.tmp 33) rfl g8 0 rfl [.slice A33 a2 c33] rfl [.slice A n c, .int .i64 (a : Int)] 53 hin (by simp) [.slice A33 a2 c33, .int .i64 (a : Int)] rfl (by kernel_rfl) (by rfl) ?_
 intro w5 hq gr
 replace sb := sb.away av_sb_in gr
 replace hwk := blk_a hwk gr d_wk_in
 replace fz := fz_new fz gr pin
 replace hsz := Nat.le_trans hsz gr.size
 replace bel := below_grown bel gr oin (Nat.le_trans hlo bel.size)
 clear hin
 have hin := hq
 clear hq gr
 refine hK.out _ _ hwk (fun hH6 => ?_)
 clear hK K
 simp only [Act.put]
 refine wpAnyH_done (by kernel_rfl) ?_ _
 have s33 := f33 _ sb
 have av_s33_in := av_sb_in.sub u33
 go_wp2_with fail
 with_reducible refine (dlayout_any t k _).mono ?_
 rintro e _ ⟨rfl, rfl⟩
 go_wp2_with fail
 have HS5 := hsz
 with_reducible refine (dexp_ok _ hin s33 av_s33_in (by have h_ := HLE.out; omega) ha (lay t k).1 (lay t k).2.1 (lay t k).2.2 HLY.out.1 HLY.out.2.1 HLY.out.2.2 HX.out).mono ?_
 rintro e w7 ⟨Bd, md, cd, rfl, dw_, hq_, b7⟩
 replace sb := sb.away av_sb_in b7
 replace s33 := s33.away av_s33_in b7
 replace hwk := blk_a hwk b7 d_wk_in
 replace fz := fz_new fz b7 pin
 replace hsz := Nat.le_trans hsz b7.size
 replace bel := below_grown bel b7 oin (Nat.le_trans hlo bel.size)
 clear b7
 clear hin
 have hin := hq_
 clear hq_
 replace dw_ := owk_lo dw_ HS5
 go_wp2_with fail
 with_reducible refine (dleft_any _ hin s33 av_s33_in (by have h_ := HLE.out; omega) (by have h_ := HP2.out; have h1_ := HLE.out; omega)).mono ?_
 rintro e w8 ⟨rfl, b8⟩
 replace hwk := blk_u hwk b8
 replace hin := blk_u hin b8
 replace sb := sb.below b8
 replace s33 := s33.below b8
 replace fz := gk_under fz b8 hsz
 replace hsz := Nat.le_trans hsz b8.size
 replace dw_ := owk_under dw_ b8
 replace bel := bel.trans (b8.mono (Nat.le_trans hlo bel.size))
 clear b8
 go_wp2_with fail
 exact bodyPost_ret (v := .tuple #[.slice none 0 0, .int .i64 4]) (by simp [results, Try.results64, go_sem]) rfl ⟨by rw [← HY.out, HE.out]; rfl, fz⟩
set_option linter.unusedVariables false in
set_option linter.unusedSimpArgs false in
set_option maxRecDepth 100000 in
set_option maxHeartbeats 16000000 in
theorem drec_ok {gx n c : Nat} {A : Option Addr} {b : List UInt8} {a : Nat} (w : World) (hwk : w.heap[gx]? = some (.cells #[.slice A n c, .int .i64 (a : Int)] 53 (0, 0))) (sb : Sl w A n c b) (av_sb_wk : Av A n gx) (hn : n ≤ 100000) (ha : a ≤ 100000) {r : Rn} {a2 : Nat} (hr : rAt b a = .ok (r, a2)) : Calls Try.prog 49 #[.pointer (some ⟨gx, 0, none⟩)] w fun e w' => ∃ x : Rh, e = .returned (.tuple #[.agg #[.slice x.A x.n x.c, .int .i64 x.t, .int .i64 x.k, .int .u32 x.u, .slice x.B x.d x.e], .int .i64 0]) ∧ w'.heap[gx]? = some (.cells #[.slice A n c, .int .i64 (a2 : Int)] 53 (0, 0)) ∧ Rw w.heap.size w' x r ∧ w.grownBy w' (some gx) := by
 have hlo := Nat.zero_le w.heap.size
 have owk := Nat.zero_le gx
 have HBL := Lib.hid sb.1
 have a0 : (0 : Int) ≤ a := by omega
 have a1 : (a : Int) ≤ 100000 := by omega
 have n0 : (0 : Int) ≤ n := by omega
 have n1 : (n : Int) ≤ 100000 := by omega
 have hsz := Nat.le_refl w.heap.size
 have fz := fz_refl w (some gx)
 obtain ⟨q, a1, kd, hq_, hl_, hkd_, hd_, ha2_, hn_, ht_, hk_, hu_⟩ := rAt_inv hr
 have HQ := Lib.hid hq_
 have HA1 := Lib.hid (qAt_ok hq_).2
 have A1L : a1 ≤ 100000 := by have h_ := HA1.out; have h1_ := HBL.out; omega
 have HLE : Hid (a1 + 6 ≤ n) := Lib.hid (by have h_ := HBL.out; omega)
 obtain ⟨p6, hp6_⟩ : ∃ u_, a1 + 6 = u_ := ⟨_, rfl⟩
 have HA6 := Lib.hid hp6_
 have HP6 : Hid (p6 ≤ n) := Lib.hid (by have h_ := HLE.out; omega)
 have P6L : p6 ≤ 100000 := by have h_ := HP6.out; omega
 have K16 : kd ≤ 65535 := by have h_ := nAt_lt2 b (a1 + 4) (by omega); omega
 have HKD := Lib.hid hkd_
 have HD := Lib.hid (hp6_ ▸ hd_)
 have kd0 : (0 : Int) ≤ kd := by omega
 have HA2 : Hid (p6 + kd = a2) := Lib.hid (by omega)
 have HNM := Lib.hid hn_
 have HT := Lib.hid ht_
 have HK := Lib.hid hk_
 have HU := Lib.hid hu_
 clear hq_ hl_ hkd_ hd_ ha2_ hn_ ht_ hk_ hu_ hr hp6_
 have bel := Below.refl 0 w
 go_enter Try.func49, Try.ntmps49
 go_wp2_with (first | ((with_reducible show wpList _ _ _ (⟨some 2, _, _, _, _, _⟩ :: _) _ _); refine wpList_new_a rfl 36 rfl #[.slice none 0 0, .int .i64 0, .int .i64 0, .int .u32 0, .slice none 0 0] (by kernel_rfl) ?_; intro g2 w1 ge hh bb; have d_wk_b2 := ne_new (hlt hwk) ge; have av_sb_b2 := sb.av_new ge; have ob2 := Nat.le_trans (Nat.le_trans hlo bel.size) ge; have pb2 := Nat.le_trans hsz ge; replace hwk := blk_u hwk bb; replace sb := sb.below bb; replace fz := gk_under fz bb hsz; replace hsz := Nat.le_trans hsz bb.size; replace bel := bel.trans (bb.mono (Nat.le_trans hlo bel.size)); have hb2 := hh; clear hh ge bb))
 have HSQ := hsz
 with_reducible refine (dquest_ok _ hwk sb av_sb_wk hn ha HQ.out).mono ?_
 rintro e w2 ⟨x, rfl, hq_, hx, b2⟩
 replace sb := sb.away av_sb_wk b2
 replace hb2 := blk_a hb2 b2 (ne_symm d_wk_b2)
 replace fz := fz_self fz b2
 replace hsz := Nat.le_trans hsz b2.size
 replace bel := below_grown bel b2 owk (Nat.le_trans hlo bel.size)
 clear b2
 clear hwk
 have hwk := hq_
 clear hq_
 replace hx := hx.lower HSQ
 have HXT := Lib.hid hx.1
 go_wp2_with (first | ((with_reducible show wpList _ _ _ (⟨some 4, _, _, _, _, _⟩ :: _) _ _); refine wpList_new_a rfl 60 rfl #[.slice none 0 0, .int .i64 0, .int .i64 0] (by kernel_rfl) ?_; intro g4 w3 ge hh bb; have d_wk_qs := ne_new (hlt hwk) ge; have d_b2_qs := ne_new (hlt hb2) ge; have av_sb_qs := sb.av_new ge; have oqs := Nat.le_trans (Nat.le_trans hlo bel.size) ge; have pqs := Nat.le_trans hsz ge; replace hwk := blk_u hwk bb; replace hb2 := blk_u hb2 bb; replace sb := sb.below bb; replace fz := gk_under fz bb hsz; replace hsz := Nat.le_trans hsz bb.size; replace hx := hx.kt (S := []) (kt_below bb) (by simp) (by simp); replace bel := bel.trans (bb.mono (Nat.le_trans hlo bel.size)); have hqs := hh; clear hh ge bb) | ((with_reducible show wpList _ _ _ (⟨none, Op.store _ (.tmp 4) _, _, _, _, _⟩ :: _) _ _); refine wpList_store_blk rfl 60 (.tmp 4) (.tmp 12) rfl g4 rfl _ rfl _ 60 hqs (by rfl) (by kernel_rfl) (by kernel_rfl) ?_; intro w4 hq gr; replace sb := sb.away av_sb_qs gr; replace hwk := blk_a hwk gr d_wk_qs; replace hb2 := blk_a hb2 gr d_b2_qs; replace fz := fz_new fz gr pqs; replace hsz := Nat.le_trans hsz gr.size; replace hx := hx.kt (S := [60]) (kt_grown gr hqs (by simp)) (by decide) (by decide); replace bel := below_grown bel gr oqs (Nat.le_trans hlo bel.size); clear hqs; have hqs := hq; clear hq gr))
 with_reducible refine (dtake_ok _ hwk sb av_sb_wk hn A1L 6 6 p6 rfl (by decide) HA6.out HP6.out).mono ?_
 rintro e w5 ⟨A9, c9, rfl, hq_, tk, u_, b5⟩
 replace sb := sb.away av_sb_wk b5
 replace hb2 := blk_a hb2 b5 (ne_symm d_wk_b2)
 replace hqs := blk_a hqs b5 (ne_symm d_wk_qs)
 replace fz := fz_self fz b5
 replace hsz := Nat.le_trans hsz b5.size
 replace hx := hx.kt (S := [53]) (kt_grown b5 hwk (by simp)) (by decide) (by decide)
 replace bel := below_grown bel b5 owk (Nat.le_trans hlo bel.size)
 clear b5
 clear hwk
 have hwk := hq_
 clear hq_
 have av_tk_wk := av_sb_wk.sub u_
 have av_tk_b2 := av_sb_b2.sub u_
 have av_tk_qs := av_sb_qs.sub u_
 clear u_
 have HTL : Hid (((b.drop a1).take 6).length = 6) := Lib.hid tk.1
 have HY1 : Hid (((be (((b.drop a1).take 6).take 4) : Nat) : Int) = r.ttl) := Lib.hid (by rw [← HU.out]; exact congrArg Int.ofNat (nAt_sub (i := 0) (j := 4) rfl (by decide)))
 have HY2 : Hid (((be ((((b.drop a1).take 6).drop 4).take 2) : Nat) : Int) = (kd : Int)) := Lib.hid (by rw [← HKD.out]; exact congrArg Int.ofNat (nAt_sub (i := 4) (j := 2) rfl (by decide)))
 go_wp2_with fail
 with_reducible refine (rd_read _ _ _ _ _ tk (by omega)).mono ?_
 rintro e w6 ⟨gr, Ar5, cr5, rfl, ge, hh, rest, frr, avr, b6⟩
 have av_rest_wk := frr.av (hlt hwk)
 have av_rest_b2 := frr.av (hlt hb2)
 have av_rest_qs := frr.av (hlt hqs)
 have d_wk_r := ne_new (hlt hwk) ge
 have d_b2_r := ne_new (hlt hb2) ge
 have d_qs_r := ne_new (hlt hqs) ge
 have av_sb_r := sb.av_new ge
 have av_tk_r := tk.av_new ge
 have or := Nat.le_trans (Nat.le_trans hlo bel.size) ge
 have pr := Nat.le_trans hsz ge
 replace hwk := blk_u hwk b6
 replace hb2 := blk_u hb2 b6
 replace hqs := blk_u hqs b6
 replace sb := sb.below b6
 replace tk := tk.below b6
 replace fz := gk_under fz b6 hsz
 replace hsz := Nat.le_trans hsz b6.size
 replace hx := hx.kt (S := []) (kt_below b6) (by simp) (by simp)
 replace bel := bel.trans (b6.mono (Nat.le_trans hlo bel.size))
 have hr := hh
 clear hh ge b6
 replace rest : Sl w6 (Ar5) (6) (cr5) ((b.drop a1).take 6) := rest
 go_wp2_with fail
 go_cut [8] from 9999 (fun s8 W => ∃ g8 : Nat, ∃ Au4 : Option Addr, ∃ nu4 : Nat, ∃ cu4 : Nat, s8 = .pointer (some ⟨g8, 0, none⟩) ∧ W.heap[gx]? = some (.cells #[.slice A n c, .int .i64 (p6 : Int)] 53 (0, 0)) ∧ W.heap[g2]? = some (.cells #[.slice none 0 0, .int .i64 0, .int .i64 0, .int .u32 0, .slice none 0 0] 36 (0, 0)) ∧ W.heap[g4]? = some (.cells #[.slice x.A x.n x.c, .int .i64 x.t, .int .i64 x.k] 60 (0, 0)) ∧ W.heap[gr]? = some (.cells #[.slice Au4 nu4 cu4, .bool false] 106 (0, 0)) ∧ W.heap[g8]? = some (.cells #[.slice x.A x.n x.c, .int .i64 x.t, .int .i64 x.k, .int .u32 r.ttl, .slice none 0 0] 36 (0, 0)) ∧ 0 ≤ g8 ∧ w.heap.size ≤ g8 ∧ Hid (g2 ≠ g4) ∧ Hid (g2 ≠ gr) ∧ Hid (g2 ≠ g8) ∧ Hid (g2 ≠ gx) ∧ Hid (g4 ≠ gr) ∧ Hid (g4 ≠ g8) ∧ Hid (g4 ≠ gx) ∧ Hid (gr ≠ g8) ∧ Hid (gr ≠ gx) ∧ Hid (g8 ≠ gx) ∧ Sl W (A) (n) (c) (b) ∧ Av (A) (n) g2 ∧ Av (A) (n) g4 ∧ Av (A) (n) gr ∧ Av (A) (n) g8 ∧ Av (A) (n) gx ∧ Sl W (A9) (6) (c9) ((b.drop a1).take 6) ∧ Av (A9) (6) g2 ∧ Av (A9) (6) g4 ∧ Av (A9) (6) gr ∧ Av (A9) (6) g8 ∧ Av (A9) (6) gx ∧ Sl W (Au4) (nu4) (cu4) (((b.drop a1).take 6).drop 4) ∧ Av (Au4) (nu4) g2 ∧ Av (Au4) (nu4) g4 ∧ Av (Au4) (nu4) gr ∧ Av (Au4) (nu4) g8 ∧ Av (Au4) (nu4) gx ∧ w.grownBy W (some gx) ∧ w.heap.size ≤ W.heap.size ∧ Qw w.heap.size W x q ∧ Below 0 w W)
 case first =>
  replace bel := bel.drew
  replace hwk : w6.drew.heap[gx]? = _ := hwk
  replace hb2 : w6.drew.heap[g2]? = _ := hb2
  replace hqs : w6.drew.heap[g4]? = _ := hqs
  replace hr : w6.drew.heap[gr]? = _ := hr
  replace sb := sb.drew
  replace tk := tk.drew
  replace rest := rest.drew
  replace fz := gk_drew fz
  replace hsz := sz_drew' hsz
  replace hx := hx.drew
  refine wp_region_held_drew (S := fun W => W.heap[g4]? = some (.cells #[.slice x.A x.n x.c, .int .i64 x.t, .int .i64 x.k] 60 (0, 0))) (by kernel_rfl) hqs (fun hH => ?_)
  generalize w6.drew = w7 at bel hwk hb2 hqs hr sb tk rest fz hsz hx hH ⊢
  refine wpAnyH_take (i := 0) (v := ?_) rfl (by kernel_rfl) (by kernel_rfl) (by kernel_rfl) (fun _ _ _ h => h) (Or.inl ⟨by rfl, ?_⟩) hH ?_
  rotate_left
  ·((intro W hW; clear hW; go_simp) <;> with_reducible rfl)
  simp only [Act.put, List.getElem_toArray, List.getElem_cons_zero, List.setIfInBounds_toArray, List.set_cons_zero, List.set_cons_succ]
  refine wpAnyH_take (i := 1) (v := ?_) rfl (by kernel_rfl) (by kernel_rfl) (by kernel_rfl) (fun _ _ _ h => h) (Or.inl ⟨by rfl, ?_⟩) hH ?_
  rotate_left
  ·((intro W hW; have hk := cell_lit (hW) 0 _ rfl; clear hW; go_simp) <;> with_reducible rfl)
  simp only [sq3, sq4]
  refine wpAnyH_take (i := 2) (v := ?_) rfl (by kernel_rfl) (by kernel_rfl) (by kernel_rfl) (fun _ _ _ h => h) (Or.inl ⟨by rfl, ?_⟩) hH ?_
  rotate_left
  ·((intro W hW; clear hW; go_simp) <;> with_reducible rfl)
  simp only [sq3, sq4]
  refine wpAnyH_take (i := 3) (v := ?_) rfl (by kernel_rfl) (by kernel_rfl) (by kernel_rfl) (fun _ _ _ h => h) (Or.inl ⟨by rfl, ?_⟩) hH ?_
  rotate_left
  ·((intro W hW; have hk := cell_lit (hW) 1 _ rfl; clear hW; go_simp) <;> with_reducible rfl)
  simp only [sq3, sq4]
  refine wpAnyH_take (i := 4) (v := ?_) rfl (by kernel_rfl) (by kernel_rfl) (by kernel_rfl) (fun _ _ _ h => h) (Or.inl ⟨by rfl, ?_⟩) hH ?_
  rotate_left
  ·((intro W hW; clear hW; go_simp) <;> with_reducible rfl)
  simp only [sq3, sq4]
  refine wpAnyH_take (i := 5) (v := ?_) rfl (by kernel_rfl) (by kernel_rfl) (by kernel_rfl) (fun _ _ _ h => h) (Or.inl ⟨by rfl, ?_⟩) hH ?_
  rotate_left
  ·((intro W hW; have hk := cell_lit (hW) 2 _ rfl; clear hW; go_simp) <;> with_reducible rfl)
  simp only [sq3, sq4]
  refine wpAnyH_take (i := 6) (v := ?_) rfl (by kernel_rfl) (by kernel_rfl) (by kernel_rfl) (fun _ _ _ h => h) (Or.inl ⟨by rfl, ?_⟩) hH ?_
  rotate_left
  ·((intro W hW; clear hW; go_simp) <;> with_reducible rfl)
  simp only [sq3, sq4]
  refine wpAnyH_ready (rs := [7, 9]) (by kernel_rfl) (by simp) ?_
  refine AllReadyH.cons (o := _) rfl (fun K hK => ?_) (AllReadyH.cons (o := _) rfl (fun K hK => ?_) AllReadyH.nil)
  ·simp only [sq3]
   go_simp
   with_reducible refine (dn_u32 (by have h_ := HTL.out; omega) HY1 hr rest).mono ?_
   rintro e w8 ⟨Au4, nu4, cu4, rfl, hq, sq, uq, b8⟩
   dsimp only
   replace sb := sb.away av_sb_r b8
   replace tk := tk.away av_tk_r b8
   replace hwk := blk_a hwk b8 d_wk_r
   replace hb2 := blk_a hb2 b8 d_b2_r
   replace hqs := blk_a hqs b8 d_qs_r
   replace fz := fz_new fz b8 pr
   replace hsz := Nat.le_trans hsz b8.size
   replace hx := hx.kt (S := [106]) (kt_grown b8 hr (by simp)) (by decide) (by decide)
   replace bel := below_grown bel b8 or (Nat.le_trans hlo bel.size)
   clear b8
   clear hr rest
   have hr := hq
   have rest := sq
   clear hq sq
   have avu4_rest_wk := av_rest_wk.sub uq
   have avu4_rest_b2 := av_rest_b2.sub uq
   have avu4_rest_qs := av_rest_qs.sub uq
   have avu4_rest_r := avr.sub uq
   clear uq
   refine hK.out _ _ hqs (fun hH9 => ?_)
   clear hK K
   refine wpAnyH_take (i := 8) (v := ?_) rfl (by kernel_rfl) (by kernel_rfl) (by kernel_rfl) (fun _ _ _ h => h) (Or.inl ⟨by rfl, ?_⟩) hH9 ?_
   rotate_left
   ·((intro W hW; clear hW; go_simp) <;> with_reducible rfl)
   simp only [sq3, sq4]
   refine wpAnyH_ready (rs := [9]) (by kernel_rfl) (by simp) ?_
   refine AllReadyH.cons (o := _) rfl (fun K hK => ?_) AllReadyH.nil
   simp only [sq3]
   rw [if_pos (by rfl)]
   refine wp_new_a 36 rfl #[.slice none 0 0, .int .i64 0, .int .i64 0, .int .u32 0, .slice none 0 0] (by kernel_rfl) ?_
   intro g8 w10 ge hh bb
   have d_wk_rc := ne_new (hlt hwk) ge
   have d_b2_rc := ne_new (hlt hb2) ge
   have d_qs_rc := ne_new (hlt hqs) ge
   have d_r_rc := ne_new (hlt hr) ge
   have av_sb_rc := sb.av_new ge
   have av_tk_rc := tk.av_new ge
   have av_rest_rc := rest.av_new ge
   have orc := Nat.le_trans (Nat.le_trans hlo bel.size) ge
   have prc := Nat.le_trans hsz ge
   replace hwk := blk_u hwk bb
   replace hb2 := blk_u hb2 bb
   replace hqs := blk_u hqs bb
   replace hr := blk_u hr bb
   replace sb := sb.below bb
   replace tk := tk.below bb
   replace rest := rest.below bb
   replace fz := gk_under fz bb hsz
   replace hsz := Nat.le_trans hsz bb.size
   replace hx := hx.kt (S := []) (kt_below bb) (by simp) (by simp)
   replace bel := bel.trans (bb.mono (Nat.le_trans hlo bel.size))
   have hrc := hh
   clear hh ge bb
   refine hK.out _ _ hqs (fun hH11 => ?_)
   clear hK K
   simp only [sq4]
   refine wpAnyH_ready (rs := [10]) (by kernel_rfl) (by simp) ?_
   refine AllReadyH.cons (o := _) rfl (fun K hK => ?_) AllReadyH.nil
   simp only [sq3]
   rw [if_pos (by rfl)]
   refine wp_store_blk 36 (.tmp 8) (.tmp 37) rfl g8 rfl _ rfl _ 36 hrc (by rfl) (by kernel_rfl) (by kernel_rfl) ?_
   intro w12 hq gr
   replace sb := sb.away av_sb_rc gr
   replace tk := tk.away av_tk_rc gr
   replace rest := rest.away av_rest_rc gr
   replace hwk := blk_a hwk gr d_wk_rc
   replace hb2 := blk_a hb2 gr d_b2_rc
   replace hqs := blk_a hqs gr d_qs_rc
   replace hr := blk_a hr gr d_r_rc
   replace fz := fz_new fz gr prc
   replace hsz := Nat.le_trans hsz gr.size
   replace hx := hx.kt (S := [36]) (kt_grown gr hrc (by simp)) (by decide) (by decide)
   replace bel := below_grown bel gr orc (Nat.le_trans hlo bel.size)
   clear hrc
   have hrc := hq
   clear hq gr
   refine hK.out _ _ hqs (fun hH13 => ?_)
   clear hK K
   simp only [Act.put]
   refine wpAnyH_done (by kernel_rfl) ?_ _
   go_wp2_with fail
   go_meet
   case rel => exact ⟨g8, Au4, nu4, cu4, rfl, hwk, hb2, hqs, hr, hrc, orc, prc, d_b2_qs, d_b2_r, d_b2_rc, (ne_symm d_wk_b2), d_qs_r, d_qs_rc, (ne_symm d_wk_qs), d_r_rc, (ne_symm d_wk_r), (ne_symm d_wk_rc), sb, av_sb_b2, av_sb_qs, av_sb_r, av_sb_rc, av_sb_wk, tk, av_tk_b2, av_tk_qs, av_tk_r, av_tk_rc, av_tk_wk, rest, avu4_rest_b2, avu4_rest_qs, avu4_rest_r, av_rest_rc, avu4_rest_wk, fz, hsz, hx, bel⟩
  simp only [sq3]
  rw [if_pos (by rfl)]
  refine wp_new_a 36 rfl #[.slice none 0 0, .int .i64 0, .int .i64 0, .int .u32 0, .slice none 0 0] (by kernel_rfl) ?_
  intro g8 w8 ge hh bb
  have d_wk_rc := ne_new (hlt hwk) ge
  have d_b2_rc := ne_new (hlt hb2) ge
  have d_qs_rc := ne_new (hlt hqs) ge
  have d_r_rc := ne_new (hlt hr) ge
  have av_sb_rc := sb.av_new ge
  have av_tk_rc := tk.av_new ge
  have av_rest_rc := rest.av_new ge
  have orc := Nat.le_trans (Nat.le_trans hlo bel.size) ge
  have prc := Nat.le_trans hsz ge
  replace hwk := blk_u hwk bb
  replace hb2 := blk_u hb2 bb
  replace hqs := blk_u hqs bb
  replace hr := blk_u hr bb
  replace sb := sb.below bb
  replace tk := tk.below bb
  replace rest := rest.below bb
  replace fz := gk_under fz bb hsz
  replace hsz := Nat.le_trans hsz bb.size
  replace hx := hx.kt (S := []) (kt_below bb) (by simp) (by simp)
  replace bel := bel.trans (bb.mono (Nat.le_trans hlo bel.size))
  have hrc := hh
  clear hh ge bb
  refine hK.out _ _ hqs (fun hH9 => ?_)
  clear hK K
  simp only [sq4]
  refine wpAnyH_ready (rs := [7]) (by kernel_rfl) (by simp) ?_
  refine AllReadyH.cons (o := _) rfl (fun K hK => ?_) AllReadyH.nil
  simp only [sq3]
  go_simp
  with_reducible refine (dn_u32 (by have h_ := HTL.out; omega) HY1 hr rest).mono ?_
  rintro e w10 ⟨Au4, nu4, cu4, rfl, hq, sq, uq, b10⟩
  dsimp only
  replace sb := sb.away av_sb_r b10
  replace tk := tk.away av_tk_r b10
  replace hwk := blk_a hwk b10 d_wk_r
  replace hb2 := blk_a hb2 b10 d_b2_r
  replace hqs := blk_a hqs b10 d_qs_r
  replace hrc := blk_a hrc b10 (ne_symm d_r_rc)
  replace fz := fz_new fz b10 pr
  replace hsz := Nat.le_trans hsz b10.size
  replace hx := hx.kt (S := [106]) (kt_grown b10 hr (by simp)) (by decide) (by decide)
  replace bel := below_grown bel b10 or (Nat.le_trans hlo bel.size)
  clear b10
  clear hr rest
  have hr := hq
  have rest := sq
  clear hq sq
  have avu4_rest_wk := av_rest_wk.sub uq
  have avu4_rest_b2 := av_rest_b2.sub uq
  have avu4_rest_qs := av_rest_qs.sub uq
  have avu4_rest_r := avr.sub uq
  have avu4_rest_rc := av_rest_rc.sub uq
  clear uq
  refine hK.out _ _ hqs (fun hH11 => ?_)
  clear hK K
  refine wpAnyH_take (i := 8) (v := ?_) rfl (by kernel_rfl) (by kernel_rfl) (by kernel_rfl) (fun _ _ _ h => h) (Or.inl ⟨by rfl, ?_⟩) hH11 ?_
  rotate_left
  ·((intro W hW; clear hW; go_simp) <;> with_reducible rfl)
  simp only [sq3, sq4]
  refine wpAnyH_ready (rs := [10]) (by kernel_rfl) (by simp) ?_
  refine AllReadyH.cons (o := _) rfl (fun K hK => ?_) AllReadyH.nil
  simp only [sq3]
  rw [if_pos (by rfl)]
  refine wp_store_blk 36 (.tmp 8) (.tmp 37) rfl g8 rfl _ rfl _ 36 hrc (by rfl) (by kernel_rfl) (by kernel_rfl) ?_
  intro w12 hq gr
  replace sb := sb.away av_sb_rc gr
  replace tk := tk.away av_tk_rc gr
  replace rest := rest.away avu4_rest_rc gr
  replace hwk := blk_a hwk gr d_wk_rc
  replace hb2 := blk_a hb2 gr d_b2_rc
  replace hqs := blk_a hqs gr d_qs_rc
  replace hr := blk_a hr gr d_r_rc
  replace fz := fz_new fz gr prc
  replace hsz := Nat.le_trans hsz gr.size
  replace hx := hx.kt (S := [36]) (kt_grown gr hrc (by simp)) (by decide) (by decide)
  replace bel := below_grown bel gr orc (Nat.le_trans hlo bel.size)
  clear hrc
  have hrc := hq
  clear hq gr
  refine hK.out _ _ hqs (fun hH13 => ?_)
  clear hK K
  simp only [Act.put]
  refine wpAnyH_done (by kernel_rfl) ?_ _
  go_wp2_with fail
  go_meet
  case rel => exact ⟨g8, Au4, nu4, cu4, rfl, hwk, hb2, hqs, hr, hrc, orc, prc, d_b2_qs, d_b2_r, d_b2_rc, (ne_symm d_wk_b2), d_qs_r, d_qs_rc, (ne_symm d_wk_qs), d_r_rc, (ne_symm d_wk_r), (ne_symm d_wk_rc), sb, av_sb_b2, av_sb_qs, av_sb_r, av_sb_rc, av_sb_wk, tk, av_tk_b2, av_tk_qs, av_tk_r, av_tk_rc, av_tk_wk, rest, avu4_rest_b2, avu4_rest_qs, avu4_rest_r, avu4_rest_rc, avu4_rest_wk, fz, hsz, hx, bel⟩
 obtain ⟨w14, hw_⟩ : ∃ x, x = wc := ⟨_, rfl⟩
 subst hw_
 obtain ⟨g8, Au4, nu4, cu4, rfl, hwk, hb2, hqs, hr, hrc, orc, prc, d_b2_qs, d_b2_r, d_b2_rc, d_b2_wk, d_qs_r, d_qs_rc, d_qs_wk, d_r_rc, d_r_wk, d_rc_wk, sb, av_sb_b2, av_sb_qs, av_sb_r, av_sb_rc, av_sb_wk, tk, av_tk_b2, av_tk_qs, av_tk_r, av_tk_rc, av_tk_wk, rest, av_rest_b2, av_rest_qs, av_rest_r, av_rest_rc, av_rest_wk, fz, hsz, hx, bel⟩ := hcut
 go_wp2_with fail
 replace bel := bel.drew
 replace hwk : w14.drew.heap[gx]? = _ := hwk
 replace hb2 : w14.drew.heap[g2]? = _ := hb2
 replace hqs : w14.drew.heap[g4]? = _ := hqs
 replace hr : w14.drew.heap[gr]? = _ := hr
 replace hrc : w14.drew.heap[g8]? = _ := hrc
 replace sb := sb.drew
 replace tk := tk.drew
 replace rest := rest.drew
 replace fz := gk_drew fz
 replace hsz := sz_drew' hsz
 replace hx := hx.drew
 refine wp_region_held_drew (S := fun W => W.cell? ⟨g8, 1, none⟩ = some (.int .i64 x.t)) (by kernel_rfl) (cell_lit hrc 1 _ rfl) (fun hH => ?_)
 generalize w14.drew = w15 at bel hwk hb2 hqs hr hrc sb tk rest fz hsz hx hH ⊢
 refine wpAnyH_take (i := 0) (v := ?_) rfl (by kernel_rfl) (by kernel_rfl) (by kernel_rfl) (fun _ _ _ h => h) (Or.inl ⟨by rfl, ?_⟩) hH ?_
 rotate_left
 ·((intro W hW; clear hW; go_simp) <;> with_reducible rfl)
 simp only [Act.put, List.getElem_toArray, List.getElem_cons_zero, List.setIfInBounds_toArray, List.set_cons_zero, List.set_cons_succ]
 refine wpAnyH_take (i := 1) (v := ?_) rfl (by kernel_rfl) (by kernel_rfl) (by kernel_rfl) (fun _ _ _ h => h) (Or.inl ⟨by rfl, ?_⟩) hH ?_
 rotate_left
 ·((intro W hW; clear hW; go_simp) <;> with_reducible rfl)
 simp only [sq3, sq4]
 refine wpAnyH_take (i := 2) (v := ?_) rfl (by kernel_rfl) (by kernel_rfl) (by kernel_rfl) (fun _ _ _ h => h) (Or.inl ⟨by rfl, ?_⟩) hH ?_
 rotate_left
 ·((intro W hW; have hk := hW; clear hW; go_simp) <;> with_reducible rfl)
 simp only [sq3, sq4]
 refine wpAnyH_take (i := 3) (v := ?_) rfl (by kernel_rfl) (by kernel_rfl) (by kernel_rfl) (fun _ _ _ h => h) (Or.inl ⟨by rfl, ?_⟩) hH ?_
 rotate_left
 ·((intro W hW; clear hW; go_simp) <;> with_reducible rfl)
 simp only [sq3, sq4]
 refine wpAnyH_ready (rs := [4]) (by kernel_rfl) (by simp) ?_
 refine AllReadyH.cons (o := _) rfl (fun K hK => ?_) AllReadyH.nil
 simp only [sq3]
 go_simp
 with_reducible refine (dn_u16 (by have h_ := HTL.out; rw [List.length_drop]; omega) HY2 hr rest).mono ?_
 rintro e w16 ⟨A15, n15, c15, rfl, hq, sq, uq, b16⟩
 dsimp only
 replace sb := sb.away av_sb_r b16
 replace tk := tk.away av_tk_r b16
 replace hwk := blk_a hwk b16 (ne_symm d_r_wk)
 replace hb2 := blk_a hb2 b16 d_b2_r
 replace hqs := blk_a hqs b16 d_qs_r
 replace hrc := blk_a hrc b16 (ne_symm d_r_rc)
 replace fz := fz_new fz b16 pr
 replace hsz := Nat.le_trans hsz b16.size
 replace hx := hx.kt (S := [106]) (kt_grown b16 hr (by simp)) (by decide) (by decide)
 replace bel := below_grown bel b16 or (Nat.le_trans hlo bel.size)
 clear b16
 clear hr rest
 have hr := hq
 have rest := sq
 clear hq sq
 have av15_rest_b2 := av_rest_b2.sub uq
 have av15_rest_qs := av_rest_qs.sub uq
 have av15_rest_r := av_rest_r.sub uq
 have av15_rest_rc := av_rest_rc.sub uq
 have av15_rest_wk := av_rest_wk.sub uq
 clear uq
 refine hK.out _ _ (cell_lit hrc 1 _ rfl) (fun hH17 => ?_)
 clear hK K
 refine wpAnyH_ready (rs := [5]) (by kernel_rfl) (by simp) ?_
 refine AllReadyH.cons (o := _) rfl (fun K hK => ?_) AllReadyH.nil
 simp only [sq3]
 go_simp
 have HS5 := hsz
 have HDT : Hid (dAt b x.t p6 kd = .ok r.data) := Lib.hid (by rw [HXT.out]; exact HD.out)
 with_reducible refine (ddata_ok _ hwk sb av_sb_wk hn P6L (t := x.t) (k := kd) K16 HDT.out).mono ?_
 rintro e w18 ⟨Bd, md, cd, rfl, dw_, hq_, b18⟩
 dsimp only
 replace sb := sb.away av_sb_wk b18
 replace tk := tk.away av_tk_wk b18
 replace rest := rest.away av15_rest_wk b18
 replace hb2 := blk_a hb2 b18 d_b2_wk
 replace hqs := blk_a hqs b18 d_qs_wk
 replace hr := blk_a hr b18 d_r_wk
 replace hrc := blk_a hrc b18 d_rc_wk
 replace fz := fz_self fz b18
 replace hsz := Nat.le_trans hsz b18.size
 replace hx := hx.kt (S := [53]) (kt_grown b18 hwk (by simp)) (by decide) (by decide)
 replace bel := below_grown bel b18 owk (Nat.le_trans hlo bel.size)
 clear b18
 clear hwk
 have hwk := hq_
 clear hq_
 replace dw_ := owk_lo dw_ HS5
 refine hK.out _ _ (cell_lit hrc 1 _ rfl) (fun hH19 => ?_)
 clear hK K
 refine wpAnyH_take (i := 6) (v := ?_) rfl (by kernel_rfl) (by kernel_rfl) (by kernel_rfl) (fun _ _ _ h => h) (Or.inl ⟨by rfl, ?_⟩) hH19 ?_
 rotate_left
 ·((intro W hW; clear hW; go_simp) <;> with_reducible rfl)
 simp only [sq3, sq4]
 refine wpAnyH_take (i := 7) (v := ?_) rfl (by kernel_rfl) (by kernel_rfl) (by kernel_rfl) (fun _ _ _ h => h) (Or.inl ⟨by rfl, ?_⟩) hH19 ?_
 rotate_left
 ·((intro W hW; clear hW; go_simp) <;> with_reducible rfl)
 simp only [sq3, sq4]
 refine wpAnyH_take (i := 8) (v := ?_) rfl (by kernel_rfl) (by kernel_rfl) (by kernel_rfl) (fun _ _ _ h => h) (Or.inl ⟨by rfl, ?_⟩) hH19 ?_
 rotate_left
 ·((intro W hW; clear hW; go_simp) <;> with_reducible rfl)
 simp only [sq3, sq4]
 refine wpAnyH_take (i := 9) (v := ?_) rfl (by kernel_rfl) (by kernel_rfl) (by kernel_rfl) (fun _ _ _ h => h) (Or.inl ⟨by rfl, ?_⟩) hH19 ?_
 rotate_left
 ·((intro W hW; clear hW; go_simp) <;> with_reducible rfl)
 simp only [sq3, sq4]
 refine wpAnyH_ready (rs := [10]) (by kernel_rfl) (by simp) ?_
 refine AllReadyH.cons (o := _) rfl (fun K hK => ?_) AllReadyH.nil
 simp only [sq3]
 rw [if_pos (by rfl)]
 refine wp_store_part 30 (.tmp 47) (.tmp 45) rfl g8 4 rfl [.slice Bd md cd] rfl [.slice x.A x.n x.c, .int .i64 x.t, .int .i64 x.k, .int .u32 r.ttl, .slice none 0 0] 36 hrc (by simp) [.slice x.A x.n x.c, .int .i64 x.t, .int .i64 x.k, .int .u32 r.ttl, .slice Bd md cd] rfl (by kernel_rfl) (by rfl) ?_
 intro w20 hq gr
 replace sb := sb.away av_sb_rc gr
 replace tk := tk.away av_tk_rc gr
 replace rest := rest.away av15_rest_rc gr
 replace hwk := blk_a hwk gr (ne_symm d_rc_wk)
 replace hb2 := blk_a hb2 gr d_b2_rc
 replace hqs := blk_a hqs gr d_qs_rc
 replace hr := blk_a hr gr d_r_rc
 replace fz := fz_new fz gr prc
 replace hsz := Nat.le_trans hsz gr.size
 replace hx := hx.kt (S := [36]) (kt_grown gr hrc (by simp)) (by decide) (by decide)
 replace dw_ := owk_off dw_ (ofs_type dw_ hrc (by decide)) gr
 replace bel := below_grown bel gr orc (Nat.le_trans hlo bel.size)
 clear hrc
 have hrc := hq
 clear hq gr
 refine hK.out _ _ (cell_lit hrc 1 _ rfl) (fun hH21 => ?_)
 clear hK K
 simp only [Act.put]
 refine wpAnyH_take (i := 11) (v := ?_) rfl (by kernel_rfl) (by kernel_rfl) (by kernel_rfl) (fun _ _ _ h => h) (Or.inl ⟨by rfl, ?_⟩) hH21 ?_
 rotate_left
 ·((intro W hW; clear hW; go_simp) <;> with_reducible rfl)
 simp only [sq3, sq4]
 refine wpAnyH_done (by kernel_rfl) ?_ _
 have R52 := Lib.hid (range_lit hrc 0 5 [.slice x.A x.n x.c, .int .i64 x.t, .int .i64 x.k, .int .u32 r.ttl, .slice Bd md cd] rfl)
 go_wp2_with (first | ((with_reducible show wpList _ _ _ (⟨some 52, _, _, _, _, _⟩ :: _) _ _); refine wpList_load_rng 36 (.tmp 8) rfl (by kernel_rfl) _ _ rfl _ R52.out _ Try.underlying36 rfl (by kernel_rfl) ?_) | ((with_reducible show wpList _ _ _ (⟨none, Op.store _ (.tmp 2) _, _, _, _, _⟩ :: _) _ _); refine wpList_store_blk rfl 36 (.tmp 2) (.tmp 52) rfl g2 rfl _ rfl _ 36 hb2 (by rfl) (by kernel_rfl) (by kernel_rfl) ?_; intro w22 hq gr; replace sb := sb.away av_sb_b2 gr; replace tk := tk.away av_tk_b2 gr; replace rest := rest.away av15_rest_b2 gr; replace hwk := blk_a hwk gr (ne_symm d_b2_wk); replace hqs := blk_a hqs gr (ne_symm d_b2_qs); replace hr := blk_a hr gr (ne_symm d_b2_r); replace hrc := blk_a hrc gr (ne_symm d_b2_rc); replace fz := fz_new fz gr pb2; replace hsz := Nat.le_trans hsz gr.size; replace hx := hx.kt (S := [36]) (kt_grown gr hb2 (by simp)) (by decide) (by decide); replace dw_ := owk_off dw_ (ofs_type dw_ hb2 (by decide)) gr; replace bel := below_grown bel gr ob2 (Nat.le_trans hlo bel.size); clear hb2; have hb2 := hq; clear hq gr))
 try clear R52
 exact bodyPost_ret (results_cell_tmp_row rfl _ _ _ _ _ _ _ rfl hb2 Try.underlying36 rfl (by kernel_rfl) (.int .i64 0) rfl) rfl ⟨⟨x.A, x.n, x.c, x.t, x.k, r.ttl, Bd, md, cd⟩, rfl, by rw [← HA2.out]; exact hwk, ⟨HXT.out.trans HT.out, hx.2.1.trans HK.out, rfl, by rw [← HNM.out]; exact hx.2.2, dw_⟩, fz⟩
set_option linter.unusedVariables false in
set_option linter.unusedSimpArgs false in
set_option maxRecDepth 100000 in
set_option maxHeartbeats 16000000 in
theorem drec_no {gx n c : Nat} {A : Option Addr} {b : List UInt8} {a : Nat} (w : World) (hwk : w.heap[gx]? = some (.cells #[.slice A n c, .int .i64 (a : Int)] 53 (0, 0))) (sb : Sl w A n c b) (av_sb_wk : Av A n gx) (hn : n ≤ 100000) (ha : a ≤ 100000) {er : Nat} (hr : rAt b a = .error er) (y : Int) (hy : (er : Int) = y) : Calls Try.prog 49 #[.pointer (some ⟨gx, 0, none⟩)] w fun e w' => e = .returned (.tuple #[.agg #[.slice none 0 0, .int .i64 0, .int .i64 0, .int .u32 0, .slice none 0 0], .int .i64 y]) ∧ w.grownBy w' (some gx) := by
 have hlo := Nat.zero_le w.heap.size
 have owk := Nat.zero_le gx
 have HBL := Lib.hid sb.1
 have a0 : (0 : Int) ≤ a := by omega
 have a1 : (a : Int) ≤ 100000 := by omega
 have n0 : (0 : Int) ≤ n := by omega
 have n1 : (n : Int) ≤ 100000 := by omega
 have hsz := Nat.le_refl w.heap.size
 have fz := fz_refl w (some gx)
 have HE : Hid (er = 3 ∨ er = 4) := Lib.hid (rAt_err hr)
 have HY := Lib.hid hy
 have y0 : y ≠ 0 := by have h_ := HY.out; have h1_ := HE.out; omega
 have y1 : (y != 0) = true := by simpa using y0
 clear y0 hy
 have bel := Below.refl 0 w
 go_enter Try.func49, Try.ntmps49
 rcases rAt_inv_no hr with hq_ | ⟨q, a1, hq_, hl_, he_⟩ | ⟨q, a1, kd, hq_, hl_, hkd_, hd_⟩
 ·have HQ := Lib.hid hq_
  clear hq_ hr
  go_wp2_with (first | ((with_reducible show wpList _ _ _ (⟨some 2, _, _, _, _, _⟩ :: _) _ _); refine wpList_new_a rfl 36 rfl #[.slice none 0 0, .int .i64 0, .int .i64 0, .int .u32 0, .slice none 0 0] (by kernel_rfl) ?_; intro g2 w1 ge hh bb; have d_wk_b2 := ne_new (hlt hwk) ge; have av_sb_b2 := sb.av_new ge; have ob2 := Nat.le_trans (Nat.le_trans hlo bel.size) ge; have pb2 := Nat.le_trans hsz ge; replace hwk := blk_u hwk bb; replace sb := sb.below bb; replace fz := gk_under fz bb hsz; replace hsz := Nat.le_trans hsz bb.size; replace bel := bel.trans (bb.mono (Nat.le_trans hlo bel.size)); have hb2 := hh; clear hh ge bb))
  with_reducible refine (dquest_no _ hwk sb av_sb_wk hn ha HQ.out y HY.out).mono ?_
  rintro e w2 ⟨rfl, b2⟩
  replace sb := sb.away av_sb_wk b2
  replace hb2 := blk_a hb2 b2 (ne_symm d_wk_b2)
  replace fz := fz_self fz b2
  replace hsz := Nat.le_trans hsz b2.size
  replace bel := below_grown bel b2 owk (Nat.le_trans hlo bel.size)
  clear b2
  clear hwk
  go_wp2_with (first | ((with_reducible show wpList _ _ _ (⟨some 4, _, _, _, _, _⟩ :: _) _ _); refine wpList_new_a rfl 60 rfl #[.slice none 0 0, .int .i64 0, .int .i64 0] (by kernel_rfl) ?_; intro g4 w3 ge hh bb; have d_b2_qs := ne_new (hlt hb2) ge; have av_sb_qs := sb.av_new ge; have oqs := Nat.le_trans (Nat.le_trans hlo bel.size) ge; have pqs := Nat.le_trans hsz ge; replace hb2 := blk_u hb2 bb; replace sb := sb.below bb; replace fz := gk_under fz bb hsz; replace hsz := Nat.le_trans hsz bb.size; replace bel := bel.trans (bb.mono (Nat.le_trans hlo bel.size)); have hqs := hh; clear hh ge bb) | ((with_reducible show wpList _ _ _ (⟨none, Op.store _ (.tmp 4) _, _, _, _, _⟩ :: _) _ _); refine wpList_store_blk rfl 60 (.tmp 4) (.tmp 12) rfl g4 rfl _ rfl _ 60 hqs (by rfl) (by kernel_rfl) (by kernel_rfl) ?_; intro w4 hq gr; replace sb := sb.away av_sb_qs gr; replace hb2 := blk_a hb2 gr d_b2_qs; replace fz := fz_new fz gr pqs; replace hsz := Nat.le_trans hsz gr.size; replace bel := below_grown bel gr oqs (Nat.le_trans hlo bel.size); clear hqs; have hqs := hq; clear hq gr) | ((with_reducible show wpList _ _ _ (⟨none, Op.store _ (.tmp 2) _, _, _, _, _⟩ :: _) _ _); refine wpList_store_blk rfl 36 (.tmp 2) (.tmp 16) rfl g2 rfl _ rfl _ 36 hb2 (by rfl) (by kernel_rfl) (by kernel_rfl) ?_; intro w5 hq gr; replace sb := sb.away av_sb_b2 gr; replace hqs := blk_a hqs gr (ne_symm d_b2_qs); replace fz := fz_new fz gr pb2; replace hsz := Nat.le_trans hsz gr.size; replace bel := below_grown bel gr ob2 (Nat.le_trans hlo bel.size); clear hb2; have hb2 := hq; clear hq gr))
  exact bodyPost_ret (results_cell_tmp_row rfl _ _ _ _ _ _ _ rfl hb2 Try.underlying36 rfl (by kernel_rfl) (.int .i64 y) rfl) rfl ⟨rfl, fz⟩
 ·have HQ := Lib.hid hq_
  have HA1 := Lib.hid (qAt_ok hq_).2
  have A1L : a1 ≤ 100000 := by have h_ := HA1.out; have h1_ := HBL.out; omega
  have HLE : Hid (n < a1 + 6) := Lib.hid (by have h_ := HBL.out; omega)
  have HE3 := Lib.hid he_
  clear hq_ hl_ he_ hr
  go_wp2_with (first | ((with_reducible show wpList _ _ _ (⟨some 2, _, _, _, _, _⟩ :: _) _ _); refine wpList_new_a rfl 36 rfl #[.slice none 0 0, .int .i64 0, .int .i64 0, .int .u32 0, .slice none 0 0] (by kernel_rfl) ?_; intro g2 w1 ge hh bb; have d_wk_b2 := ne_new (hlt hwk) ge; have av_sb_b2 := sb.av_new ge; have ob2 := Nat.le_trans (Nat.le_trans hlo bel.size) ge; have pb2 := Nat.le_trans hsz ge; replace hwk := blk_u hwk bb; replace sb := sb.below bb; replace fz := gk_under fz bb hsz; replace hsz := Nat.le_trans hsz bb.size; replace bel := bel.trans (bb.mono (Nat.le_trans hlo bel.size)); have hb2 := hh; clear hh ge bb))
  have HSQ := hsz
  with_reducible refine (dquest_ok _ hwk sb av_sb_wk hn ha HQ.out).mono ?_
  rintro e w2 ⟨x, rfl, hq_, hx, b2⟩
  replace sb := sb.away av_sb_wk b2
  replace hb2 := blk_a hb2 b2 (ne_symm d_wk_b2)
  replace fz := fz_self fz b2
  replace hsz := Nat.le_trans hsz b2.size
  replace bel := below_grown bel b2 owk (Nat.le_trans hlo bel.size)
  clear b2
  clear hwk
  have hwk := hq_
  clear hq_
  replace hx := hx.lower HSQ
  have HXT := Lib.hid hx.1
  go_wp2_with (first | ((with_reducible show wpList _ _ _ (⟨some 4, _, _, _, _, _⟩ :: _) _ _); refine wpList_new_a rfl 60 rfl #[.slice none 0 0, .int .i64 0, .int .i64 0] (by kernel_rfl) ?_; intro g4 w3 ge hh bb; have d_wk_qs := ne_new (hlt hwk) ge; have d_b2_qs := ne_new (hlt hb2) ge; have av_sb_qs := sb.av_new ge; have oqs := Nat.le_trans (Nat.le_trans hlo bel.size) ge; have pqs := Nat.le_trans hsz ge; replace hwk := blk_u hwk bb; replace hb2 := blk_u hb2 bb; replace sb := sb.below bb; replace fz := gk_under fz bb hsz; replace hsz := Nat.le_trans hsz bb.size; replace hx := hx.kt (S := []) (kt_below bb) (by simp) (by simp); replace bel := bel.trans (bb.mono (Nat.le_trans hlo bel.size)); have hqs := hh; clear hh ge bb) | ((with_reducible show wpList _ _ _ (⟨none, Op.store _ (.tmp 4) _, _, _, _, _⟩ :: _) _ _); refine wpList_store_blk rfl 60 (.tmp 4) (.tmp 12) rfl g4 rfl _ rfl _ 60 hqs (by rfl) (by kernel_rfl) (by kernel_rfl) ?_; intro w4 hq gr; replace sb := sb.away av_sb_qs gr; replace hwk := blk_a hwk gr d_wk_qs; replace hb2 := blk_a hb2 gr d_b2_qs; replace fz := fz_new fz gr pqs; replace hsz := Nat.le_trans hsz gr.size; replace hx := hx.kt (S := [60]) (kt_grown gr hqs (by simp)) (by decide) (by decide); replace bel := below_grown bel gr oqs (Nat.le_trans hlo bel.size); clear hqs; have hqs := hq; clear hq gr))
  with_reducible refine (dtake_no _ hwk sb av_sb_wk hn A1L 6 6 rfl (by decide) HLE.out).mono ?_
  rintro e w5 ⟨rfl, hq_, b5⟩
  replace sb := sb.away av_sb_wk b5
  replace hb2 := blk_a hb2 b5 (ne_symm d_wk_b2)
  replace hqs := blk_a hqs b5 (ne_symm d_wk_qs)
  replace fz := fz_self fz b5
  replace hsz := Nat.le_trans hsz b5.size
  replace hx := hx.kt (S := [53]) (kt_grown b5 hwk (by simp)) (by decide) (by decide)
  replace bel := below_grown bel b5 owk (Nat.le_trans hlo bel.size)
  clear b5
  clear hwk
  have hwk := hq_
  clear hq_
  go_wp2_with (first | ((with_reducible show wpList _ _ _ (⟨none, Op.store _ (.tmp 2) _, _, _, _, _⟩ :: _) _ _); refine wpList_store_blk rfl 36 (.tmp 2) (.tmp 25) rfl g2 rfl _ rfl _ 36 hb2 (by rfl) (by kernel_rfl) (by kernel_rfl) ?_; intro w6 hq gr; replace sb := sb.away av_sb_b2 gr; replace hwk := blk_a hwk gr d_wk_b2; replace hqs := blk_a hqs gr (ne_symm d_b2_qs); replace fz := fz_new fz gr pb2; replace hsz := Nat.le_trans hsz gr.size; replace hx := hx.kt (S := [36]) (kt_grown gr hb2 (by simp)) (by decide) (by decide); replace bel := below_grown bel gr ob2 (Nat.le_trans hlo bel.size); clear hb2; have hb2 := hq; clear hq gr))
  exact bodyPost_ret (results_cell_tmp_row rfl _ _ _ _ _ _ _ rfl hb2 Try.underlying36 rfl (by kernel_rfl) (.int .i64 3) rfl) rfl ⟨by rw [← HY.out, HE3.out]; rfl, fz⟩
 have HQ := Lib.hid hq_
 have HA1 := Lib.hid (qAt_ok hq_).2
 have A1L : a1 ≤ 100000 := by have h_ := HA1.out; have h1_ := HBL.out; omega
 have HLE : Hid (a1 + 6 ≤ n) := Lib.hid (by have h_ := HBL.out; omega)
 obtain ⟨p6, hp6_⟩ : ∃ u_, a1 + 6 = u_ := ⟨_, rfl⟩
 have HA6 := Lib.hid hp6_
 have HP6 : Hid (p6 ≤ n) := Lib.hid (by have h_ := HLE.out; omega)
 have P6L : p6 ≤ 100000 := by have h_ := HP6.out; omega
 have K16 : kd ≤ 65535 := by have h_ := nAt_lt2 b (a1 + 4) (by omega); omega
 have HKD := Lib.hid hkd_
 have HD := Lib.hid (hp6_ ▸ hd_)
 have kd0 : (0 : Int) ≤ kd := by omega
 obtain ⟨ut, hut_⟩ : ∃ u_, ((nAt b a1 4 : Nat) : Int) = u_ := ⟨_, rfl⟩
 have HU := Lib.hid hut_
 clear hq_ hl_ hkd_ hd_ hr hp6_ hut_
 go_wp2_with (first | ((with_reducible show wpList _ _ _ (⟨some 2, _, _, _, _, _⟩ :: _) _ _); refine wpList_new_a rfl 36 rfl #[.slice none 0 0, .int .i64 0, .int .i64 0, .int .u32 0, .slice none 0 0] (by kernel_rfl) ?_; intro g2 w1 ge hh bb; have d_wk_b2 := ne_new (hlt hwk) ge; have av_sb_b2 := sb.av_new ge; have ob2 := Nat.le_trans (Nat.le_trans hlo bel.size) ge; have pb2 := Nat.le_trans hsz ge; replace hwk := blk_u hwk bb; replace sb := sb.below bb; replace fz := gk_under fz bb hsz; replace hsz := Nat.le_trans hsz bb.size; replace bel := bel.trans (bb.mono (Nat.le_trans hlo bel.size)); have hb2 := hh; clear hh ge bb))
 have HSQ := hsz
 with_reducible refine (dquest_ok _ hwk sb av_sb_wk hn ha HQ.out).mono ?_
 rintro e w2 ⟨x, rfl, hq_, hx, b2⟩
 replace sb := sb.away av_sb_wk b2
 replace hb2 := blk_a hb2 b2 (ne_symm d_wk_b2)
 replace fz := fz_self fz b2
 replace hsz := Nat.le_trans hsz b2.size
 replace bel := below_grown bel b2 owk (Nat.le_trans hlo bel.size)
 clear b2
 clear hwk
 have hwk := hq_
 clear hq_
 replace hx := hx.lower HSQ
 have HXT := Lib.hid hx.1
 go_wp2_with (first | ((with_reducible show wpList _ _ _ (⟨some 4, _, _, _, _, _⟩ :: _) _ _); refine wpList_new_a rfl 60 rfl #[.slice none 0 0, .int .i64 0, .int .i64 0] (by kernel_rfl) ?_; intro g4 w3 ge hh bb; have d_wk_qs := ne_new (hlt hwk) ge; have d_b2_qs := ne_new (hlt hb2) ge; have av_sb_qs := sb.av_new ge; have oqs := Nat.le_trans (Nat.le_trans hlo bel.size) ge; have pqs := Nat.le_trans hsz ge; replace hwk := blk_u hwk bb; replace hb2 := blk_u hb2 bb; replace sb := sb.below bb; replace fz := gk_under fz bb hsz; replace hsz := Nat.le_trans hsz bb.size; replace hx := hx.kt (S := []) (kt_below bb) (by simp) (by simp); replace bel := bel.trans (bb.mono (Nat.le_trans hlo bel.size)); have hqs := hh; clear hh ge bb) | ((with_reducible show wpList _ _ _ (⟨none, Op.store _ (.tmp 4) _, _, _, _, _⟩ :: _) _ _); refine wpList_store_blk rfl 60 (.tmp 4) (.tmp 12) rfl g4 rfl _ rfl _ 60 hqs (by rfl) (by kernel_rfl) (by kernel_rfl) ?_; intro w4 hq gr; replace sb := sb.away av_sb_qs gr; replace hwk := blk_a hwk gr d_wk_qs; replace hb2 := blk_a hb2 gr d_b2_qs; replace fz := fz_new fz gr pqs; replace hsz := Nat.le_trans hsz gr.size; replace hx := hx.kt (S := [60]) (kt_grown gr hqs (by simp)) (by decide) (by decide); replace bel := below_grown bel gr oqs (Nat.le_trans hlo bel.size); clear hqs; have hqs := hq; clear hq gr))
 with_reducible refine (dtake_ok _ hwk sb av_sb_wk hn A1L 6 6 p6 rfl (by decide) HA6.out HP6.out).mono ?_
 rintro e w5 ⟨A9, c9, rfl, hq_, tk, u_, b5⟩
 replace sb := sb.away av_sb_wk b5
 replace hb2 := blk_a hb2 b5 (ne_symm d_wk_b2)
 replace hqs := blk_a hqs b5 (ne_symm d_wk_qs)
 replace fz := fz_self fz b5
 replace hsz := Nat.le_trans hsz b5.size
 replace hx := hx.kt (S := [53]) (kt_grown b5 hwk (by simp)) (by decide) (by decide)
 replace bel := below_grown bel b5 owk (Nat.le_trans hlo bel.size)
 clear b5
 clear hwk
 have hwk := hq_
 clear hq_
 have av_tk_wk := av_sb_wk.sub u_
 have av_tk_b2 := av_sb_b2.sub u_
 have av_tk_qs := av_sb_qs.sub u_
 clear u_
 have HTL : Hid (((b.drop a1).take 6).length = 6) := Lib.hid tk.1
 have HY1 : Hid (((be (((b.drop a1).take 6).take 4) : Nat) : Int) = ut) := Lib.hid (by rw [← HU.out]; exact congrArg Int.ofNat (nAt_sub (i := 0) (j := 4) rfl (by decide)))
 have HY2 : Hid (((be ((((b.drop a1).take 6).drop 4).take 2) : Nat) : Int) = (kd : Int)) := Lib.hid (by rw [← HKD.out]; exact congrArg Int.ofNat (nAt_sub (i := 4) (j := 2) rfl (by decide)))
 go_wp2_with fail
 with_reducible refine (rd_read _ _ _ _ _ tk (by omega)).mono ?_
 rintro e w6 ⟨gr, Ar5, cr5, rfl, ge, hh, rest, frr, avr, b6⟩
 have av_rest_wk := frr.av (hlt hwk)
 have av_rest_b2 := frr.av (hlt hb2)
 have av_rest_qs := frr.av (hlt hqs)
 have d_wk_r := ne_new (hlt hwk) ge
 have d_b2_r := ne_new (hlt hb2) ge
 have d_qs_r := ne_new (hlt hqs) ge
 have av_sb_r := sb.av_new ge
 have av_tk_r := tk.av_new ge
 have or := Nat.le_trans (Nat.le_trans hlo bel.size) ge
 have pr := Nat.le_trans hsz ge
 replace hwk := blk_u hwk b6
 replace hb2 := blk_u hb2 b6
 replace hqs := blk_u hqs b6
 replace sb := sb.below b6
 replace tk := tk.below b6
 replace fz := gk_under fz b6 hsz
 replace hsz := Nat.le_trans hsz b6.size
 replace hx := hx.kt (S := []) (kt_below b6) (by simp) (by simp)
 replace bel := bel.trans (b6.mono (Nat.le_trans hlo bel.size))
 have hr := hh
 clear hh ge b6
 replace rest : Sl w6 (Ar5) (6) (cr5) ((b.drop a1).take 6) := rest
 go_wp2_with fail
 go_cut [8] from 9999 (fun s8 W => ∃ g8 : Nat, ∃ Au4 : Option Addr, ∃ nu4 : Nat, ∃ cu4 : Nat, s8 = .pointer (some ⟨g8, 0, none⟩) ∧ W.heap[gx]? = some (.cells #[.slice A n c, .int .i64 (p6 : Int)] 53 (0, 0)) ∧ W.heap[g2]? = some (.cells #[.slice none 0 0, .int .i64 0, .int .i64 0, .int .u32 0, .slice none 0 0] 36 (0, 0)) ∧ W.heap[g4]? = some (.cells #[.slice x.A x.n x.c, .int .i64 x.t, .int .i64 x.k] 60 (0, 0)) ∧ W.heap[gr]? = some (.cells #[.slice Au4 nu4 cu4, .bool false] 106 (0, 0)) ∧ W.heap[g8]? = some (.cells #[.slice x.A x.n x.c, .int .i64 x.t, .int .i64 x.k, .int .u32 ut, .slice none 0 0] 36 (0, 0)) ∧ 0 ≤ g8 ∧ w.heap.size ≤ g8 ∧ Hid (g2 ≠ g4) ∧ Hid (g2 ≠ gr) ∧ Hid (g2 ≠ g8) ∧ Hid (g2 ≠ gx) ∧ Hid (g4 ≠ gr) ∧ Hid (g4 ≠ g8) ∧ Hid (g4 ≠ gx) ∧ Hid (gr ≠ g8) ∧ Hid (gr ≠ gx) ∧ Hid (g8 ≠ gx) ∧ Sl W (A) (n) (c) (b) ∧ Av (A) (n) g2 ∧ Av (A) (n) g4 ∧ Av (A) (n) gr ∧ Av (A) (n) g8 ∧ Av (A) (n) gx ∧ Sl W (A9) (6) (c9) ((b.drop a1).take 6) ∧ Av (A9) (6) g2 ∧ Av (A9) (6) g4 ∧ Av (A9) (6) gr ∧ Av (A9) (6) g8 ∧ Av (A9) (6) gx ∧ Sl W (Au4) (nu4) (cu4) (((b.drop a1).take 6).drop 4) ∧ Av (Au4) (nu4) g2 ∧ Av (Au4) (nu4) g4 ∧ Av (Au4) (nu4) gr ∧ Av (Au4) (nu4) g8 ∧ Av (Au4) (nu4) gx ∧ w.grownBy W (some gx) ∧ w.heap.size ≤ W.heap.size ∧ Qw w.heap.size W x q ∧ Below 0 w W)
 case first =>
  replace bel := bel.drew
  replace hwk : w6.drew.heap[gx]? = _ := hwk
  replace hb2 : w6.drew.heap[g2]? = _ := hb2
  replace hqs : w6.drew.heap[g4]? = _ := hqs
  replace hr : w6.drew.heap[gr]? = _ := hr
  replace sb := sb.drew
  replace tk := tk.drew
  replace rest := rest.drew
  replace fz := gk_drew fz
  replace hsz := sz_drew' hsz
  replace hx := hx.drew
  refine wp_region_held_drew (S := fun W => W.heap[g4]? = some (.cells #[.slice x.A x.n x.c, .int .i64 x.t, .int .i64 x.k] 60 (0, 0))) (by kernel_rfl) hqs (fun hH => ?_)
  generalize w6.drew = w7 at bel hwk hb2 hqs hr sb tk rest fz hsz hx hH ⊢
  refine wpAnyH_take (i := 0) (v := ?_) rfl (by kernel_rfl) (by kernel_rfl) (by kernel_rfl) (fun _ _ _ h => h) (Or.inl ⟨by rfl, ?_⟩) hH ?_
  rotate_left
  ·((intro W hW; clear hW; go_simp) <;> with_reducible rfl)
  simp only [Act.put, List.getElem_toArray, List.getElem_cons_zero, List.setIfInBounds_toArray, List.set_cons_zero, List.set_cons_succ]
  refine wpAnyH_take (i := 1) (v := ?_) rfl (by kernel_rfl) (by kernel_rfl) (by kernel_rfl) (fun _ _ _ h => h) (Or.inl ⟨by rfl, ?_⟩) hH ?_
  rotate_left
  ·((intro W hW; have hk := cell_lit (hW) 0 _ rfl; clear hW; go_simp) <;> with_reducible rfl)
  simp only [sq3, sq4]
  refine wpAnyH_take (i := 2) (v := ?_) rfl (by kernel_rfl) (by kernel_rfl) (by kernel_rfl) (fun _ _ _ h => h) (Or.inl ⟨by rfl, ?_⟩) hH ?_
  rotate_left
  ·((intro W hW; clear hW; go_simp) <;> with_reducible rfl)
  simp only [sq3, sq4]
  refine wpAnyH_take (i := 3) (v := ?_) rfl (by kernel_rfl) (by kernel_rfl) (by kernel_rfl) (fun _ _ _ h => h) (Or.inl ⟨by rfl, ?_⟩) hH ?_
  rotate_left
  ·((intro W hW; have hk := cell_lit (hW) 1 _ rfl; clear hW; go_simp) <;> with_reducible rfl)
  simp only [sq3, sq4]
  refine wpAnyH_take (i := 4) (v := ?_) rfl (by kernel_rfl) (by kernel_rfl) (by kernel_rfl) (fun _ _ _ h => h) (Or.inl ⟨by rfl, ?_⟩) hH ?_
  rotate_left
  ·((intro W hW; clear hW; go_simp) <;> with_reducible rfl)
  simp only [sq3, sq4]
  refine wpAnyH_take (i := 5) (v := ?_) rfl (by kernel_rfl) (by kernel_rfl) (by kernel_rfl) (fun _ _ _ h => h) (Or.inl ⟨by rfl, ?_⟩) hH ?_
  rotate_left
  ·((intro W hW; have hk := cell_lit (hW) 2 _ rfl; clear hW; go_simp) <;> with_reducible rfl)
  simp only [sq3, sq4]
  refine wpAnyH_take (i := 6) (v := ?_) rfl (by kernel_rfl) (by kernel_rfl) (by kernel_rfl) (fun _ _ _ h => h) (Or.inl ⟨by rfl, ?_⟩) hH ?_
  rotate_left
  ·((intro W hW; clear hW; go_simp) <;> with_reducible rfl)
  simp only [sq3, sq4]
  refine wpAnyH_ready (rs := [7, 9]) (by kernel_rfl) (by simp) ?_
  refine AllReadyH.cons (o := _) rfl (fun K hK => ?_) (AllReadyH.cons (o := _) rfl (fun K hK => ?_) AllReadyH.nil)
  ·simp only [sq3]
   go_simp
   with_reducible refine (dn_u32 (by have h_ := HTL.out; omega) HY1 hr rest).mono ?_
   rintro e w8 ⟨Au4, nu4, cu4, rfl, hq, sq, uq, b8⟩
   dsimp only
   replace sb := sb.away av_sb_r b8
   replace tk := tk.away av_tk_r b8
   replace hwk := blk_a hwk b8 d_wk_r
   replace hb2 := blk_a hb2 b8 d_b2_r
   replace hqs := blk_a hqs b8 d_qs_r
   replace fz := fz_new fz b8 pr
   replace hsz := Nat.le_trans hsz b8.size
   replace hx := hx.kt (S := [106]) (kt_grown b8 hr (by simp)) (by decide) (by decide)
   replace bel := below_grown bel b8 or (Nat.le_trans hlo bel.size)
   clear b8
   clear hr rest
   have hr := hq
   have rest := sq
   clear hq sq
   have avu4_rest_wk := av_rest_wk.sub uq
   have avu4_rest_b2 := av_rest_b2.sub uq
   have avu4_rest_qs := av_rest_qs.sub uq
   have avu4_rest_r := avr.sub uq
   clear uq
   refine hK.out _ _ hqs (fun hH9 => ?_)
   clear hK K
   refine wpAnyH_take (i := 8) (v := ?_) rfl (by kernel_rfl) (by kernel_rfl) (by kernel_rfl) (fun _ _ _ h => h) (Or.inl ⟨by rfl, ?_⟩) hH9 ?_
   rotate_left
   ·((intro W hW; clear hW; go_simp) <;> with_reducible rfl)
   simp only [sq3, sq4]
   refine wpAnyH_ready (rs := [9]) (by kernel_rfl) (by simp) ?_
   refine AllReadyH.cons (o := _) rfl (fun K hK => ?_) AllReadyH.nil
   simp only [sq3]
   rw [if_pos (by rfl)]
   refine wp_new_a 36 rfl #[.slice none 0 0, .int .i64 0, .int .i64 0, .int .u32 0, .slice none 0 0] (by kernel_rfl) ?_
   intro g8 w10 ge hh bb
   have d_wk_rc := ne_new (hlt hwk) ge
   have d_b2_rc := ne_new (hlt hb2) ge
   have d_qs_rc := ne_new (hlt hqs) ge
   have d_r_rc := ne_new (hlt hr) ge
   have av_sb_rc := sb.av_new ge
   have av_tk_rc := tk.av_new ge
   have av_rest_rc := rest.av_new ge
   have orc := Nat.le_trans (Nat.le_trans hlo bel.size) ge
   have prc := Nat.le_trans hsz ge
   replace hwk := blk_u hwk bb
   replace hb2 := blk_u hb2 bb
   replace hqs := blk_u hqs bb
   replace hr := blk_u hr bb
   replace sb := sb.below bb
   replace tk := tk.below bb
   replace rest := rest.below bb
   replace fz := gk_under fz bb hsz
   replace hsz := Nat.le_trans hsz bb.size
   replace hx := hx.kt (S := []) (kt_below bb) (by simp) (by simp)
   replace bel := bel.trans (bb.mono (Nat.le_trans hlo bel.size))
   have hrc := hh
   clear hh ge bb
   refine hK.out _ _ hqs (fun hH11 => ?_)
   clear hK K
   simp only [sq4]
   refine wpAnyH_ready (rs := [10]) (by kernel_rfl) (by simp) ?_
   refine AllReadyH.cons (o := _) rfl (fun K hK => ?_) AllReadyH.nil
   simp only [sq3]
   rw [if_pos (by rfl)]
   refine wp_store_blk 36 (.tmp 8) (.tmp 37) rfl g8 rfl _ rfl _ 36 hrc (by rfl) (by kernel_rfl) (by kernel_rfl) ?_
   intro w12 hq gr
   replace sb := sb.away av_sb_rc gr
   replace tk := tk.away av_tk_rc gr
   replace rest := rest.away av_rest_rc gr
   replace hwk := blk_a hwk gr d_wk_rc
   replace hb2 := blk_a hb2 gr d_b2_rc
   replace hqs := blk_a hqs gr d_qs_rc
   replace hr := blk_a hr gr d_r_rc
   replace fz := fz_new fz gr prc
   replace hsz := Nat.le_trans hsz gr.size
   replace hx := hx.kt (S := [36]) (kt_grown gr hrc (by simp)) (by decide) (by decide)
   replace bel := below_grown bel gr orc (Nat.le_trans hlo bel.size)
   clear hrc
   have hrc := hq
   clear hq gr
   refine hK.out _ _ hqs (fun hH13 => ?_)
   clear hK K
   simp only [Act.put]
   refine wpAnyH_done (by kernel_rfl) ?_ _
   go_wp2_with fail
   go_meet
   case rel => exact ⟨g8, Au4, nu4, cu4, rfl, hwk, hb2, hqs, hr, hrc, orc, prc, d_b2_qs, d_b2_r, d_b2_rc, (ne_symm d_wk_b2), d_qs_r, d_qs_rc, (ne_symm d_wk_qs), d_r_rc, (ne_symm d_wk_r), (ne_symm d_wk_rc), sb, av_sb_b2, av_sb_qs, av_sb_r, av_sb_rc, av_sb_wk, tk, av_tk_b2, av_tk_qs, av_tk_r, av_tk_rc, av_tk_wk, rest, avu4_rest_b2, avu4_rest_qs, avu4_rest_r, av_rest_rc, avu4_rest_wk, fz, hsz, hx, bel⟩
  simp only [sq3]
  rw [if_pos (by rfl)]
  refine wp_new_a 36 rfl #[.slice none 0 0, .int .i64 0, .int .i64 0, .int .u32 0, .slice none 0 0] (by kernel_rfl) ?_
  intro g8 w8 ge hh bb
  have d_wk_rc := ne_new (hlt hwk) ge
  have d_b2_rc := ne_new (hlt hb2) ge
  have d_qs_rc := ne_new (hlt hqs) ge
  have d_r_rc := ne_new (hlt hr) ge
  have av_sb_rc := sb.av_new ge
  have av_tk_rc := tk.av_new ge
  have av_rest_rc := rest.av_new ge
  have orc := Nat.le_trans (Nat.le_trans hlo bel.size) ge
  have prc := Nat.le_trans hsz ge
  replace hwk := blk_u hwk bb
  replace hb2 := blk_u hb2 bb
  replace hqs := blk_u hqs bb
  replace hr := blk_u hr bb
  replace sb := sb.below bb
  replace tk := tk.below bb
  replace rest := rest.below bb
  replace fz := gk_under fz bb hsz
  replace hsz := Nat.le_trans hsz bb.size
  replace hx := hx.kt (S := []) (kt_below bb) (by simp) (by simp)
  replace bel := bel.trans (bb.mono (Nat.le_trans hlo bel.size))
  have hrc := hh
  clear hh ge bb
  refine hK.out _ _ hqs (fun hH9 => ?_)
  clear hK K
  simp only [sq4]
  refine wpAnyH_ready (rs := [7]) (by kernel_rfl) (by simp) ?_
  refine AllReadyH.cons (o := _) rfl (fun K hK => ?_) AllReadyH.nil
  simp only [sq3]
  go_simp
  with_reducible refine (dn_u32 (by have h_ := HTL.out; omega) HY1 hr rest).mono ?_
  rintro e w10 ⟨Au4, nu4, cu4, rfl, hq, sq, uq, b10⟩
  dsimp only
  replace sb := sb.away av_sb_r b10
  replace tk := tk.away av_tk_r b10
  replace hwk := blk_a hwk b10 d_wk_r
  replace hb2 := blk_a hb2 b10 d_b2_r
  replace hqs := blk_a hqs b10 d_qs_r
  replace hrc := blk_a hrc b10 (ne_symm d_r_rc)
  replace fz := fz_new fz b10 pr
  replace hsz := Nat.le_trans hsz b10.size
  replace hx := hx.kt (S := [106]) (kt_grown b10 hr (by simp)) (by decide) (by decide)
  replace bel := below_grown bel b10 or (Nat.le_trans hlo bel.size)
  clear b10
  clear hr rest
  have hr := hq
  have rest := sq
  clear hq sq
  have avu4_rest_wk := av_rest_wk.sub uq
  have avu4_rest_b2 := av_rest_b2.sub uq
  have avu4_rest_qs := av_rest_qs.sub uq
  have avu4_rest_r := avr.sub uq
  have avu4_rest_rc := av_rest_rc.sub uq
  clear uq
  refine hK.out _ _ hqs (fun hH11 => ?_)
  clear hK K
  refine wpAnyH_take (i := 8) (v := ?_) rfl (by kernel_rfl) (by kernel_rfl) (by kernel_rfl) (fun _ _ _ h => h) (Or.inl ⟨by rfl, ?_⟩) hH11 ?_
  rotate_left
  ·((intro W hW; clear hW; go_simp) <;> with_reducible rfl)
  simp only [sq3, sq4]
  refine wpAnyH_ready (rs := [10]) (by kernel_rfl) (by simp) ?_
  refine AllReadyH.cons (o := _) rfl (fun K hK => ?_) AllReadyH.nil
  simp only [sq3]
  rw [if_pos (by rfl)]
  refine wp_store_blk 36 (.tmp 8) (.tmp 37) rfl g8 rfl _ rfl _ 36 hrc (by rfl) (by kernel_rfl) (by kernel_rfl) ?_
  intro w12 hq gr
  replace sb := sb.away av_sb_rc gr
  replace tk := tk.away av_tk_rc gr
  replace rest := rest.away avu4_rest_rc gr
  replace hwk := blk_a hwk gr d_wk_rc
  replace hb2 := blk_a hb2 gr d_b2_rc
  replace hqs := blk_a hqs gr d_qs_rc
  replace hr := blk_a hr gr d_r_rc
  replace fz := fz_new fz gr prc
  replace hsz := Nat.le_trans hsz gr.size
  replace hx := hx.kt (S := [36]) (kt_grown gr hrc (by simp)) (by decide) (by decide)
  replace bel := below_grown bel gr orc (Nat.le_trans hlo bel.size)
  clear hrc
  have hrc := hq
  clear hq gr
  refine hK.out _ _ hqs (fun hH13 => ?_)
  clear hK K
  simp only [Act.put]
  refine wpAnyH_done (by kernel_rfl) ?_ _
  go_wp2_with fail
  go_meet
  case rel => exact ⟨g8, Au4, nu4, cu4, rfl, hwk, hb2, hqs, hr, hrc, orc, prc, d_b2_qs, d_b2_r, d_b2_rc, (ne_symm d_wk_b2), d_qs_r, d_qs_rc, (ne_symm d_wk_qs), d_r_rc, (ne_symm d_wk_r), (ne_symm d_wk_rc), sb, av_sb_b2, av_sb_qs, av_sb_r, av_sb_rc, av_sb_wk, tk, av_tk_b2, av_tk_qs, av_tk_r, av_tk_rc, av_tk_wk, rest, avu4_rest_b2, avu4_rest_qs, avu4_rest_r, avu4_rest_rc, avu4_rest_wk, fz, hsz, hx, bel⟩
 obtain ⟨w14, hw_⟩ : ∃ x, x = wc := ⟨_, rfl⟩
 subst hw_
 obtain ⟨g8, Au4, nu4, cu4, rfl, hwk, hb2, hqs, hr, hrc, orc, prc, d_b2_qs, d_b2_r, d_b2_rc, d_b2_wk, d_qs_r, d_qs_rc, d_qs_wk, d_r_rc, d_r_wk, d_rc_wk, sb, av_sb_b2, av_sb_qs, av_sb_r, av_sb_rc, av_sb_wk, tk, av_tk_b2, av_tk_qs, av_tk_r, av_tk_rc, av_tk_wk, rest, av_rest_b2, av_rest_qs, av_rest_r, av_rest_rc, av_rest_wk, fz, hsz, hx, bel⟩ := hcut
 go_wp2_with fail
 replace bel := bel.drew
 replace hwk : w14.drew.heap[gx]? = _ := hwk
 replace hb2 : w14.drew.heap[g2]? = _ := hb2
 replace hqs : w14.drew.heap[g4]? = _ := hqs
 replace hr : w14.drew.heap[gr]? = _ := hr
 replace hrc : w14.drew.heap[g8]? = _ := hrc
 replace sb := sb.drew
 replace tk := tk.drew
 replace rest := rest.drew
 replace fz := gk_drew fz
 replace hsz := sz_drew' hsz
 replace hx := hx.drew
 refine wp_region_held_drew (S := fun W => W.cell? ⟨g8, 1, none⟩ = some (.int .i64 x.t)) (by kernel_rfl) (cell_lit hrc 1 _ rfl) (fun hH => ?_)
 generalize w14.drew = w15 at bel hwk hb2 hqs hr hrc sb tk rest fz hsz hx hH ⊢
 refine wpAnyH_take (i := 0) (v := ?_) rfl (by kernel_rfl) (by kernel_rfl) (by kernel_rfl) (fun _ _ _ h => h) (Or.inl ⟨by rfl, ?_⟩) hH ?_
 rotate_left
 ·((intro W hW; clear hW; go_simp) <;> with_reducible rfl)
 simp only [Act.put, List.getElem_toArray, List.getElem_cons_zero, List.setIfInBounds_toArray, List.set_cons_zero, List.set_cons_succ]
 refine wpAnyH_take (i := 1) (v := ?_) rfl (by kernel_rfl) (by kernel_rfl) (by kernel_rfl) (fun _ _ _ h => h) (Or.inl ⟨by rfl, ?_⟩) hH ?_
 rotate_left
 ·((intro W hW; clear hW; go_simp) <;> with_reducible rfl)
 simp only [sq3, sq4]
 refine wpAnyH_take (i := 2) (v := ?_) rfl (by kernel_rfl) (by kernel_rfl) (by kernel_rfl) (fun _ _ _ h => h) (Or.inl ⟨by rfl, ?_⟩) hH ?_
 rotate_left
 ·((intro W hW; have hk := hW; clear hW; go_simp) <;> with_reducible rfl)
 simp only [sq3, sq4]
 refine wpAnyH_take (i := 3) (v := ?_) rfl (by kernel_rfl) (by kernel_rfl) (by kernel_rfl) (fun _ _ _ h => h) (Or.inl ⟨by rfl, ?_⟩) hH ?_
 rotate_left
 ·((intro W hW; clear hW; go_simp) <;> with_reducible rfl)
 simp only [sq3, sq4]
 refine wpAnyH_ready (rs := [4]) (by kernel_rfl) (by simp) ?_
 refine AllReadyH.cons (o := _) rfl (fun K hK => ?_) AllReadyH.nil
 simp only [sq3]
 go_simp
 with_reducible refine (dn_u16 (by have h_ := HTL.out; rw [List.length_drop]; omega) HY2 hr rest).mono ?_
 rintro e w16 ⟨A15, n15, c15, rfl, hq, sq, uq, b16⟩
 dsimp only
 replace sb := sb.away av_sb_r b16
 replace tk := tk.away av_tk_r b16
 replace hwk := blk_a hwk b16 (ne_symm d_r_wk)
 replace hb2 := blk_a hb2 b16 d_b2_r
 replace hqs := blk_a hqs b16 d_qs_r
 replace hrc := blk_a hrc b16 (ne_symm d_r_rc)
 replace fz := fz_new fz b16 pr
 replace hsz := Nat.le_trans hsz b16.size
 replace hx := hx.kt (S := [106]) (kt_grown b16 hr (by simp)) (by decide) (by decide)
 replace bel := below_grown bel b16 or (Nat.le_trans hlo bel.size)
 clear b16
 clear hr rest
 have hr := hq
 have rest := sq
 clear hq sq
 have av15_rest_b2 := av_rest_b2.sub uq
 have av15_rest_qs := av_rest_qs.sub uq
 have av15_rest_r := av_rest_r.sub uq
 have av15_rest_rc := av_rest_rc.sub uq
 have av15_rest_wk := av_rest_wk.sub uq
 clear uq
 refine hK.out _ _ (cell_lit hrc 1 _ rfl) (fun hH17 => ?_)
 clear hK K
 refine wpAnyH_ready (rs := [5]) (by kernel_rfl) (by simp) ?_
 refine AllReadyH.cons (o := _) rfl (fun K hK => ?_) AllReadyH.nil
 simp only [sq3]
 go_simp
 have HDT : Hid (dAt b x.t p6 kd = .error er) := Lib.hid (by rw [HXT.out]; exact HD.out)
 with_reducible refine (ddata_no _ hwk sb av_sb_wk hn P6L (t := x.t) (k := kd) K16 HDT.out y HY.out).mono ?_
 rintro e w18 ⟨rfl, b18⟩
 dsimp only
 replace sb := sb.away av_sb_wk b18
 replace tk := tk.away av_tk_wk b18
 replace rest := rest.away av15_rest_wk b18
 replace hb2 := blk_a hb2 b18 d_b2_wk
 replace hqs := blk_a hqs b18 d_qs_wk
 replace hr := blk_a hr b18 d_r_wk
 replace hrc := blk_a hrc b18 d_rc_wk
 replace fz := fz_self fz b18
 replace hsz := Nat.le_trans hsz b18.size
 replace hx := hx.kt (S := [53]) (kt_grown b18 hwk (by simp)) (by decide) (by decide)
 replace bel := below_grown bel b18 owk (Nat.le_trans hlo bel.size)
 clear b18
 clear hwk
 refine hK.out _ _ (cell_lit hrc 1 _ rfl) (fun hH19 => ?_)
 clear hK K
 refine wpAnyH_take (i := 6) (v := ?_) rfl (by kernel_rfl) (by kernel_rfl) (by kernel_rfl) (fun _ _ _ h => h) (Or.inl ⟨by rfl, ?_⟩) hH19 ?_
 rotate_left
 ·((intro W hW; clear hW; go_simp) <;> with_reducible rfl)
 simp only [sq3, sq4]
 refine wpAnyH_take (i := 7) (v := ?_) rfl (by kernel_rfl) (by kernel_rfl) (by kernel_rfl) (fun _ _ _ h => h) (Or.inl ⟨by rfl, ?_⟩) hH19 ?_
 rotate_left
 ·((intro W hW; clear hW; go_simp) <;> with_reducible rfl)
 simp only [sq3, sq4]
 refine wpAnyH_take (i := 8) (v := ?_) rfl (by kernel_rfl) (by kernel_rfl) (by kernel_rfl) (fun _ _ _ h => h) (Or.inl ⟨by rfl, ?_⟩) hH19 ?_
 rotate_left
 ·((intro W hW; clear hW; go_simp) <;> with_reducible rfl)
 simp only [sq3, sq4]
 refine wpAnyH_take (i := 9) (v := ?_) rfl (by kernel_rfl) (by kernel_rfl) (by kernel_rfl) (fun _ _ _ h => h) (Or.inl ⟨by rfl, ?_⟩) hH19 ?_
 rotate_left
 ·((intro W hW; clear hW; go_simp) <;> with_reducible rfl)
 simp only [sq3, sq4]
 refine wpAnyH_ready (rs := [10]) (by kernel_rfl) (by simp) ?_
 refine AllReadyH.cons (o := _) rfl (fun K hK => ?_) AllReadyH.nil
 simp only [sq3]
 rw [if_pos (by rfl)]
 refine wp_store_part 30 (.tmp 47) (.tmp 45) rfl g8 4 rfl [.slice none 0 0] rfl [.slice x.A x.n x.c, .int .i64 x.t, .int .i64 x.k, .int .u32 ut, .slice none 0 0] 36 hrc (by simp) [.slice x.A x.n x.c, .int .i64 x.t, .int .i64 x.k, .int .u32 ut, .slice none 0 0] rfl (by kernel_rfl) (by rfl) ?_
 intro w20 hq gr
 replace sb := sb.away av_sb_rc gr
 replace tk := tk.away av_tk_rc gr
 replace rest := rest.away av15_rest_rc gr
 replace hb2 := blk_a hb2 gr d_b2_rc
 replace hqs := blk_a hqs gr d_qs_rc
 replace hr := blk_a hr gr d_r_rc
 replace fz := fz_new fz gr prc
 replace hsz := Nat.le_trans hsz gr.size
 replace hx := hx.kt (S := [36]) (kt_grown gr hrc (by simp)) (by decide) (by decide)
 replace bel := below_grown bel gr orc (Nat.le_trans hlo bel.size)
 clear hrc
 have hrc := hq
 clear hq gr
 refine hK.out _ _ (cell_lit hrc 1 _ rfl) (fun hH21 => ?_)
 clear hK K
 simp only [Act.put]
 refine wpAnyH_take (i := 11) (v := ?_) rfl (by kernel_rfl) (by kernel_rfl) (by kernel_rfl) (fun _ _ _ h => h) (Or.inl ⟨by rfl, ?_⟩) hH21 ?_
 rotate_left
 ·((intro W hW; clear hW; go_simp) <;> with_reducible rfl)
 simp only [sq3, sq4]
 refine wpAnyH_done (by kernel_rfl) ?_ _
 go_wp2_with (first | ((with_reducible show wpList _ _ _ (⟨none, Op.store _ (.tmp 2) _, _, _, _, _⟩ :: _) _ _); refine wpList_store_blk rfl 36 (.tmp 2) (.tmp 50) rfl g2 rfl _ rfl _ 36 hb2 (by rfl) (by kernel_rfl) (by kernel_rfl) ?_; intro w22 hq gr; replace sb := sb.away av_sb_b2 gr; replace tk := tk.away av_tk_b2 gr; replace rest := rest.away av15_rest_b2 gr; replace hqs := blk_a hqs gr (ne_symm d_b2_qs); replace hr := blk_a hr gr (ne_symm d_b2_r); replace hrc := blk_a hrc gr (ne_symm d_b2_rc); replace fz := fz_new fz gr pb2; replace hsz := Nat.le_trans hsz gr.size; replace hx := hx.kt (S := [36]) (kt_grown gr hb2 (by simp)) (by decide) (by decide); replace bel := below_grown bel gr ob2 (Nat.le_trans hlo bel.size); clear hb2; have hb2 := hq; clear hq gr))
 exact bodyPost_ret (results_cell_tmp_row rfl _ _ _ _ _ _ _ rfl hb2 Try.underlying36 rfl (by kernel_rfl) (.int .i64 y) rfl) rfl ⟨rfl, fz⟩
end Go.Proofs.Ytjedknjlpeccbaa
