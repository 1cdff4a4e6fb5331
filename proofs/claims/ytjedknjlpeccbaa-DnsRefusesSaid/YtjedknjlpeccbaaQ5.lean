/- Texts put together: Dn5, Sla, Dn6, Dn7, Dnl. -/
import Derived.Test.YtjedknjlpeccbaaQ1
import Derived.Test.YtjedknjlpeccbaaQ3
import Derived.Test.YtjedknjlpeccbaaQ4
namespace Go.Proofs.Ytjedknjlpeccbaa
open Go.RowKit

def getI (k : Nat) (b : List UInt8) (a : Int) (nx p : Nat) (ls : List (List UInt8)) (sz : Nat) : List (List UInt8) × Nat × Nat := if a < 0 then ([], 0, 3) else getF k b a.toNat nx p ls sz
theorem getI_nat (k : Nat) (b : List UInt8) (i nx p : Nat) (ls : List (List UInt8)) (sz : Nat) : getI k b (i : Int) nx p ls sz = getF k b i nx p ls sz := by unfold getI; rw [if_neg (by omega), Int.toNat_natCast]
theorem getI_neg {k : Nat} {b : List UInt8} {a : Int} {nx p : Nat} {ls : List (List UInt8)} {sz : Nat} (h : a < 0) : getI k b a nx p ls sz = ([], 0, 3) := if_pos h
theorem getN_I (b : List UInt8) (a : Int) : getI 400 b a 0 0 [] 1 = getN b a := rfl
set_option linter.unusedVariables false in
set_option linter.unusedSimpArgs false in
set_option maxRecDepth 100000 in
set_option maxHeartbeats 16000000 in
theorem nget_any (A : Option Addr) (n c : Nat) (b : List UInt8) (a0 : Int) (w : World) (sb : Sl w A n c b) (hnb : n ≤ 100000) : Calls Try.prog 69 #[.slice A n c, .int .i64 a0] w fun e w' => ∃ v, e = .returned (.tuple #[v, .int .i64 ((getN b a0).2.1 : Int), .int .i64 ((getN b a0).2.2 : Int)]) ∧ w'.ownsRow w.heap.size 9 1 v (getN b a0).1.length ((getN b a0).1.flatMap stf) ∧ Below w.heap.size w w' := by
 have sb0 := sb
 have HBL := Lib.hid sb.1
 have bel := Below.refl w.heap.size w
 go_enter Try.func69, Try.ntmps69
 go_wp2_with (first | ((with_reducible show wpList _ _ _ (⟨some 7, _, _, _, _, _⟩ :: _) _ _); refine wpList_new_a rfl 121 rfl #[.slice none 0 0, .int .i64 0, .int .i64 0, .int .i64 0, .slice none 0 0, .int .i64 0] (by kernel_rfl) ?_; intro g7 w1 ge hh bb; have av_sb_wk := sb.av_new ge; have owk := Nat.le_trans bel.size ge; replace sb := sb.below bb; replace bel := bel.trans (bb.mono bel.size); have hwk := hh; clear hh ge bb) | ((with_reducible show wpList _ _ _ (⟨none, Op.store _ (.tmp 7) _, _, _, _, _⟩ :: _) _ _); refine wpList_store_blk rfl 121 (.tmp 7) (.tmp 12) rfl g7 rfl _ rfl _ 121 hwk (by rfl) (by kernel_rfl) (by kernel_rfl) ?_; intro w2 hq gr; replace sb := sb.away av_sb_wk gr; replace bel := below_grown bel gr owk bel.size; clear hwk; have hwk := hq; clear hq gr))
 simp only [sq4]
 have hT : Wk w.heap.size g7 A n c b a0 0 0 [] 1 w2 := ⟨0, none, 0, hwk, World.ownsRow_nil _ _ _ _, owk, sb, sb0.bl_new⟩
 clear hwk sb
 go_wp2_with fail
 go_loopg [] (400) (fun gk  wr => ∃ k : Nat, ∃ a : Int, ∃ af : Int, ∃ nx : Nat, ∃ p : Nat, ∃ ls : List (List UInt8), ∃ sz : Nat, gk = k ∧ Hid (getI k b a nx p ls sz = getN b a0) ∧ 400 ≤ k + sz + p ∧ sz ≤ 255 ∧ p ≤ 64 ∧ ls.length ≤ sz ∧ Hid (p ≠ 0 → af = (nx : Int)) ∧ Wk w.heap.size g7 A n c b a af p ls sz wr ∧ Below w.heap.size w wr)
 case atStart => exact ⟨400, a0, 0, 0, 0, [], 1, rfl, Lib.hid (getN_I b a0), by omega, by omega, by omega, by simp, Lib.hid (fun h_ => absurd rfl h_), hT, bel⟩
 case round =>
  clear hT bel
  obtain ⟨k, a, af, nx, p, ls, sz, HGK, HS, hk, hsz, hp, hls, HNX, hT, bel⟩ := hrel
  have HGK_ := Lib.hid HGK
  clear HGK
  obtain ⟨k, rfl⟩ : ∃ k2, k = k2 + 1 := ⟨k - 1, by omega⟩
  by_cases ha : a < 0
  ·have HR : Hid (getN b a0 = ([], 0, 3)) := Lib.hid (HS.out.symm.trans (getI_neg ha))
   go_wp2_with fail
   with_reducible refine (wstep_neg _ hT bel.size ha).mono ?_
   rintro e w3 ⟨rfl, b3⟩
   replace bel := bel.trans b3
   clear b3 hT
   go_wp2_with fail
   exact bodyPost_ret (v := .tuple #[.slice none 0 0, .int .i64 0, .int .i64 3]) (by simp [results, Try.results69, go_sem]) rfl ⟨_, by rw [HR.out]; rfl, by rw [HR.out]; exact owk_nil _ _ _, bel⟩
  obtain ⟨i, rfl⟩ : ∃ i : Nat, a = (i : Int) := ⟨a.toNat, by omega⟩
  have i0 : (0 : Int) ≤ i := by omega
  by_cases hin : i < n
  rotate_left
  ·have HR : Hid (getN b a0 = ([], 0, 3)) := Lib.hid (HS.out.symm.trans ((getI_nat _ _ _ _ _ _ _).trans (getF_out (by rw [HBL.out]; omega))))
   go_wp2_with fail
   with_reducible refine (wstep_out _ hT bel.size i0 (by omega)).mono ?_
   rintro e w3 ⟨rfl, b3⟩
   replace bel := bel.trans b3
   clear b3 hT
   go_wp2_with fail
   exact bodyPost_ret (v := .tuple #[.slice none 0 0, .int .i64 0, .int .i64 3]) (by simp [results, Try.results69, go_sem]) rfl ⟨_, by rw [HR.out]; rfl, by rw [HR.out]; exact owk_nil _ _ _, bel⟩
  obtain ⟨cc, HCC_⟩ : ∃ u_, b[i]? = some u_ := ⟨_, List.getElem?_eq_getElem (by rw [HBL.out]; exact hin)⟩
  have HCC := Lib.hid HCC_
  clear HCC_
  obtain ⟨kc, HKC_⟩ : ∃ u_, cc.toNat = u_ := ⟨_, rfl⟩
  have HKC := Lib.hid HKC_
  clear HKC_
  have HX : Hid ((cc.toNat : Int) = (kc : Int)) := Lib.hid (by rw [HKC.out])
  have kc0 : (0 : Int) ≤ kc := by omega
  by_cases hz : (kc : Int) = 0
  ·obtain ⟨af2, HAF_⟩ : ∃ u_, (if p = 0 then (i : Int) + 1 else af) = u_ := ⟨_, rfl⟩
   have HAF := Lib.hid HAF_
   clear HAF_
   have HR : Hid (getN b a0 = (ls, (if p = 0 then i + 1 else nx), 0)) := Lib.hid (HS.out.symm.trans ((getI_nat _ _ _ _ _ _ _).trans (getF_end HCC.out (by rw [HKC.out]; omega))))
   have HAN : Hid (af2 = ((if p = 0 then i + 1 else nx : Nat) : Int)) := Lib.hid (by rw [← HAF.out]; by_cases h_ : p = 0; rw [if_pos h_, if_pos h_]; rfl; rw [if_neg h_, if_neg h_]; exact HNX.out h_)
   go_wp2_with fail
   with_reducible refine (wstep_end _ cc (kc : Int) HX.out hT bel.size HCC.out hin hnb af2 hz HAF.out).mono ?_
   rintro e w3 ⟨rfl, hT_, b3⟩
   replace bel := bel.trans b3
   clear b3 hT
   have hT := hT_
   clear hT_
   obtain ⟨m, L, cl, hwk, rlw, owk, sb2, BLB⟩ := hT
   go_wp2_with fail
   replace bel := bel.drew
   replace hwk : w3.drew.heap[g7]? = _ := hwk
   replace rlw := World.ownsRow.drew rlw
   refine wp_region_held_drew (S := fun W => W.heap[g7]? = some (.cells #[.slice A n c, .int .i64 ((i : Int) + 1), .int .i64 af2, .int .i64 (p : Int), .slice L m cl, .int .i64 (sz : Int)] 121 (0, 0))) (by kernel_rfl) hwk (fun hH => ?_)
   generalize w3.drew = w4 at bel hwk rlw hH ⊢
   refine wpAnyH_take (i := 0) (v := ?_) rfl (by kernel_rfl) (by kernel_rfl) (by kernel_rfl) (fun _ _ _ h => h) (Or.inl ⟨by rfl, ?_⟩) hH ?_
   rotate_left
   ·((intro W hW; clear hW; go_simp) <;> with_reducible rfl)
   simp only [Act.put, List.getElem_toArray, List.getElem_cons_zero, List.setIfInBounds_toArray, List.set_cons_zero, List.set_cons_succ]
   refine wpAnyH_take (i := 1) (v := ?_) rfl (by kernel_rfl) (by kernel_rfl) (by kernel_rfl) (fun _ _ _ h => h) (Or.inl ⟨by rfl, ?_⟩) hH ?_
   rotate_left
   ·((intro W hW; have hk := cell_lit (hW) 4 _ rfl; clear hW; go_simp) <;> with_reducible rfl)
   simp only [sq3, sq4]
   refine wpAnyH_take (i := 2) (v := ?_) rfl (by kernel_rfl) (by kernel_rfl) (by kernel_rfl) (fun _ _ _ h => h) (Or.inl ⟨by rfl, ?_⟩) hH ?_
   rotate_left
   ·((intro W hW; clear hW; go_simp) <;> with_reducible rfl)
   simp only [sq3, sq4]
   refine wpAnyH_take (i := 3) (v := ?_) rfl (by kernel_rfl) (by kernel_rfl) (by kernel_rfl) (fun _ _ _ h => h) (Or.inl ⟨by rfl, ?_⟩) hH ?_
   rotate_left
   ·((intro W hW; have hk := cell_lit (hW) 2 _ rfl; clear hW; go_simp) <;> with_reducible rfl)
   simp only [sq3, sq4]
   refine wpAnyH_take (i := 4) (v := ?_) rfl (by kernel_rfl) (by kernel_rfl) (by kernel_rfl) (fun _ _ _ h => h) (Or.inl ⟨by rfl, ?_⟩) hH ?_
   rotate_left
   ·((intro W hW; clear hW; go_simp) <;> with_reducible rfl)
   simp only [sq3, sq4]
   refine wpAnyH_take (i := 5) (v := ?_) rfl (by kernel_rfl) (by kernel_rfl) (by kernel_rfl) (fun _ _ _ h => h) (Or.inl ⟨by rfl, ?_⟩) hH ?_
   rotate_left
   ·((intro W hW; clear hW; go_simp) <;> with_reducible rfl)
   simp only [sq3, sq4]
   refine wpAnyH_take (i := 6) (v := ?_) rfl (by kernel_rfl) (by kernel_rfl) (by kernel_rfl) (fun _ _ _ h => h) (Or.inl ⟨by rfl, ?_⟩) hH ?_
   rotate_left
   ·((intro W hW; clear hW; go_simp) <;> with_reducible rfl)
   simp only [sq3, sq4]
   refine wpAnyH_done (by kernel_rfl) ?_ _
   go_wp2_with fail
   exact bodyPost_ret (v := .tuple #[.slice L m cl, .int .i64 af2, .int .i64 0]) (by simp [results, Try.results69, go_sem]) rfl ⟨_, by rw [HR.out, HAN.out]; rfl, by rw [HR.out]; exact owk_to rlw (owk_sle (by decide) stf_len rlw).1.1.symm rfl, bel⟩
  by_cases h1 : (kc : Int) ≤ 63
  ·by_cases h2 : (i : Int) + (1 + (kc : Int)) ≤ n
   rotate_left
   ·have HR : Hid (getN b a0 = ([], 0, 3)) := Lib.hid (HS.out.symm.trans ((getI_nat _ _ _ _ _ _ _).trans (getF_cut HCC.out (by rw [HKC.out]; omega) (by rw [HKC.out]; omega) (by rw [HKC.out, HBL.out]; omega))))
    go_wp2_with fail
    with_reducible refine (wstep_cut _ cc (kc : Int) HX.out hT bel.size HCC.out hin hnb hz h1 kc0 (by omega)).mono ?_
    rintro e w3 ⟨rfl, b3⟩
    replace bel := bel.trans b3
    clear b3 hT
    go_wp2_with fail
    exact bodyPost_ret (v := .tuple #[.slice none 0 0, .int .i64 0, .int .i64 3]) (by simp [results, Try.results69, go_sem]) rfl ⟨_, by rw [HR.out]; rfl, by rw [HR.out]; exact owk_nil _ _ _, bel⟩
   by_cases h3 : (sz : Int) + (1 + (kc : Int)) ≤ 255
   rotate_left
   ·have HR : Hid (getN b a0 = ([], 0, 4)) := Lib.hid (HS.out.symm.trans ((getI_nat _ _ _ _ _ _ _).trans (getF_long HCC.out (by rw [HKC.out]; omega) (by rw [HKC.out]; omega) (by rw [HKC.out, HBL.out]; omega) (by rw [HKC.out]; omega))))
    go_wp2_with fail
    with_reducible refine (wstep_long _ cc (kc : Int) HX.out hT bel.size HCC.out hin hnb hz h1 kc0 h2 (by omega) hsz).mono ?_
    rintro e w3 ⟨rfl, b3⟩
    replace bel := bel.trans b3
    clear b3 hT
    go_wp2_with fail
    exact bodyPost_ret (v := .tuple #[.slice none 0 0, .int .i64 0, .int .i64 4]) (by simp [results, Try.results69, go_sem]) rfl ⟨_, by rw [HR.out]; rfl, by rw [HR.out]; exact owk_nil _ _ _, bel⟩
   obtain ⟨af2, HAF_⟩ : ∃ u_, (if p = 0 then (i : Int) + (1 + (kc : Int)) else af) = u_ := ⟨_, rfl⟩
   have HAF := Lib.hid HAF_
   clear HAF_
   go_wp2_with fail
   with_reducible refine (wstep_label _ cc (kc : Int) HX.out hT bel.size HCC.out hin hnb af2 hz h1 (by omega) (by omega) (by omega) (by omega) HAF.out).mono ?_
   rintro e w3 ⟨rfl, hT_, b3⟩
   replace bel := bel.trans b3
   clear b3 hT
   have hT := hT_
   clear hT_
   go_wp2_with fail
   go_roundg (k)
   case measure => have := HGK_.out; omega
   case rel => exact ⟨k, (i : Int) + (1 + (kc : Int)), af2, nx, p, ls ++ [(b.drop (i + 1)).take (kc : Int).toNat], sz + (1 + (kc : Int).toNat), rfl, Lib.hid (by rw [← HS.out, getI_nat, getF_label HCC.out (by rw [HKC.out]; omega) (by rw [HKC.out]; omega) (by rw [HKC.out, HBL.out]; omega) (by rw [HKC.out]; omega), HKC.out, Int.toNat_natCast, show (i : Int) + (1 + (kc : Int)) = ((i + (1 + kc) : Nat) : Int) by omega, getI_nat]), by rw [Int.toNat_natCast]; omega, by rw [Int.toNat_natCast]; omega, hp, by rw [List.length_append, Int.toNat_natCast, List.length_singleton]; omega, Lib.hid (fun h_ => by rw [← HAF.out, if_neg h_]; exact HNX.out h_), hT, bel⟩
  by_cases h192 : 192 ≤ (kc : Int)
  rotate_left
  ·have HR : Hid (getN b a0 = ([], 0, 4)) := Lib.hid (HS.out.symm.trans ((getI_nat _ _ _ _ _ _ _).trans (getF_form HCC.out (by rw [HKC.out]; omega) (by rw [HKC.out]; omega))))
   go_wp2_with fail
   with_reducible refine (wstep_form _ cc (kc : Int) HX.out hT bel.size HCC.out hin hnb hz (by omega) (by omega)).mono ?_
   rintro e w3 ⟨rfl, b3⟩
   replace bel := bel.trans b3
   clear b3 hT
   go_wp2_with fail
   exact bodyPost_ret (v := .tuple #[.slice none 0 0, .int .i64 0, .int .i64 4]) (by simp [results, Try.results69, go_sem]) rfl ⟨_, by rw [HR.out]; rfl, by rw [HR.out]; exact owk_nil _ _ _, bel⟩
  by_cases hd : i + 1 < n
  rotate_left
  ·have HR : Hid (getN b a0 = ([], 0, 3)) := Lib.hid (HS.out.symm.trans ((getI_nat _ _ _ _ _ _ _).trans (getF_half HCC.out (by rw [HKC.out]; omega) (by rw [HBL.out]; omega))))
   go_wp2_with fail
   with_reducible refine (wstep_half _ cc (kc : Int) HX.out hT bel.size HCC.out hin hnb h192 (by omega)).mono ?_
   rintro e w3 ⟨rfl, b3⟩
   replace bel := bel.trans b3
   clear b3 hT
   go_wp2_with fail
   exact bodyPost_ret (v := .tuple #[.slice none 0 0, .int .i64 0, .int .i64 3]) (by simp [results, Try.results69, go_sem]) rfl ⟨_, by rw [HR.out]; rfl, by rw [HR.out]; exact owk_nil _ _ _, bel⟩
  obtain ⟨d, HD_⟩ : ∃ u_, b[i + 1]? = some u_ := ⟨_, List.getElem?_eq_getElem (by rw [HBL.out]; exact hd)⟩
  have HD := Lib.hid HD_
  clear HD_
  by_cases hlt : (leadTo cc d : Int) < i
  rotate_left
  ·have HR : Hid (getN b a0 = ([], 0, 4)) := Lib.hid (HS.out.symm.trans ((getI_nat _ _ _ _ _ _ _).trans (getF_bad HCC.out (by rw [HKC.out]; omega) HD.out (by omega))))
   go_wp2_with fail
   with_reducible refine (wstep_far _ cc (kc : Int) HX.out hT bel.size HCC.out hin hnb h192 d HD.out (by omega)).mono ?_
   rintro e w3 ⟨rfl, b3⟩
   replace bel := bel.trans b3
   clear b3 hT
   go_wp2_with fail
   exact bodyPost_ret (v := .tuple #[.slice none 0 0, .int .i64 0, .int .i64 4]) (by simp [results, Try.results69, go_sem]) rfl ⟨_, by rw [HR.out]; rfl, by rw [HR.out]; exact owk_nil _ _ _, bel⟩
  by_cases hp64 : p < 64
  rotate_left
  ·have HR : Hid (getN b a0 = ([], 0, 4)) := Lib.hid (HS.out.symm.trans ((getI_nat _ _ _ _ _ _ _).trans (getF_bad HCC.out (by rw [HKC.out]; omega) HD.out (by omega))))
   go_wp2_with fail
   with_reducible refine (wstep_many _ cc (kc : Int) HX.out hT bel.size HCC.out hin hnb h192 d HD.out hlt (by omega)).mono ?_
   rintro e w3 ⟨rfl, b3⟩
   replace bel := bel.trans b3
   clear b3 hT
   go_wp2_with fail
   exact bodyPost_ret (v := .tuple #[.slice none 0 0, .int .i64 0, .int .i64 4]) (by simp [results, Try.results69, go_sem]) rfl ⟨_, by rw [HR.out]; rfl, by rw [HR.out]; exact owk_nil _ _ _, bel⟩
  obtain ⟨af2, HAF_⟩ : ∃ u_, (if p = 0 then (i : Int) + 2 else af) = u_ := ⟨_, rfl⟩
  have HAF := Lib.hid HAF_
  clear HAF_
  obtain ⟨nx2, HN2_⟩ : ∃ u_, (if p = 0 then i + 2 else nx) = u_ := ⟨_, rfl⟩
  have HN2 := Lib.hid HN2_
  clear HN2_
  go_wp2_with fail
  with_reducible refine (wstep_lead _ cc (kc : Int) HX.out hT bel.size HCC.out hin hnb af2 h192 d HD.out hlt hp64 HAF.out).mono ?_
  rintro e w3 ⟨rfl, hT_, b3⟩
  replace bel := bel.trans b3
  clear b3 hT
  have hT := hT_
  clear hT_
  go_wp2_with fail
  go_roundg (k)
  case measure => have := HGK_.out; omega
  case rel => exact ⟨k, (leadTo cc d : Int), af2, nx2, p + 1, ls, sz, rfl, Lib.hid (by rw [← HS.out, getI_nat, getI_nat, getF_lead HCC.out (by rw [HKC.out]; omega) HD.out (by omega), HN2.out]), by omega, hsz, by omega, hls, Lib.hid (fun _ => by rw [← HAF.out, ← HN2.out]; by_cases h_ : p = 0; rw [if_pos h_, if_pos h_]; rfl; rw [if_neg h_, if_neg h_]; exact HNX.out h_), hT, bel⟩
open Go.RowKit

theorem sl_at {w : World} {g o n c j : Nat} {l : List UInt8} {x : UInt8} (h : Sl w (some ⟨g, o, none⟩) n c l) (hx : l[j]? = some x) : w.cell? ⟨g, o + j, none⟩ = some (.int .u8 (x.toNat : Int)) := by
 obtain ⟨h1, h2, h3, h4⟩ := h
 have hj : j < l.length := by
  rcases Nat.lt_or_ge j l.length with h | h
  ·exact h
  ·rw [List.getElem?_eq_none h] at hx
   exact absurd hx (by simp)
 obtain ⟨g', o', e, hc⟩ := h4 (by omega)
 injection e with e
 injection e with e1 e2
 subst e1
 subst e2
 exact hc j x hx
theorem sl_some {w : World} {A : Option Addr} {n c : Nat} {l : List UInt8} (h : Sl w A n c l) (hn : 0 < n) : ∃ g o, A = some ⟨g, o, none⟩ := by
 obtain ⟨g, o, e, _⟩ := h.2.2.2 hn
 exact ⟨g, o, e⟩
open Go.RowKit

set_option linter.unusedVariables false in
set_option linter.unusedSimpArgs false in
set_option maxRecDepth 100000 in
set_option maxHeartbeats 16000000 in
theorem rget_any (A : Option Addr) (n c : Nat) (b : List UInt8) (a0 : Int) (w : World) (sb : Sl w A n c b) (hnb : n ≤ 100000) : Calls Try.prog 56 #[.slice A n c, .int .i64 a0] w fun e w' => ∃ v, e = .returned (.tuple #[v, .int .i64 ((getN b a0).2.1 : Int), .int .i64 ((getN b a0).2.2 : Int)]) ∧ w'.ownsRow w.heap.size 9 1 v (getN b a0).1.length ((getN b a0).1.flatMap stf) ∧ Below w.heap.size w w' := by
 have HBL := Lib.hid sb.1
 have hnb1 : (n : Int) ≤ 100000 := by omega
 have BLB := sb.bl_new
 obtain ⟨is, his, his0, his1, his2⟩ := info_parts Try.info_str
 have bel := Below.refl w.heap.size w
 go_enter Try.func56, Try.ntmps56
 by_cases ha : a0 < 0
 ·have HR : Hid (getN b a0 = ([], 0, 3)) := Lib.hid (if_pos ha)
  go_wp2_with fail
  exact bodyPost_ret (v := .tuple #[.slice none 0 0, .int .i64 0, .int .i64 3]) (by simp [results, Try.results56, go_sem]) rfl ⟨_, by rw [HR.out]; rfl, by rw [HR.out]; exact owk_nil _ _ _, bel⟩
 obtain ⟨i0, rfl⟩ : ∃ i0 : Nat, a0 = (i0 : Int) := ⟨a0.toNat, by omega⟩
 have ha0 : (0 : Int) ≤ i0 := by omega
 clear ha
 by_cases hin0 : i0 < n
 rotate_left
 ·have hn1 : (n : Int) ≤ i0 := by omega
  have HR : Hid (getN b (i0 : Int) = ([], 0, 3)) := Lib.hid (by unfold getN; rw [if_neg (by omega), Int.toNat_natCast]; exact getF_out (by rw [HBL.out]; omega))
  go_wp2_with fail
  exact bodyPost_ret (v := .tuple #[.slice none 0 0, .int .i64 0, .int .i64 3]) (by simp [results, Try.results56, go_sem]) rfl ⟨_, by rw [HR.out]; rfl, by rw [HR.out]; exact owk_nil _ _ _, bel⟩
 have hn1 : decide ((n : Int) ≤ i0) = false := decide_eq_false (by omega)
 have hn2 : decide (n ≤ i0) = false := decide_eq_false (by omega)
 go_wp2_with fail
 go_loopg [1, 7, 8, 9, 10] (400) (fun gk s1 s7 s8 s9 s10 wr => ∃ k : Nat, ∃ i : Nat, ∃ nxt : Int, ∃ nx : Nat, ∃ p : Nat, ∃ m : Nat, ∃ ls : List (List UInt8), ∃ sz : Nat, ∃ (Aou : Option Addr) (cou : Nat), gk = k ∧ Hid (getF k b i nx p ls sz = getN b (i0 : Int)) ∧ 400 ≤ k + sz + p ∧ sz ≤ 255 ∧ p ≤ 64 ∧ m ≤ sz ∧ Hid (nxt = if p = 0 then -1 else (nx : Int)) ∧ s1 = .int .i64 (i : Int) ∧ s7 = .slice Aou m cou ∧ s8 = .int .i64 nxt ∧ s9 = .int .i64 (sz : Int) ∧ s10 = .int .i64 (p : Int) ∧ wr.ownsRow (w.heap.size) 9 1 (.slice Aou (m) cou) (m) ((ls : List (List UInt8)).flatMap stf) ∧ Sl wr (A) (n) (c) (b) ∧ Below w.heap.size w wr)
 case atStart => exact ⟨400, i0, -1, 0, 0, 0, [], 1, none, 0, rfl, Lib.hid (by unfold getN; rw [if_neg (by omega), Int.toNat_natCast]), by omega, by omega, by omega, by omega, Lib.hid rfl, rfl, rfl, rfl, rfl, rfl, owk_nil _ _ _, sb, bel⟩
 case round =>
  clear sb bel
  obtain ⟨k, i, nxt, nx, p, m, ls, sz, Aou, cou, HGK, HS, hk, hsz, hp, hms, HNX, rfl, rfl, rfl, rfl, rfl, ouw, sb, bel⟩ := hrel
  have HGK_ := Lib.hid HGK
  clear HGK
  have ou := (owk_sle (by decide) stf_len ouw).1
  have fr_ou := (owk_sle (by decide) stf_len ouw).2
  have lz_ou := bel.size
  have oulo := Nat.le_refl (w.heap.size)
  obtain ⟨k, rfl⟩ : ∃ k2, k = k2 + 1 := ⟨k - 1, by omega⟩
  have i0_ : (0 : Int) ≤ i := by omega
  have s0_ : (0 : Int) ≤ sz := by omega
  have s1_ : (sz : Int) ≤ 255 := by omega
  have p0_ : (0 : Int) ≤ p := by omega
  have p1_ : (p : Int) ≤ 64 := by omega
  clear hn1 hn2
  by_cases hin : i < n
  rotate_left
  ·have hn3 : (n : Int) ≤ i := by omega
   have HR : Hid (getN b (i0 : Int) = ([], 0, 3)) := Lib.hid (HS.out.symm.trans (getF_out (by rw [HBL.out]; omega)))
   go_wp2_with fail
   exact bodyPost_ret (v := .tuple #[.slice none 0 0, .int .i64 0, .int .i64 3]) (by simp [results, Try.results56, go_sem]) rfl ⟨_, by rw [HR.out]; rfl, by rw [HR.out]; exact owk_nil _ _ _, bel⟩
  have hn3 : decide ((n : Int) ≤ i) = false := decide_eq_false (by omega)
  have hn4 : decide (n ≤ i) = false := decide_eq_false (by omega)
  obtain ⟨gB, oB, rfl⟩ := sl_some sb (by omega)
  obtain ⟨cc, HCC_⟩ : ∃ u_, b[i]? = some u_ := ⟨_, List.getElem?_eq_getElem (by rw [HBL.out]; exact hin)⟩
  have HCC := Lib.hid HCC_
  clear HCC_
  obtain ⟨kc, HKC_⟩ : ∃ u_, cc.toNat = u_ := ⟨_, rfl⟩
  have HKC := Lib.hid HKC_
  clear HKC_
  have HX : Hid ((cc.toNat : Int) = (kc : Int)) := Lib.hid (by rw [HKC.out])
  have kc0 : (0 : Int) ≤ kc := by omega
  have kcb : (kc : Int) < 256 := by have h_ := HKC.out; have h1_ := cc.toNat_lt; omega
  by_cases hz : kc = 0
  ·have HZ := Lib.hid hz
   have z1 : ((kc : Int) == 0) = true := by rw [hz]; rfl
   have z2 : (kc == 0) = true := by rw [hz]; rfl
   clear hz
   by_cases hp : p = 0
   ·have hnl : nxt < 0 := by have h_ := HNX.out; rw [if_pos hp] at h_; omega
    have HPP := Lib.hid hp
    clear hp
    have HR : Hid (getN b (i0 : Int) = (ls, (if p = 0 then i + 1 else nx), 0)) := Lib.hid (HS.out.symm.trans (getF_end HCC.out (by rw [HKC.out]; exact HZ.out)))
    have HRV : Hid (((if p = 0 then i + 1 else nx : Nat) : Int) = (i : Int) + 1) := Lib.hid (by rw [if_pos HPP.out]; rfl)
    have R28 := (by have h_ := sl_at sb (j := i) HCC.out; rw [HX.out] at h_; exact h_)
    go_wp2_with fail
    clear R28
    exact bodyPost_ret (v := .tuple #[.slice Aou m cou, .int .i64 ((i : Int) + 1), .int .i64 0]) (by simp [results, Try.results56, go_sem]) rfl ⟨_, by rw [HR.out, HRV.out]; rfl, by rw [HR.out]; exact owk_to ouw ou.1.symm rfl, bel⟩
   have hnl : decide (nxt < 0) = false := decide_eq_false (by have h_ := HNX.out; rw [if_neg hp] at h_; omega)
   have HPP := Lib.hid hp
   clear hp
   have HR : Hid (getN b (i0 : Int) = (ls, (if p = 0 then i + 1 else nx), 0)) := Lib.hid (HS.out.symm.trans (getF_end HCC.out (by rw [HKC.out]; exact HZ.out)))
   have HRV : Hid (((if p = 0 then i + 1 else nx : Nat) : Int) = nxt) := Lib.hid (by rw [if_neg HPP.out]; have h_ := HNX.out; rw [if_neg HPP.out] at h_; exact h_.symm)
   have R28 := (by have h_ := sl_at sb (j := i) HCC.out; rw [HX.out] at h_; exact h_)
   go_wp2_with fail
   clear R28
   exact bodyPost_ret (v := .tuple #[.slice Aou m cou, .int .i64 nxt, .int .i64 0]) (by simp [results, Try.results56, go_sem]) rfl ⟨_, by rw [HR.out, HRV.out]; rfl, by rw [HR.out]; exact owk_to ouw ou.1.symm rfl, bel⟩
  have z1 : ((kc : Int) == 0) = false := by rw [beq_eq_false_iff_ne]; omega
  have z2 : (kc == 0) = false := by rw [beq_eq_false_iff_ne]; omega
  by_cases h192 : 192 ≤ kc
  rotate_left
  ·have h193 : decide ((192 : Int) ≤ kc) = false := decide_eq_false (by omega)
   by_cases h64 : kc ≤ 63
   rotate_left
   ·have h65 : (64 : Int) ≤ kc := by omega
    have HR : Hid (getN b (i0 : Int) = ([], 0, 4)) := Lib.hid (HS.out.symm.trans (getF_form HCC.out (by rw [HKC.out]; omega) (by rw [HKC.out]; omega)))
    have R28 := (by have h_ := sl_at sb (j := i) HCC.out; rw [HX.out] at h_; exact h_)
    go_wp2_with fail
    clear R28
    exact bodyPost_ret (v := .tuple #[.slice none 0 0, .int .i64 0, .int .i64 4]) (by simp [results, Try.results56, go_sem]) rfl ⟨_, by rw [HR.out]; rfl, by rw [HR.out]; exact owk_nil _ _ _, bel⟩
   have h65 : decide ((64 : Int) ≤ kc) = false := decide_eq_false (by omega)
   by_cases h2 : i + (1 + kc) ≤ n
   rotate_left
   ·have h3 : (n : Int) < (i : Int) + 1 + kc := by omega
    have HR : Hid (getN b (i0 : Int) = ([], 0, 3)) := Lib.hid (HS.out.symm.trans (getF_cut HCC.out (by rw [HKC.out]; omega) (by rw [HKC.out]; omega) (by rw [HKC.out, HBL.out]; omega)))
    have R28 := (by have h_ := sl_at sb (j := i) HCC.out; rw [HX.out] at h_; exact h_)
    go_wp2_with fail
    clear R28
    exact bodyPost_ret (v := .tuple #[.slice none 0 0, .int .i64 0, .int .i64 3]) (by simp [results, Try.results56, go_sem]) rfl ⟨_, by rw [HR.out]; rfl, by rw [HR.out]; exact owk_nil _ _ _, bel⟩
   have h3 : decide ((n : Int) < (i : Int) + 1 + kc) = false := decide_eq_false (by omega)
   by_cases h4 : sz + (1 + kc) ≤ 255
   rotate_left
   ·have h5 : (255 : Int) < (sz : Int) + 1 + kc := by omega
    have HR : Hid (getN b (i0 : Int) = ([], 0, 4)) := Lib.hid (HS.out.symm.trans (getF_long HCC.out (by rw [HKC.out]; omega) (by rw [HKC.out]; omega) (by rw [HKC.out, HBL.out]; omega) (by rw [HKC.out]; omega)))
    have R28 := (by have h_ := sl_at sb (j := i) HCC.out; rw [HX.out] at h_; exact h_)
    go_wp2_with fail
    clear R28
    exact bodyPost_ret (v := .tuple #[.slice none 0 0, .int .i64 0, .int .i64 4]) (by simp [results, Try.results56, go_sem]) rfl ⟨_, by rw [HR.out]; rfl, by rw [HR.out]; exact owk_nil _ _ _, bel⟩
   have h5 : decide ((255 : Int) < (sz : Int) + 1 + kc) = false := decide_eq_false (by omega)
   obtain ⟨A51, c51, r51_, f51, u51⟩ := piece_mid sb (p := i + 1) (k := kc) (by omega)
   have r51 : ∀ W, (Instr.slice 30 (.slice (some ⟨gB, oB, none⟩) n c) (some (.int .i64 ((i : Int) + 1))) (some (.int .i64 ((i : Int) + 1 + (kc : Int)))) none).run Try.prog W = .ok (.slice A51 kc c51) W := r51_
   clear r51_
   have R28 := (by have h_ := sl_at sb (j := i) HCC.out; rw [HX.out] at h_; exact h_)
   have sm := f51 _ sb
   have st52 := sm.str (P := Try.prog) 30 5 9 Try.underlying30 Try.underlying5 Try.underlying9
   go_wp2_with (first | ((with_reducible show wpList _ _ _ (⟨some 53, _, _, _, _, _⟩ :: _) _ _); refine wpList_lit_n rfl 33 9 1 _ rfl #[.string ⟨((b.drop (i + 1)).take kc).toArray⟩] (.string ⟨#[]⟩) Try.underlying33 (by kernel_rfl) 1 (by kernel_rfl) (by decide) (by kernel_rfl) ?_; intro g53 w1 ge lt hh bb; have av_sb_b53 := sb.av_new ge; have av_ou_b53 := ou.av_new ge; have of_ou_b53 := owk_new ouw ge; have av_sm_b53 := sm.av_new ge; have ob53 := Nat.le_trans bel.size ge; replace sb := sb.below bb; replace ou := ou.below bb; replace ouw := owk_under ouw bb; replace sm := sm.below bb; replace lz_ou := Nat.le_trans lz_ou bb.size; replace bel := bel.trans (bb.mono bel.size); have hb53 := hh; clear hh lt ge bb; have l1 : Sle stf 1 w1 (some ⟨g53, 0, none⟩) (1) (1) ([(b.drop (i + 1)).take kc]) := sle_lit ([(b.drop (i + 1)).take kc]) (by decide) stf_len hb53 rfl (by simp [maxLen])) | ((with_reducible show wpList _ _ _ (⟨some 54, _, _, _, _, _⟩ :: _) _ _); refine wpList_append_sle rfl (.tmp 43) (.tmp 53) 33 rfl (w.heap.size) 9 is (.string ⟨#[]⟩) 16 Try.underlying33 his his0 his1 his2 rfl stf_one _ (m) (ls) rfl ouw (some ⟨g53, 0, none⟩) (1) (1) ([(b.drop (i + 1)).take kc]) rfl l1 (by unfold maxLen; omega) (by omega) lz_ou ?_; intro v54 w2 own_ bb gw ofw; have of54_b53 := ofw _ (hlt hb53) of_ou_b53; clear ofw; replace sb := sb.under BLB bb; clear sm; replace l1 := Sle.off l1 of_ou_b53 gw; replace hb53 := blk_own hb53 gw of_ou_b53; clear gw; replace bel := bel.trans (bb.mono oulo); have lz_la := Nat.le_trans lz_ou bb.size; clear bb; clear ou ouw lz_ou; replace own_ : w2.ownsRow (w.heap.size) 9 1 v54 (m + 1) ((ls ++ [(b.drop (i + 1)).take kc] : List (List UInt8)).flatMap stf) := own_; obtain ⟨A54, c54, rfl⟩ := owk_val own_; have law := own_; have la := (owk_sle (by decide) stf_len own_).1; have fr_la := (owk_sle (by decide) stf_len own_).2; clear own_; have av_la_b53 := owk_av law of54_b53))
   try clear R28
   try clear st52
   go_roundg (k)
   case measure => have := HGK_.out; omega
   case rel => exact ⟨k, i + (1 + kc), nxt, nx, p, m + 1, ls ++ [(b.drop (i + 1)).take kc], sz + (1 + kc), A54, c54, rfl, Lib.hid (by rw [← HS.out, getF_label HCC.out (by rw [HKC.out]; omega) (by rw [HKC.out]; omega) (by rw [HKC.out, HBL.out]; omega) (by rw [HKC.out]; omega), HKC.out]), by omega, by omega, hp, by omega, HNX, by go_num, rfl, by go_num, by go_num, by go_num, law, sb, bel⟩
  have h193 : (192 : Int) ≤ kc := by omega
  by_cases hd : i + 1 < n
  rotate_left
  ·have hd1 : (n : Int) ≤ (i : Int) + 1 := by omega
   have HR : Hid (getN b (i0 : Int) = ([], 0, 3)) := Lib.hid (HS.out.symm.trans (getF_half HCC.out (by rw [HKC.out]; omega) (by rw [HBL.out]; omega)))
   have R28 := (by have h_ := sl_at sb (j := i) HCC.out; rw [HX.out] at h_; exact h_)
   go_wp2_with fail
   clear R28
   exact bodyPost_ret (v := .tuple #[.slice none 0 0, .int .i64 0, .int .i64 3]) (by simp [results, Try.results56, go_sem]) rfl ⟨_, by rw [HR.out]; rfl, by rw [HR.out]; exact owk_nil _ _ _, bel⟩
  have hd1 : decide ((n : Int) ≤ (i : Int) + 1) = false := decide_eq_false (by omega)
  have hd2 : decide (n ≤ i + 1) = false := decide_eq_false (by omega)
  obtain ⟨d, HD_⟩ : ∃ u_, b[i + 1]? = some u_ := ⟨_, List.getElem?_eq_getElem (by rw [HBL.out]; exact hd)⟩
  have HD := Lib.hid HD_
  clear HD_
  obtain ⟨y, HY_⟩ : ∃ u_, (d.toNat : Int) = u_ := ⟨_, rfl⟩
  have HY := Lib.hid HY_
  clear HY_
  have y0 : 0 ≤ y := by have h_ := HY.out; omega
  have y1 : y < 256 := by have h_ := HY.out; have h1_ := d.toNat_lt; omega
  obtain ⟨tq, HTQ_⟩ : ∃ u_, leadTo cc d = u_ := ⟨_, rfl⟩
  have HTQ := Lib.hid HTQ_
  clear HTQ_
  have hor : bits .or .i64 (((kc : Int) - 192) * 256) y = (tq : Int) := by rw [lead_or cc d (kc : Int) y HX.out HY.out (by rw [HKC.out]; exact h192), HTQ.out]
  have tq0 : (0 : Int) ≤ tq := by omega
  by_cases hlt : tq < i
  rotate_left
  ·have hl1 : (i : Int) ≤ tq := by omega
   have HR : Hid (getN b (i0 : Int) = ([], 0, 4)) := Lib.hid (HS.out.symm.trans (getF_bad HCC.out (by rw [HKC.out]; omega) HD.out (.inl (by rw [HTQ.out]; omega))))
   by_cases hp : p = 0
   ·have hnl : nxt < 0 := by have h_ := HNX.out; rw [if_pos hp] at h_; omega
    have HPP := Lib.hid hp
    clear hp
    have R28 := (by have h_ := sl_at sb (j := i) HCC.out; rw [HX.out] at h_; exact h_)
    have R83 := (by have h_ := sl_at sb (j := i + 1) HD.out; rw [HY.out] at h_; exact h_)
    go_wp2_with fail
    clear R28 R83
    exact bodyPost_ret (v := .tuple #[.slice none 0 0, .int .i64 0, .int .i64 4]) (by simp [results, Try.results56, go_sem]) rfl ⟨_, by rw [HR.out]; rfl, by rw [HR.out]; exact owk_nil _ _ _, bel⟩
   have hnl : decide (nxt < 0) = false := decide_eq_false (by have h_ := HNX.out; rw [if_neg hp] at h_; omega)
   have HPP := Lib.hid hp
   clear hp
   have R28 := (by have h_ := sl_at sb (j := i) HCC.out; rw [HX.out] at h_; exact h_)
   have R83 := (by have h_ := sl_at sb (j := i + 1) HD.out; rw [HY.out] at h_; exact h_)
   go_wp2_with fail
   clear R28 R83
   exact bodyPost_ret (v := .tuple #[.slice none 0 0, .int .i64 0, .int .i64 4]) (by simp [results, Try.results56, go_sem]) rfl ⟨_, by rw [HR.out]; rfl, by rw [HR.out]; exact owk_nil _ _ _, bel⟩
  have hl1 : decide ((i : Int) ≤ tq) = false := decide_eq_false (by omega)
  have hl2 : decide (i ≤ tq) = false := decide_eq_false (by omega)
  by_cases hp64 : p < 64
  rotate_left
  ·have hp1 : (64 : Int) < (p : Int) + 1 := by omega
   have HR : Hid (getN b (i0 : Int) = ([], 0, 4)) := Lib.hid (HS.out.symm.trans (getF_bad HCC.out (by rw [HKC.out]; omega) HD.out (.inr (by omega))))
   by_cases hp : p = 0
   ·have hnl : nxt < 0 := by have h_ := HNX.out; rw [if_pos hp] at h_; omega
    have HPP := Lib.hid hp
    clear hp
    have R28 := (by have h_ := sl_at sb (j := i) HCC.out; rw [HX.out] at h_; exact h_)
    have R83 := (by have h_ := sl_at sb (j := i + 1) HD.out; rw [HY.out] at h_; exact h_)
    go_wp2_with fail
    clear R28 R83
    exact bodyPost_ret (v := .tuple #[.slice none 0 0, .int .i64 0, .int .i64 4]) (by simp [results, Try.results56, go_sem]) rfl ⟨_, by rw [HR.out]; rfl, by rw [HR.out]; exact owk_nil _ _ _, bel⟩
   have hnl : decide (nxt < 0) = false := decide_eq_false (by have h_ := HNX.out; rw [if_neg hp] at h_; omega)
   have HPP := Lib.hid hp
   clear hp
   have R28 := (by have h_ := sl_at sb (j := i) HCC.out; rw [HX.out] at h_; exact h_)
   have R83 := (by have h_ := sl_at sb (j := i + 1) HD.out; rw [HY.out] at h_; exact h_)
   go_wp2_with fail
   clear R28 R83
   exact bodyPost_ret (v := .tuple #[.slice none 0 0, .int .i64 0, .int .i64 4]) (by simp [results, Try.results56, go_sem]) rfl ⟨_, by rw [HR.out]; rfl, by rw [HR.out]; exact owk_nil _ _ _, bel⟩
  have hp1 : decide ((64 : Int) < (p : Int) + 1) = false := decide_eq_false (by omega)
  by_cases hp : p = 0
  ·have hnl : nxt < 0 := by have h_ := HNX.out; rw [if_pos hp] at h_; omega
   have HPP := Lib.hid hp
   clear hp
   have R28 := (by have h_ := sl_at sb (j := i) HCC.out; rw [HX.out] at h_; exact h_)
   have R83 := (by have h_ := sl_at sb (j := i + 1) HD.out; rw [HY.out] at h_; exact h_)
   go_wp2_with fail
   clear R28 R83
   go_roundg (k)
   case measure => have := HGK_.out; omega
   case rel => exact ⟨k, tq, (i : Int) + 2, i + 2, p + 1, m, ls, sz, Aou, cou, rfl, Lib.hid (by rw [← HS.out, getF_lead HCC.out (by rw [HKC.out]; omega) HD.out (by rw [HTQ.out]; omega), HTQ.out, if_pos HPP.out]), by omega, hsz, by omega, by omega, Lib.hid (by rw [if_neg (by omega)]; rfl), by go_num, rfl, by go_num, by go_num, by go_num, ouw, sb, bel⟩
  have hnl : decide (nxt < 0) = false := decide_eq_false (by have h_ := HNX.out; rw [if_neg hp] at h_; omega)
  have HPP := Lib.hid hp
  clear hp
  have R28 := (by have h_ := sl_at sb (j := i) HCC.out; rw [HX.out] at h_; exact h_)
  have R83 := (by have h_ := sl_at sb (j := i + 1) HD.out; rw [HY.out] at h_; exact h_)
  go_wp2_with fail
  clear R28 R83
  go_roundg (k)
  case measure => have := HGK_.out; omega
  case rel => exact ⟨k, tq, nxt, nx, p + 1, m, ls, sz, Aou, cou, rfl, Lib.hid (by rw [← HS.out, getF_lead HCC.out (by rw [HKC.out]; omega) HD.out (by rw [HTQ.out]; omega), HTQ.out, if_neg HPP.out]), by omega, hsz, by omega, by omega, Lib.hid (by rw [if_neg (by omega)]; have h_ := HNX.out; rw [if_neg HPP.out] at h_; exact h_), by go_num, rfl, by go_num, by go_num, by go_num, ouw, sb, bel⟩
open Go.RowKit

set_option linter.unusedVariables false in
set_option linter.unusedSimpArgs false in
set_option maxRecDepth 100000 in
set_option maxHeartbeats 16000000 in
theorem rtext_any (A : Option Addr) (n c : Nat) (l : List (List UInt8)) (w : World) (la : Sle stf 1 w A n c l) (hs : sizeN l ≤ 99999) : Calls Try.prog 31 #[.slice A n c] w fun e w' => e = .returned (.string ⟨(textN l).toArray⟩) ∧ Below w.heap.size w w' := by
 have HN := Lib.hid la.1
 have HS := Lib.hid hs
 have hb : (n : Int) ≤ 100000 := by have h_ := size_ge l; have h1_ := HN.out; omega
 clear hs
 obtain ⟨ii, hii, hz0, hz1, hz2⟩ := info_parts Try.info5
 have bel := Below.refl w.heap.size w
 go_enter Try.func31, Try.ntmps31
 by_cases h0 : n = 0
 ·subst h0
  obtain rfl := List.eq_nil_of_length_eq_zero HN.out
  go_wp2_with fail
  go_ret
  exact ⟨rfl, bel⟩
 have h1 : ((n : Int) == 0) = false := by simpa using h0
 have h2 : (n == 0) = false := by simpa using h0
 have HNE : Hid (l ≠ []) := Lib.hid (fun e => h0 (by have h_ := HN.out; rw [e] at h_; exact h_.symm))
 go_wp2_with fail
 go_loopg [4, 3] (n) (fun gk s4 s3 wr => ∃ i : Nat, ∃ S : List UInt8, gk = n - i ∧ i ≤ n ∧ Hid (textG (l.take i) = S) ∧ s4 = .int .i64 (i : Int) ∧ s3 = .string ⟨(S).toArray⟩ ∧ Sle stf 1 wr (A) (n) (c) (l) ∧ Below w.heap.size w wr)
 case atStart => exact ⟨0, [], Nat.sub_zero _, Nat.zero_le _, Lib.hid rfl, rfl, rfl, la, bel⟩
 case round =>
  clear la bel
  obtain ⟨i, S, HGK, hi, HZ, rfl, rfl, la, bel⟩ := hrel
  have HGK_ := Lib.hid HGK
  clear HGK
  have i0 : (0 : Int) ≤ i := by omega
  have HGKo := HGK_
  by_cases h : i < n
  rotate_left
  ·obtain rfl : i = n := by omega
   have HT : Hid (S = textN l) := Lib.hid (by unfold textN; rw [if_neg HNE.out, ← HZ.out, take_full (by rw [HN.out]; exact h)])
   replace h : decide (i < i) = false := decide_eq_false (by omega)
   go_wp2_with fail
   go_ret
   exact ⟨by rw [← HT.out]; rfl, bel⟩
  obtain ⟨gA, oA, rfl⟩ := la.place (by omega)
  obtain ⟨x0, HX0_⟩ : ∃ u_, l[i]? = some u_ := ⟨_, List.getElem?_eq_getElem (by rw [HN.out]; exact h)⟩
  have HX0 := Lib.hid HX0_
  clear HX0_
  obtain ⟨kx, HKX_⟩ : ∃ u_, x0.length = u_ := ⟨_, rfl⟩
  have HKX := Lib.hid HKX_
  clear HKX_
  have HPL : Hid (S.length + 1 + 4 * kx ≤ 400000) := Lib.hid (by rw [← HZ.out, ← HKX.out]; have h_ := textG_len (l.take i); have h1_ := size_next HX0.out; have h2_ := size_take l (i + 1); have h3_ := HS.out; omega)
  have hkx : (kx : Int) ≤ 100000 := by have h_ := HPL.out; omega
  by_cases hi0 : i = 0
  ·have hi1 : decide (0 < i) = false := decide_eq_false (by omega)
   have hi00 := Lib.hid hi0
   clear hi0
   go_wp2_with fail
   go_loopg [5, 3] (kx) (fun gk s5 s3 wr => ∃ q : Nat, ∃ T : List UInt8, gk = kx - q ∧ q ≤ kx ∧ Hid (S ++ textL (x0.take q) = T) ∧ s5 = .int .i64 (q : Int) ∧ s3 = .string ⟨(T).toArray⟩ ∧ Sle stf 1 wr (some ⟨gA, oA, none⟩) (n) (c) (l) ∧ Below w.heap.size w wr)
   case atStart => exact ⟨0, S, Nat.sub_zero _, Nat.zero_le _, Lib.hid (by simp [textL]), rfl, rfl, la, bel⟩
   case round =>
    clear la bel
    obtain ⟨q, T, HGK, hq, HT, rfl, rfl, la, bel⟩ := hrel
    have HGK_ := Lib.hid HGK
    clear HGK
    have q0 : (0 : Int) ≤ q := by omega
    have HTL : Hid (T.length ≤ 400000) := Lib.hid (by rw [← HT.out]; simp only [List.length_append, List.length_singleton]; have h_ := textL_len (x0.take q); have h1_ : (x0.take q).length ≤ x0.length := (by rw [List.length_take]; omega); have h2_ := HPL.out; have h3_ := HKX.out; omega)
    have htb := HTL.out
    by_cases h5 : q < kx
    rotate_left
    ·obtain rfl : q = kx := by omega
     have HTE : Hid (textG (l.take (i + 1)) = T) := Lib.hid (by rw [← HT.out, take_full (l := x0) (by rw [HKX.out]; omega)]; rw [← HZ.out]; have h_ := HX0.out; rw [hi00.out] at h_ ⊢; rw [textG_first h_]; rfl)
     replace h5 : decide (q < q) = false := decide_eq_false (by omega)
     have R24 := Sle.st (i := i) la HX0.out
     have R25 := fun W => st_lenN HKX.out 3 W
     go_wp2_with fail
     clear R24 R25
     go_roundg (n - (i + 1))
     case measure => have := HGKo.out; omega
     case rel => exact ⟨i + 1, T, rfl, h, HTE, by go_num, by go_num, la, bel⟩
    obtain ⟨cx, HC_⟩ : ∃ u_, x0[q]? = some u_ := ⟨_, List.getElem?_eq_getElem (by rw [HKX.out]; exact h5)⟩
    have HC := Lib.hid HC_
    clear HC_
    obtain ⟨x, HX_⟩ : ∃ u_, (cx.toNat : Int) = u_ := ⟨_, rfl⟩
    have HX := Lib.hid HX_
    clear HX_
    have x00 : 0 ≤ x := by have h_ := HX.out; omega
    have x01 : x < 256 := by have h_ := HX.out; have h1_ := cx.toNat_lt; omega
    have R34_ := fun W => st_index HC.out W
    rw [HX.out] at R34_
    have R34 := R34_
    clear R34_
    by_cases p1 : x < 33
    ·have HP : Hid (escB cx = [92, dg1 cx, dg2 cx, dg3 cx]) := Lib.hid (by unfold escB; rw [if_neg (by rw [show plainB cx = false from by unfold plainB; exact decide_eq_false (by have h_ := HX.out; omega)]; decide)])
     have R62 : ∀ W, (Op.stringOp .add ⟨T.toArray⟩ ⟨([92, dg1 cx, dg2 cx, dg3 cx] : List UInt8).toArray⟩).run Try.prog W = .ok (.string ⟨(T ++ [92, dg1 cx, dg2 cx, dg3 cx]).toArray⟩) W := fun W => st_add (x := T) (y := [92, dg1 cx, dg2 cx, dg3 cx]) (by simp; omega) W
     have R24 := Sle.st (i := i) la HX0.out
     have R25 := fun W => st_lenN HKX.out 3 W
     have R32 := Sle.st (i := i) la HX0.out
     have R34 := R34
     go_wp2_with (first | ((with_reducible show wpList _ _ _ (⟨some 60, _, _, _, _, _⟩ :: _) _ _); refine wpList_lit_n rfl 30 5 4 _ rfl #[.int .u8 92, .int .u8 (48 + x / 100), .int .u8 (48 + x / 10 % 10), .int .u8 (48 + x % 10)] (.int .u8 0) Try.underlying30 (by kernel_rfl) 1 (by kernel_rfl) (by decide) (by kernel_rfl) ?_; intro g60 w1 ge lt hh bb; have hl : w1.heap[g60]? = some (.cells (([92, dg1 cx, dg2 cx, dg3 cx] : List UInt8).map u8v).toArray 5 (0, 0)) := (by rw [show ([92, dg1 cx, dg2 cx, dg3 cx] : List UInt8).map u8v = [.int .u8 92, .int .u8 (48 + x / 100), .int .u8 (48 + x / 10 % 10), .int .u8 (48 + x % 10)] from dg_cells HX.out]; exact hh); have ytw := own_lit (B := wr.heap.size) ([92, dg1 cx, dg2 cx, dg3 cx]) hl ge 4 rfl (by simp [maxLen]); have yt := (own_sl ytw).1; have ytlo := bel.size; clear hl; have ytge := ge; have lz_yt := bb.size; have bl_la_yt := la.bl_new; have av_la_b60 := la.av_new ge; have ob60 := Nat.le_trans bel.size ge; replace la := la.below bb; replace bel := bel.trans (bb.mono bel.size); have hb60 := hh; clear hh lt ge bb; have st61 := yt.str (P := Try.prog) 30 5 9 Try.underlying30 Try.underlying5 Try.underlying9))
     try clear R24
     try clear R25
     try clear R32
     try clear R34
     try clear st61
     go_roundg (kx - (q + 1))
     case measure => have := HGK_.out; omega
     case rel => exact ⟨q + 1, T ++ [92, dg1 cx, dg2 cx, dg3 cx], rfl, h5, Lib.hid (by rw [textL_next HC.out, HP.out, ← List.append_assoc, HT.out]), by go_num, by go_num, la, bel⟩
    have p10 : decide (x < 33) = false := decide_eq_false p1
    by_cases p2 : 126 < x
    ·have HP : Hid (escB cx = [92, dg1 cx, dg2 cx, dg3 cx]) := Lib.hid (by unfold escB; rw [if_neg (by rw [show plainB cx = false from by unfold plainB; exact decide_eq_false (by have h_ := HX.out; omega)]; decide)])
     have R62 : ∀ W, (Op.stringOp .add ⟨T.toArray⟩ ⟨([92, dg1 cx, dg2 cx, dg3 cx] : List UInt8).toArray⟩).run Try.prog W = .ok (.string ⟨(T ++ [92, dg1 cx, dg2 cx, dg3 cx]).toArray⟩) W := fun W => st_add (x := T) (y := [92, dg1 cx, dg2 cx, dg3 cx]) (by simp; omega) W
     have R24 := Sle.st (i := i) la HX0.out
     have R25 := fun W => st_lenN HKX.out 3 W
     have R32 := Sle.st (i := i) la HX0.out
     have R34 := R34
     go_wp2_with (first | ((with_reducible show wpList _ _ _ (⟨some 60, _, _, _, _, _⟩ :: _) _ _); refine wpList_lit_n rfl 30 5 4 _ rfl #[.int .u8 92, .int .u8 (48 + x / 100), .int .u8 (48 + x / 10 % 10), .int .u8 (48 + x % 10)] (.int .u8 0) Try.underlying30 (by kernel_rfl) 1 (by kernel_rfl) (by decide) (by kernel_rfl) ?_; intro g60 w1 ge lt hh bb; have hl : w1.heap[g60]? = some (.cells (([92, dg1 cx, dg2 cx, dg3 cx] : List UInt8).map u8v).toArray 5 (0, 0)) := (by rw [show ([92, dg1 cx, dg2 cx, dg3 cx] : List UInt8).map u8v = [.int .u8 92, .int .u8 (48 + x / 100), .int .u8 (48 + x / 10 % 10), .int .u8 (48 + x % 10)] from dg_cells HX.out]; exact hh); have ytw := own_lit (B := wr.heap.size) ([92, dg1 cx, dg2 cx, dg3 cx]) hl ge 4 rfl (by simp [maxLen]); have yt := (own_sl ytw).1; have ytlo := bel.size; clear hl; have ytge := ge; have lz_yt := bb.size; have bl_la_yt := la.bl_new; have av_la_b60 := la.av_new ge; have ob60 := Nat.le_trans bel.size ge; replace la := la.below bb; replace bel := bel.trans (bb.mono bel.size); have hb60 := hh; clear hh lt ge bb; have st61 := yt.str (P := Try.prog) 30 5 9 Try.underlying30 Try.underlying5 Try.underlying9))
     try clear R24
     try clear R25
     try clear R32
     try clear R34
     try clear st61
     go_roundg (kx - (q + 1))
     case measure => have := HGK_.out; omega
     case rel => exact ⟨q + 1, T ++ [92, dg1 cx, dg2 cx, dg3 cx], rfl, h5, Lib.hid (by rw [textL_next HC.out, HP.out, ← List.append_assoc, HT.out]), by go_num, by go_num, la, bel⟩
    have p20 : decide (126 < x) = false := decide_eq_false p2
    by_cases p3 : x = 46
    ·have HP : Hid (escB cx = [92, dg1 cx, dg2 cx, dg3 cx]) := Lib.hid (by unfold escB; rw [if_neg (by rw [show plainB cx = false from by unfold plainB; exact decide_eq_false (by have h_ := HX.out; omega)]; decide)])
     have R62 : ∀ W, (Op.stringOp .add ⟨T.toArray⟩ ⟨([92, dg1 cx, dg2 cx, dg3 cx] : List UInt8).toArray⟩).run Try.prog W = .ok (.string ⟨(T ++ [92, dg1 cx, dg2 cx, dg3 cx]).toArray⟩) W := fun W => st_add (x := T) (y := [92, dg1 cx, dg2 cx, dg3 cx]) (by simp; omega) W
     have p30 : (x == 46) = true := by simpa using p3
     clear p3
     have R24 := Sle.st (i := i) la HX0.out
     have R25 := fun W => st_lenN HKX.out 3 W
     have R32 := Sle.st (i := i) la HX0.out
     have R34 := R34
     go_wp2_with (first | ((with_reducible show wpList _ _ _ (⟨some 60, _, _, _, _, _⟩ :: _) _ _); refine wpList_lit_n rfl 30 5 4 _ rfl #[.int .u8 92, .int .u8 (48 + x / 100), .int .u8 (48 + x / 10 % 10), .int .u8 (48 + x % 10)] (.int .u8 0) Try.underlying30 (by kernel_rfl) 1 (by kernel_rfl) (by decide) (by kernel_rfl) ?_; intro g60 w1 ge lt hh bb; have hl : w1.heap[g60]? = some (.cells (([92, dg1 cx, dg2 cx, dg3 cx] : List UInt8).map u8v).toArray 5 (0, 0)) := (by rw [show ([92, dg1 cx, dg2 cx, dg3 cx] : List UInt8).map u8v = [.int .u8 92, .int .u8 (48 + x / 100), .int .u8 (48 + x / 10 % 10), .int .u8 (48 + x % 10)] from dg_cells HX.out]; exact hh); have ytw := own_lit (B := wr.heap.size) ([92, dg1 cx, dg2 cx, dg3 cx]) hl ge 4 rfl (by simp [maxLen]); have yt := (own_sl ytw).1; have ytlo := bel.size; clear hl; have ytge := ge; have lz_yt := bb.size; have bl_la_yt := la.bl_new; have av_la_b60 := la.av_new ge; have ob60 := Nat.le_trans bel.size ge; replace la := la.below bb; replace bel := bel.trans (bb.mono bel.size); have hb60 := hh; clear hh lt ge bb; have st61 := yt.str (P := Try.prog) 30 5 9 Try.underlying30 Try.underlying5 Try.underlying9))
     try clear R24
     try clear R25
     try clear R32
     try clear R34
     try clear st61
     go_roundg (kx - (q + 1))
     case measure => have := HGK_.out; omega
     case rel => exact ⟨q + 1, T ++ [92, dg1 cx, dg2 cx, dg3 cx], rfl, h5, Lib.hid (by rw [textL_next HC.out, HP.out, ← List.append_assoc, HT.out]), by go_num, by go_num, la, bel⟩
    have p30 : (x == 46) = false := by simpa using p3
    have HP3 := Lib.hid p3
    clear p3
    by_cases p4 : x = 92
    rotate_left
    ·have p40 : (x == 92) = false := by simpa using p4
     have HP : Hid (escB cx = [cx]) := Lib.hid (by unfold escB; rw [if_pos (show plainB cx = true from by unfold plainB; exact decide_eq_true (by have h_ := HX.out; have h1_ := HP3.out; omega))])
     clear p4
     have R71 := fun W => st_one HC.out W
     have R72 : ∀ W, (Op.stringOp .add ⟨T.toArray⟩ ⟨#[cx]⟩).run Try.prog W = .ok (.string ⟨(T ++ [cx]).toArray⟩) W := fun W => st_add (x := T) (y := [cx]) (by simp; omega) W
     have R24 := Sle.st (i := i) la HX0.out
     have R25 := fun W => st_lenN HKX.out 3 W
     have R32 := Sle.st (i := i) la HX0.out
     have R34 := R34
     have R67 := Sle.st (i := i) la HX0.out
     go_wp2_with fail
     clear R24 R25 R32 R34 R67
     go_roundg (kx - (q + 1))
     case measure => have := HGK_.out; omega
     case rel => exact ⟨q + 1, T ++ [cx], rfl, h5, Lib.hid (by rw [textL_next HC.out, HP.out, ← List.append_assoc, HT.out]), by go_num, by go_num, la, bel⟩
    have HP : Hid (escB cx = [92, dg1 cx, dg2 cx, dg3 cx]) := Lib.hid (by unfold escB; rw [if_neg (by rw [show plainB cx = false from by unfold plainB; exact decide_eq_false (by have h_ := HX.out; omega)]; decide)])
    have R62 : ∀ W, (Op.stringOp .add ⟨T.toArray⟩ ⟨([92, dg1 cx, dg2 cx, dg3 cx] : List UInt8).toArray⟩).run Try.prog W = .ok (.string ⟨(T ++ [92, dg1 cx, dg2 cx, dg3 cx]).toArray⟩) W := fun W => st_add (x := T) (y := [92, dg1 cx, dg2 cx, dg3 cx]) (by simp; omega) W
    have p40 : (x == 92) = true := by simpa using p4
    clear p4
    have R24 := Sle.st (i := i) la HX0.out
    have R25 := fun W => st_lenN HKX.out 3 W
    have R32 := Sle.st (i := i) la HX0.out
    have R34 := R34
    go_wp2_with (first | ((with_reducible show wpList _ _ _ (⟨some 60, _, _, _, _, _⟩ :: _) _ _); refine wpList_lit_n rfl 30 5 4 _ rfl #[.int .u8 92, .int .u8 (48 + x / 100), .int .u8 (48 + x / 10 % 10), .int .u8 (48 + x % 10)] (.int .u8 0) Try.underlying30 (by kernel_rfl) 1 (by kernel_rfl) (by decide) (by kernel_rfl) ?_; intro g60 w1 ge lt hh bb; have hl : w1.heap[g60]? = some (.cells (([92, dg1 cx, dg2 cx, dg3 cx] : List UInt8).map u8v).toArray 5 (0, 0)) := (by rw [show ([92, dg1 cx, dg2 cx, dg3 cx] : List UInt8).map u8v = [.int .u8 92, .int .u8 (48 + x / 100), .int .u8 (48 + x / 10 % 10), .int .u8 (48 + x % 10)] from dg_cells HX.out]; exact hh); have ytw := own_lit (B := wr.heap.size) ([92, dg1 cx, dg2 cx, dg3 cx]) hl ge 4 rfl (by simp [maxLen]); have yt := (own_sl ytw).1; have ytlo := bel.size; clear hl; have ytge := ge; have lz_yt := bb.size; have bl_la_yt := la.bl_new; have av_la_b60 := la.av_new ge; have ob60 := Nat.le_trans bel.size ge; replace la := la.below bb; replace bel := bel.trans (bb.mono bel.size); have hb60 := hh; clear hh lt ge bb; have st61 := yt.str (P := Try.prog) 30 5 9 Try.underlying30 Try.underlying5 Try.underlying9))
    try clear R24
    try clear R25
    try clear R32
    try clear R34
    try clear st61
    go_roundg (kx - (q + 1))
    case measure => have := HGK_.out; omega
    case rel => exact ⟨q + 1, T ++ [92, dg1 cx, dg2 cx, dg3 cx], rfl, h5, Lib.hid (by rw [textL_next HC.out, HP.out, ← List.append_assoc, HT.out]), by go_num, by go_num, la, bel⟩
  have hi1 : 0 < i := by omega
  have hi2 : Hid (0 < i) := Lib.hid (by omega)
  clear hi0
  have R19 : ∀ W, (Op.stringOp .add ⟨S.toArray⟩ ⟨#[46]⟩).run Try.prog W = .ok (.string ⟨(S ++ [46]).toArray⟩) W := fun W => st_add (x := S) (y := [46]) (by have h_ := HPL.out; simp; omega) W
  go_wp2_with fail
  go_loopg [5, 3] (kx) (fun gk s5 s3 wr => ∃ q : Nat, ∃ T : List UInt8, gk = kx - q ∧ q ≤ kx ∧ Hid ((S ++ [46]) ++ textL (x0.take q) = T) ∧ s5 = .int .i64 (q : Int) ∧ s3 = .string ⟨(T).toArray⟩ ∧ Sle stf 1 wr (some ⟨gA, oA, none⟩) (n) (c) (l) ∧ Below w.heap.size w wr)
  case atStart => exact ⟨0, (S ++ [46]), Nat.sub_zero _, Nat.zero_le _, Lib.hid (by simp [textL]), rfl, rfl, la, bel⟩
  case round =>
   clear la bel
   obtain ⟨q, T, HGK, hq, HT, rfl, rfl, la, bel⟩ := hrel
   have HGK_ := Lib.hid HGK
   clear HGK
   have q0 : (0 : Int) ≤ q := by omega
   have HTL : Hid (T.length ≤ 400000) := Lib.hid (by rw [← HT.out]; simp only [List.length_append, List.length_singleton]; have h_ := textL_len (x0.take q); have h1_ : (x0.take q).length ≤ x0.length := (by rw [List.length_take]; omega); have h2_ := HPL.out; have h3_ := HKX.out; omega)
   have htb := HTL.out
   by_cases h5 : q < kx
   rotate_left
   ·obtain rfl : q = kx := by omega
    have HTE : Hid (textG (l.take (i + 1)) = T) := Lib.hid (by rw [← HT.out, take_full (l := x0) (by rw [HKX.out]; omega)]; rw [textG_next HX0.out hi2.out, HZ.out]; simp)
    replace h5 : decide (q < q) = false := decide_eq_false (by omega)
    have R24 := Sle.st (i := i) la HX0.out
    have R25 := fun W => st_lenN HKX.out 3 W
    go_wp2_with fail
    clear R24 R25
    go_roundg (n - (i + 1))
    case measure => have := HGKo.out; omega
    case rel => exact ⟨i + 1, T, rfl, h, HTE, by go_num, by go_num, la, bel⟩
   obtain ⟨cx, HC_⟩ : ∃ u_, x0[q]? = some u_ := ⟨_, List.getElem?_eq_getElem (by rw [HKX.out]; exact h5)⟩
   have HC := Lib.hid HC_
   clear HC_
   obtain ⟨x, HX_⟩ : ∃ u_, (cx.toNat : Int) = u_ := ⟨_, rfl⟩
   have HX := Lib.hid HX_
   clear HX_
   have x00 : 0 ≤ x := by have h_ := HX.out; omega
   have x01 : x < 256 := by have h_ := HX.out; have h1_ := cx.toNat_lt; omega
   have R34_ := fun W => st_index HC.out W
   rw [HX.out] at R34_
   have R34 := R34_
   clear R34_
   by_cases p1 : x < 33
   ·have HP : Hid (escB cx = [92, dg1 cx, dg2 cx, dg3 cx]) := Lib.hid (by unfold escB; rw [if_neg (by rw [show plainB cx = false from by unfold plainB; exact decide_eq_false (by have h_ := HX.out; omega)]; decide)])
    have R62 : ∀ W, (Op.stringOp .add ⟨T.toArray⟩ ⟨([92, dg1 cx, dg2 cx, dg3 cx] : List UInt8).toArray⟩).run Try.prog W = .ok (.string ⟨(T ++ [92, dg1 cx, dg2 cx, dg3 cx]).toArray⟩) W := fun W => st_add (x := T) (y := [92, dg1 cx, dg2 cx, dg3 cx]) (by simp; omega) W
    have R24 := Sle.st (i := i) la HX0.out
    have R25 := fun W => st_lenN HKX.out 3 W
    have R32 := Sle.st (i := i) la HX0.out
    have R34 := R34
    go_wp2_with (first | ((with_reducible show wpList _ _ _ (⟨some 60, _, _, _, _, _⟩ :: _) _ _); refine wpList_lit_n rfl 30 5 4 _ rfl #[.int .u8 92, .int .u8 (48 + x / 100), .int .u8 (48 + x / 10 % 10), .int .u8 (48 + x % 10)] (.int .u8 0) Try.underlying30 (by kernel_rfl) 1 (by kernel_rfl) (by decide) (by kernel_rfl) ?_; intro g60 w1 ge lt hh bb; have hl : w1.heap[g60]? = some (.cells (([92, dg1 cx, dg2 cx, dg3 cx] : List UInt8).map u8v).toArray 5 (0, 0)) := (by rw [show ([92, dg1 cx, dg2 cx, dg3 cx] : List UInt8).map u8v = [.int .u8 92, .int .u8 (48 + x / 100), .int .u8 (48 + x / 10 % 10), .int .u8 (48 + x % 10)] from dg_cells HX.out]; exact hh); have ytw := own_lit (B := wr.heap.size) ([92, dg1 cx, dg2 cx, dg3 cx]) hl ge 4 rfl (by simp [maxLen]); have yt := (own_sl ytw).1; have ytlo := bel.size; clear hl; have ytge := ge; have lz_yt := bb.size; have bl_la_yt := la.bl_new; have av_la_b60 := la.av_new ge; have ob60 := Nat.le_trans bel.size ge; replace la := la.below bb; replace bel := bel.trans (bb.mono bel.size); have hb60 := hh; clear hh lt ge bb; have st61 := yt.str (P := Try.prog) 30 5 9 Try.underlying30 Try.underlying5 Try.underlying9))
    try clear R24
    try clear R25
    try clear R32
    try clear R34
    try clear st61
    go_roundg (kx - (q + 1))
    case measure => have := HGK_.out; omega
    case rel => exact ⟨q + 1, T ++ [92, dg1 cx, dg2 cx, dg3 cx], rfl, h5, Lib.hid (by rw [textL_next HC.out, HP.out, ← List.append_assoc, HT.out]), by go_num, by go_num, la, bel⟩
   have p10 : decide (x < 33) = false := decide_eq_false p1
   by_cases p2 : 126 < x
   ·have HP : Hid (escB cx = [92, dg1 cx, dg2 cx, dg3 cx]) := Lib.hid (by unfold escB; rw [if_neg (by rw [show plainB cx = false from by unfold plainB; exact decide_eq_false (by have h_ := HX.out; omega)]; decide)])
    have R62 : ∀ W, (Op.stringOp .add ⟨T.toArray⟩ ⟨([92, dg1 cx, dg2 cx, dg3 cx] : List UInt8).toArray⟩).run Try.prog W = .ok (.string ⟨(T ++ [92, dg1 cx, dg2 cx, dg3 cx]).toArray⟩) W := fun W => st_add (x := T) (y := [92, dg1 cx, dg2 cx, dg3 cx]) (by simp; omega) W
    have R24 := Sle.st (i := i) la HX0.out
    have R25 := fun W => st_lenN HKX.out 3 W
    have R32 := Sle.st (i := i) la HX0.out
    have R34 := R34
    go_wp2_with (first | ((with_reducible show wpList _ _ _ (⟨some 60, _, _, _, _, _⟩ :: _) _ _); refine wpList_lit_n rfl 30 5 4 _ rfl #[.int .u8 92, .int .u8 (48 + x / 100), .int .u8 (48 + x / 10 % 10), .int .u8 (48 + x % 10)] (.int .u8 0) Try.underlying30 (by kernel_rfl) 1 (by kernel_rfl) (by decide) (by kernel_rfl) ?_; intro g60 w1 ge lt hh bb; have hl : w1.heap[g60]? = some (.cells (([92, dg1 cx, dg2 cx, dg3 cx] : List UInt8).map u8v).toArray 5 (0, 0)) := (by rw [show ([92, dg1 cx, dg2 cx, dg3 cx] : List UInt8).map u8v = [.int .u8 92, .int .u8 (48 + x / 100), .int .u8 (48 + x / 10 % 10), .int .u8 (48 + x % 10)] from dg_cells HX.out]; exact hh); have ytw := own_lit (B := wr.heap.size) ([92, dg1 cx, dg2 cx, dg3 cx]) hl ge 4 rfl (by simp [maxLen]); have yt := (own_sl ytw).1; have ytlo := bel.size; clear hl; have ytge := ge; have lz_yt := bb.size; have bl_la_yt := la.bl_new; have av_la_b60 := la.av_new ge; have ob60 := Nat.le_trans bel.size ge; replace la := la.below bb; replace bel := bel.trans (bb.mono bel.size); have hb60 := hh; clear hh lt ge bb; have st61 := yt.str (P := Try.prog) 30 5 9 Try.underlying30 Try.underlying5 Try.underlying9))
    try clear R24
    try clear R25
    try clear R32
    try clear R34
    try clear st61
    go_roundg (kx - (q + 1))
    case measure => have := HGK_.out; omega
    case rel => exact ⟨q + 1, T ++ [92, dg1 cx, dg2 cx, dg3 cx], rfl, h5, Lib.hid (by rw [textL_next HC.out, HP.out, ← List.append_assoc, HT.out]), by go_num, by go_num, la, bel⟩
   have p20 : decide (126 < x) = false := decide_eq_false p2
   by_cases p3 : x = 46
   ·have HP : Hid (escB cx = [92, dg1 cx, dg2 cx, dg3 cx]) := Lib.hid (by unfold escB; rw [if_neg (by rw [show plainB cx = false from by unfold plainB; exact decide_eq_false (by have h_ := HX.out; omega)]; decide)])
    have R62 : ∀ W, (Op.stringOp .add ⟨T.toArray⟩ ⟨([92, dg1 cx, dg2 cx, dg3 cx] : List UInt8).toArray⟩).run Try.prog W = .ok (.string ⟨(T ++ [92, dg1 cx, dg2 cx, dg3 cx]).toArray⟩) W := fun W => st_add (x := T) (y := [92, dg1 cx, dg2 cx, dg3 cx]) (by simp; omega) W
    have p30 : (x == 46) = true := by simpa using p3
    clear p3
    have R24 := Sle.st (i := i) la HX0.out
    have R25 := fun W => st_lenN HKX.out 3 W
    have R32 := Sle.st (i := i) la HX0.out
    have R34 := R34
    go_wp2_with (first | ((with_reducible show wpList _ _ _ (⟨some 60, _, _, _, _, _⟩ :: _) _ _); refine wpList_lit_n rfl 30 5 4 _ rfl #[.int .u8 92, .int .u8 (48 + x / 100), .int .u8 (48 + x / 10 % 10), .int .u8 (48 + x % 10)] (.int .u8 0) Try.underlying30 (by kernel_rfl) 1 (by kernel_rfl) (by decide) (by kernel_rfl) ?_; intro g60 w1 ge lt hh bb; have hl : w1.heap[g60]? = some (.cells (([92, dg1 cx, dg2 cx, dg3 cx] : List UInt8).map u8v).toArray 5 (0, 0)) := (by rw [show ([92, dg1 cx, dg2 cx, dg3 cx] : List UInt8).map u8v = [.int .u8 92, .int .u8 (48 + x / 100), .int .u8 (48 + x / 10 % 10), .int .u8 (48 + x % 10)] from dg_cells HX.out]; exact hh); have ytw := own_lit (B := wr.heap.size) ([92, dg1 cx, dg2 cx, dg3 cx]) hl ge 4 rfl (by simp [maxLen]); have yt := (own_sl ytw).1; have ytlo := bel.size; clear hl; have ytge := ge; have lz_yt := bb.size; have bl_la_yt := la.bl_new; have av_la_b60 := la.av_new ge; have ob60 := Nat.le_trans bel.size ge; replace la := la.below bb; replace bel := bel.trans (bb.mono bel.size); have hb60 := hh; clear hh lt ge bb; have st61 := yt.str (P := Try.prog) 30 5 9 Try.underlying30 Try.underlying5 Try.underlying9))
    try clear R24
    try clear R25
    try clear R32
    try clear R34
    try clear st61
    go_roundg (kx - (q + 1))
    case measure => have := HGK_.out; omega
    case rel => exact ⟨q + 1, T ++ [92, dg1 cx, dg2 cx, dg3 cx], rfl, h5, Lib.hid (by rw [textL_next HC.out, HP.out, ← List.append_assoc, HT.out]), by go_num, by go_num, la, bel⟩
   have p30 : (x == 46) = false := by simpa using p3
   have HP3 := Lib.hid p3
   clear p3
   by_cases p4 : x = 92
   rotate_left
   ·have p40 : (x == 92) = false := by simpa using p4
    have HP : Hid (escB cx = [cx]) := Lib.hid (by unfold escB; rw [if_pos (show plainB cx = true from by unfold plainB; exact decide_eq_true (by have h_ := HX.out; have h1_ := HP3.out; omega))])
    clear p4
    have R71 := fun W => st_one HC.out W
    have R72 : ∀ W, (Op.stringOp .add ⟨T.toArray⟩ ⟨#[cx]⟩).run Try.prog W = .ok (.string ⟨(T ++ [cx]).toArray⟩) W := fun W => st_add (x := T) (y := [cx]) (by simp; omega) W
    have R24 := Sle.st (i := i) la HX0.out
    have R25 := fun W => st_lenN HKX.out 3 W
    have R32 := Sle.st (i := i) la HX0.out
    have R34 := R34
    have R67 := Sle.st (i := i) la HX0.out
    go_wp2_with fail
    clear R24 R25 R32 R34 R67
    go_roundg (kx - (q + 1))
    case measure => have := HGK_.out; omega
    case rel => exact ⟨q + 1, T ++ [cx], rfl, h5, Lib.hid (by rw [textL_next HC.out, HP.out, ← List.append_assoc, HT.out]), by go_num, by go_num, la, bel⟩
   have HP : Hid (escB cx = [92, dg1 cx, dg2 cx, dg3 cx]) := Lib.hid (by unfold escB; rw [if_neg (by rw [show plainB cx = false from by unfold plainB; exact decide_eq_false (by have h_ := HX.out; omega)]; decide)])
   have R62 : ∀ W, (Op.stringOp .add ⟨T.toArray⟩ ⟨([92, dg1 cx, dg2 cx, dg3 cx] : List UInt8).toArray⟩).run Try.prog W = .ok (.string ⟨(T ++ [92, dg1 cx, dg2 cx, dg3 cx]).toArray⟩) W := fun W => st_add (x := T) (y := [92, dg1 cx, dg2 cx, dg3 cx]) (by simp; omega) W
   have p40 : (x == 92) = true := by simpa using p4
   clear p4
   have R24 := Sle.st (i := i) la HX0.out
   have R25 := fun W => st_lenN HKX.out 3 W
   have R32 := Sle.st (i := i) la HX0.out
   have R34 := R34
   go_wp2_with (first | ((with_reducible show wpList _ _ _ (⟨some 60, _, _, _, _, _⟩ :: _) _ _); refine wpList_lit_n rfl 30 5 4 _ rfl #[.int .u8 92, .int .u8 (48 + x / 100), .int .u8 (48 + x / 10 % 10), .int .u8 (48 + x % 10)] (.int .u8 0) Try.underlying30 (by kernel_rfl) 1 (by kernel_rfl) (by decide) (by kernel_rfl) ?_; intro g60 w1 ge lt hh bb; have hl : w1.heap[g60]? = some (.cells (([92, dg1 cx, dg2 cx, dg3 cx] : List UInt8).map u8v).toArray 5 (0, 0)) := (by rw [show ([92, dg1 cx, dg2 cx, dg3 cx] : List UInt8).map u8v = [.int .u8 92, .int .u8 (48 + x / 100), .int .u8 (48 + x / 10 % 10), .int .u8 (48 + x % 10)] from dg_cells HX.out]; exact hh); have ytw := own_lit (B := wr.heap.size) ([92, dg1 cx, dg2 cx, dg3 cx]) hl ge 4 rfl (by simp [maxLen]); have yt := (own_sl ytw).1; have ytlo := bel.size; clear hl; have ytge := ge; have lz_yt := bb.size; have bl_la_yt := la.bl_new; have av_la_b60 := la.av_new ge; have ob60 := Nat.le_trans bel.size ge; replace la := la.below bb; replace bel := bel.trans (bb.mono bel.size); have hb60 := hh; clear hh lt ge bb; have st61 := yt.str (P := Try.prog) 30 5 9 Try.underlying30 Try.underlying5 Try.underlying9))
   try clear R24
   try clear R25
   try clear R32
   try clear R34
   try clear st61
   go_roundg (kx - (q + 1))
   case measure => have := HGK_.out; omega
   case rel => exact ⟨q + 1, T ++ [92, dg1 cx, dg2 cx, dg3 cx], rfl, h5, Lib.hid (by rw [textL_next HC.out, HP.out, ← List.append_assoc, HT.out]), by go_num, by go_num, la, bel⟩
open Go.RowKit

theorem nget_lit {A : Option Addr} {n c : Nat} {b : List UInt8} {a0 x y : Int} {l : List (List UInt8)} {nx er k : Nat} (w : World) (sb : Sl w A n c b) (hn : n ≤ 100000) (h : getN b a0 = (l, nx, er)) (hk : l.length = k) (hx : (nx : Int) = x) (hy : (er : Int) = y) :
  Calls Try.prog 69 #[.slice A n c, .int .i64 a0] w fun e w' => ∃ v, e = .returned (.tuple #[v, .int .i64 x, .int .i64 y]) ∧ w'.ownsRow w.heap.size 9 1 v k (l.flatMap stf) ∧ Below w.heap.size w w' := by
 have h1 := nget_any A n c b a0 w sb hn
 rw [h] at h1
 subst hk; subst hx; subst hy
 exact h1
theorem rget_lit {A : Option Addr} {n c : Nat} {b : List UInt8} {a0 x y : Int} {l : List (List UInt8)} {nx er k : Nat} (w : World) (sb : Sl w A n c b) (hn : n ≤ 100000) (h : getN b a0 = (l, nx, er)) (hk : l.length = k) (hx : (nx : Int) = x) (hy : (er : Int) = y) :
  Calls Try.prog 56 #[.slice A n c, .int .i64 a0] w fun e w' => ∃ v, e = .returned (.tuple #[v, .int .i64 x, .int .i64 y]) ∧ w'.ownsRow w.heap.size 9 1 v k (l.flatMap stf) ∧ Below w.heap.size w w' := by
 have h1 := rget_any A n c b a0 w sb hn
 rw [h] at h1
 subst hk; subst hx; subst hy
 exact h1
theorem nput_lit {A B : Option Addr} {n d m c k : Nat} {b r : List UInt8} {l : List (List UInt8)} (w : World) (lb : Sl w B n d b) (la : Sle stf 1 w A m c l) (hn : n ≤ 100000) (hg : goodN l = true) (hr : b ++ putN l = r) (hk : r.length = k) :
  Calls Try.prog 51 #[.slice B n d, .slice A m c] w fun e w' => ∃ v, e = .returned (.tuple #[v, .int .i64 0]) ∧ w'.ownsRow w.heap.size 5 1 v k (r.map u8v) ∧ Below w.heap.size w w' := by
 have h1 := nput_good A B n d m c b l w lb la hn hg
 rw [hr, hk] at h1
 exact h1
theorem rput_lit {A B : Option Addr} {n d m c k : Nat} {b r : List UInt8} {l : List (List UInt8)} (w : World) (lb : Sl w B n d b) (la : Sle stf 1 w A m c l) (hn : n ≤ 100000) (hg : goodN l = true) (hr : b ++ putN l = r) (hk : r.length = k) :
  Calls Try.prog 40 #[.slice B n d, .slice A m c] w fun e w' => ∃ v, e = .returned v ∧ w'.ownsRow w.heap.size 5 1 v k (r.map u8v) ∧ Below w.heap.size w w' := by
 have h1 := rput_good A B n d m c b l w lb la hn hg
 rw [hr, hk] at h1
 exact h1
end Go.Proofs.Ytjedknjlpeccbaa
