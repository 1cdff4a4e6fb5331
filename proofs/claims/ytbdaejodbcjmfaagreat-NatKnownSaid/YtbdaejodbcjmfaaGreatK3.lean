/- Texts put together: Pt2. -/
import Derived.Test.YtbdaejodbcjmfaaGreatK1
import Derived.Test.YtbdaejodbcjmfaaGreatK2
namespace Go.Proofs.YtbdaejodbcjmfaaGreat
open Go.RowKit
set_option linter.unusedVariables false
set_option linter.unusedSimpArgs false
set_option maxRecDepth 100000
set_option maxHeartbeats 16000000

theorem cmpP_at {e : Mp} {p o : Int} (h : e.okp) (h' : okP p o) : cmpP e.pr e.o p o = cmpN e.num (kn p o) := cmpP_num h h'
theorem MBsLo.zero (l : List Mp) (x : Nat) : MBsLo l 0 x := mbsLo_zero l x
theorem mfhas_of {l : List Mp} {i x : Nat} {e : Mp} (hp : mfpos l x = i) (he : l[i]? = some e) : mfhas l x = (e.num == x) := by
 unfold mfhas; rw [hp, he]
theorem mfhas_fin {l : List Mp} {x : Nat} (hp : mfpos l x = l.length) : mfhas l x = false := by
 unfold mfhas; rw [hp, List.getElem?_eq_none (Nat.le_refl _)]
theorem bs_pos {A : Option Addr} {n c : Nat} {l : List Mp} (p o : Int) (w : World) (en : Sle mpE 9 w A n c l) (hS : MSrt l) (hO : ∀ e ∈ l, e.okp) (hpo : okP p o) (hn : 0 < n) (h32 : n ≤ 1000) : Calls Tryz.prog 118 #[.slice A n c, .agg #[.int .i64 p, .int .i64 o], .func (.func 119) #[] #[]] w fun e w' => e = .returned (.tuple #[.int .i64 (mfpos l (kn p o) : Int), .bool (mfhas l (kn p o))]) ∧ Below w.heap.size w w' := by
 have HS := Lib.hid hS
 have HOK := Lib.hid hO
 have HPO := Lib.hid hpo
 clear hS hO hpo
 have HL : Hid (l.length = n) := Lib.hid en.1
 obtain ⟨gE, oE, rfl⟩ := en.place hn
 have hn0 : (n : Int) ≤ 1000 := by omega
 have bel := Below.refl w.heap.size w
 go_enter Tryz.func118, Tryz.ntmps118
 go_wp2_with (first | ((with_reducible show wpList _ _ _ (⟨some 4, _, _, _, _, _⟩ :: _) _ _); refine wpList_box_n rfl 100 (.tmp 1) rfl #[.int .i64 p, .int .i64 o] rfl ?_; intro g4 w1 ge lt hh bb; have av_en_yb := en.av_new ge; have oyb := Nat.le_trans bel.size ge; replace en := en.below bb; replace bel := bel.trans (bb.mono bel.size); have hyb := hh; clear hh lt ge bb))
 go_loopg [9, 10] (n) (fun gk s9 s10 wr => ∃ i : Nat, ∃ j : Nat, gk = j - i ∧ i ≤ j ∧ j ≤ n ∧ MBsLo l i (kn p o) ∧ MBsHi l j (kn p o) ∧ s9 = .int .i64 (i : Int) ∧ s10 = .int .i64 (j : Int) ∧ wr.heap[g4]? = some (.cells #[.int .i64 p, .int .i64 o] 100 (0, 0)) ∧ Sle mpE 9 wr (some ⟨gE, oE, none⟩) (n) (c) (l) ∧ Below w.heap.size w wr)
 case atStart => exact ⟨0, n, Nat.sub_zero _, Nat.zero_le _, Nat.le_refl _, mbsLo_zero _ _, HL.out ▸ mbsHi_len _ _, rfl, rfl, hyb, en, bel⟩
 case round =>
  clear hyb en bel
  obtain ⟨i, j, HGK, hij, hjn, H1, H2, rfl, rfl, hyb, en, bel⟩ := hrel
  have HGK_ := Lib.hid HGK
  clear HGK
  by_cases h : i < j
  ·have i0 : (0 : Int) ≤ i := by omega
   have j0 : (0 : Int) ≤ j := by omega
   have i1 : (i : Int) ≤ 1000 := by omega
   have j1 : (j : Int) ≤ 1000 := by omega
   obtain ⟨q, hq⟩ : ∃ q, (i + j) / 2 = q := ⟨_, rfl⟩
   have hq1 : i ≤ q := by omega
   have hq2 : q < j := by omega
   have hqq : ((i : Int) + j) / 2 = (q : Int) := by omega
   have HQ := Lib.hid hq
   clear hq
   obtain ⟨e, hx⟩ : ∃ e, l[q]? = some e := ⟨_, List.getElem?_eq_getElem (by have := HL.out; omega)⟩
   have HX := Lib.hid hx
   clear hx
   have hqn : q < n := by omega
   have q0 : (0 : Int) ≤ q := by omega
   have q1 : (q : Int) < n := by omega
   by_cases h2 : e.num < (kn p o)
   rotate_left
   ·have hc := cmpN_lt e.num (kn p o)
    rw [decide_eq_false h2] at hc
    go_wp2_with fail
    replace bel := bel.drew
    replace hyb : wr.drew.heap[g4]? = _ := hyb
    replace en := en.drew
    refine wp_region_held_drew (S := fun W => W.heap[g4]? = some (.cells #[.int .i64 p, .int .i64 o] 100 (0, 0)) ∧ Sle mpE 9 W (some ⟨gE, oE, none⟩) (n) (c) (l)) (by kernel_rfl) ⟨hyb, en⟩ (fun hH => ?_)
    generalize wr.drew = w2 at bel hyb en hH ⊢
    refine wpAnyH_take (i := 0) (v := ?_) rfl (by kernel_rfl) (by kernel_rfl) (by kernel_rfl) (fun _ _ _ h => h) (Or.inl ⟨by rfl, ?_⟩) hH ?_
    rotate_left
    ·((intro W hW; clear hW; go_simp) <;> with_reducible rfl)
    simp only [Act.put, List.getElem_toArray, List.getElem_cons_zero, List.setIfInBounds_toArray, List.set_cons_zero, List.set_cons_succ]
    refine wpAnyH_take (i := 1) (v := ?_) rfl (by kernel_rfl) (by kernel_rfl) (by kernel_rfl) (fun _ _ _ h => h) (Or.inl ⟨by rfl, ?_⟩) hH ?_
    rotate_left
    ·((intro W hW; clear hW; go_simp) <;> with_reducible rfl)
    simp only [sq3, sq4]
    refine wpAnyH_take (i := 2) (v := ?_) rfl (by kernel_rfl) (by kernel_rfl) (by kernel_rfl) (fun _ _ _ h => h) (Or.inl ⟨by rfl, ?_⟩) hH ?_
    rotate_left
    ·((intro W hW; clear hW; go_simp) <;> with_reducible rfl)
    simp only [sq3, sq4]
    refine wpAnyH_take (i := 3) (v := ?_) rfl (by kernel_rfl) (by kernel_rfl) (by kernel_rfl) (fun _ _ _ h => h) (Or.inl ⟨by rfl, ?_⟩) hH ?_
    rotate_left
    ·((intro W hW; clear hW; go_simp) <;> with_reducible rfl)
    simp only [sq3, sq4]
    refine wpAnyH_take (i := 4) (v := .agg #[.int .i64 e.pr, .int .i64 e.o, .int .u8 (e.ad.a.toNat : Int), .int .u8 (e.ad.b.toNat : Int), .int .u8 (e.ad.c.toNat : Int), .int .u8 (e.ad.d.toNat : Int), .int .i64 e.i, .int .i64 e.k, .int .i64 e.u]) rfl (by kernel_rfl) (by kernel_rfl) (by kernel_rfl) (fun _ _ _ h => h) (yieldsIf_load_mid (by kernel_rfl) 65 _ rfl gE (oE + q * 9) rfl [.int .i64 e.pr, .int .i64 e.o, .int .u8 (e.ad.a.toNat : Int), .int .u8 (e.ad.b.toNat : Int), .int .u8 (e.ad.c.toNat : Int), .int .u8 (e.ad.d.toNat : Int), .int .i64 e.i, .int .i64 e.k, .int .i64 e.u] _ (fun W hW => Sle.range0 (hW.2) HX.out 9 [.int .i64 e.pr, .int .i64 e.o, .int .u8 (e.ad.a.toNat : Int), .int .u8 (e.ad.b.toNat : Int), .int .u8 (e.ad.c.toNat : Int), .int .u8 (e.ad.d.toNat : Int), .int .i64 e.i, .int .i64 e.k, .int .i64 e.u] rfl) Tryz.underlying65 rfl (by kernel_rfl)) hH ?_
    simp only [sq3, sq4]
    refine wpAnyH_take (i := 5) (v := .agg #[.int .i64 p, .int .i64 o]) rfl (by kernel_rfl) (by kernel_rfl) (by kernel_rfl) (fun _ _ _ h => h) (yieldsIf_load_part (by kernel_rfl) 100 _ rfl g4 0 2 rfl _ 100 (0, 0) (fun W hW => hW.1) _ rfl _ Tryz.underlying100 rfl (by kernel_rfl)) hH ?_
    simp only [sq3, sq4]
    refine wpAnyH_ready (rs := [6]) (by kernel_rfl) (by simp) ?_
    refine AllReadyH.cons (o := _) rfl (fun K hK => ?_) AllReadyH.nil
    simp only [sq3]
    go_simp
    with_reducible refine (findf_any e p o _).mono ?_
    rintro e w3 ⟨rfl, b3⟩
    dsimp only
    replace hyb := blk_u hyb b3
    replace en := en.below b3
    replace bel := bel.trans (b3.mono bel.size)
    clear b3
    rw [cmpP_at (HOK.out _ (List.mem_of_getElem? HX.out)) HPO.out]
    refine hK.out _ _ ⟨hyb, en⟩ (fun hH4 => ?_)
    clear hK K
    refine wpAnyH_take (i := 7) (v := ?_) rfl (by kernel_rfl) (by kernel_rfl) (by kernel_rfl) (fun _ _ _ h => h) (Or.inl ⟨by rfl, ?_⟩) hH4 ?_
    rotate_left
    ·((intro W hW; clear hW; go_simp) <;> with_reducible rfl)
    simp only [sq3, sq4]
    refine wpAnyH_done (by kernel_rfl) ?_ _
    go_wp2_with fail
    go_roundg (q - i)
    case measure => have := HGK_.out; omega
    case rel => exact ⟨i, q, rfl, by omega, by omega, H1, MBsHi.step HS.out HX.out (Nat.le_of_not_lt h2), by go_num, by go_num, hyb, en, bel⟩
   have hc : cmpN e.num (kn p o) < 0 := by have h_ := cmpN_lt e.num (kn p o); rw [decide_eq_true h2] at h_; exact of_decide_eq_true h_
   go_wp2_with fail
   replace bel := bel.drew
   replace hyb : wr.drew.heap[g4]? = _ := hyb
   replace en := en.drew
   refine wp_region_held_drew (S := fun W => W.heap[g4]? = some (.cells #[.int .i64 p, .int .i64 o] 100 (0, 0)) ∧ Sle mpE 9 W (some ⟨gE, oE, none⟩) (n) (c) (l)) (by kernel_rfl) ⟨hyb, en⟩ (fun hH => ?_)
   generalize wr.drew = w2 at bel hyb en hH ⊢
   refine wpAnyH_take (i := 0) (v := ?_) rfl (by kernel_rfl) (by kernel_rfl) (by kernel_rfl) (fun _ _ _ h => h) (Or.inl ⟨by rfl, ?_⟩) hH ?_
   rotate_left
   ·((intro W hW; clear hW; go_simp) <;> with_reducible rfl)
   simp only [Act.put, List.getElem_toArray, List.getElem_cons_zero, List.setIfInBounds_toArray, List.set_cons_zero, List.set_cons_succ]
   refine wpAnyH_take (i := 1) (v := ?_) rfl (by kernel_rfl) (by kernel_rfl) (by kernel_rfl) (fun _ _ _ h => h) (Or.inl ⟨by rfl, ?_⟩) hH ?_
   rotate_left
   ·((intro W hW; clear hW; go_simp) <;> with_reducible rfl)
   simp only [sq3, sq4]
   refine wpAnyH_take (i := 2) (v := ?_) rfl (by kernel_rfl) (by kernel_rfl) (by kernel_rfl) (fun _ _ _ h => h) (Or.inl ⟨by rfl, ?_⟩) hH ?_
   rotate_left
   ·((intro W hW; clear hW; go_simp) <;> with_reducible rfl)
   simp only [sq3, sq4]
   refine wpAnyH_take (i := 3) (v := ?_) rfl (by kernel_rfl) (by kernel_rfl) (by kernel_rfl) (fun _ _ _ h => h) (Or.inl ⟨by rfl, ?_⟩) hH ?_
   rotate_left
   ·((intro W hW; clear hW; go_simp) <;> with_reducible rfl)
   simp only [sq3, sq4]
   refine wpAnyH_take (i := 4) (v := .agg #[.int .i64 e.pr, .int .i64 e.o, .int .u8 (e.ad.a.toNat : Int), .int .u8 (e.ad.b.toNat : Int), .int .u8 (e.ad.c.toNat : Int), .int .u8 (e.ad.d.toNat : Int), .int .i64 e.i, .int .i64 e.k, .int .i64 e.u]) rfl (by kernel_rfl) (by kernel_rfl) (by kernel_rfl) (fun _ _ _ h => h) (yieldsIf_load_mid (by kernel_rfl) 65 _ rfl gE (oE + q * 9) rfl [.int .i64 e.pr, .int .i64 e.o, .int .u8 (e.ad.a.toNat : Int), .int .u8 (e.ad.b.toNat : Int), .int .u8 (e.ad.c.toNat : Int), .int .u8 (e.ad.d.toNat : Int), .int .i64 e.i, .int .i64 e.k, .int .i64 e.u] _ (fun W hW => Sle.range0 (hW.2) HX.out 9 [.int .i64 e.pr, .int .i64 e.o, .int .u8 (e.ad.a.toNat : Int), .int .u8 (e.ad.b.toNat : Int), .int .u8 (e.ad.c.toNat : Int), .int .u8 (e.ad.d.toNat : Int), .int .i64 e.i, .int .i64 e.k, .int .i64 e.u] rfl) Tryz.underlying65 rfl (by kernel_rfl)) hH ?_
   simp only [sq3, sq4]
   refine wpAnyH_take (i := 5) (v := .agg #[.int .i64 p, .int .i64 o]) rfl (by kernel_rfl) (by kernel_rfl) (by kernel_rfl) (fun _ _ _ h => h) (yieldsIf_load_part (by kernel_rfl) 100 _ rfl g4 0 2 rfl _ 100 (0, 0) (fun W hW => hW.1) _ rfl _ Tryz.underlying100 rfl (by kernel_rfl)) hH ?_
   simp only [sq3, sq4]
   refine wpAnyH_ready (rs := [6]) (by kernel_rfl) (by simp) ?_
   refine AllReadyH.cons (o := _) rfl (fun K hK => ?_) AllReadyH.nil
   simp only [sq3]
   go_simp
   with_reducible refine (findf_any e p o _).mono ?_
   rintro e w3 ⟨rfl, b3⟩
   dsimp only
   replace hyb := blk_u hyb b3
   replace en := en.below b3
   replace bel := bel.trans (b3.mono bel.size)
   clear b3
   rw [cmpP_at (HOK.out _ (List.mem_of_getElem? HX.out)) HPO.out]
   refine hK.out _ _ ⟨hyb, en⟩ (fun hH4 => ?_)
   clear hK K
   refine wpAnyH_take (i := 7) (v := ?_) rfl (by kernel_rfl) (by kernel_rfl) (by kernel_rfl) (fun _ _ _ h => h) (Or.inl ⟨by rfl, ?_⟩) hH4 ?_
   rotate_left
   ·((intro W hW; clear hW; go_simp) <;> with_reducible rfl)
   simp only [sq3, sq4]
   refine wpAnyH_done (by kernel_rfl) ?_ _
   go_wp2_with fail
   go_roundg (j - (q + 1))
   case measure => have := HGK_.out; omega
   case rel => exact ⟨q + 1, j, rfl, by omega, by omega, MBsLo.step HS.out HX.out h2, H2, by go_num, by go_num, hyb, en, bel⟩
  obtain rfl : i = j := by omega
  replace h : decide (i < i) = false := decide_eq_false (by omega)
  have hp := mbs_at (HL.out ▸ hjn) H1 H2
  have HP := Lib.hid hp
  clear hp
  by_cases h2 : i < n
  rotate_left
  ·have HE := Lib.hid (show i = l.length by have := HL.out; omega)
   replace h2 : decide (i < n) = false := decide_eq_false h2
   go_wp2_with fail
   replace bel := bel.drew
   replace hyb : wr.drew.heap[g4]? = _ := hyb
   replace en := en.drew
   refine wp_region_held_drew (S := fun W => W.heap[g4]? = some (.cells #[.int .i64 p, .int .i64 o] 100 (0, 0)) ∧ Sle mpE 9 W (some ⟨gE, oE, none⟩) (n) (c) (l)) (by kernel_rfl) ⟨hyb, en⟩ (fun hH => ?_)
   generalize wr.drew = w2 at bel hyb en hH ⊢
   refine wpAnyH_take (i := 0) (v := ?_) rfl (by kernel_rfl) (by kernel_rfl) (by kernel_rfl) (fun _ _ _ h => h) (Or.inl ⟨by rfl, ?_⟩) hH ?_
   rotate_left
   ·((intro W hW; clear hW; go_simp) <;> with_reducible rfl)
   simp only [Act.put, List.getElem_toArray, List.getElem_cons_zero, List.setIfInBounds_toArray, List.set_cons_zero, List.set_cons_succ]
   refine wpAnyH_take (i := 1) (v := ?_) rfl (by kernel_rfl) (by kernel_rfl) (by kernel_rfl) (fun _ _ _ h => h) (Or.inl ⟨by rfl, ?_⟩) hH ?_
   rotate_left
   ·((intro W hW; clear hW; go_simp) <;> with_reducible rfl)
   simp only [sq3, sq4]
   refine wpAnyH_take (i := 2) (v := ?_) rfl (by kernel_rfl) (by kernel_rfl) (by kernel_rfl) (fun _ _ _ h => h) (Or.inl ⟨by rfl, ?_⟩) hH ?_
   rotate_left
   ·((intro W hW; clear hW; go_simp) <;> with_reducible rfl)
   simp only [sq3, sq4]
   refine wpAnyH_take (i := 3) (v := ?_) rfl (by kernel_rfl) (by kernel_rfl) (by kernel_rfl) (fun _ _ _ h => h) (Or.inl ⟨by rfl, ?_⟩) hH ?_
   rotate_left
   ·((intro W hW; clear hW; go_simp) <;> with_reducible rfl)
   simp only [sq3, sq4]
   refine wpAnyH_take (i := 4) (v := ?_) rfl (by kernel_rfl) (by kernel_rfl) (by kernel_rfl) (fun _ _ _ h => h) (Or.inl ⟨by rfl, ?_⟩) hH ?_
   rotate_left
   ·((intro W hW; clear hW; go_simp) <;> with_reducible rfl)
   simp only [sq3, sq4]
   refine wpAnyH_take (i := 5) (v := undef) rfl (by kernel_rfl) (by kernel_rfl) (by kernel_rfl) (fun _ _ _ h => h) (Or.inr ⟨by rfl, rfl⟩) hH ?_
   simp only [sq3, sq4]
   refine wpAnyH_take (i := 6) (v := undef) rfl (by kernel_rfl) (by kernel_rfl) (by kernel_rfl) (fun _ _ _ h => h) (Or.inr ⟨by rfl, rfl⟩) hH ?_
   simp only [sq3, sq4]
   refine wpAnyH_take (i := 7) (v := undef) rfl (by kernel_rfl) (by kernel_rfl) (by kernel_rfl) (fun _ _ _ h => h) (Or.inr ⟨by rfl, rfl⟩) hH ?_
   simp only [sq3, sq4]
   refine wpAnyH_take (i := 8) (v := undef) rfl (by kernel_rfl) (by kernel_rfl) (by kernel_rfl) (fun _ _ _ h => h) (Or.inr ⟨by rfl, rfl⟩) hH ?_
   simp only [sq3, sq4]
   refine wpAnyH_take (i := 9) (v := undef) rfl (by kernel_rfl) (by kernel_rfl) (by kernel_rfl) (fun _ _ _ h => h) (Or.inr ⟨by rfl, rfl⟩) hH ?_
   simp only [sq3, sq4]
   refine wpAnyH_take (i := 10) (v := undef) rfl (by kernel_rfl) (by kernel_rfl) (by kernel_rfl) (fun _ _ _ h => h) (Or.inr ⟨by rfl, rfl⟩) hH ?_
   simp only [sq3, sq4]
   refine wpAnyH_take (i := 11) (v := undef) rfl (by kernel_rfl) (by kernel_rfl) (by kernel_rfl) (fun _ _ _ h => h) (Or.inr ⟨by rfl, rfl⟩) hH ?_
   simp only [sq3, sq4]
   refine wpAnyH_take (i := 12) (v := undef) rfl (by kernel_rfl) (by kernel_rfl) (by kernel_rfl) (fun _ _ _ h => h) (Or.inr ⟨by rfl, rfl⟩) hH ?_
   simp only [sq3, sq4]
   refine wpAnyH_take (i := 13) (v := ?_) rfl (by kernel_rfl) (by kernel_rfl) (by kernel_rfl) (fun _ _ _ h => h) (Or.inl ⟨by rfl, ?_⟩) hH ?_
   rotate_left
   ·((intro W hW; clear hW; go_simp) <;> with_reducible rfl)
   simp only [sq3, sq4]
   refine wpAnyH_take (i := 14) (v := ?_) rfl (by kernel_rfl) (by kernel_rfl) (by kernel_rfl) (fun _ _ _ h => h) (Or.inl ⟨by rfl, ?_⟩) hH ?_
   rotate_left
   ·((intro W hW; clear hW; go_simp) <;> with_reducible rfl)
   simp only [sq3, sq4]
   refine wpAnyH_take (i := 15) (v := ?_) rfl (by kernel_rfl) (by kernel_rfl) (by kernel_rfl) (fun _ _ _ h => h) (Or.inl ⟨by rfl, ?_⟩) hH ?_
   rotate_left
   ·((intro W hW; clear hW; go_simp) <;> with_reducible rfl)
   simp only [sq3, sq4]
   refine wpAnyH_done (by kernel_rfl) ?_ _
   go_wp2_with fail
   exact bodyPost_ret (v := .tuple #[.int .i64 i, .bool false]) (by simp [results, Tryz.results118, go_sem]) rfl ⟨by rw [HP.out, mfhas_fin (HP.out.trans HE.out)], bel⟩
  obtain ⟨e, hx⟩ : ∃ e, l[i]? = some e := ⟨_, List.getElem?_eq_getElem (by have := HL.out; omega)⟩
  have HX := Lib.hid hx
  have hfh : mfhas l (kn p o) = (e.num == (kn p o)) := mfhas_of HP.out hx
  have HF := Lib.hid hfh
  have hce := cmpN_eq e.num (kn p o)
  clear hx hfh
  go_wp2_with fail
  replace bel := bel.drew
  replace hyb : wr.drew.heap[g4]? = _ := hyb
  replace en := en.drew
  refine wp_region_held_drew (S := fun W => W.heap[g4]? = some (.cells #[.int .i64 p, .int .i64 o] 100 (0, 0)) ∧ Sle mpE 9 W (some ⟨gE, oE, none⟩) (n) (c) (l)) (by kernel_rfl) ⟨hyb, en⟩ (fun hH => ?_)
  generalize wr.drew = w2 at bel hyb en hH ⊢
  refine wpAnyH_take (i := 0) (v := ?_) rfl (by kernel_rfl) (by kernel_rfl) (by kernel_rfl) (fun _ _ _ h => h) (Or.inl ⟨by rfl, ?_⟩) hH ?_
  rotate_left
  ·((intro W hW; clear hW; go_simp) <;> with_reducible rfl)
  simp only [Act.put, List.getElem_toArray, List.getElem_cons_zero, List.setIfInBounds_toArray, List.set_cons_zero, List.set_cons_succ]
  refine wpAnyH_take (i := 1) (v := ?_) rfl (by kernel_rfl) (by kernel_rfl) (by kernel_rfl) (fun _ _ _ h => h) (Or.inl ⟨by rfl, ?_⟩) hH ?_
  rotate_left
  ·((intro W hW; clear hW; go_simp) <;> with_reducible rfl)
  simp only [sq3, sq4]
  refine wpAnyH_take (i := 2) (v := ?_) rfl (by kernel_rfl) (by kernel_rfl) (by kernel_rfl) (fun _ _ _ h => h) (Or.inl ⟨by rfl, ?_⟩) hH ?_
  rotate_left
  ·((intro W hW; clear hW; go_simp) <;> with_reducible rfl)
  simp only [sq3, sq4]
  refine wpAnyH_take (i := 3) (v := ?_) rfl (by kernel_rfl) (by kernel_rfl) (by kernel_rfl) (fun _ _ _ h => h) (Or.inl ⟨by rfl, ?_⟩) hH ?_
  rotate_left
  ·((intro W hW; clear hW; go_simp) <;> with_reducible rfl)
  simp only [sq3, sq4]
  refine wpAnyH_take (i := 4) (v := ?_) rfl (by kernel_rfl) (by kernel_rfl) (by kernel_rfl) (fun _ _ _ h => h) (Or.inl ⟨by rfl, ?_⟩) hH ?_
  rotate_left
  ·((intro W hW; clear hW; go_simp) <;> with_reducible rfl)
  simp only [sq3, sq4]
  refine wpAnyH_take (i := 5) (v := ?_) rfl (by kernel_rfl) (by kernel_rfl) (by kernel_rfl) (fun _ _ _ h => h) (Or.inl ⟨by rfl, ?_⟩) hH ?_
  rotate_left
  ·((intro W hW; clear hW; go_simp) <;> with_reducible rfl)
  simp only [sq3, sq4]
  refine wpAnyH_take (i := 6) (v := ?_) rfl (by kernel_rfl) (by kernel_rfl) (by kernel_rfl) (fun _ _ _ h => h) (Or.inl ⟨by rfl, ?_⟩) hH ?_
  rotate_left
  ·((intro W hW; clear hW; go_simp) <;> with_reducible rfl)
  simp only [sq3, sq4]
  refine wpAnyH_take (i := 7) (v := ?_) rfl (by kernel_rfl) (by kernel_rfl) (by kernel_rfl) (fun _ _ _ h => h) (Or.inl ⟨by rfl, ?_⟩) hH ?_
  rotate_left
  ·((intro W hW; clear hW; go_simp) <;> with_reducible rfl)
  simp only [sq3, sq4]
  refine wpAnyH_take (i := 8) (v := ?_) rfl (by kernel_rfl) (by kernel_rfl) (by kernel_rfl) (fun _ _ _ h => h) (Or.inl ⟨by rfl, ?_⟩) hH ?_
  rotate_left
  ·((intro W hW; clear hW; go_simp) <;> with_reducible rfl)
  simp only [sq3, sq4]
  refine wpAnyH_take (i := 9) (v := .agg #[.int .i64 e.pr, .int .i64 e.o, .int .u8 (e.ad.a.toNat : Int), .int .u8 (e.ad.b.toNat : Int), .int .u8 (e.ad.c.toNat : Int), .int .u8 (e.ad.d.toNat : Int), .int .i64 e.i, .int .i64 e.k, .int .i64 e.u]) rfl (by kernel_rfl) (by kernel_rfl) (by kernel_rfl) (fun _ _ _ h => h) (yieldsIf_load_mid (by kernel_rfl) 65 _ rfl gE (oE + i * 9) rfl [.int .i64 e.pr, .int .i64 e.o, .int .u8 (e.ad.a.toNat : Int), .int .u8 (e.ad.b.toNat : Int), .int .u8 (e.ad.c.toNat : Int), .int .u8 (e.ad.d.toNat : Int), .int .i64 e.i, .int .i64 e.k, .int .i64 e.u] _ (fun W hW => Sle.range0 (hW.2) HX.out 9 [.int .i64 e.pr, .int .i64 e.o, .int .u8 (e.ad.a.toNat : Int), .int .u8 (e.ad.b.toNat : Int), .int .u8 (e.ad.c.toNat : Int), .int .u8 (e.ad.d.toNat : Int), .int .i64 e.i, .int .i64 e.k, .int .i64 e.u] rfl) Tryz.underlying65 rfl (by kernel_rfl)) hH ?_
  simp only [sq3, sq4]
  refine wpAnyH_take (i := 10) (v := .agg #[.int .i64 p, .int .i64 o]) rfl (by kernel_rfl) (by kernel_rfl) (by kernel_rfl) (fun _ _ _ h => h) (yieldsIf_load_part (by kernel_rfl) 100 _ rfl g4 0 2 rfl _ 100 (0, 0) (fun W hW => hW.1) _ rfl _ Tryz.underlying100 rfl (by kernel_rfl)) hH ?_
  simp only [sq3, sq4]
  refine wpAnyH_ready (rs := [11]) (by kernel_rfl) (by simp) ?_
  refine AllReadyH.cons (o := _) rfl (fun K hK => ?_) AllReadyH.nil
  simp only [sq3]
  go_simp
  with_reducible refine (findf_any e p o _).mono ?_
  rintro e w3 ⟨rfl, b3⟩
  dsimp only
  replace hyb := blk_u hyb b3
  replace en := en.below b3
  replace bel := bel.trans (b3.mono bel.size)
  clear b3
  rw [cmpP_at (HOK.out _ (List.mem_of_getElem? HX.out)) HPO.out]
  refine hK.out _ _ ⟨hyb, en⟩ (fun hH4 => ?_)
  clear hK K
  refine wpAnyH_take (i := 12) (v := ?_) rfl (by kernel_rfl) (by kernel_rfl) (by kernel_rfl) (fun _ _ _ h => h) (Or.inl ⟨by rfl, ?_⟩) hH4 ?_
  rotate_left
  ·((intro W hW; clear hW; go_simp) <;> with_reducible rfl)
  simp only [sq3, sq4]
  refine wpAnyH_take (i := 13) (v := ?_) rfl (by kernel_rfl) (by kernel_rfl) (by kernel_rfl) (fun _ _ _ h => h) (Or.inl ⟨by rfl, ?_⟩) hH4 ?_
  rotate_left
  ·((intro W hW; clear hW; go_simp) <;> with_reducible rfl)
  simp only [sq3, sq4]
  refine wpAnyH_take (i := 14) (v := ?_) rfl (by kernel_rfl) (by kernel_rfl) (by kernel_rfl) (fun _ _ _ h => h) (Or.inl ⟨by rfl, ?_⟩) hH4 ?_
  rotate_left
  ·((intro W hW; clear hW; go_simp) <;> with_reducible rfl)
  simp only [sq3, sq4]
  refine wpAnyH_take (i := 15) (v := ?_) rfl (by kernel_rfl) (by kernel_rfl) (by kernel_rfl) (fun _ _ _ h => h) (Or.inl ⟨by rfl, ?_⟩) hH4 ?_
  rotate_left
  ·((intro W hW; clear hW; go_simp) <;> with_reducible rfl)
  simp only [sq3, sq4]
  refine wpAnyH_done (by kernel_rfl) ?_ _
  go_wp2_with fail
  exact bodyPost_ret (v := .tuple #[.int .i64 i, .bool (e.num == (kn p o))]) (by simp [results, Tryz.results118, go_sem]) rfl ⟨by rw [HP.out, HF.out], bel⟩
theorem bs_nil {A : Option Addr} {n c : Nat} {l : List Mp} (p o : Int) (w : World) (hl : l = []) (hn : n = 0) : Calls Tryz.prog 118 #[.slice A n c, .agg #[.int .i64 p, .int .i64 o], .func (.func 119) #[] #[]] w fun e w' => e = .returned (.tuple #[.int .i64 (mfpos l (kn p o) : Int), .bool (mfhas l (kn p o))]) ∧ Below w.heap.size w w' := by
 subst hn
 have HP : Hid (mfpos l (kn p o) = 0) := Lib.hid (by subst hl; rfl)
 have HE := Lib.hid (show 0 = l.length by subst hl; rfl)
 clear hl
 have bel := Below.refl w.heap.size w
 go_enter Tryz.func118, Tryz.ntmps118
 go_wp2_with (first | ((with_reducible show wpList _ _ _ (⟨some 4, _, _, _, _, _⟩ :: _) _ _); refine wpList_box_n rfl 100 (.tmp 1) rfl #[.int .i64 p, .int .i64 o] rfl ?_; intro g4 w1 ge lt hh bb; have oyb := Nat.le_trans bel.size ge; replace bel := bel.trans (bb.mono bel.size); have hyb := hh; clear hh lt ge bb))
 refine wp_loop_rounds 1 ?_
 rw [rounds_succ]
 go_wp2_with fail
 replace bel := bel.drew
 replace hyb : w1.drew.heap[g4]? = _ := hyb
 refine wp_region_held_drew (S := fun W => W.heap[g4]? = some (.cells #[.int .i64 p, .int .i64 o] 100 (0, 0))) (by kernel_rfl) hyb (fun hH => ?_)
 generalize w1.drew = w2 at bel hyb hH ⊢
 refine wpAnyH_take (i := 0) (v := ?_) rfl (by kernel_rfl) (by kernel_rfl) (by kernel_rfl) (fun _ _ _ h => h) (Or.inl ⟨by rfl, ?_⟩) hH ?_
 rotate_left
 ·((intro W hW; clear hW; go_simp) <;> with_reducible rfl)
 simp only [Act.put, List.getElem_toArray, List.getElem_cons_zero, List.setIfInBounds_toArray, List.set_cons_zero, List.set_cons_succ]
 refine wpAnyH_take (i := 1) (v := ?_) rfl (by kernel_rfl) (by kernel_rfl) (by kernel_rfl) (fun _ _ _ h => h) (Or.inl ⟨by rfl, ?_⟩) hH ?_
 rotate_left
 ·((intro W hW; clear hW; go_simp) <;> with_reducible rfl)
 simp only [sq3, sq4]
 refine wpAnyH_take (i := 2) (v := ?_) rfl (by kernel_rfl) (by kernel_rfl) (by kernel_rfl) (fun _ _ _ h => h) (Or.inl ⟨by rfl, ?_⟩) hH ?_
 rotate_left
 ·((intro W hW; clear hW; go_simp) <;> with_reducible rfl)
 simp only [sq3, sq4]
 refine wpAnyH_take (i := 3) (v := ?_) rfl (by kernel_rfl) (by kernel_rfl) (by kernel_rfl) (fun _ _ _ h => h) (Or.inl ⟨by rfl, ?_⟩) hH ?_
 rotate_left
 ·((intro W hW; clear hW; go_simp) <;> with_reducible rfl)
 simp only [sq3, sq4]
 refine wpAnyH_take (i := 4) (v := ?_) rfl (by kernel_rfl) (by kernel_rfl) (by kernel_rfl) (fun _ _ _ h => h) (Or.inl ⟨by rfl, ?_⟩) hH ?_
 rotate_left
 ·((intro W hW; clear hW; go_simp) <;> with_reducible rfl)
 simp only [sq3, sq4]
 refine wpAnyH_take (i := 5) (v := undef) rfl (by kernel_rfl) (by kernel_rfl) (by kernel_rfl) (fun _ _ _ h => h) (Or.inr ⟨by rfl, rfl⟩) hH ?_
 simp only [sq3, sq4]
 refine wpAnyH_take (i := 6) (v := undef) rfl (by kernel_rfl) (by kernel_rfl) (by kernel_rfl) (fun _ _ _ h => h) (Or.inr ⟨by rfl, rfl⟩) hH ?_
 simp only [sq3, sq4]
 refine wpAnyH_take (i := 7) (v := undef) rfl (by kernel_rfl) (by kernel_rfl) (by kernel_rfl) (fun _ _ _ h => h) (Or.inr ⟨by rfl, rfl⟩) hH ?_
 simp only [sq3, sq4]
 refine wpAnyH_take (i := 8) (v := undef) rfl (by kernel_rfl) (by kernel_rfl) (by kernel_rfl) (fun _ _ _ h => h) (Or.inr ⟨by rfl, rfl⟩) hH ?_
 simp only [sq3, sq4]
 refine wpAnyH_take (i := 9) (v := undef) rfl (by kernel_rfl) (by kernel_rfl) (by kernel_rfl) (fun _ _ _ h => h) (Or.inr ⟨by rfl, rfl⟩) hH ?_
 simp only [sq3, sq4]
 refine wpAnyH_take (i := 10) (v := undef) rfl (by kernel_rfl) (by kernel_rfl) (by kernel_rfl) (fun _ _ _ h => h) (Or.inr ⟨by rfl, rfl⟩) hH ?_
 simp only [sq3, sq4]
 refine wpAnyH_take (i := 11) (v := undef) rfl (by kernel_rfl) (by kernel_rfl) (by kernel_rfl) (fun _ _ _ h => h) (Or.inr ⟨by rfl, rfl⟩) hH ?_
 simp only [sq3, sq4]
 refine wpAnyH_take (i := 12) (v := undef) rfl (by kernel_rfl) (by kernel_rfl) (by kernel_rfl) (fun _ _ _ h => h) (Or.inr ⟨by rfl, rfl⟩) hH ?_
 simp only [sq3, sq4]
 refine wpAnyH_take (i := 13) (v := ?_) rfl (by kernel_rfl) (by kernel_rfl) (by kernel_rfl) (fun _ _ _ h => h) (Or.inl ⟨by rfl, ?_⟩) hH ?_
 rotate_left
 ·((intro W hW; clear hW; go_simp) <;> with_reducible rfl)
 simp only [sq3, sq4]
 refine wpAnyH_take (i := 14) (v := ?_) rfl (by kernel_rfl) (by kernel_rfl) (by kernel_rfl) (fun _ _ _ h => h) (Or.inl ⟨by rfl, ?_⟩) hH ?_
 rotate_left
 ·((intro W hW; clear hW; go_simp) <;> with_reducible rfl)
 simp only [sq3, sq4]
 refine wpAnyH_take (i := 15) (v := ?_) rfl (by kernel_rfl) (by kernel_rfl) (by kernel_rfl) (fun _ _ _ h => h) (Or.inl ⟨by rfl, ?_⟩) hH ?_
 rotate_left
 ·((intro W hW; clear hW; go_simp) <;> with_reducible rfl)
 simp only [sq3, sq4]
 refine wpAnyH_done (by kernel_rfl) ?_ _
 go_wp2_with fail
 exact bodyPost_ret (v := .tuple #[.int .i64 0, .bool false]) (by simp [results, Tryz.results118, go_sem]) rfl ⟨by rw [HP.out, mfhas_fin (HP.out.trans HE.out)]; rfl, bel⟩
theorem bs_any {A : Option Addr} {n c : Nat} {l : List Mp} (p o : Int) (w : World) (en : Sle mpE 9 w A n c l) (hS : MSrt l) (hO : ∀ e ∈ l, e.okp) (hpo : okP p o) (h32 : n ≤ 1000) : Calls Tryz.prog 118 #[.slice A n c, .agg #[.int .i64 p, .int .i64 o], .func (.func 119) #[] #[]] w fun e w' => e = .returned (.tuple #[.int .i64 (mfpos l (kn p o) : Int), .bool (mfhas l (kn p o))]) ∧ Below w.heap.size w w' := by
 rcases Nat.eq_zero_or_pos n with h0 | h0
 ·exact bs_nil p o w (List.eq_nil_of_length_eq_zero (en.1.trans h0)) h0
 ·exact bs_pos p o w en hS hO hpo h0 h32
theorem mfind_is {gt mb n c : Nat} {lw rm now : Int} {l : List Mp} {A : Option Addr} {q : Nat} {b : Bool} (p o : Int) (w : World) (htb : w.heap[gt]? = some (.cells #[.int .i64 lw, .int .i64 rm, .int .i64 now, .slice A n c, .map (some mb)] 76 (0, 0))) (en : Sle mpE 9 w A n c l) (hS : MSrt l) (hO : ∀ e ∈ l, e.okp) (hpo : okP p o) (h32 : n ≤ 1000) (hq : mfpos l (kn p o) = q) (hb : mfhas l (kn p o) = b) : Calls Tryz.prog 95 #[.pointer (some ⟨gt, 0, none⟩), .agg #[.int .i64 p, .int .i64 o]] w fun e w' => e = .returned (.tuple #[.int .i64 (q : Int), .bool b]) ∧ Below w.heap.size w w' := by
 have HS := Lib.hid hS
 have HOK := Lib.hid hO
 have HPO := Lib.hid hpo
 have HQ := Lib.hid hq
 have HB := Lib.hid hb
 clear hS hO hpo hq hb
 have bel := Below.refl w.heap.size w
 go_enter Tryz.func95, Tryz.ntmps95
 go_wp2_with (first | ((with_reducible show wpList _ _ _ (⟨some 3, _, _, _, _, _⟩ :: _) _ _); refine wpList_box_n rfl 100 (.tmp 1) rfl #[.int .i64 p, .int .i64 o] rfl ?_; intro g3 w1 ge lt hh bb; have d_tb_yb := ne_new (hlt htb) ge; have av_en_yb := en.av_new ge; have oyb := Nat.le_trans bel.size ge; replace htb := blk_u htb bb; replace en := en.below bb; replace bel := bel.trans (bb.mono bel.size); have hyb := hh; clear hh lt ge bb))
 replace bel := bel.drew
 replace htb : w1.drew.heap[gt]? = _ := htb
 replace hyb : w1.drew.heap[g3]? = _ := hyb
 replace en := en.drew
 refine wp_region_held_drew (S := fun W => W.heap[gt]? = some (.cells #[.int .i64 lw, .int .i64 rm, .int .i64 now, .slice A n c, .map (some mb)] 76 (0, 0)) ∧ W.heap[g3]? = some (.cells #[.int .i64 p, .int .i64 o] 100 (0, 0))) (by kernel_rfl) ⟨htb, hyb⟩ (fun hH => ?_)
 generalize w1.drew = w2 at bel htb hyb en hH ⊢
 refine wpAnyH_take (i := 0) (v := ?_) rfl (by kernel_rfl) (by kernel_rfl) (by kernel_rfl) (fun _ _ _ h => h) (Or.inl ⟨by rfl, ?_⟩) hH ?_
 rotate_left
 ·((intro W hW; clear hW; go_simp) <;> with_reducible rfl)
 simp only [Act.put, List.getElem_toArray, List.getElem_cons_zero, List.setIfInBounds_toArray, List.set_cons_zero, List.set_cons_succ]
 refine wpAnyH_take (i := 1) (v := ?_) rfl (by kernel_rfl) (by kernel_rfl) (by kernel_rfl) (fun _ _ _ h => h) (Or.inl ⟨by rfl, ?_⟩) hH ?_
 rotate_left
 ·((intro W hW; clear hW; go_simp) <;> with_reducible rfl)
 simp only [sq3, sq4]
 refine wpAnyH_take (i := 2) (v := ?_) rfl (by kernel_rfl) (by kernel_rfl) (by kernel_rfl) (fun _ _ _ h => h) (Or.inl ⟨by rfl, ?_⟩) hH ?_
 rotate_left
 ·((intro W hW; clear hW; go_simp) <;> with_reducible rfl)
 simp only [sq3, sq4]
 refine wpAnyH_take (i := 3) (v := ?_) rfl (by kernel_rfl) (by kernel_rfl) (by kernel_rfl) (fun _ _ _ h => h) (Or.inl ⟨by rfl, ?_⟩) hH ?_
 rotate_left
 ·((intro W hW; have hk := cell_lit (hW.1) 3 _ rfl; clear hW; go_simp) <;> with_reducible rfl)
 simp only [sq3, sq4]
 refine wpAnyH_take (i := 4) (v := .agg #[.int .i64 p, .int .i64 o]) rfl (by kernel_rfl) (by kernel_rfl) (by kernel_rfl) (fun _ _ _ h => h) (yieldsIf_load_part (by kernel_rfl) 100 _ rfl g3 0 2 rfl _ 100 (0, 0) (fun W hW => hW.2) _ rfl _ Tryz.underlying100 rfl (by kernel_rfl)) hH ?_
 simp only [sq3, sq4]
 refine wpAnyH_ready (rs := [5]) (by kernel_rfl) (by simp) ?_
 refine AllReadyH.cons (o := _) rfl (fun K hK => ?_) AllReadyH.nil
 simp only [sq3]
 go_simp
 with_reducible refine (bs_any p o _ en HS.out HOK.out HPO.out h32).mono ?_
 rintro e w3 ⟨rfl, b3⟩
 dsimp only
 replace htb := blk_u htb b3
 replace hyb := blk_u hyb b3
 replace en := en.below b3
 replace bel := bel.trans (b3.mono bel.size)
 clear b3
 rw [HQ.out, HB.out]
 refine hK.out _ _ ⟨htb, hyb⟩ (fun hH4 => ?_)
 clear hK K
 refine wpAnyH_take (i := 6) (v := ?_) rfl (by kernel_rfl) (by kernel_rfl) (by kernel_rfl) (fun _ _ _ h => h) (Or.inl ⟨by rfl, ?_⟩) hH4 ?_
 rotate_left
 ·((intro W hW; clear hW; go_simp) <;> with_reducible rfl)
 simp only [sq3, sq4]
 refine wpAnyH_take (i := 7) (v := ?_) rfl (by kernel_rfl) (by kernel_rfl) (by kernel_rfl) (fun _ _ _ h => h) (Or.inl ⟨by rfl, ?_⟩) hH4 ?_
 rotate_left
 ·((intro W hW; clear hW; go_simp) <;> with_reducible rfl)
 simp only [sq3, sq4]
 refine wpAnyH_take (i := 8) (v := ?_) rfl (by kernel_rfl) (by kernel_rfl) (by kernel_rfl) (fun _ _ _ h => h) (Or.inl ⟨by rfl, ?_⟩) hH4 ?_
 rotate_left
 ·((intro W hW; clear hW; go_simp) <;> with_reducible rfl)
 simp only [sq3, sq4]
 refine wpAnyH_take (i := 9) (v := ?_) rfl (by kernel_rfl) (by kernel_rfl) (by kernel_rfl) (fun _ _ _ h => h) (Or.inl ⟨by rfl, ?_⟩) hH4 ?_
 rotate_left
 ·((intro W hW; clear hW; go_simp) <;> with_reducible rfl)
 simp only [sq3, sq4]
 refine wpAnyH_done (by kernel_rfl) ?_ _
 go_wp2_with fail
 exact bodyPost_ret (v := .tuple #[.int .i64 (q : Int), .bool b]) (by simp [results, Tryz.results95, go_sem]) rfl ⟨rfl, bel⟩
theorem mat_none {gt mb n c : Nat} {lw rm now : Int} {l : List Mp} {A : Option Addr} (p o : Int) (w : World) (htb : w.heap[gt]? = some (.cells #[.int .i64 lw, .int .i64 rm, .int .i64 now, .slice A n c, .map (some mb)] 76 (0, 0))) (en : Sle mpE 9 w A n c l) (hS : MSrt l) (hO : ∀ e ∈ l, e.okp) (hpo : okP p o) (h32 : n ≤ 1000) (hb : mfhas l (kn p o) = false) : Calls Tryz.prog 59 #[.pointer (some ⟨gt, 0, none⟩), .agg #[.int .i64 p, .int .i64 o]] w fun e w' => e = .returned (.pointer none) ∧ Below w.heap.size w w' := by
 have HS := Lib.hid hS
 have HOK := Lib.hid hO
 have HPO := Lib.hid hpo
 clear hS hO hpo
 obtain ⟨q, hq⟩ : ∃ q, mfpos l (kn p o) = q := ⟨_, rfl⟩
 have HQ := Lib.hid hq
 have HB := Lib.hid hb
 clear hq hb
 have bel := Below.refl w.heap.size w
 go_enter Tryz.func59, Tryz.ntmps59
 go_wp2_with (first | ((with_reducible show wpList _ _ _ (⟨some 3, _, _, _, _, _⟩ :: _) _ _); refine wpList_box_n rfl 100 (.tmp 1) rfl #[.int .i64 p, .int .i64 o] rfl ?_; intro g3 w1 ge lt hh bb; have d_tb_yb := ne_new (hlt htb) ge; have av_en_yb := en.av_new ge; have oyb := Nat.le_trans bel.size ge; replace htb := blk_u htb bb; replace en := en.below bb; replace bel := bel.trans (bb.mono bel.size); have hyb := hh; clear hh lt ge bb; have R9 := Lib.hid (range_lit hyb 0 2 [.int .i64 p, .int .i64 o] rfl)) | ((with_reducible show wpList _ _ _ (⟨some 9, _, _, _, _, _⟩ :: _) _ _); refine wpList_load_rng 100 (.tmp 3) rfl (by kernel_rfl) _ _ rfl _ R9.out _ Tryz.underlying100 rfl (by kernel_rfl) ?_))
 try clear R9
 with_reducible refine (mfind_is p o _ htb en HS.out HOK.out HPO.out h32 HQ.out HB.out).mono ?_
 rintro e w2 ⟨rfl, b2⟩
 replace htb := blk_u htb b2
 replace hyb := blk_u hyb b2
 replace en := en.below b2
 replace bel := bel.trans (b2.mono bel.size)
 clear b2
 go_wp2_with fail
 go_ret
 exact ⟨rfl, bel⟩
theorem mat_some {gt mb n c : Nat} {lw rm now : Int} {l : List Mp} {gE i : Nat} {x : Mp} (p o : Int) (w : World) (htb : w.heap[gt]? = some (.cells #[.int .i64 lw, .int .i64 rm, .int .i64 now, .slice (some ⟨gE, 0, none⟩) n c, .map (some mb)] 76 (0, 0))) (en : Sle mpE 9 w (some ⟨gE, 0, none⟩) n c l) (av_en_tb : Av (some ⟨gE, 0, none⟩) n gt) (hS : MSrt l) (hO : ∀ e ∈ l, e.okp) (hpo : okP p o) (h32 : n ≤ 1000) (hq : mfpos l (kn p o) = i) (hb : mfhas l (kn p o) = true) (hx : l[i]? = some x) : Calls Tryz.prog 59 #[.pointer (some ⟨gt, 0, none⟩), .agg #[.int .i64 p, .int .i64 o]] w fun e w' => e = .returned (.pointer (some ⟨gE, i * 9, none⟩)) ∧ Below w.heap.size w w' := by
 have HS := Lib.hid hS
 have HOK := Lib.hid hO
 have HPO := Lib.hid hpo
 clear hS hO hpo
 have hin := (List.getElem?_eq_some_iff.1 hx).1
 have hl_ := en.1
 have hlt_ : i < n := by omega
 have i0 : (0 : Int) ≤ i := by omega
 have i1 : (i : Int) < n := by omega
 clear hin hl_ hlt_
 have HX := Lib.hid hx
 have HQ := Lib.hid hq
 have HB := Lib.hid hb
 clear hq hb hx
 have bel := Below.refl w.heap.size w
 go_enter Tryz.func59, Tryz.ntmps59
 go_wp2_with (first | ((with_reducible show wpList _ _ _ (⟨some 3, _, _, _, _, _⟩ :: _) _ _); refine wpList_box_n rfl 100 (.tmp 1) rfl #[.int .i64 p, .int .i64 o] rfl ?_; intro g3 w1 ge lt hh bb; have d_tb_yb := ne_new (hlt htb) ge; have av_en_yb := en.av_new ge; have oyb := Nat.le_trans bel.size ge; replace htb := blk_u htb bb; replace en := en.below bb; replace bel := bel.trans (bb.mono bel.size); have hyb := hh; clear hh lt ge bb; have R9 := Lib.hid (range_lit hyb 0 2 [.int .i64 p, .int .i64 o] rfl)) | ((with_reducible show wpList _ _ _ (⟨some 9, _, _, _, _, _⟩ :: _) _ _); refine wpList_load_rng 100 (.tmp 3) rfl (by kernel_rfl) _ _ rfl _ R9.out _ Tryz.underlying100 rfl (by kernel_rfl) ?_))
 try clear R9
 with_reducible refine (mfind_is p o _ htb en HS.out HOK.out HPO.out h32 HQ.out HB.out).mono ?_
 rintro e w2 ⟨rfl, b2⟩
 replace htb := blk_u htb b2
 replace hyb := blk_u hyb b2
 replace en := en.below b2
 replace bel := bel.trans (b2.mono bel.size)
 clear b2
 have R18 := cell_lit htb 3 _ rfl
 go_wp2_with fail
 clear R18
 go_ret
 exact ⟨rfl, bel⟩
theorem full_n {gt mb n c : Nat} {lw rm now : Int} {l : List Mp} {A : Option Addr} (w : World) (htb : w.heap[gt]? = some (.cells #[.int .i64 lw, .int .i64 rm, .int .i64 now, .slice A n c, .map (some mb)] 76 (0, 0))) (h : ¬ rm ≤ (n : Int)) : Calls Tryz.prog 62 #[.pointer (some ⟨gt, 0, none⟩)] w fun e w' => e = .returned (.bool false) ∧ Below w.heap.size w w' := by
 have h2 : decide ((n : Int) ≥ rm) = false := decide_eq_false h
 have h3 : decide (rm ≤ (n : Int)) = false := decide_eq_false h
 clear h
 have bel := Below.refl w.heap.size w
 go_enter Tryz.func62, Tryz.ntmps62
 go_wp2_with fail
 replace bel := bel.drew
 replace htb : w.drew.heap[gt]? = _ := htb
 refine wp_region_held_drew (S := fun W => W.heap[gt]? = some (.cells #[.int .i64 lw, .int .i64 rm, .int .i64 now, .slice A n c, .map (some mb)] 76 (0, 0))) (by kernel_rfl) htb (fun hH => ?_)
 generalize w.drew = w1 at bel htb hH ⊢
 refine wpAnyH_take (i := 0) (v := ?_) rfl (by kernel_rfl) (by kernel_rfl) (by kernel_rfl) (fun _ _ _ h => h) (Or.inl ⟨by rfl, ?_⟩) hH ?_
 rotate_left
 ·((intro W hW; clear hW; go_simp) <;> with_reducible rfl)
 simp only [Act.put, List.getElem_toArray, List.getElem_cons_zero, List.setIfInBounds_toArray, List.set_cons_zero, List.set_cons_succ]
 refine wpAnyH_take (i := 1) (v := ?_) rfl (by kernel_rfl) (by kernel_rfl) (by kernel_rfl) (fun _ _ _ h => h) (Or.inl ⟨by rfl, ?_⟩) hH ?_
 rotate_left
 ·((intro W hW; clear hW; go_simp) <;> with_reducible rfl)
 simp only [sq3, sq4]
 refine wpAnyH_take (i := 2) (v := ?_) rfl (by kernel_rfl) (by kernel_rfl) (by kernel_rfl) (fun _ _ _ h => h) (Or.inl ⟨by rfl, ?_⟩) hH ?_
 rotate_left
 ·((intro W hW; clear hW; go_simp) <;> with_reducible rfl)
 simp only [sq3, sq4]
 refine wpAnyH_take (i := 3) (v := ?_) rfl (by kernel_rfl) (by kernel_rfl) (by kernel_rfl) (fun _ _ _ h => h) (Or.inl ⟨by rfl, ?_⟩) hH ?_
 rotate_left
 ·((intro W hW; have hk := cell_lit (hW) 3 _ rfl; clear hW; go_simp) <;> with_reducible rfl)
 simp only [sq3, sq4]
 refine wpAnyH_take (i := 4) (v := ?_) rfl (by kernel_rfl) (by kernel_rfl) (by kernel_rfl) (fun _ _ _ h => h) (Or.inl ⟨by rfl, ?_⟩) hH ?_
 rotate_left
 ·((intro W hW; clear hW; go_simp) <;> with_reducible rfl)
 simp only [sq3, sq4]
 refine wpAnyH_take (i := 5) (v := ?_) rfl (by kernel_rfl) (by kernel_rfl) (by kernel_rfl) (fun _ _ _ h => h) (Or.inl ⟨by rfl, ?_⟩) hH ?_
 rotate_left
 ·((intro W hW; clear hW; go_simp) <;> with_reducible rfl)
 simp only [sq3, sq4]
 refine wpAnyH_take (i := 6) (v := ?_) rfl (by kernel_rfl) (by kernel_rfl) (by kernel_rfl) (fun _ _ _ h => h) (Or.inl ⟨by rfl, ?_⟩) hH ?_
 rotate_left
 ·((intro W hW; clear hW; go_simp) <;> with_reducible rfl)
 simp only [sq3, sq4]
 refine wpAnyH_take (i := 7) (v := ?_) rfl (by kernel_rfl) (by kernel_rfl) (by kernel_rfl) (fun _ _ _ h => h) (Or.inl ⟨by rfl, ?_⟩) hH ?_
 rotate_left
 ·((intro W hW; clear hW; go_simp) <;> with_reducible rfl)
 simp only [sq3, sq4]
 refine wpAnyH_take (i := 8) (v := ?_) rfl (by kernel_rfl) (by kernel_rfl) (by kernel_rfl) (fun _ _ _ h => h) (Or.inl ⟨by rfl, ?_⟩) hH ?_
 rotate_left
 ·((intro W hW; have hk := cell_lit (hW) 1 _ rfl; clear hW; go_simp) <;> with_reducible rfl)
 simp only [sq3, sq4]
 refine wpAnyH_take (i := 9) (v := ?_) rfl (by kernel_rfl) (by kernel_rfl) (by kernel_rfl) (fun _ _ _ h => h) (Or.inl ⟨by rfl, ?_⟩) hH ?_
 rotate_left
 ·((intro W hW; clear hW; go_simp) <;> with_reducible rfl)
 simp only [sq3, sq4]
 refine wpAnyH_take (i := 10) (v := ?_) rfl (by kernel_rfl) (by kernel_rfl) (by kernel_rfl) (fun _ _ _ h => h) (Or.inl ⟨by rfl, ?_⟩) hH ?_
 rotate_left
 ·((intro W hW; clear hW; go_simp) <;> with_reducible rfl)
 simp only [sq3, sq4]
 refine wpAnyH_done (by kernel_rfl) ?_ _
 go_wp2_with fail
 go_ret
 exact ⟨rfl, bel⟩
end Go.Proofs.YtbdaejodbcjmfaaGreat
