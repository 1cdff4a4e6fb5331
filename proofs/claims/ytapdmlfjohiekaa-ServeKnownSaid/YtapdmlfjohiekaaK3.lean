/- Texts put together: Pl2. -/
import Derived.Test.YtapdmlfjohiekaaK1
import Derived.Test.YtapdmlfjohiekaaK2
import Derived.Deep.CutRange
namespace Go.Proofs.Ytapdmlfjohiekaa
open Go.RowKit

/-- All ahead of i lie below x; all from j on do not. -/
def SBsLo (l : List Sd) (i x : Nat) : Prop := ∀ q e, q < i → l[q]? = some e → e.num < x
def SBsHi (l : List Sd) (j x : Nat) : Prop := ∀ q e, j ≤ q → l[q]? = some e → x ≤ e.num
theorem sbsLo_zero (l : List Sd) (x : Nat) : SBsLo l 0 x := fun _ _ h => absurd h (by omega)
theorem sbsHi_len (l : List Sd) (x : Nat) : SBsHi l l.length x := fun q e h he => by have := (List.getElem?_eq_some_iff.1 he).1; omega
theorem SBsLo.step {l : List Sd} (hs : SSrt l) {q x : Nat} {e : Sd} (he : l[q]? = some e) (h : e.num < x) : SBsLo l (q + 1) x := fun i y hi hy => by
  rcases Nat.lt_or_ge i q with h0 | h0
  · have := hs.lt h0 hy he; omega
  · obtain rfl : i = q := by omega
    rw [he] at hy; cases hy; exact h
theorem SBsHi.step {l : List Sd} (hs : SSrt l) {q x : Nat} {e : Sd} (he : l[q]? = some e) (h : x ≤ e.num) : SBsHi l q x := fun i y hi hy => by
  rcases Nat.lt_or_ge q i with h0 | h0
  · have := hs.lt h0 he hy; omega
  · obtain rfl : i = q := by omega
    rw [he] at hy; cases hy; exact h
theorem scmpN_lt (x y : Nat) : decide (cmpN x y < 0) = decide (x < y) := by
  unfold cmpN
  by_cases h : x < y
  · simp [h]
  · by_cases h2 : y < x <;> simp [h, h2]
theorem scmpN_eq (x y : Nat) : (cmpN x y == 0) = (x == y) := by
  unfold cmpN
  rcases Nat.lt_trichotomy x y with h | h | h
  · rw [if_pos h]; simp; omega
  · subst h; simp
  · rw [if_neg (by omega), if_pos h]; simp; omega
theorem sbs_at {l : List Sd} {i x : Nat} (hi : i ≤ l.length) (h1 : SBsLo l i x) (h2 : SBsHi l i x) : sfpos l x = i := sfpos_of hi h1 h2
theorem sfhas_at2 {l : List Sd} {i x : Nat} {e : Sd} (hp : sfpos l x = i) (he : l[i]? = some e) : sfhas l x = (e.num == x) := by
  unfold sfhas; rw [hp, he]
theorem sfhas_end {l : List Sd} {x : Nat} (hp : sfpos l x = l.length) : sfhas l x = false := by
  unfold sfhas; rw [hp, List.getElem?_eq_none (Nat.le_refl _)]
set_option linter.unusedVariables false in
set_option linter.unusedSimpArgs false in
set_option maxRecDepth 100000 in
set_option maxHeartbeats 16000000 in
theorem pbs_pos {A : Option Addr} {n c : Nat} {l : List Sd} (y : Ad4) (w : World) (en : Sle slE 15 w A n c l) (hS : SSrt l) (hn : 0 < n) (h32 : n ≤ 1000) : Calls Try.prog 70 #[.slice A n c, .agg #[.int .u8 (y.a.toNat : Int), .int .u8 (y.b.toNat : Int), .int .u8 (y.c.toNat : Int), .int .u8 (y.d.toNat : Int)], .func (.func 71) #[] #[]] w fun e w' => e = .returned (.tuple #[.int .i64 (sfpos l y.num : Int), .bool (sfhas l y.num)]) ∧ Below w.heap.size w w' := by
  have HS := Lib.hid hS
  clear hS
  have HL : Hid (l.length = n) := Lib.hid en.1
  obtain ⟨gE, oE, rfl⟩ := en.place hn
  have hn0 : (n : Int) ≤ 1000 := by omega
  have bel := Below.refl w.heap.size w
  go_enter Try.func70, Try.ntmps70
  go_wp2_with (first | ((with_reducible show wpList _ _ _ (⟨some 4, _, _, _, _, _⟩ :: _) _ _); refine wpList_box_n rfl 28 (.tmp 1) rfl #[.int .u8 (y.a.toNat : Int), .int .u8 (y.b.toNat : Int), .int .u8 (y.c.toNat : Int), .int .u8 (y.d.toNat : Int)] rfl ?_; intro g4 w1 ge lt hh bb; have av_en_yb := en.av_new ge; have oyb := Nat.le_trans bel.size ge; replace en := en.below bb; replace bel := bel.trans (bb.mono bel.size); have hyb := hh; clear hh lt ge bb))
  go_loopg [9, 10] (n) (fun gk s9 s10 wr => ∃ i : Nat, ∃ j : Nat, gk = j - i ∧ i ≤ j ∧ j ≤ n ∧ SBsLo l i y.num ∧ SBsHi l j y.num ∧ s9 = .int .i64 (i : Int) ∧ s10 = .int .i64 (j : Int) ∧ wr.heap[g4]? = some (.cells #[.int .u8 (y.a.toNat : Int), .int .u8 (y.b.toNat : Int), .int .u8 (y.c.toNat : Int), .int .u8 (y.d.toNat : Int)] 28 (0, 0)) ∧ Sle slE 15 wr (some ⟨gE, oE, none⟩) (n) (c) (l) ∧ Below w.heap.size w wr)
  case atStart => exact ⟨0, n, Nat.sub_zero _, Nat.zero_le _, Nat.le_refl _, sbsLo_zero _ _, HL.out ▸ sbsHi_len _ _, rfl, rfl, hyb, en, bel⟩
  case round =>
    clear hyb en bel
    obtain ⟨i, j, HGK, hij, hjn, H1, H2, rfl, rfl, hyb, en, bel⟩ := hrel
    have HGK_ := Lib.hid HGK
    clear HGK
    by_cases h : i < j
    · have i0 : (0 : Int) ≤ i := by omega
      have j0 : (0 : Int) ≤ j := by omega
      have i1 : (i : Int) ≤ 1000 := by omega
      have j1 : (j : Int) ≤ 1000 := by omega
      obtain ⟨q, hq⟩ : ∃ q, (i + j) / 2 = q := ⟨_, rfl⟩
      have hq1 : i ≤ q := by omega
      have hq2 : q < j := by omega
      have hqq : ((i : Int) + j) / 2 = (q : Int) := by omega
      have HQ := Lib.hid hq
      clear hq
      obtain ⟨e, hx⟩ : ∃ e, l[q]? = some e := ⟨_, List.getElem?_eq_getElem (by have := HL.out; omega)⟩
      have HX := Lib.hid hx
      clear hx
      have hqn : q < n := by omega
      have q0 : (0 : Int) ≤ q := by omega
      have q1 : (q : Int) < n := by omega
      by_cases h2 : e.num < y.num
      rotate_left
      · have hc := scmpN_lt e.num y.num
        rw [decide_eq_false h2] at hc
        go_wp2_with fail
        replace bel := bel.drew
        replace hyb : wr.drew.heap[g4]? = _ := hyb
        replace en := en.drew
        refine wp_region_held_drew (S := fun W => W.heap[g4]? = some (.cells #[.int .u8 (y.a.toNat : Int), .int .u8 (y.b.toNat : Int), .int .u8 (y.c.toNat : Int), .int .u8 (y.d.toNat : Int)] 28 (0, 0)) ∧ Sle slE 15 W (some ⟨gE, oE, none⟩) (n) (c) (l)) (by kernel_rfl) ⟨hyb, en⟩ (fun hH => ?_)
        generalize wr.drew = w2 at bel hyb en hH ⊢
        refine wpAnyH_take (i := 0) (v := ?_) rfl (by kernel_rfl) (by kernel_rfl) (by kernel_rfl) (fun _ _ _ h => h) (Or.inl ⟨by rfl, ?_⟩) hH ?_
        rotate_left
        · ((intro W hW; clear hW; go_simp) <;> with_reducible rfl)
        simp only [Act.put, List.getElem_toArray, List.getElem_cons_zero, List.setIfInBounds_toArray, List.set_cons_zero, List.set_cons_succ]
        refine wpAnyH_take (i := 1) (v := ?_) rfl (by kernel_rfl) (by kernel_rfl) (by kernel_rfl) (fun _ _ _ h => h) (Or.inl ⟨by rfl, ?_⟩) hH ?_
        rotate_left
        · ((intro W hW; clear hW; go_simp) <;> with_reducible rfl)
        simp only [sq3, sq4]
        refine wpAnyH_take (i := 2) (v := ?_) rfl (by kernel_rfl) (by kernel_rfl) (by kernel_rfl) (fun _ _ _ h => h) (Or.inl ⟨by rfl, ?_⟩) hH ?_
        rotate_left
        · ((intro W hW; clear hW; go_simp) <;> with_reducible rfl)
        simp only [sq3, sq4]
        refine wpAnyH_take (i := 3) (v := ?_) rfl (by kernel_rfl) (by kernel_rfl) (by kernel_rfl) (fun _ _ _ h => h) (Or.inl ⟨by rfl, ?_⟩) hH ?_
        rotate_left
        · ((intro W hW; clear hW; go_simp) <;> with_reducible rfl)
        simp only [sq3, sq4]
        refine wpAnyH_take (i := 4) (v := .agg #[.int .u8 (e.m.a.toNat : Int), .int .u8 (e.m.b.toNat : Int), .int .u8 (e.m.c.toNat : Int), .int .u8 (e.m.d.toNat : Int), .int .u8 (e.m.e.toNat : Int), .int .u8 (e.m.f.toNat : Int), .int .u8 (e.ad.a.toNat : Int), .int .u8 (e.ad.b.toNat : Int), .int .u8 (e.ad.c.toNat : Int), .int .u8 (e.ad.d.toNat : Int), .int .i64 e.u, .bool e.fx, .bool e.le, .bool e.rp, .int .i64 e.br]) rfl (by kernel_rfl) (by kernel_rfl) (by kernel_rfl) (fun _ _ _ h => h) (yieldsIf_load_mid (by kernel_rfl) 101 _ rfl gE (oE + q * 15) rfl [.int .u8 (e.m.a.toNat : Int), .int .u8 (e.m.b.toNat : Int), .int .u8 (e.m.c.toNat : Int), .int .u8 (e.m.d.toNat : Int), .int .u8 (e.m.e.toNat : Int), .int .u8 (e.m.f.toNat : Int), .int .u8 (e.ad.a.toNat : Int), .int .u8 (e.ad.b.toNat : Int), .int .u8 (e.ad.c.toNat : Int), .int .u8 (e.ad.d.toNat : Int), .int .i64 e.u, .bool e.fx, .bool e.le, .bool e.rp, .int .i64 e.br] _ (fun W hW => Sle.range0 (hW.2) HX.out 15 [.int .u8 (e.m.a.toNat : Int), .int .u8 (e.m.b.toNat : Int), .int .u8 (e.m.c.toNat : Int), .int .u8 (e.m.d.toNat : Int), .int .u8 (e.m.e.toNat : Int), .int .u8 (e.m.f.toNat : Int), .int .u8 (e.ad.a.toNat : Int), .int .u8 (e.ad.b.toNat : Int), .int .u8 (e.ad.c.toNat : Int), .int .u8 (e.ad.d.toNat : Int), .int .i64 e.u, .bool e.fx, .bool e.le, .bool e.rp, .int .i64 e.br] rfl) Try.underlying101 rfl (by kernel_rfl)) hH ?_
        simp only [sq3, sq4]
        refine wpAnyH_take (i := 5) (v := .agg #[.int .u8 (y.a.toNat : Int), .int .u8 (y.b.toNat : Int), .int .u8 (y.c.toNat : Int), .int .u8 (y.d.toNat : Int)]) rfl (by kernel_rfl) (by kernel_rfl) (by kernel_rfl) (fun _ _ _ h => h) (yieldsIf_load_part (by kernel_rfl) 28 _ rfl g4 0 4 rfl _ 28 (0, 0) (fun W hW => hW.1) _ rfl _ Try.underlying28 rfl (by kernel_rfl)) hH ?_
        simp only [sq3, sq4]
        refine wpAnyH_ready (rs := [6]) (by kernel_rfl) (by simp) ?_
        refine AllReadyH.cons (o := _) rfl (fun K hK => ?_) AllReadyH.nil
        simp only [sq3]
        go_simp
        with_reducible refine (pfindf_any e y _).mono ?_
        rintro e w3 ⟨rfl, b3⟩
        dsimp only
        replace hyb := blk_u hyb b3
        replace en := en.below b3
        replace bel := bel.trans (b3.mono bel.size)
        clear b3
        refine hK.out _ _ ⟨hyb, en⟩ (fun hH4 => ?_)
        clear hK K
        refine wpAnyH_take (i := 7) (v := ?_) rfl (by kernel_rfl) (by kernel_rfl) (by kernel_rfl) (fun _ _ _ h => h) (Or.inl ⟨by rfl, ?_⟩) hH4 ?_
        rotate_left
        · ((intro W hW; clear hW; go_simp) <;> with_reducible rfl)
        simp only [sq3, sq4]
        refine wpAnyH_done (by kernel_rfl) ?_ _
        go_wp2_with fail
        go_roundg (q - i)
        case measure => have := HGK_.out; omega
        case rel => exact ⟨i, q, rfl, by omega, by omega, H1, SBsHi.step HS.out HX.out (Nat.le_of_not_lt h2), by go_num, by go_num, hyb, en, bel⟩
      have hc : cmpN e.num y.num < 0 := by have h_ := scmpN_lt e.num y.num; rw [decide_eq_true h2] at h_; exact of_decide_eq_true h_
      go_wp2_with fail
      replace bel := bel.drew
      replace hyb : wr.drew.heap[g4]? = _ := hyb
      replace en := en.drew
      refine wp_region_held_drew (S := fun W => W.heap[g4]? = some (.cells #[.int .u8 (y.a.toNat : Int), .int .u8 (y.b.toNat : Int), .int .u8 (y.c.toNat : Int), .int .u8 (y.d.toNat : Int)] 28 (0, 0)) ∧ Sle slE 15 W (some ⟨gE, oE, none⟩) (n) (c) (l)) (by kernel_rfl) ⟨hyb, en⟩ (fun hH => ?_)
      generalize wr.drew = w2 at bel hyb en hH ⊢
      refine wpAnyH_take (i := 0) (v := ?_) rfl (by kernel_rfl) (by kernel_rfl) (by kernel_rfl) (fun _ _ _ h => h) (Or.inl ⟨by rfl, ?_⟩) hH ?_
      rotate_left
      · ((intro W hW; clear hW; go_simp) <;> with_reducible rfl)
      simp only [Act.put, List.getElem_toArray, List.getElem_cons_zero, List.setIfInBounds_toArray, List.set_cons_zero, List.set_cons_succ]
      refine wpAnyH_take (i := 1) (v := ?_) rfl (by kernel_rfl) (by kernel_rfl) (by kernel_rfl) (fun _ _ _ h => h) (Or.inl ⟨by rfl, ?_⟩) hH ?_
      rotate_left
      · ((intro W hW; clear hW; go_simp) <;> with_reducible rfl)
      simp only [sq3, sq4]
      refine wpAnyH_take (i := 2) (v := ?_) rfl (by kernel_rfl) (by kernel_rfl) (by kernel_rfl) (fun _ _ _ h => h) (Or.inl ⟨by rfl, ?_⟩) hH ?_
      rotate_left
      · ((intro W hW; clear hW; go_simp) <;> with_reducible rfl)
      simp only [sq3, sq4]
      refine wpAnyH_take (i := 3) (v := ?_) rfl (by kernel_rfl) (by kernel_rfl) (by kernel_rfl) (fun _ _ _ h => h) (Or.inl ⟨by rfl, ?_⟩) hH ?_
      rotate_left
      · ((intro W hW; clear hW; go_simp) <;> with_reducible rfl)
      simp only [sq3, sq4]
      refine wpAnyH_take (i := 4) (v := .agg #[.int .u8 (e.m.a.toNat : Int), .int .u8 (e.m.b.toNat : Int), .int .u8 (e.m.c.toNat : Int), .int .u8 (e.m.d.toNat : Int), .int .u8 (e.m.e.toNat : Int), .int .u8 (e.m.f.toNat : Int), .int .u8 (e.ad.a.toNat : Int), .int .u8 (e.ad.b.toNat : Int), .int .u8 (e.ad.c.toNat : Int), .int .u8 (e.ad.d.toNat : Int), .int .i64 e.u, .bool e.fx, .bool e.le, .bool e.rp, .int .i64 e.br]) rfl (by kernel_rfl) (by kernel_rfl) (by kernel_rfl) (fun _ _ _ h => h) (yieldsIf_load_mid (by kernel_rfl) 101 _ rfl gE (oE + q * 15) rfl [.int .u8 (e.m.a.toNat : Int), .int .u8 (e.m.b.toNat : Int), .int .u8 (e.m.c.toNat : Int), .int .u8 (e.m.d.toNat : Int), .int .u8 (e.m.e.toNat : Int), .int .u8 (e.m.f.toNat : Int), .int .u8 (e.ad.a.toNat : Int), .int .u8 (e.ad.b.toNat : Int), .int .u8 (e.ad.c.toNat : Int), .int .u8 (e.ad.d.toNat : Int), .int .i64 e.u, .bool e.fx, .bool e.le, .bool e.rp, .int .i64 e.br] _ (fun W hW => Sle.range0 (hW.2) HX.out 15 [.int .u8 (e.m.a.toNat : Int), .int .u8 (e.m.b.toNat : Int), .int .u8 (e.m.c.toNat : Int), .int .u8 (e.m.d.toNat : Int), .int .u8 (e.m.e.toNat : Int), .int .u8 (e.m.f.toNat : Int), .int .u8 (e.ad.a.toNat : Int), .int .u8 (e.ad.b.toNat : Int), .int .u8 (e.ad.c.toNat : Int), .int .u8 (e.ad.d.toNat : Int), .int .i64 e.u, .bool e.fx, .bool e.le, .bool e.rp, .int .i64 e.br] rfl) Try.underlying101 rfl (by kernel_rfl)) hH ?_
      simp only [sq3, sq4]
      refine wpAnyH_take (i := 5) (v := .agg #[.int .u8 (y.a.toNat : Int), .int .u8 (y.b.toNat : Int), .int .u8 (y.c.toNat : Int), .int .u8 (y.d.toNat : Int)]) rfl (by kernel_rfl) (by kernel_rfl) (by kernel_rfl) (fun _ _ _ h => h) (yieldsIf_load_part (by kernel_rfl) 28 _ rfl g4 0 4 rfl _ 28 (0, 0) (fun W hW => hW.1) _ rfl _ Try.underlying28 rfl (by kernel_rfl)) hH ?_
      simp only [sq3, sq4]
      refine wpAnyH_ready (rs := [6]) (by kernel_rfl) (by simp) ?_
      refine AllReadyH.cons (o := _) rfl (fun K hK => ?_) AllReadyH.nil
      simp only [sq3]
      go_simp
      with_reducible refine (pfindf_any e y _).mono ?_
      rintro e w3 ⟨rfl, b3⟩
      dsimp only
      replace hyb := blk_u hyb b3
      replace en := en.below b3
      replace bel := bel.trans (b3.mono bel.size)
      clear b3
      refine hK.out _ _ ⟨hyb, en⟩ (fun hH4 => ?_)
      clear hK K
      refine wpAnyH_take (i := 7) (v := ?_) rfl (by kernel_rfl) (by kernel_rfl) (by kernel_rfl) (fun _ _ _ h => h) (Or.inl ⟨by rfl, ?_⟩) hH4 ?_
      rotate_left
      · ((intro W hW; clear hW; go_simp) <;> with_reducible rfl)
      simp only [sq3, sq4]
      refine wpAnyH_done (by kernel_rfl) ?_ _
      go_wp2_with fail
      go_roundg (j - (q + 1))
      case measure => have := HGK_.out; omega
      case rel => exact ⟨q + 1, j, rfl, by omega, by omega, SBsLo.step HS.out HX.out h2, H2, by go_num, by go_num, hyb, en, bel⟩
    obtain rfl : i = j := by omega
    replace h : decide (i < i) = false := decide_eq_false (by omega)
    have hp := sbs_at (HL.out ▸ hjn) H1 H2
    have HP := Lib.hid hp
    clear hp
    by_cases h2 : i < n
    rotate_left
    · have HE := Lib.hid (show i = l.length by have := HL.out; omega)
      replace h2 : decide (i < n) = false := decide_eq_false h2
      go_wp2_with fail
      replace bel := bel.drew
      replace hyb : wr.drew.heap[g4]? = _ := hyb
      replace en := en.drew
      refine wp_region_held_drew (S := fun W => W.heap[g4]? = some (.cells #[.int .u8 (y.a.toNat : Int), .int .u8 (y.b.toNat : Int), .int .u8 (y.c.toNat : Int), .int .u8 (y.d.toNat : Int)] 28 (0, 0)) ∧ Sle slE 15 W (some ⟨gE, oE, none⟩) (n) (c) (l)) (by kernel_rfl) ⟨hyb, en⟩ (fun hH => ?_)
      generalize wr.drew = w2 at bel hyb en hH ⊢
      refine wpAnyH_take (i := 0) (v := ?_) rfl (by kernel_rfl) (by kernel_rfl) (by kernel_rfl) (fun _ _ _ h => h) (Or.inl ⟨by rfl, ?_⟩) hH ?_
      rotate_left
      · ((intro W hW; clear hW; go_simp) <;> with_reducible rfl)
      simp only [Act.put, List.getElem_toArray, List.getElem_cons_zero, List.setIfInBounds_toArray, List.set_cons_zero, List.set_cons_succ]
      refine wpAnyH_take (i := 1) (v := ?_) rfl (by kernel_rfl) (by kernel_rfl) (by kernel_rfl) (fun _ _ _ h => h) (Or.inl ⟨by rfl, ?_⟩) hH ?_
      rotate_left
      · ((intro W hW; clear hW; go_simp) <;> with_reducible rfl)
      simp only [sq3, sq4]
      refine wpAnyH_take (i := 2) (v := ?_) rfl (by kernel_rfl) (by kernel_rfl) (by kernel_rfl) (fun _ _ _ h => h) (Or.inl ⟨by rfl, ?_⟩) hH ?_
      rotate_left
      · ((intro W hW; clear hW; go_simp) <;> with_reducible rfl)
      simp only [sq3, sq4]
      refine wpAnyH_take (i := 3) (v := ?_) rfl (by kernel_rfl) (by kernel_rfl) (by kernel_rfl) (fun _ _ _ h => h) (Or.inl ⟨by rfl, ?_⟩) hH ?_
      rotate_left
      · ((intro W hW; clear hW; go_simp) <;> with_reducible rfl)
      simp only [sq3, sq4]
      refine wpAnyH_take (i := 4) (v := ?_) rfl (by kernel_rfl) (by kernel_rfl) (by kernel_rfl) (fun _ _ _ h => h) (Or.inl ⟨by rfl, ?_⟩) hH ?_
      rotate_left
      · ((intro W hW; clear hW; go_simp) <;> with_reducible rfl)
      simp only [sq3, sq4]
      refine wpAnyH_take (i := 5) (v := undef) rfl (by kernel_rfl) (by kernel_rfl) (by kernel_rfl) (fun _ _ _ h => h) (Or.inr ⟨by rfl, rfl⟩) hH ?_
      simp only [sq3, sq4]
      refine wpAnyH_take (i := 6) (v := undef) rfl (by kernel_rfl) (by kernel_rfl) (by kernel_rfl) (fun _ _ _ h => h) (Or.inr ⟨by rfl, rfl⟩) hH ?_
      simp only [sq3, sq4]
      refine wpAnyH_take (i := 7) (v := undef) rfl (by kernel_rfl) (by kernel_rfl) (by kernel_rfl) (fun _ _ _ h => h) (Or.inr ⟨by rfl, rfl⟩) hH ?_
      simp only [sq3, sq4]
      refine wpAnyH_take (i := 8) (v := undef) rfl (by kernel_rfl) (by kernel_rfl) (by kernel_rfl) (fun _ _ _ h => h) (Or.inr ⟨by rfl, rfl⟩) hH ?_
      simp only [sq3, sq4]
      refine wpAnyH_take (i := 9) (v := undef) rfl (by kernel_rfl) (by kernel_rfl) (by kernel_rfl) (fun _ _ _ h => h) (Or.inr ⟨by rfl, rfl⟩) hH ?_
      simp only [sq3, sq4]
      refine wpAnyH_take (i := 10) (v := undef) rfl (by kernel_rfl) (by kernel_rfl) (by kernel_rfl) (fun _ _ _ h => h) (Or.inr ⟨by rfl, rfl⟩) hH ?_
      simp only [sq3, sq4]
      refine wpAnyH_take (i := 11) (v := undef) rfl (by kernel_rfl) (by kernel_rfl) (by kernel_rfl) (fun _ _ _ h => h) (Or.inr ⟨by rfl, rfl⟩) hH ?_
      simp only [sq3, sq4]
      refine wpAnyH_take (i := 12) (v := undef) rfl (by kernel_rfl) (by kernel_rfl) (by kernel_rfl) (fun _ _ _ h => h) (Or.inr ⟨by rfl, rfl⟩) hH ?_
      simp only [sq3, sq4]
      refine wpAnyH_take (i := 13) (v := ?_) rfl (by kernel_rfl) (by kernel_rfl) (by kernel_rfl) (fun _ _ _ h => h) (Or.inl ⟨by rfl, ?_⟩) hH ?_
      rotate_left
      · ((intro W hW; clear hW; go_simp) <;> with_reducible rfl)
      simp only [sq3, sq4]
      refine wpAnyH_take (i := 14) (v := ?_) rfl (by kernel_rfl) (by kernel_rfl) (by kernel_rfl) (fun _ _ _ h => h) (Or.inl ⟨by rfl, ?_⟩) hH ?_
      rotate_left
      · ((intro W hW; clear hW; go_simp) <;> with_reducible rfl)
      simp only [sq3, sq4]
      refine wpAnyH_take (i := 15) (v := ?_) rfl (by kernel_rfl) (by kernel_rfl) (by kernel_rfl) (fun _ _ _ h => h) (Or.inl ⟨by rfl, ?_⟩) hH ?_
      rotate_left
      · ((intro W hW; clear hW; go_simp) <;> with_reducible rfl)
      simp only [sq3, sq4]
      refine wpAnyH_done (by kernel_rfl) ?_ _
      go_wp2_with fail
      exact bodyPost_ret (v := .tuple #[.int .i64 i, .bool false]) (by simp [results, Try.results70, go_sem]) rfl ⟨by rw [HP.out, sfhas_end (HP.out.trans HE.out)], bel⟩
    obtain ⟨e, hx⟩ : ∃ e, l[i]? = some e := ⟨_, List.getElem?_eq_getElem (by have := HL.out; omega)⟩
    have HX := Lib.hid hx
    have hfh : sfhas l y.num = (e.num == y.num) := sfhas_at2 HP.out hx
    have HF := Lib.hid hfh
    have hce := scmpN_eq e.num y.num
    clear hx hfh
    go_wp2_with fail
    replace bel := bel.drew
    replace hyb : wr.drew.heap[g4]? = _ := hyb
    replace en := en.drew
    refine wp_region_held_drew (S := fun W => W.heap[g4]? = some (.cells #[.int .u8 (y.a.toNat : Int), .int .u8 (y.b.toNat : Int), .int .u8 (y.c.toNat : Int), .int .u8 (y.d.toNat : Int)] 28 (0, 0)) ∧ Sle slE 15 W (some ⟨gE, oE, none⟩) (n) (c) (l)) (by kernel_rfl) ⟨hyb, en⟩ (fun hH => ?_)
    generalize wr.drew = w2 at bel hyb en hH ⊢
    refine wpAnyH_take (i := 0) (v := ?_) rfl (by kernel_rfl) (by kernel_rfl) (by kernel_rfl) (fun _ _ _ h => h) (Or.inl ⟨by rfl, ?_⟩) hH ?_
    rotate_left
    · ((intro W hW; clear hW; go_simp) <;> with_reducible rfl)
    simp only [Act.put, List.getElem_toArray, List.getElem_cons_zero, List.setIfInBounds_toArray, List.set_cons_zero, List.set_cons_succ]
    refine wpAnyH_take (i := 1) (v := ?_) rfl (by kernel_rfl) (by kernel_rfl) (by kernel_rfl) (fun _ _ _ h => h) (Or.inl ⟨by rfl, ?_⟩) hH ?_
    rotate_left
    · ((intro W hW; clear hW; go_simp) <;> with_reducible rfl)
    simp only [sq3, sq4]
    refine wpAnyH_take (i := 2) (v := ?_) rfl (by kernel_rfl) (by kernel_rfl) (by kernel_rfl) (fun _ _ _ h => h) (Or.inl ⟨by rfl, ?_⟩) hH ?_
    rotate_left
    · ((intro W hW; clear hW; go_simp) <;> with_reducible rfl)
    simp only [sq3, sq4]
    refine wpAnyH_take (i := 3) (v := ?_) rfl (by kernel_rfl) (by kernel_rfl) (by kernel_rfl) (fun _ _ _ h => h) (Or.inl ⟨by rfl, ?_⟩) hH ?_
    rotate_left
    · ((intro W hW; clear hW; go_simp) <;> with_reducible rfl)
    simp only [sq3, sq4]
    refine wpAnyH_take (i := 4) (v := ?_) rfl (by kernel_rfl) (by kernel_rfl) (by kernel_rfl) (fun _ _ _ h => h) (Or.inl ⟨by rfl, ?_⟩) hH ?_
    rotate_left
    · ((intro W hW; clear hW; go_simp) <;> with_reducible rfl)
    simp only [sq3, sq4]
    refine wpAnyH_take (i := 5) (v := ?_) rfl (by kernel_rfl) (by kernel_rfl) (by kernel_rfl) (fun _ _ _ h => h) (Or.inl ⟨by rfl, ?_⟩) hH ?_
    rotate_left
    · ((intro W hW; clear hW; go_simp) <;> with_reducible rfl)
    simp only [sq3, sq4]
    refine wpAnyH_take (i := 6) (v := ?_) rfl (by kernel_rfl) (by kernel_rfl) (by kernel_rfl) (fun _ _ _ h => h) (Or.inl ⟨by rfl, ?_⟩) hH ?_
    rotate_left
    · ((intro W hW; clear hW; go_simp) <;> with_reducible rfl)
    simp only [sq3, sq4]
    refine wpAnyH_take (i := 7) (v := ?_) rfl (by kernel_rfl) (by kernel_rfl) (by kernel_rfl) (fun _ _ _ h => h) (Or.inl ⟨by rfl, ?_⟩) hH ?_
    rotate_left
    · ((intro W hW; clear hW; go_simp) <;> with_reducible rfl)
    simp only [sq3, sq4]
    refine wpAnyH_take (i := 8) (v := ?_) rfl (by kernel_rfl) (by kernel_rfl) (by kernel_rfl) (fun _ _ _ h => h) (Or.inl ⟨by rfl, ?_⟩) hH ?_
    rotate_left
    · ((intro W hW; clear hW; go_simp) <;> with_reducible rfl)
    simp only [sq3, sq4]
    refine wpAnyH_take (i := 9) (v := .agg #[.int .u8 (e.m.a.toNat : Int), .int .u8 (e.m.b.toNat : Int), .int .u8 (e.m.c.toNat : Int), .int .u8 (e.m.d.toNat : Int), .int .u8 (e.m.e.toNat : Int), .int .u8 (e.m.f.toNat : Int), .int .u8 (e.ad.a.toNat : Int), .int .u8 (e.ad.b.toNat : Int), .int .u8 (e.ad.c.toNat : Int), .int .u8 (e.ad.d.toNat : Int), .int .i64 e.u, .bool e.fx, .bool e.le, .bool e.rp, .int .i64 e.br]) rfl (by kernel_rfl) (by kernel_rfl) (by kernel_rfl) (fun _ _ _ h => h) (yieldsIf_load_mid (by kernel_rfl) 101 _ rfl gE (oE + i * 15) rfl [.int .u8 (e.m.a.toNat : Int), .int .u8 (e.m.b.toNat : Int), .int .u8 (e.m.c.toNat : Int), .int .u8 (e.m.d.toNat : Int), .int .u8 (e.m.e.toNat : Int), .int .u8 (e.m.f.toNat : Int), .int .u8 (e.ad.a.toNat : Int), .int .u8 (e.ad.b.toNat : Int), .int .u8 (e.ad.c.toNat : Int), .int .u8 (e.ad.d.toNat : Int), .int .i64 e.u, .bool e.fx, .bool e.le, .bool e.rp, .int .i64 e.br] _ (fun W hW => Sle.range0 (hW.2) HX.out 15 [.int .u8 (e.m.a.toNat : Int), .int .u8 (e.m.b.toNat : Int), .int .u8 (e.m.c.toNat : Int), .int .u8 (e.m.d.toNat : Int), .int .u8 (e.m.e.toNat : Int), .int .u8 (e.m.f.toNat : Int), .int .u8 (e.ad.a.toNat : Int), .int .u8 (e.ad.b.toNat : Int), .int .u8 (e.ad.c.toNat : Int), .int .u8 (e.ad.d.toNat : Int), .int .i64 e.u, .bool e.fx, .bool e.le, .bool e.rp, .int .i64 e.br] rfl) Try.underlying101 rfl (by kernel_rfl)) hH ?_
    simp only [sq3, sq4]
    refine wpAnyH_take (i := 10) (v := .agg #[.int .u8 (y.a.toNat : Int), .int .u8 (y.b.toNat : Int), .int .u8 (y.c.toNat : Int), .int .u8 (y.d.toNat : Int)]) rfl (by kernel_rfl) (by kernel_rfl) (by kernel_rfl) (fun _ _ _ h => h) (yieldsIf_load_part (by kernel_rfl) 28 _ rfl g4 0 4 rfl _ 28 (0, 0) (fun W hW => hW.1) _ rfl _ Try.underlying28 rfl (by kernel_rfl)) hH ?_
    simp only [sq3, sq4]
    refine wpAnyH_ready (rs := [11]) (by kernel_rfl) (by simp) ?_
    refine AllReadyH.cons (o := _) rfl (fun K hK => ?_) AllReadyH.nil
    simp only [sq3]
    go_simp
    with_reducible refine (pfindf_any e y _).mono ?_
    rintro e w3 ⟨rfl, b3⟩
    dsimp only
    replace hyb := blk_u hyb b3
    replace en := en.below b3
    replace bel := bel.trans (b3.mono bel.size)
    clear b3
    refine hK.out _ _ ⟨hyb, en⟩ (fun hH4 => ?_)
    clear hK K
    refine wpAnyH_take (i := 12) (v := ?_) rfl (by kernel_rfl) (by kernel_rfl) (by kernel_rfl) (fun _ _ _ h => h) (Or.inl ⟨by rfl, ?_⟩) hH4 ?_
    rotate_left
    · ((intro W hW; clear hW; go_simp) <;> with_reducible rfl)
    simp only [sq3, sq4]
    refine wpAnyH_take (i := 13) (v := ?_) rfl (by kernel_rfl) (by kernel_rfl) (by kernel_rfl) (fun _ _ _ h => h) (Or.inl ⟨by rfl, ?_⟩) hH4 ?_
    rotate_left
    · ((intro W hW; clear hW; go_simp) <;> with_reducible rfl)
    simp only [sq3, sq4]
    refine wpAnyH_take (i := 14) (v := ?_) rfl (by kernel_rfl) (by kernel_rfl) (by kernel_rfl) (fun _ _ _ h => h) (Or.inl ⟨by rfl, ?_⟩) hH4 ?_
    rotate_left
    · ((intro W hW; clear hW; go_simp) <;> with_reducible rfl)
    simp only [sq3, sq4]
    refine wpAnyH_take (i := 15) (v := ?_) rfl (by kernel_rfl) (by kernel_rfl) (by kernel_rfl) (fun _ _ _ h => h) (Or.inl ⟨by rfl, ?_⟩) hH4 ?_
    rotate_left
    · ((intro W hW; clear hW; go_simp) <;> with_reducible rfl)
    simp only [sq3, sq4]
    refine wpAnyH_done (by kernel_rfl) ?_ _
    go_wp2_with fail
    exact bodyPost_ret (v := .tuple #[.int .i64 i, .bool (e.num == y.num)]) (by simp [results, Try.results70, go_sem]) rfl ⟨by rw [HP.out, HF.out], bel⟩
set_option linter.unusedVariables false in
set_option linter.unusedSimpArgs false in
set_option maxRecDepth 100000 in
set_option maxHeartbeats 16000000 in
theorem pbs_nil {A : Option Addr} {n c : Nat} {l : List Sd} (y : Ad4) (w : World) (hl : l = []) (hn : n = 0) : Calls Try.prog 70 #[.slice A n c, .agg #[.int .u8 (y.a.toNat : Int), .int .u8 (y.b.toNat : Int), .int .u8 (y.c.toNat : Int), .int .u8 (y.d.toNat : Int)], .func (.func 71) #[] #[]] w fun e w' => e = .returned (.tuple #[.int .i64 (sfpos l y.num : Int), .bool (sfhas l y.num)]) ∧ Below w.heap.size w w' := by
  subst hn
  have HP : Hid (sfpos l y.num = 0) := Lib.hid (by subst hl; rfl)
  have HE := Lib.hid (show 0 = l.length by subst hl; rfl)
  clear hl
  have bel := Below.refl w.heap.size w
  go_enter Try.func70, Try.ntmps70
  go_wp2_with (first | ((with_reducible show wpList _ _ _ (⟨some 4, _, _, _, _, _⟩ :: _) _ _); refine wpList_box_n rfl 28 (.tmp 1) rfl #[.int .u8 (y.a.toNat : Int), .int .u8 (y.b.toNat : Int), .int .u8 (y.c.toNat : Int), .int .u8 (y.d.toNat : Int)] rfl ?_; intro g4 w1 ge lt hh bb; have oyb := Nat.le_trans bel.size ge; replace bel := bel.trans (bb.mono bel.size); have hyb := hh; clear hh lt ge bb))
  refine wp_loop_rounds 1 ?_
  rw [rounds_succ]
  go_wp2_with fail
  replace bel := bel.drew
  replace hyb : w1.drew.heap[g4]? = _ := hyb
  refine wp_region_held_drew (S := fun W => W.heap[g4]? = some (.cells #[.int .u8 (y.a.toNat : Int), .int .u8 (y.b.toNat : Int), .int .u8 (y.c.toNat : Int), .int .u8 (y.d.toNat : Int)] 28 (0, 0))) (by kernel_rfl) hyb (fun hH => ?_)
  generalize w1.drew = w2 at bel hyb hH ⊢
  refine wpAnyH_take (i := 0) (v := ?_) rfl (by kernel_rfl) (by kernel_rfl) (by kernel_rfl) (fun _ _ _ h => h) (Or.inl ⟨by rfl, ?_⟩) hH ?_
  rotate_left
  · ((intro W hW; clear hW; go_simp) <;> with_reducible rfl)
  simp only [Act.put, List.getElem_toArray, List.getElem_cons_zero, List.setIfInBounds_toArray, List.set_cons_zero, List.set_cons_succ]
  refine wpAnyH_take (i := 1) (v := ?_) rfl (by kernel_rfl) (by kernel_rfl) (by kernel_rfl) (fun _ _ _ h => h) (Or.inl ⟨by rfl, ?_⟩) hH ?_
  rotate_left
  · ((intro W hW; clear hW; go_simp) <;> with_reducible rfl)
  simp only [sq3, sq4]
  refine wpAnyH_take (i := 2) (v := ?_) rfl (by kernel_rfl) (by kernel_rfl) (by kernel_rfl) (fun _ _ _ h => h) (Or.inl ⟨by rfl, ?_⟩) hH ?_
  rotate_left
  · ((intro W hW; clear hW; go_simp) <;> with_reducible rfl)
  simp only [sq3, sq4]
  refine wpAnyH_take (i := 3) (v := ?_) rfl (by kernel_rfl) (by kernel_rfl) (by kernel_rfl) (fun _ _ _ h => h) (Or.inl ⟨by rfl, ?_⟩) hH ?_
  rotate_left
  · ((intro W hW; clear hW; go_simp) <;> with_reducible rfl)
  simp only [sq3, sq4]
  refine wpAnyH_take (i := 4) (v := ?_) rfl (by kernel_rfl) (by kernel_rfl) (by kernel_rfl) (fun _ _ _ h => h) (Or.inl ⟨by rfl, ?_⟩) hH ?_
  rotate_left
  · ((intro W hW; clear hW; go_simp) <;> with_reducible rfl)
  simp only [sq3, sq4]
  refine wpAnyH_take (i := 5) (v := undef) rfl (by kernel_rfl) (by kernel_rfl) (by kernel_rfl) (fun _ _ _ h => h) (Or.inr ⟨by rfl, rfl⟩) hH ?_
  simp only [sq3, sq4]
  refine wpAnyH_take (i := 6) (v := undef) rfl (by kernel_rfl) (by kernel_rfl) (by kernel_rfl) (fun _ _ _ h => h) (Or.inr ⟨by rfl, rfl⟩) hH ?_
  simp only [sq3, sq4]
  refine wpAnyH_take (i := 7) (v := undef) rfl (by kernel_rfl) (by kernel_rfl) (by kernel_rfl) (fun _ _ _ h => h) (Or.inr ⟨by rfl, rfl⟩) hH ?_
  simp only [sq3, sq4]
  refine wpAnyH_take (i := 8) (v := undef) rfl (by kernel_rfl) (by kernel_rfl) (by kernel_rfl) (fun _ _ _ h => h) (Or.inr ⟨by rfl, rfl⟩) hH ?_
  simp only [sq3, sq4]
  refine wpAnyH_take (i := 9) (v := undef) rfl (by kernel_rfl) (by kernel_rfl) (by kernel_rfl) (fun _ _ _ h => h) (Or.inr ⟨by rfl, rfl⟩) hH ?_
  simp only [sq3, sq4]
  refine wpAnyH_take (i := 10) (v := undef) rfl (by kernel_rfl) (by kernel_rfl) (by kernel_rfl) (fun _ _ _ h => h) (Or.inr ⟨by rfl, rfl⟩) hH ?_
  simp only [sq3, sq4]
  refine wpAnyH_take (i := 11) (v := undef) rfl (by kernel_rfl) (by kernel_rfl) (by kernel_rfl) (fun _ _ _ h => h) (Or.inr ⟨by rfl, rfl⟩) hH ?_
  simp only [sq3, sq4]
  refine wpAnyH_take (i := 12) (v := undef) rfl (by kernel_rfl) (by kernel_rfl) (by kernel_rfl) (fun _ _ _ h => h) (Or.inr ⟨by rfl, rfl⟩) hH ?_
  simp only [sq3, sq4]
  refine wpAnyH_take (i := 13) (v := ?_) rfl (by kernel_rfl) (by kernel_rfl) (by kernel_rfl) (fun _ _ _ h => h) (Or.inl ⟨by rfl, ?_⟩) hH ?_
  rotate_left
  · ((intro W hW; clear hW; go_simp) <;> with_reducible rfl)
  simp only [sq3, sq4]
  refine wpAnyH_take (i := 14) (v := ?_) rfl (by kernel_rfl) (by kernel_rfl) (by kernel_rfl) (fun _ _ _ h => h) (Or.inl ⟨by rfl, ?_⟩) hH ?_
  rotate_left
  · ((intro W hW; clear hW; go_simp) <;> with_reducible rfl)
  simp only [sq3, sq4]
  refine wpAnyH_take (i := 15) (v := ?_) rfl (by kernel_rfl) (by kernel_rfl) (by kernel_rfl) (fun _ _ _ h => h) (Or.inl ⟨by rfl, ?_⟩) hH ?_
  rotate_left
  · ((intro W hW; clear hW; go_simp) <;> with_reducible rfl)
  simp only [sq3, sq4]
  refine wpAnyH_done (by kernel_rfl) ?_ _
  go_wp2_with fail
  exact bodyPost_ret (v := .tuple #[.int .i64 0, .bool false]) (by simp [results, Try.results70, go_sem]) rfl ⟨by rw [HP.out, sfhas_end (HP.out.trans HE.out)]; rfl, bel⟩
theorem pbs_any {A : Option Addr} {n c : Nat} {l : List Sd} (y : Ad4) (w : World) (en : Sle slE 15 w A n c l) (hS : SSrt l) (h32 : n ≤ 1000) : Calls Try.prog 70 #[.slice A n c, .agg #[.int .u8 (y.a.toNat : Int), .int .u8 (y.b.toNat : Int), .int .u8 (y.c.toNat : Int), .int .u8 (y.d.toNat : Int)], .func (.func 71) #[] #[]] w fun e w' => e = .returned (.tuple #[.int .i64 (sfpos l y.num : Int), .bool (sfhas l y.num)]) ∧ Below w.heap.size w w' := by
  rcases Nat.eq_zero_or_pos n with h0 | h0
  · exact pbs_nil y w (List.eq_nil_of_length_eq_zero (en.1.trans h0)) h0
  · exact pbs_pos y w en hS h0 h32
set_option linter.unusedVariables false in
set_option linter.unusedSimpArgs false in
set_option maxRecDepth 100000 in
set_option maxHeartbeats 16000000 in
theorem pfind_any {gt mb : Nat} {now : Int} {A : Option Addr} {n c : Nat} {l : List Sd} (y : Ad4) (w : World) (htb : w.heap[gt]? = some (.cells #[.int .i64 now, .map (some mb), .slice A n c] 84 (0, 0))) (en : Sle slE 15 w A n c l) (hS : SSrt l) (h32 : n ≤ 1000) : Calls Try.prog 49 #[.pointer (some ⟨gt, 0, none⟩), .agg #[.int .u8 (y.a.toNat : Int), .int .u8 (y.b.toNat : Int), .int .u8 (y.c.toNat : Int), .int .u8 (y.d.toNat : Int)]] w fun e w' => e = .returned (.tuple #[.int .i64 (sfpos l y.num : Int), .bool (sfhas l y.num)]) ∧ Below w.heap.size w w' := by
  have HS := Lib.hid hS
  clear hS
  have bel := Below.refl w.heap.size w
  go_enter Try.func49, Try.ntmps49
  go_wp2_with (first | ((with_reducible show wpList _ _ _ (⟨some 3, _, _, _, _, _⟩ :: _) _ _); refine wpList_box_n rfl 28 (.tmp 1) rfl #[.int .u8 (y.a.toNat : Int), .int .u8 (y.b.toNat : Int), .int .u8 (y.c.toNat : Int), .int .u8 (y.d.toNat : Int)] rfl ?_; intro g3 w1 ge lt hh bb; have d_tb_yb := ne_new (hlt htb) ge; have av_en_yb := en.av_new ge; have oyb := Nat.le_trans bel.size ge; replace htb := blk_u htb bb; replace en := en.below bb; replace bel := bel.trans (bb.mono bel.size); have hyb := hh; clear hh lt ge bb))
  replace bel := bel.drew
  replace htb : w1.drew.heap[gt]? = _ := htb
  replace hyb : w1.drew.heap[g3]? = _ := hyb
  replace en := en.drew
  refine wp_region_held_drew (S := fun W => W.heap[gt]? = some (.cells #[.int .i64 now, .map (some mb), .slice A n c] 84 (0, 0)) ∧ W.heap[g3]? = some (.cells #[.int .u8 (y.a.toNat : Int), .int .u8 (y.b.toNat : Int), .int .u8 (y.c.toNat : Int), .int .u8 (y.d.toNat : Int)] 28 (0, 0))) (by kernel_rfl) ⟨htb, hyb⟩ (fun hH => ?_)
  generalize w1.drew = w2 at bel htb hyb en hH ⊢
  refine wpAnyH_take (i := 0) (v := ?_) rfl (by kernel_rfl) (by kernel_rfl) (by kernel_rfl) (fun _ _ _ h => h) (Or.inl ⟨by rfl, ?_⟩) hH ?_
  rotate_left
  · ((intro W hW; clear hW; go_simp) <;> with_reducible rfl)
  simp only [Act.put, List.getElem_toArray, List.getElem_cons_zero, List.setIfInBounds_toArray, List.set_cons_zero, List.set_cons_succ]
  refine wpAnyH_take (i := 1) (v := ?_) rfl (by kernel_rfl) (by kernel_rfl) (by kernel_rfl) (fun _ _ _ h => h) (Or.inl ⟨by rfl, ?_⟩) hH ?_
  rotate_left
  · ((intro W hW; clear hW; go_simp) <;> with_reducible rfl)
  simp only [sq3, sq4]
  refine wpAnyH_take (i := 2) (v := ?_) rfl (by kernel_rfl) (by kernel_rfl) (by kernel_rfl) (fun _ _ _ h => h) (Or.inl ⟨by rfl, ?_⟩) hH ?_
  rotate_left
  · ((intro W hW; clear hW; go_simp) <;> with_reducible rfl)
  simp only [sq3, sq4]
  refine wpAnyH_take (i := 3) (v := ?_) rfl (by kernel_rfl) (by kernel_rfl) (by kernel_rfl) (fun _ _ _ h => h) (Or.inl ⟨by rfl, ?_⟩) hH ?_
  rotate_left
  · ((intro W hW; have hk := cell_lit (hW.1) 2 _ rfl; clear hW; go_simp) <;> with_reducible rfl)
  simp only [sq3, sq4]
  refine wpAnyH_take (i := 4) (v := .agg #[.int .u8 (y.a.toNat : Int), .int .u8 (y.b.toNat : Int), .int .u8 (y.c.toNat : Int), .int .u8 (y.d.toNat : Int)]) rfl (by kernel_rfl) (by kernel_rfl) (by kernel_rfl) (fun _ _ _ h => h) (yieldsIf_load_part (by kernel_rfl) 28 _ rfl g3 0 4 rfl _ 28 (0, 0) (fun W hW => hW.2) _ rfl _ Try.underlying28 rfl (by kernel_rfl)) hH ?_
  simp only [sq3, sq4]
  refine wpAnyH_ready (rs := [5]) (by kernel_rfl) (by simp) ?_
  refine AllReadyH.cons (o := _) rfl (fun K hK => ?_) AllReadyH.nil
  simp only [sq3]
  go_simp
  with_reducible refine (pbs_any y _ en HS.out h32).mono ?_
  rintro e w3 ⟨rfl, b3⟩
  dsimp only
  replace htb := blk_u htb b3
  replace hyb := blk_u hyb b3
  replace en := en.below b3
  replace bel := bel.trans (b3.mono bel.size)
  clear b3
  refine hK.out _ _ ⟨htb, hyb⟩ (fun hH4 => ?_)
  clear hK K
  refine wpAnyH_take (i := 6) (v := ?_) rfl (by kernel_rfl) (by kernel_rfl) (by kernel_rfl) (fun _ _ _ h => h) (Or.inl ⟨by rfl, ?_⟩) hH4 ?_
  rotate_left
  · ((intro W hW; clear hW; go_simp) <;> with_reducible rfl)
  simp only [sq3, sq4]
  refine wpAnyH_take (i := 7) (v := ?_) rfl (by kernel_rfl) (by kernel_rfl) (by kernel_rfl) (fun _ _ _ h => h) (Or.inl ⟨by rfl, ?_⟩) hH4 ?_
  rotate_left
  · ((intro W hW; clear hW; go_simp) <;> with_reducible rfl)
  simp only [sq3, sq4]
  refine wpAnyH_take (i := 8) (v := ?_) rfl (by kernel_rfl) (by kernel_rfl) (by kernel_rfl) (fun _ _ _ h => h) (Or.inl ⟨by rfl, ?_⟩) hH4 ?_
  rotate_left
  · ((intro W hW; clear hW; go_simp) <;> with_reducible rfl)
  simp only [sq3, sq4]
  refine wpAnyH_take (i := 9) (v := ?_) rfl (by kernel_rfl) (by kernel_rfl) (by kernel_rfl) (fun _ _ _ h => h) (Or.inl ⟨by rfl, ?_⟩) hH4 ?_
  rotate_left
  · ((intro W hW; clear hW; go_simp) <;> with_reducible rfl)
  simp only [sq3, sq4]
  refine wpAnyH_done (by kernel_rfl) ?_ _
  go_wp2_with fail
  exact bodyPost_ret (v := .tuple #[.int .i64 (sfpos l y.num : Int), .bool (sfhas l y.num)]) (by simp [results, Try.results49, go_sem]) rfl ⟨rfl, bel⟩
/-- The search, its answer under names. -/
theorem pfind_is {gt mb : Nat} {now : Int} {A : Option Addr} {n c p : Nat} {b : Bool} {l : List Sd} (y : Ad4) (w : World) (htb : w.heap[gt]? = some (.cells #[.int .i64 now, .map (some mb), .slice A n c] 84 (0, 0))) (en : Sle slE 15 w A n c l) (hS : SSrt l) (h32 : n ≤ 1000) (hp : sfpos l y.num = p) (hb : sfhas l y.num = b) : Calls Try.prog 49 #[.pointer (some ⟨gt, 0, none⟩), .agg #[.int .u8 (y.a.toNat : Int), .int .u8 (y.b.toNat : Int), .int .u8 (y.c.toNat : Int), .int .u8 (y.d.toNat : Int)]] w fun e w' => e = .returned (.tuple #[.int .i64 (p : Int), .bool b]) ∧ Below w.heap.size w w' := by
  rw [← hp, ← hb]
  exact pfind_any y w htb en hS h32
end Go.Proofs.Ytapdmlfjohiekaa
