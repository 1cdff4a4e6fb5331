/- near's remove, removeEldest, add. -/
import Derived.Test.YtfghmckeogajnaaNr4
namespace Go.Proofs.Ytfghmckeogajnaa
open Go.RowKit

theorem Gr2.drew {w w' : World} {g : Nat} {v : Value} (h : Gr2 w w' g v) : Gr2 w w'.drew g v := ⟨h.os, h.tape, h.output, h.size, h.block⟩
set_option linter.unusedVariables false in
set_option linter.unusedSimpArgs false in
set_option maxRecDepth 100000 in
set_option maxHeartbeats 16000000 in
theorem remove_c {lo gt gE n c : Nat} {age now : Int} {l : List En} {i : Nat} (w : World) (hlo : lo ≤ w.heap.size) (otb : lo ≤ gt) (htb : w.heap[gt]? = some (.cells #[.int .i64 age, .int .i64 now, .slice (some ⟨gE, 0, none⟩) n c] 49 (0, 0))) (hown : w.ownsRow lo 52 14 (.slice (some ⟨gE, 0, none⟩) n c) n (l.flatMap enE)) (hi : i < n) : Calls Try.prog 20 #[.pointer (some ⟨gt, 0, none⟩), .int .i64 (i : Int)] w fun e w' => ∃ m, m + 1 = n ∧ e = .returned (.tuple #[]) ∧ w'.heap[gt]? = some (.cells #[.int .i64 age, .int .i64 now, .slice (some ⟨gE, 0, none⟩) m c] 49 (0, 0)) ∧ w'.ownsRow lo 52 14 (.slice (some ⟨gE, 0, none⟩) m c) m ((l.eraseIdx i).flatMap enE) ∧ Gr2 w w' gt (.slice (some ⟨gE, 0, none⟩) n c) := by
  have own := hown
  clear hown
  have off_tb := ofs_type own htb (by decide)
  have hcap := row_cap own
  have HCAP := Lib.hid hcap
  have hl := row_len (by decide) enE_len own
  have HLL := Lib.hid hl
  have HLO := Lib.hid hlo
  clear hcap hl
  have g2 := Gr2.refl w gt (.slice (some ⟨gE, 0, none⟩) n c)
  have i0 : (0 : Int) ≤ i := by omega
  have i1 : (i : Int) < 9223372036854775807 := by have h_ := HCAP.out; unfold maxLen at h_; omega
  have HI := Lib.hid hi
  clear hi
  have bel := Below.refl lo w
  go_enter Try.func20, Try.ntmps20
  have R8 := cell_lit htb 2 _ rfl
  go_wp2_with fail
  clear R8
  with_reducible refine (en_delete _ own HI.out).mono ?_
  rintro e w1 ⟨m, hm, rfl, own_, gw⟩
  replace htb := blk_own (v := .slice (some ⟨gE, 0, none⟩) n c) htb gw off_tb
  replace g2 := g2.trans (Gr2.of_row gw) (fun _ _ h => h)
  replace bel := bel.trans (row_bel gw own (Nat.le_trans hlo bel.size))
  clear own
  have own := own_
  clear own_ gw
  have HM := Lib.hid hm
  clear hm
  go_wp2_with (first | ((with_reducible show wpList _ _ _ (⟨none, Op.store _ (.tmp 14) _, _, _, _, _⟩ :: _) _ _); refine wpList_store_part rfl 47 (.tmp 14) (.tmp 12) rfl gt 2 rfl [.slice (some ⟨gE, 0, none⟩) m c] rfl [.int .i64 age, .int .i64 now, .slice (some ⟨gE, 0, none⟩) n c] 49 htb (by simp) [.int .i64 age, .int .i64 now, .slice (some ⟨gE, 0, none⟩) m c] rfl (by kernel_rfl) (by rfl) ?_; intro w2 hq gr; replace own := owk_off own off_tb gr; replace g2 := g2.trans (Gr2.of_grown gr) (fun _ _ h => h); replace bel := below_grown bel gr otb (Nat.le_trans hlo bel.size); clear htb; have htb := hq; clear hq gr))
  exact bodyPost_end (results_none rfl _ _ _) rfl ⟨m, HM.out, rfl, htb, own, g2⟩
def eldI : Option Nat → Int
  | none => -1
  | some j => j
theorem eldF_none {l : List En} {j : Nat} {e : En} (he : l[j]? = some e) (h : eldF l j = none) : eldF l (j + 1) = if e.k = true then some j else none := by
  rw [eldF, he]
  simp only [eldB, h, Bool.and_true]
theorem eldF_some {l : List En} {j i : Nat} {e x : En} (he : l[j]? = some e) (h : eldF l j = some i) (hx : l[i]? = some x) : eldF l (j + 1) = if (e.k && decide (e.t < x.t)) = true then some j else some i := by
  rw [eldF, he]
  simp only [eldB, h, hx]
set_option linter.unusedVariables false in
set_option linter.unusedSimpArgs false in
set_option maxRecDepth 100000 in
set_option maxHeartbeats 16000000 in
theorem relem_none {lo gt gE n c : Nat} {age now : Int} {l : List En} (w : World) (hlo : lo ≤ w.heap.size) (otb : lo ≤ gt) (htb : w.heap[gt]? = some (.cells #[.int .i64 age, .int .i64 now, .slice (some ⟨gE, 0, none⟩) n c] 49 (0, 0))) (hown : w.ownsRow lo 52 14 (.slice (some ⟨gE, 0, none⟩) n c) n (l.flatMap enE)) (hn : n ≤ 1000) (hE : eldF l n = none) : Calls Try.prog 31 #[.pointer (some ⟨gt, 0, none⟩)] w fun e w' => e = .returned (.bool false) ∧ w'.heap[gt]? = some (.cells #[.int .i64 age, .int .i64 now, .slice (some ⟨gE, 0, none⟩) n c] 49 (0, 0)) ∧ w'.ownsRow lo 52 14 (.slice (some ⟨gE, 0, none⟩) n c) n (l.flatMap enE) ∧ Gr2 w w' gt (.slice (some ⟨gE, 0, none⟩) n c) := by
  have own := hown
  clear hown
  have off_tb := ofs_type own htb (by decide)
  have hcap := row_cap own
  have HCAP := Lib.hid hcap
  have hl := row_len (by decide) enE_len own
  have HLL := Lib.hid hl
  have HLO := Lib.hid hlo
  clear hcap hl
  have g2 := Gr2.refl w gt (.slice (some ⟨gE, 0, none⟩) n c)
  have en := (owk_sle (by decide) enE_len own).1
  have n0 : (0 : Int) ≤ n := by omega
  have n1 : (n : Int) ≤ 1000 := by omega
  have HE := Lib.hid hE
  clear hE
  have bel := Below.refl lo w
  go_enter Try.func31, Try.ntmps31
  have R9 := cell_lit htb 2 _ rfl
  go_wp2_with fail
  clear R9
  go_loopg [11, 3] (n) (fun gk s11 s3 wr => ∃ k : Nat, gk = n - k ∧ k ≤ n ∧ wr.ownsRow lo 52 14 (.slice (some ⟨gE, 0, none⟩) n c) n (l.flatMap enE) ∧ Gr2 w wr gt (.slice (some ⟨gE, 0, none⟩) n c) ∧ s11 = .int .i64 (k : Int) ∧ s3 = .int .i64 (eldI (eldF l k)) ∧ wr.heap[gt]? = some (.cells #[.int .i64 age, .int .i64 now, .slice (some ⟨gE, 0, none⟩) n c] 49 (0, 0)) ∧ Sle enE 14 wr (some ⟨gE, 0, none⟩) (n) (c) (l) ∧ Below lo w wr)
  case atStart => exact ⟨0, Nat.sub_zero _, Nat.zero_le _, own, g2, rfl, rfl, htb, en, bel⟩
  case round =>
    clear own g2 htb en bel
    obtain ⟨k, HGK, hkn, own, g2, rfl, rfl, htb, en, bel⟩ := hrel
    have HGK_ := Lib.hid HGK
    clear HGK
    by_cases h : k < n
    rotate_left
    · obtain rfl : k = n := by omega
      replace h : decide (k < k) = false := decide_eq_false (by omega)
      have hei : eldI (eldF l k) = -1 := by rw [HE.out]; rfl
      go_wp2_with fail
      go_ret
      exact ⟨rfl, htb, own, g2⟩
    obtain ⟨ee, hx⟩ : ∃ ee, l[k]? = some ee := ⟨_, List.getElem?_eq_getElem (by have := HLL.out; omega)⟩
    obtain ⟨ade, te, ke, me, re, wAe, wne, wce⟩ := ee
    have k0 : (0 : Int) ≤ k := by omega
    have k1 : (k : Int) < n := by omega
    have kk : k < n := by omega
    rcases (by decide : ∀ b : Bool, b = false ∨ b = true) ke with rfl | rfl
    · have HV : Hid (eldI (eldF l (k + 1)) = eldI (eldF l k)) := Lib.hid (by rw [eldF, hx]; rfl)
      have HX := Lib.hid hx
      clear hx
      have R15 := Lib.hid (Sle.zrange0 en HX.out 14 [.int .u8 (ade.a.toNat : Int), .int .u8 (ade.b.toNat : Int), .int .u8 (ade.c.toNat : Int), .int .u8 (ade.d.toNat : Int), .int .i64 te, .bool false, .int .u8 (me.a.toNat : Int), .int .u8 (me.b.toNat : Int), .int .u8 (me.c.toNat : Int), .int .u8 (me.d.toNat : Int), .int .u8 (me.e.toNat : Int), .int .u8 (me.f.toNat : Int), .int .i64 re, .slice wAe wne wce] rfl)
      go_wp2_with (first | ((with_reducible show wpList _ _ _ (⟨some 15, _, _, _, _, _⟩ :: _) _ _); refine wpList_load_rng 52 (.tmp 14) rfl (by kernel_rfl) _ _ rfl _ R15.out _ Try.underlying52 rfl (by kernel_rfl) ?_) | ((with_reducible show wpList _ _ _ (⟨some 5, _, _, _, _, _⟩ :: _) _ _); refine wpList_new_a rfl 52 rfl #[.int .u8 0, .int .u8 0, .int .u8 0, .int .u8 0, .int .i64 0, .bool false, .int .u8 0, .int .u8 0, .int .u8 0, .int .u8 0, .int .u8 0, .int .u8 0, .int .i64 0, .slice none 0 0] (by kernel_rfl) ?_; intro g5 w1 ge hh bb; have d_tb_vb := ne_new (hlt htb) ge; have av_en_vb := en.av_new ge; have ovb := Nat.le_trans (Nat.le_trans hlo bel.size) ge; have off_vb := owk_new own ge; have pn_vb := Nat.le_trans g2.size ge; replace htb := blk_u htb bb; replace en := en.below bb; replace own := owk_under own bb; replace g2 := g2.trans (Gr2.of_below bb) (fun _ _ h => h); replace bel := bel.trans (bb.mono (Nat.le_trans hlo bel.size)); have hvb := hh; clear hh ge bb) | ((with_reducible show wpList _ _ _ (⟨none, Op.store _ (.tmp 5) _, _, _, _, _⟩ :: _) _ _); refine wpList_store_blk rfl 52 (.tmp 5) (.tmp 15) rfl g5 rfl _ rfl _ 52 hvb (by rfl) (by kernel_rfl) (by kernel_rfl) ?_; intro w2 hq gr; replace en := en.away av_en_vb gr; replace htb := blk_a htb gr d_tb_vb; replace own := owk_off own off_vb gr; replace g2 := g2.newer gr pn_vb; replace bel := below_grown bel gr ovb (Nat.le_trans hlo bel.size); clear hvb; have hvb := hq; clear hq gr))
      try clear R15
      replace bel := bel.drew
      replace htb : w2.drew.heap[gt]? = _ := htb
      replace hvb : w2.drew.heap[g5]? = _ := hvb
      replace en := en.drew
      replace own := World.ownsRow.drew own
      replace g2 := g2.drew
      refine wp_region_held_drew (S := fun W => W.heap[g5]? = some (.cells #[.int .u8 (ade.a.toNat : Int), .int .u8 (ade.b.toNat : Int), .int .u8 (ade.c.toNat : Int), .int .u8 (ade.d.toNat : Int), .int .i64 te, .bool false, .int .u8 (me.a.toNat : Int), .int .u8 (me.b.toNat : Int), .int .u8 (me.c.toNat : Int), .int .u8 (me.d.toNat : Int), .int .u8 (me.e.toNat : Int), .int .u8 (me.f.toNat : Int), .int .i64 re, .slice wAe wne wce] 52 (0, 0)) ∧ W.heap[gt]? = some (.cells #[.int .i64 age, .int .i64 now, .slice (some ⟨gE, 0, none⟩) n c] 49 (0, 0))) (by kernel_rfl) ⟨hvb, htb⟩ (fun hH => ?_)
      generalize w2.drew = w3 at bel htb hvb en own g2 hH ⊢
      refine wpAnyH_take (i := 0) (v := ?_) rfl (by kernel_rfl) (by kernel_rfl) (by kernel_rfl) (fun _ _ _ h => h) (Or.inl ⟨by rfl, ?_⟩) hH ?_
      rotate_left
      · ((intro W hW; clear hW; go_simp) <;> with_reducible rfl)
      simp only [Act.put, List.getElem_toArray, List.getElem_cons_zero, List.setIfInBounds_toArray, List.set_cons_zero, List.set_cons_succ]
      refine wpAnyH_take (i := 1) (v := ?_) rfl (by kernel_rfl) (by kernel_rfl) (by kernel_rfl) (fun _ _ _ h => h) (Or.inl ⟨by rfl, ?_⟩) hH ?_
      rotate_left
      · ((intro W hW; have hk := cell_lit (hW.1) 5 _ rfl; clear hW; go_simp) <;> with_reducible rfl)
      simp only [Act.put, List.getElem_toArray, List.getElem_cons_zero, List.getElem_cons_succ, List.setIfInBounds_toArray, List.set_cons_zero, List.set_cons_succ]
      refine wpAnyH_take (i := 2) (v := ?_) rfl (by kernel_rfl) (by kernel_rfl) (by kernel_rfl) (fun _ _ _ h => h) (Or.inl ⟨by rfl, ?_⟩) hH ?_
      rotate_left
      · ((intro W hW; clear hW; go_simp) <;> with_reducible rfl)
      simp only [Act.put, List.getElem_toArray, List.getElem_cons_zero, List.getElem_cons_succ, List.setIfInBounds_toArray, List.set_cons_zero, List.set_cons_succ]
      refine wpAnyH_take (i := 3) (v := undef) rfl (by kernel_rfl) (by kernel_rfl) (by kernel_rfl) (fun _ _ _ h => h) (Or.inr ⟨by rfl, rfl⟩) hH ?_
      simp only [Act.put, List.getElem_toArray, List.getElem_cons_zero, List.getElem_cons_succ, List.setIfInBounds_toArray, List.set_cons_zero, List.set_cons_succ]
      refine wpAnyH_take (i := 4) (v := undef) rfl (by kernel_rfl) (by kernel_rfl) (by kernel_rfl) (fun _ _ _ h => h) (Or.inr ⟨by rfl, rfl⟩) hH ?_
      simp only [Act.put, List.getElem_toArray, List.getElem_cons_zero, List.getElem_cons_succ, List.setIfInBounds_toArray, List.set_cons_zero, List.set_cons_succ]
      refine wpAnyH_take (i := 5) (v := undef) rfl (by kernel_rfl) (by kernel_rfl) (by kernel_rfl) (fun _ _ _ h => h) (Or.inr ⟨by rfl, rfl⟩) hH ?_
      simp only [Act.put, List.getElem_toArray, List.getElem_cons_zero, List.getElem_cons_succ, List.setIfInBounds_toArray, List.set_cons_zero, List.set_cons_succ]
      refine wpAnyH_take (i := 6) (v := undef) rfl (by kernel_rfl) (by kernel_rfl) (by kernel_rfl) (fun _ _ _ h => h) (Or.inr ⟨by rfl, rfl⟩) hH ?_
      simp only [Act.put, List.getElem_toArray, List.getElem_cons_zero, List.getElem_cons_succ, List.setIfInBounds_toArray, List.set_cons_zero, List.set_cons_succ]
      refine wpAnyH_take (i := 7) (v := undef) rfl (by kernel_rfl) (by kernel_rfl) (by kernel_rfl) (fun _ _ _ h => h) (Or.inr ⟨by rfl, rfl⟩) hH ?_
      simp only [Act.put, List.getElem_toArray, List.getElem_cons_zero, List.getElem_cons_succ, List.setIfInBounds_toArray, List.set_cons_zero, List.set_cons_succ]
      refine wpAnyH_take (i := 8) (v := undef) rfl (by kernel_rfl) (by kernel_rfl) (by kernel_rfl) (fun _ _ _ h => h) (Or.inr ⟨by rfl, rfl⟩) hH ?_
      simp only [Act.put, List.getElem_toArray, List.getElem_cons_zero, List.getElem_cons_succ, List.setIfInBounds_toArray, List.set_cons_zero, List.set_cons_succ]
      refine wpAnyH_take (i := 9) (v := undef) rfl (by kernel_rfl) (by kernel_rfl) (by kernel_rfl) (fun _ _ _ h => h) (Or.inr ⟨by rfl, rfl⟩) hH ?_
      simp only [Act.put, List.getElem_toArray, List.getElem_cons_zero, List.getElem_cons_succ, List.setIfInBounds_toArray, List.set_cons_zero, List.set_cons_succ]
      refine wpAnyH_take (i := 10) (v := undef) rfl (by kernel_rfl) (by kernel_rfl) (by kernel_rfl) (fun _ _ _ h => h) (Or.inr ⟨by rfl, rfl⟩) hH ?_
      simp only [Act.put, List.getElem_toArray, List.getElem_cons_zero, List.getElem_cons_succ, List.setIfInBounds_toArray, List.set_cons_zero, List.set_cons_succ]
      refine wpAnyH_take (i := 11) (v := undef) rfl (by kernel_rfl) (by kernel_rfl) (by kernel_rfl) (fun _ _ _ h => h) (Or.inr ⟨by rfl, rfl⟩) hH ?_
      simp only [Act.put, List.getElem_toArray, List.getElem_cons_zero, List.getElem_cons_succ, List.setIfInBounds_toArray, List.set_cons_zero, List.set_cons_succ]
      refine wpAnyH_take (i := 12) (v := undef) rfl (by kernel_rfl) (by kernel_rfl) (by kernel_rfl) (fun _ _ _ h => h) (Or.inr ⟨by rfl, rfl⟩) hH ?_
      simp only [Act.put, List.getElem_toArray, List.getElem_cons_zero, List.getElem_cons_succ, List.setIfInBounds_toArray, List.set_cons_zero, List.set_cons_succ]
      refine wpAnyH_take (i := 13) (v := undef) rfl (by kernel_rfl) (by kernel_rfl) (by kernel_rfl) (fun _ _ _ h => h) (Or.inr ⟨by rfl, rfl⟩) hH ?_
      simp only [Act.put, List.getElem_toArray, List.getElem_cons_zero, List.getElem_cons_succ, List.setIfInBounds_toArray, List.set_cons_zero, List.set_cons_succ]
      refine wpAnyH_take (i := 14) (v := undef) rfl (by kernel_rfl) (by kernel_rfl) (by kernel_rfl) (fun _ _ _ h => h) (Or.inr ⟨by rfl, rfl⟩) hH ?_
      simp only [Act.put, List.getElem_toArray, List.getElem_cons_zero, List.getElem_cons_succ, List.setIfInBounds_toArray, List.set_cons_zero, List.set_cons_succ]
      refine wpAnyH_take (i := 15) (v := undef) rfl (by kernel_rfl) (by kernel_rfl) (by kernel_rfl) (fun _ _ _ h => h) (Or.inr ⟨by rfl, rfl⟩) hH ?_
      simp only [Act.put, List.getElem_toArray, List.getElem_cons_zero, List.getElem_cons_succ, List.setIfInBounds_toArray, List.set_cons_zero, List.set_cons_succ]
      refine wpAnyH_take (i := 16) (v := undef) rfl (by kernel_rfl) (by kernel_rfl) (by kernel_rfl) (fun _ _ _ h => h) (Or.inr ⟨by rfl, rfl⟩) hH ?_
      simp only [Act.put, List.getElem_toArray, List.getElem_cons_zero, List.getElem_cons_succ, List.setIfInBounds_toArray, List.set_cons_zero, List.set_cons_succ]
      refine wpAnyH_take (i := 17) (v := undef) rfl (by kernel_rfl) (by kernel_rfl) (by kernel_rfl) (fun _ _ _ h => h) (Or.inr ⟨by rfl, rfl⟩) hH ?_
      simp only [Act.put, List.getElem_toArray, List.getElem_cons_zero, List.getElem_cons_succ, List.setIfInBounds_toArray, List.set_cons_zero, List.set_cons_succ]
      refine wpAnyH_take (i := 18) (v := ?_) rfl (by kernel_rfl) (by kernel_rfl) (by kernel_rfl) (fun _ _ _ h => h) (Or.inl ⟨by rfl, ?_⟩) hH ?_
      rotate_left
      · ((intro W hW; clear hW; go_simp) <;> with_reducible rfl)
      simp only [Act.put, List.getElem_toArray, List.getElem_cons_zero, List.getElem_cons_succ, List.setIfInBounds_toArray, List.set_cons_zero, List.set_cons_succ]
      refine wpAnyH_done (by kernel_rfl) ?_ _
      go_wp2_with fail
      go_roundg (n - (k + 1))
      case measure => have := HGK_.out; omega
      case rel => exact ⟨k + 1, rfl, by omega, own, g2, by go_num, by rw [HV.out], htb, en, bel⟩
    rcases hn : eldF l k with _ | j
    · have HV : Hid (eldI (eldF l (k + 1)) = (k : Int)) := Lib.hid (by rw [eldF_none hx hn]; rfl)
      have hei : eldI none = -1 := rfl
      clear hn
      have HX := Lib.hid hx
      clear hx
      have R15 := Lib.hid (Sle.zrange0 en HX.out 14 [.int .u8 (ade.a.toNat : Int), .int .u8 (ade.b.toNat : Int), .int .u8 (ade.c.toNat : Int), .int .u8 (ade.d.toNat : Int), .int .i64 te, .bool true, .int .u8 (me.a.toNat : Int), .int .u8 (me.b.toNat : Int), .int .u8 (me.c.toNat : Int), .int .u8 (me.d.toNat : Int), .int .u8 (me.e.toNat : Int), .int .u8 (me.f.toNat : Int), .int .i64 re, .slice wAe wne wce] rfl)
      go_wp2_with (first | ((with_reducible show wpList _ _ _ (⟨some 15, _, _, _, _, _⟩ :: _) _ _); refine wpList_load_rng 52 (.tmp 14) rfl (by kernel_rfl) _ _ rfl _ R15.out _ Try.underlying52 rfl (by kernel_rfl) ?_) | ((with_reducible show wpList _ _ _ (⟨some 5, _, _, _, _, _⟩ :: _) _ _); refine wpList_new_a rfl 52 rfl #[.int .u8 0, .int .u8 0, .int .u8 0, .int .u8 0, .int .i64 0, .bool false, .int .u8 0, .int .u8 0, .int .u8 0, .int .u8 0, .int .u8 0, .int .u8 0, .int .i64 0, .slice none 0 0] (by kernel_rfl) ?_; intro g5 w1 ge hh bb; have d_tb_vb := ne_new (hlt htb) ge; have av_en_vb := en.av_new ge; have ovb := Nat.le_trans (Nat.le_trans hlo bel.size) ge; have off_vb := owk_new own ge; have pn_vb := Nat.le_trans g2.size ge; replace htb := blk_u htb bb; replace en := en.below bb; replace own := owk_under own bb; replace g2 := g2.trans (Gr2.of_below bb) (fun _ _ h => h); replace bel := bel.trans (bb.mono (Nat.le_trans hlo bel.size)); have hvb := hh; clear hh ge bb) | ((with_reducible show wpList _ _ _ (⟨none, Op.store _ (.tmp 5) _, _, _, _, _⟩ :: _) _ _); refine wpList_store_blk rfl 52 (.tmp 5) (.tmp 15) rfl g5 rfl _ rfl _ 52 hvb (by rfl) (by kernel_rfl) (by kernel_rfl) ?_; intro w2 hq gr; replace en := en.away av_en_vb gr; replace htb := blk_a htb gr d_tb_vb; replace own := owk_off own off_vb gr; replace g2 := g2.newer gr pn_vb; replace bel := below_grown bel gr ovb (Nat.le_trans hlo bel.size); clear hvb; have hvb := hq; clear hq gr))
      try clear R15
      replace bel := bel.drew
      replace htb : w2.drew.heap[gt]? = _ := htb
      replace hvb : w2.drew.heap[g5]? = _ := hvb
      replace en := en.drew
      replace own := World.ownsRow.drew own
      replace g2 := g2.drew
      refine wp_region_held_drew (S := fun W => W.heap[g5]? = some (.cells #[.int .u8 (ade.a.toNat : Int), .int .u8 (ade.b.toNat : Int), .int .u8 (ade.c.toNat : Int), .int .u8 (ade.d.toNat : Int), .int .i64 te, .bool true, .int .u8 (me.a.toNat : Int), .int .u8 (me.b.toNat : Int), .int .u8 (me.c.toNat : Int), .int .u8 (me.d.toNat : Int), .int .u8 (me.e.toNat : Int), .int .u8 (me.f.toNat : Int), .int .i64 re, .slice wAe wne wce] 52 (0, 0)) ∧ W.heap[gt]? = some (.cells #[.int .i64 age, .int .i64 now, .slice (some ⟨gE, 0, none⟩) n c] 49 (0, 0))) (by kernel_rfl) ⟨hvb, htb⟩ (fun hH => ?_)
      generalize w2.drew = w3 at bel htb hvb en own g2 hH ⊢
      refine wpAnyH_take (i := 0) (v := ?_) rfl (by kernel_rfl) (by kernel_rfl) (by kernel_rfl) (fun _ _ _ h => h) (Or.inl ⟨by rfl, ?_⟩) hH ?_
      rotate_left
      · ((intro W hW; clear hW; go_simp) <;> with_reducible rfl)
      simp only [Act.put, List.getElem_toArray, List.getElem_cons_zero, List.setIfInBounds_toArray, List.set_cons_zero, List.set_cons_succ]
      refine wpAnyH_take (i := 1) (v := ?_) rfl (by kernel_rfl) (by kernel_rfl) (by kernel_rfl) (fun _ _ _ h => h) (Or.inl ⟨by rfl, ?_⟩) hH ?_
      rotate_left
      · ((intro W hW; have hk := cell_lit (hW.1) 5 _ rfl; clear hW; go_simp) <;> with_reducible rfl)
      simp only [Act.put, List.getElem_toArray, List.getElem_cons_zero, List.getElem_cons_succ, List.setIfInBounds_toArray, List.set_cons_zero, List.set_cons_succ]
      refine wpAnyH_take (i := 2) (v := ?_) rfl (by kernel_rfl) (by kernel_rfl) (by kernel_rfl) (fun _ _ _ h => h) (Or.inl ⟨by rfl, ?_⟩) hH ?_
      rotate_left
      · ((intro W hW; clear hW; go_simp) <;> with_reducible rfl)
      simp only [Act.put, List.getElem_toArray, List.getElem_cons_zero, List.getElem_cons_succ, List.setIfInBounds_toArray, List.set_cons_zero, List.set_cons_succ]
      refine wpAnyH_take (i := 3) (v := ?_) rfl (by kernel_rfl) (by kernel_rfl) (by kernel_rfl) (fun _ _ _ h => h) (Or.inl ⟨by rfl, ?_⟩) hH ?_
      rotate_left
      · ((intro W hW; clear hW; go_simp) <;> with_reducible rfl)
      simp only [Act.put, List.getElem_toArray, List.getElem_cons_zero, List.getElem_cons_succ, List.setIfInBounds_toArray, List.set_cons_zero, List.set_cons_succ]
      refine wpAnyH_take (i := 4) (v := ?_) rfl (by kernel_rfl) (by kernel_rfl) (by kernel_rfl) (fun _ _ _ h => h) (Or.inl ⟨by rfl, ?_⟩) hH ?_
      rotate_left
      · ((intro W hW; clear hW; go_simp) <;> with_reducible rfl)
      simp only [Act.put, List.getElem_toArray, List.getElem_cons_zero, List.getElem_cons_succ, List.setIfInBounds_toArray, List.set_cons_zero, List.set_cons_succ]
      refine wpAnyH_take (i := 5) (v := ?_) rfl (by kernel_rfl) (by kernel_rfl) (by kernel_rfl) (fun _ _ _ h => h) (Or.inl ⟨by rfl, ?_⟩) hH ?_
      rotate_left
      · ((intro W hW; clear hW; go_simp) <;> with_reducible rfl)
      simp only [Act.put, List.getElem_toArray, List.getElem_cons_zero, List.getElem_cons_succ, List.setIfInBounds_toArray, List.set_cons_zero, List.set_cons_succ]
      refine wpAnyH_take (i := 6) (v := undef) rfl (by kernel_rfl) (by kernel_rfl) (by kernel_rfl) (fun _ _ _ h => h) (Or.inr ⟨by rfl, rfl⟩) hH ?_
      simp only [Act.put, List.getElem_toArray, List.getElem_cons_zero, List.getElem_cons_succ, List.setIfInBounds_toArray, List.set_cons_zero, List.set_cons_succ]
      refine wpAnyH_take (i := 7) (v := undef) rfl (by kernel_rfl) (by kernel_rfl) (by kernel_rfl) (fun _ _ _ h => h) (Or.inr ⟨by rfl, rfl⟩) hH ?_
      simp only [Act.put, List.getElem_toArray, List.getElem_cons_zero, List.getElem_cons_succ, List.setIfInBounds_toArray, List.set_cons_zero, List.set_cons_succ]
      refine wpAnyH_take (i := 8) (v := undef) rfl (by kernel_rfl) (by kernel_rfl) (by kernel_rfl) (fun _ _ _ h => h) (Or.inr ⟨by rfl, rfl⟩) hH ?_
      simp only [Act.put, List.getElem_toArray, List.getElem_cons_zero, List.getElem_cons_succ, List.setIfInBounds_toArray, List.set_cons_zero, List.set_cons_succ]
      refine wpAnyH_take (i := 9) (v := undef) rfl (by kernel_rfl) (by kernel_rfl) (by kernel_rfl) (fun _ _ _ h => h) (Or.inr ⟨by rfl, rfl⟩) hH ?_
      simp only [Act.put, List.getElem_toArray, List.getElem_cons_zero, List.getElem_cons_succ, List.setIfInBounds_toArray, List.set_cons_zero, List.set_cons_succ]
      refine wpAnyH_take (i := 10) (v := undef) rfl (by kernel_rfl) (by kernel_rfl) (by kernel_rfl) (fun _ _ _ h => h) (Or.inr ⟨by rfl, rfl⟩) hH ?_
      simp only [Act.put, List.getElem_toArray, List.getElem_cons_zero, List.getElem_cons_succ, List.setIfInBounds_toArray, List.set_cons_zero, List.set_cons_succ]
      refine wpAnyH_take (i := 11) (v := undef) rfl (by kernel_rfl) (by kernel_rfl) (by kernel_rfl) (fun _ _ _ h => h) (Or.inr ⟨by rfl, rfl⟩) hH ?_
      simp only [Act.put, List.getElem_toArray, List.getElem_cons_zero, List.getElem_cons_succ, List.setIfInBounds_toArray, List.set_cons_zero, List.set_cons_succ]
      refine wpAnyH_take (i := 12) (v := undef) rfl (by kernel_rfl) (by kernel_rfl) (by kernel_rfl) (fun _ _ _ h => h) (Or.inr ⟨by rfl, rfl⟩) hH ?_
      simp only [Act.put, List.getElem_toArray, List.getElem_cons_zero, List.getElem_cons_succ, List.setIfInBounds_toArray, List.set_cons_zero, List.set_cons_succ]
      refine wpAnyH_take (i := 13) (v := undef) rfl (by kernel_rfl) (by kernel_rfl) (by kernel_rfl) (fun _ _ _ h => h) (Or.inr ⟨by rfl, rfl⟩) hH ?_
      simp only [Act.put, List.getElem_toArray, List.getElem_cons_zero, List.getElem_cons_succ, List.setIfInBounds_toArray, List.set_cons_zero, List.set_cons_succ]
      refine wpAnyH_take (i := 14) (v := undef) rfl (by kernel_rfl) (by kernel_rfl) (by kernel_rfl) (fun _ _ _ h => h) (Or.inr ⟨by rfl, rfl⟩) hH ?_
      simp only [Act.put, List.getElem_toArray, List.getElem_cons_zero, List.getElem_cons_succ, List.setIfInBounds_toArray, List.set_cons_zero, List.set_cons_succ]
      refine wpAnyH_take (i := 15) (v := undef) rfl (by kernel_rfl) (by kernel_rfl) (by kernel_rfl) (fun _ _ _ h => h) (Or.inr ⟨by rfl, rfl⟩) hH ?_
      simp only [Act.put, List.getElem_toArray, List.getElem_cons_zero, List.getElem_cons_succ, List.setIfInBounds_toArray, List.set_cons_zero, List.set_cons_succ]
      refine wpAnyH_take (i := 16) (v := undef) rfl (by kernel_rfl) (by kernel_rfl) (by kernel_rfl) (fun _ _ _ h => h) (Or.inr ⟨by rfl, rfl⟩) hH ?_
      simp only [Act.put, List.getElem_toArray, List.getElem_cons_zero, List.getElem_cons_succ, List.setIfInBounds_toArray, List.set_cons_zero, List.set_cons_succ]
      refine wpAnyH_take (i := 17) (v := ?_) rfl (by kernel_rfl) (by kernel_rfl) (by kernel_rfl) (fun _ _ _ h => h) (Or.inl ⟨by rfl, ?_⟩) hH ?_
      rotate_left
      · ((intro W hW; clear hW; go_simp) <;> with_reducible rfl)
      simp only [Act.put, List.getElem_toArray, List.getElem_cons_zero, List.getElem_cons_succ, List.setIfInBounds_toArray, List.set_cons_zero, List.set_cons_succ]
      refine wpAnyH_take (i := 18) (v := ?_) rfl (by kernel_rfl) (by kernel_rfl) (by kernel_rfl) (fun _ _ _ h => h) (Or.inl ⟨by rfl, ?_⟩) hH ?_
      rotate_left
      · ((intro W hW; clear hW; go_simp) <;> with_reducible rfl)
      simp only [Act.put, List.getElem_toArray, List.getElem_cons_zero, List.getElem_cons_succ, List.setIfInBounds_toArray, List.set_cons_zero, List.set_cons_succ]
      refine wpAnyH_done (by kernel_rfl) ?_ _
      go_wp2_with fail
      go_roundg (n - (k + 1))
      case measure => have := HGK_.out; omega
      case rel => exact ⟨k + 1, rfl, by omega, own, g2, by go_num, by rw [HV.out], htb, en, bel⟩
    have hj := hn
    clear hn
    have hjk := eldF_lt l k j (by have := HLL.out; omega) hj
    obtain ⟨x, hxj⟩ : ∃ x, l[j]? = some x := ⟨_, List.getElem?_eq_getElem (by have := HLL.out; omega)⟩
    have hei : eldI (some j) = (j : Int) := rfl
    have j0 : decide ((j : Int) < 0) = false := decide_eq_false (by omega)
    have j1 : (0 : Int) ≤ j := by omega
    have j2 : (j : Int) < n := by omega
    by_cases hte : te < x.t
    · have HV : Hid (eldI (eldF l (k + 1)) = (k : Int)) := Lib.hid (by rw [eldF_some hx hj hxj, if_pos (by simpa using hte)]; rfl)
      have HXJ := Lib.hid hxj
      clear hxj hj hjk
      have HX := Lib.hid hx
      clear hx
      have R15 := Lib.hid (Sle.zrange0 en HX.out 14 [.int .u8 (ade.a.toNat : Int), .int .u8 (ade.b.toNat : Int), .int .u8 (ade.c.toNat : Int), .int .u8 (ade.d.toNat : Int), .int .i64 te, .bool true, .int .u8 (me.a.toNat : Int), .int .u8 (me.b.toNat : Int), .int .u8 (me.c.toNat : Int), .int .u8 (me.d.toNat : Int), .int .u8 (me.e.toNat : Int), .int .u8 (me.f.toNat : Int), .int .i64 re, .slice wAe wne wce] rfl)
      go_wp2_with (first | ((with_reducible show wpList _ _ _ (⟨some 15, _, _, _, _, _⟩ :: _) _ _); refine wpList_load_rng 52 (.tmp 14) rfl (by kernel_rfl) _ _ rfl _ R15.out _ Try.underlying52 rfl (by kernel_rfl) ?_) | ((with_reducible show wpList _ _ _ (⟨some 5, _, _, _, _, _⟩ :: _) _ _); refine wpList_new_a rfl 52 rfl #[.int .u8 0, .int .u8 0, .int .u8 0, .int .u8 0, .int .i64 0, .bool false, .int .u8 0, .int .u8 0, .int .u8 0, .int .u8 0, .int .u8 0, .int .u8 0, .int .i64 0, .slice none 0 0] (by kernel_rfl) ?_; intro g5 w1 ge hh bb; have d_tb_vb := ne_new (hlt htb) ge; have av_en_vb := en.av_new ge; have ovb := Nat.le_trans (Nat.le_trans hlo bel.size) ge; have off_vb := owk_new own ge; have pn_vb := Nat.le_trans g2.size ge; replace htb := blk_u htb bb; replace en := en.below bb; replace own := owk_under own bb; replace g2 := g2.trans (Gr2.of_below bb) (fun _ _ h => h); replace bel := bel.trans (bb.mono (Nat.le_trans hlo bel.size)); have hvb := hh; clear hh ge bb) | ((with_reducible show wpList _ _ _ (⟨none, Op.store _ (.tmp 5) _, _, _, _, _⟩ :: _) _ _); refine wpList_store_blk rfl 52 (.tmp 5) (.tmp 15) rfl g5 rfl _ rfl _ 52 hvb (by rfl) (by kernel_rfl) (by kernel_rfl) ?_; intro w2 hq gr; replace en := en.away av_en_vb gr; replace htb := blk_a htb gr d_tb_vb; replace own := owk_off own off_vb gr; replace g2 := g2.newer gr pn_vb; replace bel := below_grown bel gr ovb (Nat.le_trans hlo bel.size); clear hvb; have hvb := hq; clear hq gr))
      try clear R15
      replace bel := bel.drew
      replace htb : w2.drew.heap[gt]? = _ := htb
      replace hvb : w2.drew.heap[g5]? = _ := hvb
      replace en := en.drew
      replace own := World.ownsRow.drew own
      replace g2 := g2.drew
      refine wp_region_held_drew (S := fun W => W.heap[g5]? = some (.cells #[.int .u8 (ade.a.toNat : Int), .int .u8 (ade.b.toNat : Int), .int .u8 (ade.c.toNat : Int), .int .u8 (ade.d.toNat : Int), .int .i64 te, .bool true, .int .u8 (me.a.toNat : Int), .int .u8 (me.b.toNat : Int), .int .u8 (me.c.toNat : Int), .int .u8 (me.d.toNat : Int), .int .u8 (me.e.toNat : Int), .int .u8 (me.f.toNat : Int), .int .i64 re, .slice wAe wne wce] 52 (0, 0)) ∧ W.heap[gt]? = some (.cells #[.int .i64 age, .int .i64 now, .slice (some ⟨gE, 0, none⟩) n c] 49 (0, 0)) ∧ Sle enE 14 W (some ⟨gE, 0, none⟩) (n) (c) (l)) (by kernel_rfl) ⟨hvb, htb, en⟩ (fun hH => ?_)
      generalize w2.drew = w3 at bel htb hvb en own g2 hH ⊢
      refine wpAnyH_take (i := 0) (v := ?_) rfl (by kernel_rfl) (by kernel_rfl) (by kernel_rfl) (fun _ _ _ h => h) (Or.inl ⟨by rfl, ?_⟩) hH ?_
      rotate_left
      · ((intro W hW; clear hW; go_simp) <;> with_reducible rfl)
      simp only [Act.put, List.getElem_toArray, List.getElem_cons_zero, List.setIfInBounds_toArray, List.set_cons_zero, List.set_cons_succ]
      refine wpAnyH_take (i := 1) (v := ?_) rfl (by kernel_rfl) (by kernel_rfl) (by kernel_rfl) (fun _ _ _ h => h) (Or.inl ⟨by rfl, ?_⟩) hH ?_
      rotate_left
      · ((intro W hW; have hk := cell_lit (hW.1) 5 _ rfl; clear hW; go_simp) <;> with_reducible rfl)
      simp only [Act.put, List.getElem_toArray, List.getElem_cons_zero, List.getElem_cons_succ, List.setIfInBounds_toArray, List.set_cons_zero, List.set_cons_succ]
      refine wpAnyH_take (i := 2) (v := ?_) rfl (by kernel_rfl) (by kernel_rfl) (by kernel_rfl) (fun _ _ _ h => h) (Or.inl ⟨by rfl, ?_⟩) hH ?_
      rotate_left
      · ((intro W hW; clear hW; go_simp) <;> with_reducible rfl)
      simp only [Act.put, List.getElem_toArray, List.getElem_cons_zero, List.getElem_cons_succ, List.setIfInBounds_toArray, List.set_cons_zero, List.set_cons_succ]
      refine wpAnyH_take (i := 3) (v := ?_) rfl (by kernel_rfl) (by kernel_rfl) (by kernel_rfl) (fun _ _ _ h => h) (Or.inl ⟨by rfl, ?_⟩) hH ?_
      rotate_left
      · ((intro W hW; clear hW; go_simp) <;> with_reducible rfl)
      simp only [Act.put, List.getElem_toArray, List.getElem_cons_zero, List.getElem_cons_succ, List.setIfInBounds_toArray, List.set_cons_zero, List.set_cons_succ]
      refine wpAnyH_take (i := 4) (v := ?_) rfl (by kernel_rfl) (by kernel_rfl) (by kernel_rfl) (fun _ _ _ h => h) (Or.inl ⟨by rfl, ?_⟩) hH ?_
      rotate_left
      · ((intro W hW; clear hW; go_simp) <;> with_reducible rfl)
      simp only [Act.put, List.getElem_toArray, List.getElem_cons_zero, List.getElem_cons_succ, List.setIfInBounds_toArray, List.set_cons_zero, List.set_cons_succ]
      refine wpAnyH_take (i := 5) (v := ?_) rfl (by kernel_rfl) (by kernel_rfl) (by kernel_rfl) (fun _ _ _ h => h) (Or.inl ⟨by rfl, ?_⟩) hH ?_
      rotate_left
      · ((intro W hW; clear hW; go_simp) <;> with_reducible rfl)
      simp only [Act.put, List.getElem_toArray, List.getElem_cons_zero, List.getElem_cons_succ, List.setIfInBounds_toArray, List.set_cons_zero, List.set_cons_succ]
      refine wpAnyH_take (i := 6) (v := ?_) rfl (by kernel_rfl) (by kernel_rfl) (by kernel_rfl) (fun _ _ _ h => h) (Or.inl ⟨by rfl, ?_⟩) hH ?_
      rotate_left
      · ((intro W hW; clear hW; go_simp) <;> with_reducible rfl)
      simp only [Act.put, List.getElem_toArray, List.getElem_cons_zero, List.getElem_cons_succ, List.setIfInBounds_toArray, List.set_cons_zero, List.set_cons_succ]
      refine wpAnyH_take (i := 7) (v := ?_) rfl (by kernel_rfl) (by kernel_rfl) (by kernel_rfl) (fun _ _ _ h => h) (Or.inl ⟨by rfl, ?_⟩) hH ?_
      rotate_left
      · ((intro W hW; have hk := cell_lit (hW.1) 4 _ rfl; clear hW; go_simp) <;> with_reducible rfl)
      simp only [Act.put, List.getElem_toArray, List.getElem_cons_zero, List.getElem_cons_succ, List.setIfInBounds_toArray, List.set_cons_zero, List.set_cons_succ]
      refine wpAnyH_take (i := 8) (v := ?_) rfl (by kernel_rfl) (by kernel_rfl) (by kernel_rfl) (fun _ _ _ h => h) (Or.inl ⟨by rfl, ?_⟩) hH ?_
      rotate_left
      · ((intro W hW; clear hW; go_simp) <;> with_reducible rfl)
      simp only [Act.put, List.getElem_toArray, List.getElem_cons_zero, List.getElem_cons_succ, List.setIfInBounds_toArray, List.set_cons_zero, List.set_cons_succ]
      refine wpAnyH_take (i := 9) (v := ?_) rfl (by kernel_rfl) (by kernel_rfl) (by kernel_rfl) (fun _ _ _ h => h) (Or.inl ⟨by rfl, ?_⟩) hH ?_
      rotate_left
      · ((intro W hW; clear hW; go_simp) <;> with_reducible rfl)
      simp only [Act.put, List.getElem_toArray, List.getElem_cons_zero, List.getElem_cons_succ, List.setIfInBounds_toArray, List.set_cons_zero, List.set_cons_succ]
      refine wpAnyH_take (i := 10) (v := ?_) rfl (by kernel_rfl) (by kernel_rfl) (by kernel_rfl) (fun _ _ _ h => h) (Or.inl ⟨by rfl, ?_⟩) hH ?_
      rotate_left
      · ((intro W hW; clear hW; go_simp) <;> with_reducible rfl)
      simp only [Act.put, List.getElem_toArray, List.getElem_cons_zero, List.getElem_cons_succ, List.setIfInBounds_toArray, List.set_cons_zero, List.set_cons_succ]
      refine wpAnyH_take (i := 11) (v := ?_) rfl (by kernel_rfl) (by kernel_rfl) (by kernel_rfl) (fun _ _ _ h => h) (Or.inl ⟨by rfl, ?_⟩) hH ?_
      rotate_left
      · ((intro W hW; have hk := cell_lit (hW.2.1) 2 _ rfl; clear hW; go_simp) <;> with_reducible rfl)
      simp only [Act.put, List.getElem_toArray, List.getElem_cons_zero, List.getElem_cons_succ, List.setIfInBounds_toArray, List.set_cons_zero, List.set_cons_succ]
      refine wpAnyH_take (i := 12) (v := ?_) rfl (by kernel_rfl) (by kernel_rfl) (by kernel_rfl) (fun _ _ _ h => h) (Or.inl ⟨by rfl, ?_⟩) hH ?_
      rotate_left
      · ((intro W hW; clear hW; go_simp) <;> with_reducible rfl)
      simp only [Act.put, List.getElem_toArray, List.getElem_cons_zero, List.getElem_cons_succ, List.setIfInBounds_toArray, List.set_cons_zero, List.set_cons_succ]
      refine wpAnyH_take (i := 13) (v := ?_) rfl (by kernel_rfl) (by kernel_rfl) (by kernel_rfl) (fun _ _ _ h => h) (Or.inl ⟨by rfl, ?_⟩) hH ?_
      rotate_left
      · ((intro W hW; clear hW; go_simp) <;> with_reducible rfl)
      simp only [Act.put, List.getElem_toArray, List.getElem_cons_zero, List.getElem_cons_succ, List.setIfInBounds_toArray, List.set_cons_zero, List.set_cons_succ]
      refine wpAnyH_take (i := 14) (v := ?_) rfl (by kernel_rfl) (by kernel_rfl) (by kernel_rfl) (fun _ _ _ h => h) (Or.inl ⟨by rfl, ?_⟩) hH ?_
      rotate_left
      · ((intro W hW; clear hW; go_simp) <;> with_reducible rfl)
      simp only [Act.put, List.getElem_toArray, List.getElem_cons_zero, List.getElem_cons_succ, List.setIfInBounds_toArray, List.set_cons_zero, List.set_cons_succ]
      refine wpAnyH_take (i := 15) (v := ?_) rfl (by kernel_rfl) (by kernel_rfl) (by kernel_rfl) (fun _ _ _ h => h) (Or.inl ⟨by rfl, ?_⟩) hH ?_
      rotate_left
      · ((intro W hW; have hk := Sle.zcell (hW.2.2) HXJ.out 4 _ rfl; clear hW; go_simp) <;> with_reducible rfl)
      simp only [Act.put, List.getElem_toArray, List.getElem_cons_zero, List.getElem_cons_succ, List.setIfInBounds_toArray, List.set_cons_zero, List.set_cons_succ]
      refine wpAnyH_take (i := 16) (v := ?_) rfl (by kernel_rfl) (by kernel_rfl) (by kernel_rfl) (fun _ _ _ h => h) (Or.inl ⟨by rfl, ?_⟩) hH ?_
      rotate_left
      · ((intro W hW; clear hW; go_simp) <;> with_reducible rfl)
      simp only [Act.put, List.getElem_toArray, List.getElem_cons_zero, List.getElem_cons_succ, List.setIfInBounds_toArray, List.set_cons_zero, List.set_cons_succ]
      refine wpAnyH_take (i := 17) (v := ?_) rfl (by kernel_rfl) (by kernel_rfl) (by kernel_rfl) (fun _ _ _ h => h) (Or.inl ⟨by rfl, ?_⟩) hH ?_
      rotate_left
      · ((intro W hW; clear hW; go_simp) <;> with_reducible rfl)
      simp only [Act.put, List.getElem_toArray, List.getElem_cons_zero, List.getElem_cons_succ, List.setIfInBounds_toArray, List.set_cons_zero, List.set_cons_succ]
      refine wpAnyH_take (i := 18) (v := ?_) rfl (by kernel_rfl) (by kernel_rfl) (by kernel_rfl) (fun _ _ _ h => h) (Or.inl ⟨by rfl, ?_⟩) hH ?_
      rotate_left
      · ((intro W hW; clear hW; go_simp) <;> with_reducible rfl)
      simp only [Act.put, List.getElem_toArray, List.getElem_cons_zero, List.getElem_cons_succ, List.setIfInBounds_toArray, List.set_cons_zero, List.set_cons_succ]
      refine wpAnyH_done (by kernel_rfl) ?_ _
      go_wp2_with fail
      go_roundg (n - (k + 1))
      case measure => have := HGK_.out; omega
      case rel => exact ⟨k + 1, rfl, by omega, own, g2, by go_num, by rw [HV.out], htb, en, bel⟩
    have HV : Hid (eldI (eldF l (k + 1)) = (j : Int)) := Lib.hid (by rw [eldF_some hx hj hxj, if_neg (by simpa using hte)]; rfl)
    replace hte : decide (te < x.t) = false := decide_eq_false hte
    have HXJ := Lib.hid hxj
    clear hxj hj hjk
    have HX := Lib.hid hx
    clear hx
    have R15 := Lib.hid (Sle.zrange0 en HX.out 14 [.int .u8 (ade.a.toNat : Int), .int .u8 (ade.b.toNat : Int), .int .u8 (ade.c.toNat : Int), .int .u8 (ade.d.toNat : Int), .int .i64 te, .bool true, .int .u8 (me.a.toNat : Int), .int .u8 (me.b.toNat : Int), .int .u8 (me.c.toNat : Int), .int .u8 (me.d.toNat : Int), .int .u8 (me.e.toNat : Int), .int .u8 (me.f.toNat : Int), .int .i64 re, .slice wAe wne wce] rfl)
    go_wp2_with (first | ((with_reducible show wpList _ _ _ (⟨some 15, _, _, _, _, _⟩ :: _) _ _); refine wpList_load_rng 52 (.tmp 14) rfl (by kernel_rfl) _ _ rfl _ R15.out _ Try.underlying52 rfl (by kernel_rfl) ?_) | ((with_reducible show wpList _ _ _ (⟨some 5, _, _, _, _, _⟩ :: _) _ _); refine wpList_new_a rfl 52 rfl #[.int .u8 0, .int .u8 0, .int .u8 0, .int .u8 0, .int .i64 0, .bool false, .int .u8 0, .int .u8 0, .int .u8 0, .int .u8 0, .int .u8 0, .int .u8 0, .int .i64 0, .slice none 0 0] (by kernel_rfl) ?_; intro g5 w1 ge hh bb; have d_tb_vb := ne_new (hlt htb) ge; have av_en_vb := en.av_new ge; have ovb := Nat.le_trans (Nat.le_trans hlo bel.size) ge; have off_vb := owk_new own ge; have pn_vb := Nat.le_trans g2.size ge; replace htb := blk_u htb bb; replace en := en.below bb; replace own := owk_under own bb; replace g2 := g2.trans (Gr2.of_below bb) (fun _ _ h => h); replace bel := bel.trans (bb.mono (Nat.le_trans hlo bel.size)); have hvb := hh; clear hh ge bb) | ((with_reducible show wpList _ _ _ (⟨none, Op.store _ (.tmp 5) _, _, _, _, _⟩ :: _) _ _); refine wpList_store_blk rfl 52 (.tmp 5) (.tmp 15) rfl g5 rfl _ rfl _ 52 hvb (by rfl) (by kernel_rfl) (by kernel_rfl) ?_; intro w2 hq gr; replace en := en.away av_en_vb gr; replace htb := blk_a htb gr d_tb_vb; replace own := owk_off own off_vb gr; replace g2 := g2.newer gr pn_vb; replace bel := below_grown bel gr ovb (Nat.le_trans hlo bel.size); clear hvb; have hvb := hq; clear hq gr))
    try clear R15
    replace bel := bel.drew
    replace htb : w2.drew.heap[gt]? = _ := htb
    replace hvb : w2.drew.heap[g5]? = _ := hvb
    replace en := en.drew
    replace own := World.ownsRow.drew own
    replace g2 := g2.drew
    refine wp_region_held_drew (S := fun W => W.heap[g5]? = some (.cells #[.int .u8 (ade.a.toNat : Int), .int .u8 (ade.b.toNat : Int), .int .u8 (ade.c.toNat : Int), .int .u8 (ade.d.toNat : Int), .int .i64 te, .bool true, .int .u8 (me.a.toNat : Int), .int .u8 (me.b.toNat : Int), .int .u8 (me.c.toNat : Int), .int .u8 (me.d.toNat : Int), .int .u8 (me.e.toNat : Int), .int .u8 (me.f.toNat : Int), .int .i64 re, .slice wAe wne wce] 52 (0, 0)) ∧ W.heap[gt]? = some (.cells #[.int .i64 age, .int .i64 now, .slice (some ⟨gE, 0, none⟩) n c] 49 (0, 0)) ∧ Sle enE 14 W (some ⟨gE, 0, none⟩) (n) (c) (l)) (by kernel_rfl) ⟨hvb, htb, en⟩ (fun hH => ?_)
    generalize w2.drew = w3 at bel htb hvb en own g2 hH ⊢
    refine wpAnyH_take (i := 0) (v := ?_) rfl (by kernel_rfl) (by kernel_rfl) (by kernel_rfl) (fun _ _ _ h => h) (Or.inl ⟨by rfl, ?_⟩) hH ?_
    rotate_left
    · ((intro W hW; clear hW; go_simp) <;> with_reducible rfl)
    simp only [Act.put, List.getElem_toArray, List.getElem_cons_zero, List.setIfInBounds_toArray, List.set_cons_zero, List.set_cons_succ]
    refine wpAnyH_take (i := 1) (v := ?_) rfl (by kernel_rfl) (by kernel_rfl) (by kernel_rfl) (fun _ _ _ h => h) (Or.inl ⟨by rfl, ?_⟩) hH ?_
    rotate_left
    · ((intro W hW; have hk := cell_lit (hW.1) 5 _ rfl; clear hW; go_simp) <;> with_reducible rfl)
    simp only [Act.put, List.getElem_toArray, List.getElem_cons_zero, List.getElem_cons_succ, List.setIfInBounds_toArray, List.set_cons_zero, List.set_cons_succ]
    refine wpAnyH_take (i := 2) (v := ?_) rfl (by kernel_rfl) (by kernel_rfl) (by kernel_rfl) (fun _ _ _ h => h) (Or.inl ⟨by rfl, ?_⟩) hH ?_
    rotate_left
    · ((intro W hW; clear hW; go_simp) <;> with_reducible rfl)
    simp only [Act.put, List.getElem_toArray, List.getElem_cons_zero, List.getElem_cons_succ, List.setIfInBounds_toArray, List.set_cons_zero, List.set_cons_succ]
    refine wpAnyH_take (i := 3) (v := ?_) rfl (by kernel_rfl) (by kernel_rfl) (by kernel_rfl) (fun _ _ _ h => h) (Or.inl ⟨by rfl, ?_⟩) hH ?_
    rotate_left
    · ((intro W hW; clear hW; go_simp) <;> with_reducible rfl)
    simp only [Act.put, List.getElem_toArray, List.getElem_cons_zero, List.getElem_cons_succ, List.setIfInBounds_toArray, List.set_cons_zero, List.set_cons_succ]
    refine wpAnyH_take (i := 4) (v := ?_) rfl (by kernel_rfl) (by kernel_rfl) (by kernel_rfl) (fun _ _ _ h => h) (Or.inl ⟨by rfl, ?_⟩) hH ?_
    rotate_left
    · ((intro W hW; clear hW; go_simp) <;> with_reducible rfl)
    simp only [Act.put, List.getElem_toArray, List.getElem_cons_zero, List.getElem_cons_succ, List.setIfInBounds_toArray, List.set_cons_zero, List.set_cons_succ]
    refine wpAnyH_take (i := 5) (v := ?_) rfl (by kernel_rfl) (by kernel_rfl) (by kernel_rfl) (fun _ _ _ h => h) (Or.inl ⟨by rfl, ?_⟩) hH ?_
    rotate_left
    · ((intro W hW; clear hW; go_simp) <;> with_reducible rfl)
    simp only [Act.put, List.getElem_toArray, List.getElem_cons_zero, List.getElem_cons_succ, List.setIfInBounds_toArray, List.set_cons_zero, List.set_cons_succ]
    refine wpAnyH_take (i := 6) (v := ?_) rfl (by kernel_rfl) (by kernel_rfl) (by kernel_rfl) (fun _ _ _ h => h) (Or.inl ⟨by rfl, ?_⟩) hH ?_
    rotate_left
    · ((intro W hW; clear hW; go_simp) <;> with_reducible rfl)
    simp only [Act.put, List.getElem_toArray, List.getElem_cons_zero, List.getElem_cons_succ, List.setIfInBounds_toArray, List.set_cons_zero, List.set_cons_succ]
    refine wpAnyH_take (i := 7) (v := ?_) rfl (by kernel_rfl) (by kernel_rfl) (by kernel_rfl) (fun _ _ _ h => h) (Or.inl ⟨by rfl, ?_⟩) hH ?_
    rotate_left
    · ((intro W hW; have hk := cell_lit (hW.1) 4 _ rfl; clear hW; go_simp) <;> with_reducible rfl)
    simp only [Act.put, List.getElem_toArray, List.getElem_cons_zero, List.getElem_cons_succ, List.setIfInBounds_toArray, List.set_cons_zero, List.set_cons_succ]
    refine wpAnyH_take (i := 8) (v := ?_) rfl (by kernel_rfl) (by kernel_rfl) (by kernel_rfl) (fun _ _ _ h => h) (Or.inl ⟨by rfl, ?_⟩) hH ?_
    rotate_left
    · ((intro W hW; clear hW; go_simp) <;> with_reducible rfl)
    simp only [Act.put, List.getElem_toArray, List.getElem_cons_zero, List.getElem_cons_succ, List.setIfInBounds_toArray, List.set_cons_zero, List.set_cons_succ]
    refine wpAnyH_take (i := 9) (v := ?_) rfl (by kernel_rfl) (by kernel_rfl) (by kernel_rfl) (fun _ _ _ h => h) (Or.inl ⟨by rfl, ?_⟩) hH ?_
    rotate_left
    · ((intro W hW; clear hW; go_simp) <;> with_reducible rfl)
    simp only [Act.put, List.getElem_toArray, List.getElem_cons_zero, List.getElem_cons_succ, List.setIfInBounds_toArray, List.set_cons_zero, List.set_cons_succ]
    refine wpAnyH_take (i := 10) (v := ?_) rfl (by kernel_rfl) (by kernel_rfl) (by kernel_rfl) (fun _ _ _ h => h) (Or.inl ⟨by rfl, ?_⟩) hH ?_
    rotate_left
    · ((intro W hW; clear hW; go_simp) <;> with_reducible rfl)
    simp only [Act.put, List.getElem_toArray, List.getElem_cons_zero, List.getElem_cons_succ, List.setIfInBounds_toArray, List.set_cons_zero, List.set_cons_succ]
    refine wpAnyH_take (i := 11) (v := ?_) rfl (by kernel_rfl) (by kernel_rfl) (by kernel_rfl) (fun _ _ _ h => h) (Or.inl ⟨by rfl, ?_⟩) hH ?_
    rotate_left
    · ((intro W hW; have hk := cell_lit (hW.2.1) 2 _ rfl; clear hW; go_simp) <;> with_reducible rfl)
    simp only [Act.put, List.getElem_toArray, List.getElem_cons_zero, List.getElem_cons_succ, List.setIfInBounds_toArray, List.set_cons_zero, List.set_cons_succ]
    refine wpAnyH_take (i := 12) (v := ?_) rfl (by kernel_rfl) (by kernel_rfl) (by kernel_rfl) (fun _ _ _ h => h) (Or.inl ⟨by rfl, ?_⟩) hH ?_
    rotate_left
    · ((intro W hW; clear hW; go_simp) <;> with_reducible rfl)
    simp only [Act.put, List.getElem_toArray, List.getElem_cons_zero, List.getElem_cons_succ, List.setIfInBounds_toArray, List.set_cons_zero, List.set_cons_succ]
    refine wpAnyH_take (i := 13) (v := ?_) rfl (by kernel_rfl) (by kernel_rfl) (by kernel_rfl) (fun _ _ _ h => h) (Or.inl ⟨by rfl, ?_⟩) hH ?_
    rotate_left
    · ((intro W hW; clear hW; go_simp) <;> with_reducible rfl)
    simp only [Act.put, List.getElem_toArray, List.getElem_cons_zero, List.getElem_cons_succ, List.setIfInBounds_toArray, List.set_cons_zero, List.set_cons_succ]
    refine wpAnyH_take (i := 14) (v := ?_) rfl (by kernel_rfl) (by kernel_rfl) (by kernel_rfl) (fun _ _ _ h => h) (Or.inl ⟨by rfl, ?_⟩) hH ?_
    rotate_left
    · ((intro W hW; clear hW; go_simp) <;> with_reducible rfl)
    simp only [Act.put, List.getElem_toArray, List.getElem_cons_zero, List.getElem_cons_succ, List.setIfInBounds_toArray, List.set_cons_zero, List.set_cons_succ]
    refine wpAnyH_take (i := 15) (v := ?_) rfl (by kernel_rfl) (by kernel_rfl) (by kernel_rfl) (fun _ _ _ h => h) (Or.inl ⟨by rfl, ?_⟩) hH ?_
    rotate_left
    · ((intro W hW; have hk := Sle.zcell (hW.2.2) HXJ.out 4 _ rfl; clear hW; go_simp) <;> with_reducible rfl)
    simp only [Act.put, List.getElem_toArray, List.getElem_cons_zero, List.getElem_cons_succ, List.setIfInBounds_toArray, List.set_cons_zero, List.set_cons_succ]
    refine wpAnyH_take (i := 16) (v := ?_) rfl (by kernel_rfl) (by kernel_rfl) (by kernel_rfl) (fun _ _ _ h => h) (Or.inl ⟨by rfl, ?_⟩) hH ?_
    rotate_left
    · ((intro W hW; clear hW; go_simp) <;> with_reducible rfl)
    simp only [Act.put, List.getElem_toArray, List.getElem_cons_zero, List.getElem_cons_succ, List.setIfInBounds_toArray, List.set_cons_zero, List.set_cons_succ]
    refine wpAnyH_take (i := 17) (v := ?_) rfl (by kernel_rfl) (by kernel_rfl) (by kernel_rfl) (fun _ _ _ h => h) (Or.inl ⟨by rfl, ?_⟩) hH ?_
    rotate_left
    · ((intro W hW; clear hW; go_simp) <;> with_reducible rfl)
    simp only [Act.put, List.getElem_toArray, List.getElem_cons_zero, List.getElem_cons_succ, List.setIfInBounds_toArray, List.set_cons_zero, List.set_cons_succ]
    refine wpAnyH_take (i := 18) (v := ?_) rfl (by kernel_rfl) (by kernel_rfl) (by kernel_rfl) (fun _ _ _ h => h) (Or.inl ⟨by rfl, ?_⟩) hH ?_
    rotate_left
    · ((intro W hW; clear hW; go_simp) <;> with_reducible rfl)
    simp only [Act.put, List.getElem_toArray, List.getElem_cons_zero, List.getElem_cons_succ, List.setIfInBounds_toArray, List.set_cons_zero, List.set_cons_succ]
    refine wpAnyH_done (by kernel_rfl) ?_ _
    go_wp2_with fail
    go_roundg (n - (k + 1))
    case measure => have := HGK_.out; omega
    case rel => exact ⟨k + 1, rfl, by omega, own, g2, by go_num, by rw [HV.out], htb, en, bel⟩
set_option linter.unusedVariables false in
set_option linter.unusedSimpArgs false in
set_option maxRecDepth 100000 in
set_option maxHeartbeats 16000000 in
theorem relem_some {lo gt gE n c : Nat} {age now : Int} {l : List En} {j : Nat} (w : World) (hlo : lo ≤ w.heap.size) (otb : lo ≤ gt) (htb : w.heap[gt]? = some (.cells #[.int .i64 age, .int .i64 now, .slice (some ⟨gE, 0, none⟩) n c] 49 (0, 0))) (hown : w.ownsRow lo 52 14 (.slice (some ⟨gE, 0, none⟩) n c) n (l.flatMap enE)) (hn : n ≤ 1000) (hE : eldF l n = some j) : Calls Try.prog 31 #[.pointer (some ⟨gt, 0, none⟩)] w fun e w' => ∃ m, m + 1 = n ∧ e = .returned (.bool true) ∧ w'.heap[gt]? = some (.cells #[.int .i64 age, .int .i64 now, .slice (some ⟨gE, 0, none⟩) m c] 49 (0, 0)) ∧ w'.ownsRow lo 52 14 (.slice (some ⟨gE, 0, none⟩) m c) m ((l.eraseIdx j).flatMap enE) ∧ Gr2 w w' gt (.slice (some ⟨gE, 0, none⟩) n c) := by
  have own := hown
  clear hown
  have off_tb := ofs_type own htb (by decide)
  have hcap := row_cap own
  have HCAP := Lib.hid hcap
  have hl := row_len (by decide) enE_len own
  have HLL := Lib.hid hl
  have HLO := Lib.hid hlo
  clear hcap hl
  have g2 := Gr2.refl w gt (.slice (some ⟨gE, 0, none⟩) n c)
  have en := (owk_sle (by decide) enE_len own).1
  have n0 : (0 : Int) ≤ n := by omega
  have n1 : (n : Int) ≤ 1000 := by omega
  have HE := Lib.hid hE
  clear hE
  have bel := Below.refl lo w
  go_enter Try.func31, Try.ntmps31
  have R9 := cell_lit htb 2 _ rfl
  go_wp2_with fail
  clear R9
  go_loopg [11, 3] (n) (fun gk s11 s3 wr => ∃ k : Nat, gk = n - k ∧ k ≤ n ∧ wr.ownsRow lo 52 14 (.slice (some ⟨gE, 0, none⟩) n c) n (l.flatMap enE) ∧ Gr2 w wr gt (.slice (some ⟨gE, 0, none⟩) n c) ∧ s11 = .int .i64 (k : Int) ∧ s3 = .int .i64 (eldI (eldF l k)) ∧ wr.heap[gt]? = some (.cells #[.int .i64 age, .int .i64 now, .slice (some ⟨gE, 0, none⟩) n c] 49 (0, 0)) ∧ Sle enE 14 wr (some ⟨gE, 0, none⟩) (n) (c) (l) ∧ Below lo w wr)
  case atStart => exact ⟨0, Nat.sub_zero _, Nat.zero_le _, own, g2, rfl, rfl, htb, en, bel⟩
  case round =>
    clear own g2 htb en bel
    obtain ⟨k, HGK, hkn, own, g2, rfl, rfl, htb, en, bel⟩ := hrel
    have HGK_ := Lib.hid HGK
    clear HGK
    by_cases h : k < n
    rotate_left
    · obtain rfl : k = n := by omega
      replace h : decide (k < k) = false := decide_eq_false (by omega)
      have hei : eldI (eldF l k) = (j : Int) := by rw [HE.out]; rfl
      have HJN : Hid (j < k) := Lib.hid (eldF_lt l k j (Nat.le_of_eq HLL.out.symm) HE.out)
      have j1 : (0 : Int) ≤ j := by omega
      have j0 : decide ((j : Int) < 0) = false := decide_eq_false (by omega)
      go_wp2_with fail
      have HLO_ := Nat.le_trans HLO.out bel.size
      with_reducible refine (remove_c _ HLO_ otb htb own HJN.out).mono ?_
      rintro e w1 ⟨m, hm, rfl, htb_, own_, g2_⟩
      clear en
      replace g2 := g2.trans g2_ (fun _ _ h => h)
      replace bel := bel.trans (Gr2.bel g2_ otb own (Nat.le_trans hlo bel.size))
      clear htb own g2_
      have htb := htb_
      have own := own_
      clear htb_ own_
      have HM := Lib.hid hm
      clear hm
      go_wp2_with fail
      go_ret
      exact ⟨m, HM.out, rfl, htb, own, g2⟩
    obtain ⟨ee, hx⟩ : ∃ ee, l[k]? = some ee := ⟨_, List.getElem?_eq_getElem (by have := HLL.out; omega)⟩
    obtain ⟨ade, te, ke, me, re, wAe, wne, wce⟩ := ee
    have k0 : (0 : Int) ≤ k := by omega
    have k1 : (k : Int) < n := by omega
    have kk : k < n := by omega
    rcases (by decide : ∀ b : Bool, b = false ∨ b = true) ke with rfl | rfl
    · have HV : Hid (eldI (eldF l (k + 1)) = eldI (eldF l k)) := Lib.hid (by rw [eldF, hx]; rfl)
      have HX := Lib.hid hx
      clear hx
      have R15 := Lib.hid (Sle.zrange0 en HX.out 14 [.int .u8 (ade.a.toNat : Int), .int .u8 (ade.b.toNat : Int), .int .u8 (ade.c.toNat : Int), .int .u8 (ade.d.toNat : Int), .int .i64 te, .bool false, .int .u8 (me.a.toNat : Int), .int .u8 (me.b.toNat : Int), .int .u8 (me.c.toNat : Int), .int .u8 (me.d.toNat : Int), .int .u8 (me.e.toNat : Int), .int .u8 (me.f.toNat : Int), .int .i64 re, .slice wAe wne wce] rfl)
      go_wp2_with (first | ((with_reducible show wpList _ _ _ (⟨some 15, _, _, _, _, _⟩ :: _) _ _); refine wpList_load_rng 52 (.tmp 14) rfl (by kernel_rfl) _ _ rfl _ R15.out _ Try.underlying52 rfl (by kernel_rfl) ?_) | ((with_reducible show wpList _ _ _ (⟨some 5, _, _, _, _, _⟩ :: _) _ _); refine wpList_new_a rfl 52 rfl #[.int .u8 0, .int .u8 0, .int .u8 0, .int .u8 0, .int .i64 0, .bool false, .int .u8 0, .int .u8 0, .int .u8 0, .int .u8 0, .int .u8 0, .int .u8 0, .int .i64 0, .slice none 0 0] (by kernel_rfl) ?_; intro g5 w1 ge hh bb; have d_tb_vb := ne_new (hlt htb) ge; have av_en_vb := en.av_new ge; have ovb := Nat.le_trans (Nat.le_trans hlo bel.size) ge; have off_vb := owk_new own ge; have pn_vb := Nat.le_trans g2.size ge; replace htb := blk_u htb bb; replace en := en.below bb; replace own := owk_under own bb; replace g2 := g2.trans (Gr2.of_below bb) (fun _ _ h => h); replace bel := bel.trans (bb.mono (Nat.le_trans hlo bel.size)); have hvb := hh; clear hh ge bb) | ((with_reducible show wpList _ _ _ (⟨none, Op.store _ (.tmp 5) _, _, _, _, _⟩ :: _) _ _); refine wpList_store_blk rfl 52 (.tmp 5) (.tmp 15) rfl g5 rfl _ rfl _ 52 hvb (by rfl) (by kernel_rfl) (by kernel_rfl) ?_; intro w2 hq gr; replace en := en.away av_en_vb gr; replace htb := blk_a htb gr d_tb_vb; replace own := owk_off own off_vb gr; replace g2 := g2.newer gr pn_vb; replace bel := below_grown bel gr ovb (Nat.le_trans hlo bel.size); clear hvb; have hvb := hq; clear hq gr))
      try clear R15
      replace bel := bel.drew
      replace htb : w2.drew.heap[gt]? = _ := htb
      replace hvb : w2.drew.heap[g5]? = _ := hvb
      replace en := en.drew
      replace own := World.ownsRow.drew own
      replace g2 := g2.drew
      refine wp_region_held_drew (S := fun W => W.heap[g5]? = some (.cells #[.int .u8 (ade.a.toNat : Int), .int .u8 (ade.b.toNat : Int), .int .u8 (ade.c.toNat : Int), .int .u8 (ade.d.toNat : Int), .int .i64 te, .bool false, .int .u8 (me.a.toNat : Int), .int .u8 (me.b.toNat : Int), .int .u8 (me.c.toNat : Int), .int .u8 (me.d.toNat : Int), .int .u8 (me.e.toNat : Int), .int .u8 (me.f.toNat : Int), .int .i64 re, .slice wAe wne wce] 52 (0, 0)) ∧ W.heap[gt]? = some (.cells #[.int .i64 age, .int .i64 now, .slice (some ⟨gE, 0, none⟩) n c] 49 (0, 0))) (by kernel_rfl) ⟨hvb, htb⟩ (fun hH => ?_)
      generalize w2.drew = w3 at bel htb hvb en own g2 hH ⊢
      refine wpAnyH_take (i := 0) (v := ?_) rfl (by kernel_rfl) (by kernel_rfl) (by kernel_rfl) (fun _ _ _ h => h) (Or.inl ⟨by rfl, ?_⟩) hH ?_
      rotate_left
      · ((intro W hW; clear hW; go_simp) <;> with_reducible rfl)
      simp only [Act.put, List.getElem_toArray, List.getElem_cons_zero, List.setIfInBounds_toArray, List.set_cons_zero, List.set_cons_succ]
      refine wpAnyH_take (i := 1) (v := ?_) rfl (by kernel_rfl) (by kernel_rfl) (by kernel_rfl) (fun _ _ _ h => h) (Or.inl ⟨by rfl, ?_⟩) hH ?_
      rotate_left
      · ((intro W hW; have hk := cell_lit (hW.1) 5 _ rfl; clear hW; go_simp) <;> with_reducible rfl)
      simp only [Act.put, List.getElem_toArray, List.getElem_cons_zero, List.getElem_cons_succ, List.setIfInBounds_toArray, List.set_cons_zero, List.set_cons_succ]
      refine wpAnyH_take (i := 2) (v := ?_) rfl (by kernel_rfl) (by kernel_rfl) (by kernel_rfl) (fun _ _ _ h => h) (Or.inl ⟨by rfl, ?_⟩) hH ?_
      rotate_left
      · ((intro W hW; clear hW; go_simp) <;> with_reducible rfl)
      simp only [Act.put, List.getElem_toArray, List.getElem_cons_zero, List.getElem_cons_succ, List.setIfInBounds_toArray, List.set_cons_zero, List.set_cons_succ]
      refine wpAnyH_take (i := 3) (v := undef) rfl (by kernel_rfl) (by kernel_rfl) (by kernel_rfl) (fun _ _ _ h => h) (Or.inr ⟨by rfl, rfl⟩) hH ?_
      simp only [Act.put, List.getElem_toArray, List.getElem_cons_zero, List.getElem_cons_succ, List.setIfInBounds_toArray, List.set_cons_zero, List.set_cons_succ]
      refine wpAnyH_take (i := 4) (v := undef) rfl (by kernel_rfl) (by kernel_rfl) (by kernel_rfl) (fun _ _ _ h => h) (Or.inr ⟨by rfl, rfl⟩) hH ?_
      simp only [Act.put, List.getElem_toArray, List.getElem_cons_zero, List.getElem_cons_succ, List.setIfInBounds_toArray, List.set_cons_zero, List.set_cons_succ]
      refine wpAnyH_take (i := 5) (v := undef) rfl (by kernel_rfl) (by kernel_rfl) (by kernel_rfl) (fun _ _ _ h => h) (Or.inr ⟨by rfl, rfl⟩) hH ?_
      simp only [Act.put, List.getElem_toArray, List.getElem_cons_zero, List.getElem_cons_succ, List.setIfInBounds_toArray, List.set_cons_zero, List.set_cons_succ]
      refine wpAnyH_take (i := 6) (v := undef) rfl (by kernel_rfl) (by kernel_rfl) (by kernel_rfl) (fun _ _ _ h => h) (Or.inr ⟨by rfl, rfl⟩) hH ?_
      simp only [Act.put, List.getElem_toArray, List.getElem_cons_zero, List.getElem_cons_succ, List.setIfInBounds_toArray, List.set_cons_zero, List.set_cons_succ]
      refine wpAnyH_take (i := 7) (v := undef) rfl (by kernel_rfl) (by kernel_rfl) (by kernel_rfl) (fun _ _ _ h => h) (Or.inr ⟨by rfl, rfl⟩) hH ?_
      simp only [Act.put, List.getElem_toArray, List.getElem_cons_zero, List.getElem_cons_succ, List.setIfInBounds_toArray, List.set_cons_zero, List.set_cons_succ]
      refine wpAnyH_take (i := 8) (v := undef) rfl (by kernel_rfl) (by kernel_rfl) (by kernel_rfl) (fun _ _ _ h => h) (Or.inr ⟨by rfl, rfl⟩) hH ?_
      simp only [Act.put, List.getElem_toArray, List.getElem_cons_zero, List.getElem_cons_succ, List.setIfInBounds_toArray, List.set_cons_zero, List.set_cons_succ]
      refine wpAnyH_take (i := 9) (v := undef) rfl (by kernel_rfl) (by kernel_rfl) (by kernel_rfl) (fun _ _ _ h => h) (Or.inr ⟨by rfl, rfl⟩) hH ?_
      simp only [Act.put, List.getElem_toArray, List.getElem_cons_zero, List.getElem_cons_succ, List.setIfInBounds_toArray, List.set_cons_zero, List.set_cons_succ]
      refine wpAnyH_take (i := 10) (v := undef) rfl (by kernel_rfl) (by kernel_rfl) (by kernel_rfl) (fun _ _ _ h => h) (Or.inr ⟨by rfl, rfl⟩) hH ?_
      simp only [Act.put, List.getElem_toArray, List.getElem_cons_zero, List.getElem_cons_succ, List.setIfInBounds_toArray, List.set_cons_zero, List.set_cons_succ]
      refine wpAnyH_take (i := 11) (v := undef) rfl (by kernel_rfl) (by kernel_rfl) (by kernel_rfl) (fun _ _ _ h => h) (Or.inr ⟨by rfl, rfl⟩) hH ?_
      simp only [Act.put, List.getElem_toArray, List.getElem_cons_zero, List.getElem_cons_succ, List.setIfInBounds_toArray, List.set_cons_zero, List.set_cons_succ]
      refine wpAnyH_take (i := 12) (v := undef) rfl (by kernel_rfl) (by kernel_rfl) (by kernel_rfl) (fun _ _ _ h => h) (Or.inr ⟨by rfl, rfl⟩) hH ?_
      simp only [Act.put, List.getElem_toArray, List.getElem_cons_zero, List.getElem_cons_succ, List.setIfInBounds_toArray, List.set_cons_zero, List.set_cons_succ]
      refine wpAnyH_take (i := 13) (v := undef) rfl (by kernel_rfl) (by kernel_rfl) (by kernel_rfl) (fun _ _ _ h => h) (Or.inr ⟨by rfl, rfl⟩) hH ?_
      simp only [Act.put, List.getElem_toArray, List.getElem_cons_zero, List.getElem_cons_succ, List.setIfInBounds_toArray, List.set_cons_zero, List.set_cons_succ]
      refine wpAnyH_take (i := 14) (v := undef) rfl (by kernel_rfl) (by kernel_rfl) (by kernel_rfl) (fun _ _ _ h => h) (Or.inr ⟨by rfl, rfl⟩) hH ?_
      simp only [Act.put, List.getElem_toArray, List.getElem_cons_zero, List.getElem_cons_succ, List.setIfInBounds_toArray, List.set_cons_zero, List.set_cons_succ]
      refine wpAnyH_take (i := 15) (v := undef) rfl (by kernel_rfl) (by kernel_rfl) (by kernel_rfl) (fun _ _ _ h => h) (Or.inr ⟨by rfl, rfl⟩) hH ?_
      simp only [Act.put, List.getElem_toArray, List.getElem_cons_zero, List.getElem_cons_succ, List.setIfInBounds_toArray, List.set_cons_zero, List.set_cons_succ]
      refine wpAnyH_take (i := 16) (v := undef) rfl (by kernel_rfl) (by kernel_rfl) (by kernel_rfl) (fun _ _ _ h => h) (Or.inr ⟨by rfl, rfl⟩) hH ?_
      simp only [Act.put, List.getElem_toArray, List.getElem_cons_zero, List.getElem_cons_succ, List.setIfInBounds_toArray, List.set_cons_zero, List.set_cons_succ]
      refine wpAnyH_take (i := 17) (v := undef) rfl (by kernel_rfl) (by kernel_rfl) (by kernel_rfl) (fun _ _ _ h => h) (Or.inr ⟨by rfl, rfl⟩) hH ?_
      simp only [Act.put, List.getElem_toArray, List.getElem_cons_zero, List.getElem_cons_succ, List.setIfInBounds_toArray, List.set_cons_zero, List.set_cons_succ]
      refine wpAnyH_take (i := 18) (v := ?_) rfl (by kernel_rfl) (by kernel_rfl) (by kernel_rfl) (fun _ _ _ h => h) (Or.inl ⟨by rfl, ?_⟩) hH ?_
      rotate_left
      · ((intro W hW; clear hW; go_simp) <;> with_reducible rfl)
      simp only [Act.put, List.getElem_toArray, List.getElem_cons_zero, List.getElem_cons_succ, List.setIfInBounds_toArray, List.set_cons_zero, List.set_cons_succ]
      refine wpAnyH_done (by kernel_rfl) ?_ _
      go_wp2_with fail
      go_roundg (n - (k + 1))
      case measure => have := HGK_.out; omega
      case rel => exact ⟨k + 1, rfl, by omega, own, g2, by go_num, by rw [HV.out], htb, en, bel⟩
    rcases hn : eldF l k with _ | j
    · have HV : Hid (eldI (eldF l (k + 1)) = (k : Int)) := Lib.hid (by rw [eldF_none hx hn]; rfl)
      have hei : eldI none = -1 := rfl
      clear hn
      have HX := Lib.hid hx
      clear hx
      have R15 := Lib.hid (Sle.zrange0 en HX.out 14 [.int .u8 (ade.a.toNat : Int), .int .u8 (ade.b.toNat : Int), .int .u8 (ade.c.toNat : Int), .int .u8 (ade.d.toNat : Int), .int .i64 te, .bool true, .int .u8 (me.a.toNat : Int), .int .u8 (me.b.toNat : Int), .int .u8 (me.c.toNat : Int), .int .u8 (me.d.toNat : Int), .int .u8 (me.e.toNat : Int), .int .u8 (me.f.toNat : Int), .int .i64 re, .slice wAe wne wce] rfl)
      go_wp2_with (first | ((with_reducible show wpList _ _ _ (⟨some 15, _, _, _, _, _⟩ :: _) _ _); refine wpList_load_rng 52 (.tmp 14) rfl (by kernel_rfl) _ _ rfl _ R15.out _ Try.underlying52 rfl (by kernel_rfl) ?_) | ((with_reducible show wpList _ _ _ (⟨some 5, _, _, _, _, _⟩ :: _) _ _); refine wpList_new_a rfl 52 rfl #[.int .u8 0, .int .u8 0, .int .u8 0, .int .u8 0, .int .i64 0, .bool false, .int .u8 0, .int .u8 0, .int .u8 0, .int .u8 0, .int .u8 0, .int .u8 0, .int .i64 0, .slice none 0 0] (by kernel_rfl) ?_; intro g5 w1 ge hh bb; have d_tb_vb := ne_new (hlt htb) ge; have av_en_vb := en.av_new ge; have ovb := Nat.le_trans (Nat.le_trans hlo bel.size) ge; have off_vb := owk_new own ge; have pn_vb := Nat.le_trans g2.size ge; replace htb := blk_u htb bb; replace en := en.below bb; replace own := owk_under own bb; replace g2 := g2.trans (Gr2.of_below bb) (fun _ _ h => h); replace bel := bel.trans (bb.mono (Nat.le_trans hlo bel.size)); have hvb := hh; clear hh ge bb) | ((with_reducible show wpList _ _ _ (⟨none, Op.store _ (.tmp 5) _, _, _, _, _⟩ :: _) _ _); refine wpList_store_blk rfl 52 (.tmp 5) (.tmp 15) rfl g5 rfl _ rfl _ 52 hvb (by rfl) (by kernel_rfl) (by kernel_rfl) ?_; intro w2 hq gr; replace en := en.away av_en_vb gr; replace htb := blk_a htb gr d_tb_vb; replace own := owk_off own off_vb gr; replace g2 := g2.newer gr pn_vb; replace bel := below_grown bel gr ovb (Nat.le_trans hlo bel.size); clear hvb; have hvb := hq; clear hq gr))
      try clear R15
      replace bel := bel.drew
      replace htb : w2.drew.heap[gt]? = _ := htb
      replace hvb : w2.drew.heap[g5]? = _ := hvb
      replace en := en.drew
      replace own := World.ownsRow.drew own
      replace g2 := g2.drew
      refine wp_region_held_drew (S := fun W => W.heap[g5]? = some (.cells #[.int .u8 (ade.a.toNat : Int), .int .u8 (ade.b.toNat : Int), .int .u8 (ade.c.toNat : Int), .int .u8 (ade.d.toNat : Int), .int .i64 te, .bool true, .int .u8 (me.a.toNat : Int), .int .u8 (me.b.toNat : Int), .int .u8 (me.c.toNat : Int), .int .u8 (me.d.toNat : Int), .int .u8 (me.e.toNat : Int), .int .u8 (me.f.toNat : Int), .int .i64 re, .slice wAe wne wce] 52 (0, 0)) ∧ W.heap[gt]? = some (.cells #[.int .i64 age, .int .i64 now, .slice (some ⟨gE, 0, none⟩) n c] 49 (0, 0))) (by kernel_rfl) ⟨hvb, htb⟩ (fun hH => ?_)
      generalize w2.drew = w3 at bel htb hvb en own g2 hH ⊢
      refine wpAnyH_take (i := 0) (v := ?_) rfl (by kernel_rfl) (by kernel_rfl) (by kernel_rfl) (fun _ _ _ h => h) (Or.inl ⟨by rfl, ?_⟩) hH ?_
      rotate_left
      · ((intro W hW; clear hW; go_simp) <;> with_reducible rfl)
      simp only [Act.put, List.getElem_toArray, List.getElem_cons_zero, List.setIfInBounds_toArray, List.set_cons_zero, List.set_cons_succ]
      refine wpAnyH_take (i := 1) (v := ?_) rfl (by kernel_rfl) (by kernel_rfl) (by kernel_rfl) (fun _ _ _ h => h) (Or.inl ⟨by rfl, ?_⟩) hH ?_
      rotate_left
      · ((intro W hW; have hk := cell_lit (hW.1) 5 _ rfl; clear hW; go_simp) <;> with_reducible rfl)
      simp only [Act.put, List.getElem_toArray, List.getElem_cons_zero, List.getElem_cons_succ, List.setIfInBounds_toArray, List.set_cons_zero, List.set_cons_succ]
      refine wpAnyH_take (i := 2) (v := ?_) rfl (by kernel_rfl) (by kernel_rfl) (by kernel_rfl) (fun _ _ _ h => h) (Or.inl ⟨by rfl, ?_⟩) hH ?_
      rotate_left
      · ((intro W hW; clear hW; go_simp) <;> with_reducible rfl)
      simp only [Act.put, List.getElem_toArray, List.getElem_cons_zero, List.getElem_cons_succ, List.setIfInBounds_toArray, List.set_cons_zero, List.set_cons_succ]
      refine wpAnyH_take (i := 3) (v := ?_) rfl (by kernel_rfl) (by kernel_rfl) (by kernel_rfl) (fun _ _ _ h => h) (Or.inl ⟨by rfl, ?_⟩) hH ?_
      rotate_left
      · ((intro W hW; clear hW; go_simp) <;> with_reducible rfl)
      simp only [Act.put, List.getElem_toArray, List.getElem_cons_zero, List.getElem_cons_succ, List.setIfInBounds_toArray, List.set_cons_zero, List.set_cons_succ]
      refine wpAnyH_take (i := 4) (v := ?_) rfl (by kernel_rfl) (by kernel_rfl) (by kernel_rfl) (fun _ _ _ h => h) (Or.inl ⟨by rfl, ?_⟩) hH ?_
      rotate_left
      · ((intro W hW; clear hW; go_simp) <;> with_reducible rfl)
      simp only [Act.put, List.getElem_toArray, List.getElem_cons_zero, List.getElem_cons_succ, List.setIfInBounds_toArray, List.set_cons_zero, List.set_cons_succ]
      refine wpAnyH_take (i := 5) (v := ?_) rfl (by kernel_rfl) (by kernel_rfl) (by kernel_rfl) (fun _ _ _ h => h) (Or.inl ⟨by rfl, ?_⟩) hH ?_
      rotate_left
      · ((intro W hW; clear hW; go_simp) <;> with_reducible rfl)
      simp only [Act.put, List.getElem_toArray, List.getElem_cons_zero, List.getElem_cons_succ, List.setIfInBounds_toArray, List.set_cons_zero, List.set_cons_succ]
      refine wpAnyH_take (i := 6) (v := undef) rfl (by kernel_rfl) (by kernel_rfl) (by kernel_rfl) (fun _ _ _ h => h) (Or.inr ⟨by rfl, rfl⟩) hH ?_
      simp only [Act.put, List.getElem_toArray, List.getElem_cons_zero, List.getElem_cons_succ, List.setIfInBounds_toArray, List.set_cons_zero, List.set_cons_succ]
      refine wpAnyH_take (i := 7) (v := undef) rfl (by kernel_rfl) (by kernel_rfl) (by kernel_rfl) (fun _ _ _ h => h) (Or.inr ⟨by rfl, rfl⟩) hH ?_
      simp only [Act.put, List.getElem_toArray, List.getElem_cons_zero, List.getElem_cons_succ, List.setIfInBounds_toArray, List.set_cons_zero, List.set_cons_succ]
      refine wpAnyH_take (i := 8) (v := undef) rfl (by kernel_rfl) (by kernel_rfl) (by kernel_rfl) (fun _ _ _ h => h) (Or.inr ⟨by rfl, rfl⟩) hH ?_
      simp only [Act.put, List.getElem_toArray, List.getElem_cons_zero, List.getElem_cons_succ, List.setIfInBounds_toArray, List.set_cons_zero, List.set_cons_succ]
      refine wpAnyH_take (i := 9) (v := undef) rfl (by kernel_rfl) (by kernel_rfl) (by kernel_rfl) (fun _ _ _ h => h) (Or.inr ⟨by rfl, rfl⟩) hH ?_
      simp only [Act.put, List.getElem_toArray, List.getElem_cons_zero, List.getElem_cons_succ, List.setIfInBounds_toArray, List.set_cons_zero, List.set_cons_succ]
      refine wpAnyH_take (i := 10) (v := undef) rfl (by kernel_rfl) (by kernel_rfl) (by kernel_rfl) (fun _ _ _ h => h) (Or.inr ⟨by rfl, rfl⟩) hH ?_
      simp only [Act.put, List.getElem_toArray, List.getElem_cons_zero, List.getElem_cons_succ, List.setIfInBounds_toArray, List.set_cons_zero, List.set_cons_succ]
      refine wpAnyH_take (i := 11) (v := undef) rfl (by kernel_rfl) (by kernel_rfl) (by kernel_rfl) (fun _ _ _ h => h) (Or.inr ⟨by rfl, rfl⟩) hH ?_
      simp only [Act.put, List.getElem_toArray, List.getElem_cons_zero, List.getElem_cons_succ, List.setIfInBounds_toArray, List.set_cons_zero, List.set_cons_succ]
      refine wpAnyH_take (i := 12) (v := undef) rfl (by kernel_rfl) (by kernel_rfl) (by kernel_rfl) (fun _ _ _ h => h) (Or.inr ⟨by rfl, rfl⟩) hH ?_
      simp only [Act.put, List.getElem_toArray, List.getElem_cons_zero, List.getElem_cons_succ, List.setIfInBounds_toArray, List.set_cons_zero, List.set_cons_succ]
      refine wpAnyH_take (i := 13) (v := undef) rfl (by kernel_rfl) (by kernel_rfl) (by kernel_rfl) (fun _ _ _ h => h) (Or.inr ⟨by rfl, rfl⟩) hH ?_
      simp only [Act.put, List.getElem_toArray, List.getElem_cons_zero, List.getElem_cons_succ, List.setIfInBounds_toArray, List.set_cons_zero, List.set_cons_succ]
      refine wpAnyH_take (i := 14) (v := undef) rfl (by kernel_rfl) (by kernel_rfl) (by kernel_rfl) (fun _ _ _ h => h) (Or.inr ⟨by rfl, rfl⟩) hH ?_
      simp only [Act.put, List.getElem_toArray, List.getElem_cons_zero, List.getElem_cons_succ, List.setIfInBounds_toArray, List.set_cons_zero, List.set_cons_succ]
      refine wpAnyH_take (i := 15) (v := undef) rfl (by kernel_rfl) (by kernel_rfl) (by kernel_rfl) (fun _ _ _ h => h) (Or.inr ⟨by rfl, rfl⟩) hH ?_
      simp only [Act.put, List.getElem_toArray, List.getElem_cons_zero, List.getElem_cons_succ, List.setIfInBounds_toArray, List.set_cons_zero, List.set_cons_succ]
      refine wpAnyH_take (i := 16) (v := undef) rfl (by kernel_rfl) (by kernel_rfl) (by kernel_rfl) (fun _ _ _ h => h) (Or.inr ⟨by rfl, rfl⟩) hH ?_
      simp only [Act.put, List.getElem_toArray, List.getElem_cons_zero, List.getElem_cons_succ, List.setIfInBounds_toArray, List.set_cons_zero, List.set_cons_succ]
      refine wpAnyH_take (i := 17) (v := ?_) rfl (by kernel_rfl) (by kernel_rfl) (by kernel_rfl) (fun _ _ _ h => h) (Or.inl ⟨by rfl, ?_⟩) hH ?_
      rotate_left
      · ((intro W hW; clear hW; go_simp) <;> with_reducible rfl)
      simp only [Act.put, List.getElem_toArray, List.getElem_cons_zero, List.getElem_cons_succ, List.setIfInBounds_toArray, List.set_cons_zero, List.set_cons_succ]
      refine wpAnyH_take (i := 18) (v := ?_) rfl (by kernel_rfl) (by kernel_rfl) (by kernel_rfl) (fun _ _ _ h => h) (Or.inl ⟨by rfl, ?_⟩) hH ?_
      rotate_left
      · ((intro W hW; clear hW; go_simp) <;> with_reducible rfl)
      simp only [Act.put, List.getElem_toArray, List.getElem_cons_zero, List.getElem_cons_succ, List.setIfInBounds_toArray, List.set_cons_zero, List.set_cons_succ]
      refine wpAnyH_done (by kernel_rfl) ?_ _
      go_wp2_with fail
      go_roundg (n - (k + 1))
      case measure => have := HGK_.out; omega
      case rel => exact ⟨k + 1, rfl, by omega, own, g2, by go_num, by rw [HV.out], htb, en, bel⟩
    have hj := hn
    clear hn
    have hjk := eldF_lt l k j (by have := HLL.out; omega) hj
    obtain ⟨x, hxj⟩ : ∃ x, l[j]? = some x := ⟨_, List.getElem?_eq_getElem (by have := HLL.out; omega)⟩
    have hei : eldI (some j) = (j : Int) := rfl
    have j0 : decide ((j : Int) < 0) = false := decide_eq_false (by omega)
    have j1 : (0 : Int) ≤ j := by omega
    have j2 : (j : Int) < n := by omega
    by_cases hte : te < x.t
    · have HV : Hid (eldI (eldF l (k + 1)) = (k : Int)) := Lib.hid (by rw [eldF_some hx hj hxj, if_pos (by simpa using hte)]; rfl)
      have HXJ := Lib.hid hxj
      clear hxj hj hjk
      have HX := Lib.hid hx
      clear hx
      have R15 := Lib.hid (Sle.zrange0 en HX.out 14 [.int .u8 (ade.a.toNat : Int), .int .u8 (ade.b.toNat : Int), .int .u8 (ade.c.toNat : Int), .int .u8 (ade.d.toNat : Int), .int .i64 te, .bool true, .int .u8 (me.a.toNat : Int), .int .u8 (me.b.toNat : Int), .int .u8 (me.c.toNat : Int), .int .u8 (me.d.toNat : Int), .int .u8 (me.e.toNat : Int), .int .u8 (me.f.toNat : Int), .int .i64 re, .slice wAe wne wce] rfl)
      go_wp2_with (first | ((with_reducible show wpList _ _ _ (⟨some 15, _, _, _, _, _⟩ :: _) _ _); refine wpList_load_rng 52 (.tmp 14) rfl (by kernel_rfl) _ _ rfl _ R15.out _ Try.underlying52 rfl (by kernel_rfl) ?_) | ((with_reducible show wpList _ _ _ (⟨some 5, _, _, _, _, _⟩ :: _) _ _); refine wpList_new_a rfl 52 rfl #[.int .u8 0, .int .u8 0, .int .u8 0, .int .u8 0, .int .i64 0, .bool false, .int .u8 0, .int .u8 0, .int .u8 0, .int .u8 0, .int .u8 0, .int .u8 0, .int .i64 0, .slice none 0 0] (by kernel_rfl) ?_; intro g5 w1 ge hh bb; have d_tb_vb := ne_new (hlt htb) ge; have av_en_vb := en.av_new ge; have ovb := Nat.le_trans (Nat.le_trans hlo bel.size) ge; have off_vb := owk_new own ge; have pn_vb := Nat.le_trans g2.size ge; replace htb := blk_u htb bb; replace en := en.below bb; replace own := owk_under own bb; replace g2 := g2.trans (Gr2.of_below bb) (fun _ _ h => h); replace bel := bel.trans (bb.mono (Nat.le_trans hlo bel.size)); have hvb := hh; clear hh ge bb) | ((with_reducible show wpList _ _ _ (⟨none, Op.store _ (.tmp 5) _, _, _, _, _⟩ :: _) _ _); refine wpList_store_blk rfl 52 (.tmp 5) (.tmp 15) rfl g5 rfl _ rfl _ 52 hvb (by rfl) (by kernel_rfl) (by kernel_rfl) ?_; intro w2 hq gr; replace en := en.away av_en_vb gr; replace htb := blk_a htb gr d_tb_vb; replace own := owk_off own off_vb gr; replace g2 := g2.newer gr pn_vb; replace bel := below_grown bel gr ovb (Nat.le_trans hlo bel.size); clear hvb; have hvb := hq; clear hq gr))
      try clear R15
      replace bel := bel.drew
      replace htb : w2.drew.heap[gt]? = _ := htb
      replace hvb : w2.drew.heap[g5]? = _ := hvb
      replace en := en.drew
      replace own := World.ownsRow.drew own
      replace g2 := g2.drew
      refine wp_region_held_drew (S := fun W => W.heap[g5]? = some (.cells #[.int .u8 (ade.a.toNat : Int), .int .u8 (ade.b.toNat : Int), .int .u8 (ade.c.toNat : Int), .int .u8 (ade.d.toNat : Int), .int .i64 te, .bool true, .int .u8 (me.a.toNat : Int), .int .u8 (me.b.toNat : Int), .int .u8 (me.c.toNat : Int), .int .u8 (me.d.toNat : Int), .int .u8 (me.e.toNat : Int), .int .u8 (me.f.toNat : Int), .int .i64 re, .slice wAe wne wce] 52 (0, 0)) ∧ W.heap[gt]? = some (.cells #[.int .i64 age, .int .i64 now, .slice (some ⟨gE, 0, none⟩) n c] 49 (0, 0)) ∧ Sle enE 14 W (some ⟨gE, 0, none⟩) (n) (c) (l)) (by kernel_rfl) ⟨hvb, htb, en⟩ (fun hH => ?_)
      generalize w2.drew = w3 at bel htb hvb en own g2 hH ⊢
      refine wpAnyH_take (i := 0) (v := ?_) rfl (by kernel_rfl) (by kernel_rfl) (by kernel_rfl) (fun _ _ _ h => h) (Or.inl ⟨by rfl, ?_⟩) hH ?_
      rotate_left
      · ((intro W hW; clear hW; go_simp) <;> with_reducible rfl)
      simp only [Act.put, List.getElem_toArray, List.getElem_cons_zero, List.setIfInBounds_toArray, List.set_cons_zero, List.set_cons_succ]
      refine wpAnyH_take (i := 1) (v := ?_) rfl (by kernel_rfl) (by kernel_rfl) (by kernel_rfl) (fun _ _ _ h => h) (Or.inl ⟨by rfl, ?_⟩) hH ?_
      rotate_left
      · ((intro W hW; have hk := cell_lit (hW.1) 5 _ rfl; clear hW; go_simp) <;> with_reducible rfl)
      simp only [Act.put, List.getElem_toArray, List.getElem_cons_zero, List.getElem_cons_succ, List.setIfInBounds_toArray, List.set_cons_zero, List.set_cons_succ]
      refine wpAnyH_take (i := 2) (v := ?_) rfl (by kernel_rfl) (by kernel_rfl) (by kernel_rfl) (fun _ _ _ h => h) (Or.inl ⟨by rfl, ?_⟩) hH ?_
      rotate_left
      · ((intro W hW; clear hW; go_simp) <;> with_reducible rfl)
      simp only [Act.put, List.getElem_toArray, List.getElem_cons_zero, List.getElem_cons_succ, List.setIfInBounds_toArray, List.set_cons_zero, List.set_cons_succ]
      refine wpAnyH_take (i := 3) (v := ?_) rfl (by kernel_rfl) (by kernel_rfl) (by kernel_rfl) (fun _ _ _ h => h) (Or.inl ⟨by rfl, ?_⟩) hH ?_
      rotate_left
      · ((intro W hW; clear hW; go_simp) <;> with_reducible rfl)
      simp only [Act.put, List.getElem_toArray, List.getElem_cons_zero, List.getElem_cons_succ, List.setIfInBounds_toArray, List.set_cons_zero, List.set_cons_succ]
      refine wpAnyH_take (i := 4) (v := ?_) rfl (by kernel_rfl) (by kernel_rfl) (by kernel_rfl) (fun _ _ _ h => h) (Or.inl ⟨by rfl, ?_⟩) hH ?_
      rotate_left
      · ((intro W hW; clear hW; go_simp) <;> with_reducible rfl)
      simp only [Act.put, List.getElem_toArray, List.getElem_cons_zero, List.getElem_cons_succ, List.setIfInBounds_toArray, List.set_cons_zero, List.set_cons_succ]
      refine wpAnyH_take (i := 5) (v := ?_) rfl (by kernel_rfl) (by kernel_rfl) (by kernel_rfl) (fun _ _ _ h => h) (Or.inl ⟨by rfl, ?_⟩) hH ?_
      rotate_left
      · ((intro W hW; clear hW; go_simp) <;> with_reducible rfl)
      simp only [Act.put, List.getElem_toArray, List.getElem_cons_zero, List.getElem_cons_succ, List.setIfInBounds_toArray, List.set_cons_zero, List.set_cons_succ]
      refine wpAnyH_take (i := 6) (v := ?_) rfl (by kernel_rfl) (by kernel_rfl) (by kernel_rfl) (fun _ _ _ h => h) (Or.inl ⟨by rfl, ?_⟩) hH ?_
      rotate_left
      · ((intro W hW; clear hW; go_simp) <;> with_reducible rfl)
      simp only [Act.put, List.getElem_toArray, List.getElem_cons_zero, List.getElem_cons_succ, List.setIfInBounds_toArray, List.set_cons_zero, List.set_cons_succ]
      refine wpAnyH_take (i := 7) (v := ?_) rfl (by kernel_rfl) (by kernel_rfl) (by kernel_rfl) (fun _ _ _ h => h) (Or.inl ⟨by rfl, ?_⟩) hH ?_
      rotate_left
      · ((intro W hW; have hk := cell_lit (hW.1) 4 _ rfl; clear hW; go_simp) <;> with_reducible rfl)
      simp only [Act.put, List.getElem_toArray, List.getElem_cons_zero, List.getElem_cons_succ, List.setIfInBounds_toArray, List.set_cons_zero, List.set_cons_succ]
      refine wpAnyH_take (i := 8) (v := ?_) rfl (by kernel_rfl) (by kernel_rfl) (by kernel_rfl) (fun _ _ _ h => h) (Or.inl ⟨by rfl, ?_⟩) hH ?_
      rotate_left
      · ((intro W hW; clear hW; go_simp) <;> with_reducible rfl)
      simp only [Act.put, List.getElem_toArray, List.getElem_cons_zero, List.getElem_cons_succ, List.setIfInBounds_toArray, List.set_cons_zero, List.set_cons_succ]
      refine wpAnyH_take (i := 9) (v := ?_) rfl (by kernel_rfl) (by kernel_rfl) (by kernel_rfl) (fun _ _ _ h => h) (Or.inl ⟨by rfl, ?_⟩) hH ?_
      rotate_left
      · ((intro W hW; clear hW; go_simp) <;> with_reducible rfl)
      simp only [Act.put, List.getElem_toArray, List.getElem_cons_zero, List.getElem_cons_succ, List.setIfInBounds_toArray, List.set_cons_zero, List.set_cons_succ]
      refine wpAnyH_take (i := 10) (v := ?_) rfl (by kernel_rfl) (by kernel_rfl) (by kernel_rfl) (fun _ _ _ h => h) (Or.inl ⟨by rfl, ?_⟩) hH ?_
      rotate_left
      · ((intro W hW; clear hW; go_simp) <;> with_reducible rfl)
      simp only [Act.put, List.getElem_toArray, List.getElem_cons_zero, List.getElem_cons_succ, List.setIfInBounds_toArray, List.set_cons_zero, List.set_cons_succ]
      refine wpAnyH_take (i := 11) (v := ?_) rfl (by kernel_rfl) (by kernel_rfl) (by kernel_rfl) (fun _ _ _ h => h) (Or.inl ⟨by rfl, ?_⟩) hH ?_
      rotate_left
      · ((intro W hW; have hk := cell_lit (hW.2.1) 2 _ rfl; clear hW; go_simp) <;> with_reducible rfl)
      simp only [Act.put, List.getElem_toArray, List.getElem_cons_zero, List.getElem_cons_succ, List.setIfInBounds_toArray, List.set_cons_zero, List.set_cons_succ]
      refine wpAnyH_take (i := 12) (v := ?_) rfl (by kernel_rfl) (by kernel_rfl) (by kernel_rfl) (fun _ _ _ h => h) (Or.inl ⟨by rfl, ?_⟩) hH ?_
      rotate_left
      · ((intro W hW; clear hW; go_simp) <;> with_reducible rfl)
      simp only [Act.put, List.getElem_toArray, List.getElem_cons_zero, List.getElem_cons_succ, List.setIfInBounds_toArray, List.set_cons_zero, List.set_cons_succ]
      refine wpAnyH_take (i := 13) (v := ?_) rfl (by kernel_rfl) (by kernel_rfl) (by kernel_rfl) (fun _ _ _ h => h) (Or.inl ⟨by rfl, ?_⟩) hH ?_
      rotate_left
      · ((intro W hW; clear hW; go_simp) <;> with_reducible rfl)
      simp only [Act.put, List.getElem_toArray, List.getElem_cons_zero, List.getElem_cons_succ, List.setIfInBounds_toArray, List.set_cons_zero, List.set_cons_succ]
      refine wpAnyH_take (i := 14) (v := ?_) rfl (by kernel_rfl) (by kernel_rfl) (by kernel_rfl) (fun _ _ _ h => h) (Or.inl ⟨by rfl, ?_⟩) hH ?_
      rotate_left
      · ((intro W hW; clear hW; go_simp) <;> with_reducible rfl)
      simp only [Act.put, List.getElem_toArray, List.getElem_cons_zero, List.getElem_cons_succ, List.setIfInBounds_toArray, List.set_cons_zero, List.set_cons_succ]
      refine wpAnyH_take (i := 15) (v := ?_) rfl (by kernel_rfl) (by kernel_rfl) (by kernel_rfl) (fun _ _ _ h => h) (Or.inl ⟨by rfl, ?_⟩) hH ?_
      rotate_left
      · ((intro W hW; have hk := Sle.zcell (hW.2.2) HXJ.out 4 _ rfl; clear hW; go_simp) <;> with_reducible rfl)
      simp only [Act.put, List.getElem_toArray, List.getElem_cons_zero, List.getElem_cons_succ, List.setIfInBounds_toArray, List.set_cons_zero, List.set_cons_succ]
      refine wpAnyH_take (i := 16) (v := ?_) rfl (by kernel_rfl) (by kernel_rfl) (by kernel_rfl) (fun _ _ _ h => h) (Or.inl ⟨by rfl, ?_⟩) hH ?_
      rotate_left
      · ((intro W hW; clear hW; go_simp) <;> with_reducible rfl)
      simp only [Act.put, List.getElem_toArray, List.getElem_cons_zero, List.getElem_cons_succ, List.setIfInBounds_toArray, List.set_cons_zero, List.set_cons_succ]
      refine wpAnyH_take (i := 17) (v := ?_) rfl (by kernel_rfl) (by kernel_rfl) (by kernel_rfl) (fun _ _ _ h => h) (Or.inl ⟨by rfl, ?_⟩) hH ?_
      rotate_left
      · ((intro W hW; clear hW; go_simp) <;> with_reducible rfl)
      simp only [Act.put, List.getElem_toArray, List.getElem_cons_zero, List.getElem_cons_succ, List.setIfInBounds_toArray, List.set_cons_zero, List.set_cons_succ]
      refine wpAnyH_take (i := 18) (v := ?_) rfl (by kernel_rfl) (by kernel_rfl) (by kernel_rfl) (fun _ _ _ h => h) (Or.inl ⟨by rfl, ?_⟩) hH ?_
      rotate_left
      · ((intro W hW; clear hW; go_simp) <;> with_reducible rfl)
      simp only [Act.put, List.getElem_toArray, List.getElem_cons_zero, List.getElem_cons_succ, List.setIfInBounds_toArray, List.set_cons_zero, List.set_cons_succ]
      refine wpAnyH_done (by kernel_rfl) ?_ _
      go_wp2_with fail
      go_roundg (n - (k + 1))
      case measure => have := HGK_.out; omega
      case rel => exact ⟨k + 1, rfl, by omega, own, g2, by go_num, by rw [HV.out], htb, en, bel⟩
    have HV : Hid (eldI (eldF l (k + 1)) = (j : Int)) := Lib.hid (by rw [eldF_some hx hj hxj, if_neg (by simpa using hte)]; rfl)
    replace hte : decide (te < x.t) = false := decide_eq_false hte
    have HXJ := Lib.hid hxj
    clear hxj hj hjk
    have HX := Lib.hid hx
    clear hx
    have R15 := Lib.hid (Sle.zrange0 en HX.out 14 [.int .u8 (ade.a.toNat : Int), .int .u8 (ade.b.toNat : Int), .int .u8 (ade.c.toNat : Int), .int .u8 (ade.d.toNat : Int), .int .i64 te, .bool true, .int .u8 (me.a.toNat : Int), .int .u8 (me.b.toNat : Int), .int .u8 (me.c.toNat : Int), .int .u8 (me.d.toNat : Int), .int .u8 (me.e.toNat : Int), .int .u8 (me.f.toNat : Int), .int .i64 re, .slice wAe wne wce] rfl)
    go_wp2_with (first | ((with_reducible show wpList _ _ _ (⟨some 15, _, _, _, _, _⟩ :: _) _ _); refine wpList_load_rng 52 (.tmp 14) rfl (by kernel_rfl) _ _ rfl _ R15.out _ Try.underlying52 rfl (by kernel_rfl) ?_) | ((with_reducible show wpList _ _ _ (⟨some 5, _, _, _, _, _⟩ :: _) _ _); refine wpList_new_a rfl 52 rfl #[.int .u8 0, .int .u8 0, .int .u8 0, .int .u8 0, .int .i64 0, .bool false, .int .u8 0, .int .u8 0, .int .u8 0, .int .u8 0, .int .u8 0, .int .u8 0, .int .i64 0, .slice none 0 0] (by kernel_rfl) ?_; intro g5 w1 ge hh bb; have d_tb_vb := ne_new (hlt htb) ge; have av_en_vb := en.av_new ge; have ovb := Nat.le_trans (Nat.le_trans hlo bel.size) ge; have off_vb := owk_new own ge; have pn_vb := Nat.le_trans g2.size ge; replace htb := blk_u htb bb; replace en := en.below bb; replace own := owk_under own bb; replace g2 := g2.trans (Gr2.of_below bb) (fun _ _ h => h); replace bel := bel.trans (bb.mono (Nat.le_trans hlo bel.size)); have hvb := hh; clear hh ge bb) | ((with_reducible show wpList _ _ _ (⟨none, Op.store _ (.tmp 5) _, _, _, _, _⟩ :: _) _ _); refine wpList_store_blk rfl 52 (.tmp 5) (.tmp 15) rfl g5 rfl _ rfl _ 52 hvb (by rfl) (by kernel_rfl) (by kernel_rfl) ?_; intro w2 hq gr; replace en := en.away av_en_vb gr; replace htb := blk_a htb gr d_tb_vb; replace own := owk_off own off_vb gr; replace g2 := g2.newer gr pn_vb; replace bel := below_grown bel gr ovb (Nat.le_trans hlo bel.size); clear hvb; have hvb := hq; clear hq gr))
    try clear R15
    replace bel := bel.drew
    replace htb : w2.drew.heap[gt]? = _ := htb
    replace hvb : w2.drew.heap[g5]? = _ := hvb
    replace en := en.drew
    replace own := World.ownsRow.drew own
    replace g2 := g2.drew
    refine wp_region_held_drew (S := fun W => W.heap[g5]? = some (.cells #[.int .u8 (ade.a.toNat : Int), .int .u8 (ade.b.toNat : Int), .int .u8 (ade.c.toNat : Int), .int .u8 (ade.d.toNat : Int), .int .i64 te, .bool true, .int .u8 (me.a.toNat : Int), .int .u8 (me.b.toNat : Int), .int .u8 (me.c.toNat : Int), .int .u8 (me.d.toNat : Int), .int .u8 (me.e.toNat : Int), .int .u8 (me.f.toNat : Int), .int .i64 re, .slice wAe wne wce] 52 (0, 0)) ∧ W.heap[gt]? = some (.cells #[.int .i64 age, .int .i64 now, .slice (some ⟨gE, 0, none⟩) n c] 49 (0, 0)) ∧ Sle enE 14 W (some ⟨gE, 0, none⟩) (n) (c) (l)) (by kernel_rfl) ⟨hvb, htb, en⟩ (fun hH => ?_)
    generalize w2.drew = w3 at bel htb hvb en own g2 hH ⊢
    refine wpAnyH_take (i := 0) (v := ?_) rfl (by kernel_rfl) (by kernel_rfl) (by kernel_rfl) (fun _ _ _ h => h) (Or.inl ⟨by rfl, ?_⟩) hH ?_
    rotate_left
    · ((intro W hW; clear hW; go_simp) <;> with_reducible rfl)
    simp only [Act.put, List.getElem_toArray, List.getElem_cons_zero, List.setIfInBounds_toArray, List.set_cons_zero, List.set_cons_succ]
    refine wpAnyH_take (i := 1) (v := ?_) rfl (by kernel_rfl) (by kernel_rfl) (by kernel_rfl) (fun _ _ _ h => h) (Or.inl ⟨by rfl, ?_⟩) hH ?_
    rotate_left
    · ((intro W hW; have hk := cell_lit (hW.1) 5 _ rfl; clear hW; go_simp) <;> with_reducible rfl)
    simp only [Act.put, List.getElem_toArray, List.getElem_cons_zero, List.getElem_cons_succ, List.setIfInBounds_toArray, List.set_cons_zero, List.set_cons_succ]
    refine wpAnyH_take (i := 2) (v := ?_) rfl (by kernel_rfl) (by kernel_rfl) (by kernel_rfl) (fun _ _ _ h => h) (Or.inl ⟨by rfl, ?_⟩) hH ?_
    rotate_left
    · ((intro W hW; clear hW; go_simp) <;> with_reducible rfl)
    simp only [Act.put, List.getElem_toArray, List.getElem_cons_zero, List.getElem_cons_succ, List.setIfInBounds_toArray, List.set_cons_zero, List.set_cons_succ]
    refine wpAnyH_take (i := 3) (v := ?_) rfl (by kernel_rfl) (by kernel_rfl) (by kernel_rfl) (fun _ _ _ h => h) (Or.inl ⟨by rfl, ?_⟩) hH ?_
    rotate_left
    · ((intro W hW; clear hW; go_simp) <;> with_reducible rfl)
    simp only [Act.put, List.getElem_toArray, List.getElem_cons_zero, List.getElem_cons_succ, List.setIfInBounds_toArray, List.set_cons_zero, List.set_cons_succ]
    refine wpAnyH_take (i := 4) (v := ?_) rfl (by kernel_rfl) (by kernel_rfl) (by kernel_rfl) (fun _ _ _ h => h) (Or.inl ⟨by rfl, ?_⟩) hH ?_
    rotate_left
    · ((intro W hW; clear hW; go_simp) <;> with_reducible rfl)
    simp only [Act.put, List.getElem_toArray, List.getElem_cons_zero, List.getElem_cons_succ, List.setIfInBounds_toArray, List.set_cons_zero, List.set_cons_succ]
    refine wpAnyH_take (i := 5) (v := ?_) rfl (by kernel_rfl) (by kernel_rfl) (by kernel_rfl) (fun _ _ _ h => h) (Or.inl ⟨by rfl, ?_⟩) hH ?_
    rotate_left
    · ((intro W hW; clear hW; go_simp) <;> with_reducible rfl)
    simp only [Act.put, List.getElem_toArray, List.getElem_cons_zero, List.getElem_cons_succ, List.setIfInBounds_toArray, List.set_cons_zero, List.set_cons_succ]
    refine wpAnyH_take (i := 6) (v := ?_) rfl (by kernel_rfl) (by kernel_rfl) (by kernel_rfl) (fun _ _ _ h => h) (Or.inl ⟨by rfl, ?_⟩) hH ?_
    rotate_left
    · ((intro W hW; clear hW; go_simp) <;> with_reducible rfl)
    simp only [Act.put, List.getElem_toArray, List.getElem_cons_zero, List.getElem_cons_succ, List.setIfInBounds_toArray, List.set_cons_zero, List.set_cons_succ]
    refine wpAnyH_take (i := 7) (v := ?_) rfl (by kernel_rfl) (by kernel_rfl) (by kernel_rfl) (fun _ _ _ h => h) (Or.inl ⟨by rfl, ?_⟩) hH ?_
    rotate_left
    · ((intro W hW; have hk := cell_lit (hW.1) 4 _ rfl; clear hW; go_simp) <;> with_reducible rfl)
    simp only [Act.put, List.getElem_toArray, List.getElem_cons_zero, List.getElem_cons_succ, List.setIfInBounds_toArray, List.set_cons_zero, List.set_cons_succ]
    refine wpAnyH_take (i := 8) (v := ?_) rfl (by kernel_rfl) (by kernel_rfl) (by kernel_rfl) (fun _ _ _ h => h) (Or.inl ⟨by rfl, ?_⟩) hH ?_
    rotate_left
    · ((intro W hW; clear hW; go_simp) <;> with_reducible rfl)
    simp only [Act.put, List.getElem_toArray, List.getElem_cons_zero, List.getElem_cons_succ, List.setIfInBounds_toArray, List.set_cons_zero, List.set_cons_succ]
    refine wpAnyH_take (i := 9) (v := ?_) rfl (by kernel_rfl) (by kernel_rfl) (by kernel_rfl) (fun _ _ _ h => h) (Or.inl ⟨by rfl, ?_⟩) hH ?_
    rotate_left
    · ((intro W hW; clear hW; go_simp) <;> with_reducible rfl)
    simp only [Act.put, List.getElem_toArray, List.getElem_cons_zero, List.getElem_cons_succ, List.setIfInBounds_toArray, List.set_cons_zero, List.set_cons_succ]
    refine wpAnyH_take (i := 10) (v := ?_) rfl (by kernel_rfl) (by kernel_rfl) (by kernel_rfl) (fun _ _ _ h => h) (Or.inl ⟨by rfl, ?_⟩) hH ?_
    rotate_left
    · ((intro W hW; clear hW; go_simp) <;> with_reducible rfl)
    simp only [Act.put, List.getElem_toArray, List.getElem_cons_zero, List.getElem_cons_succ, List.setIfInBounds_toArray, List.set_cons_zero, List.set_cons_succ]
    refine wpAnyH_take (i := 11) (v := ?_) rfl (by kernel_rfl) (by kernel_rfl) (by kernel_rfl) (fun _ _ _ h => h) (Or.inl ⟨by rfl, ?_⟩) hH ?_
    rotate_left
    · ((intro W hW; have hk := cell_lit (hW.2.1) 2 _ rfl; clear hW; go_simp) <;> with_reducible rfl)
    simp only [Act.put, List.getElem_toArray, List.getElem_cons_zero, List.getElem_cons_succ, List.setIfInBounds_toArray, List.set_cons_zero, List.set_cons_succ]
    refine wpAnyH_take (i := 12) (v := ?_) rfl (by kernel_rfl) (by kernel_rfl) (by kernel_rfl) (fun _ _ _ h => h) (Or.inl ⟨by rfl, ?_⟩) hH ?_
    rotate_left
    · ((intro W hW; clear hW; go_simp) <;> with_reducible rfl)
    simp only [Act.put, List.getElem_toArray, List.getElem_cons_zero, List.getElem_cons_succ, List.setIfInBounds_toArray, List.set_cons_zero, List.set_cons_succ]
    refine wpAnyH_take (i := 13) (v := ?_) rfl (by kernel_rfl) (by kernel_rfl) (by kernel_rfl) (fun _ _ _ h => h) (Or.inl ⟨by rfl, ?_⟩) hH ?_
    rotate_left
    · ((intro W hW; clear hW; go_simp) <;> with_reducible rfl)
    simp only [Act.put, List.getElem_toArray, List.getElem_cons_zero, List.getElem_cons_succ, List.setIfInBounds_toArray, List.set_cons_zero, List.set_cons_succ]
    refine wpAnyH_take (i := 14) (v := ?_) rfl (by kernel_rfl) (by kernel_rfl) (by kernel_rfl) (fun _ _ _ h => h) (Or.inl ⟨by rfl, ?_⟩) hH ?_
    rotate_left
    · ((intro W hW; clear hW; go_simp) <;> with_reducible rfl)
    simp only [Act.put, List.getElem_toArray, List.getElem_cons_zero, List.getElem_cons_succ, List.setIfInBounds_toArray, List.set_cons_zero, List.set_cons_succ]
    refine wpAnyH_take (i := 15) (v := ?_) rfl (by kernel_rfl) (by kernel_rfl) (by kernel_rfl) (fun _ _ _ h => h) (Or.inl ⟨by rfl, ?_⟩) hH ?_
    rotate_left
    · ((intro W hW; have hk := Sle.zcell (hW.2.2) HXJ.out 4 _ rfl; clear hW; go_simp) <;> with_reducible rfl)
    simp only [Act.put, List.getElem_toArray, List.getElem_cons_zero, List.getElem_cons_succ, List.setIfInBounds_toArray, List.set_cons_zero, List.set_cons_succ]
    refine wpAnyH_take (i := 16) (v := ?_) rfl (by kernel_rfl) (by kernel_rfl) (by kernel_rfl) (fun _ _ _ h => h) (Or.inl ⟨by rfl, ?_⟩) hH ?_
    rotate_left
    · ((intro W hW; clear hW; go_simp) <;> with_reducible rfl)
    simp only [Act.put, List.getElem_toArray, List.getElem_cons_zero, List.getElem_cons_succ, List.setIfInBounds_toArray, List.set_cons_zero, List.set_cons_succ]
    refine wpAnyH_take (i := 17) (v := ?_) rfl (by kernel_rfl) (by kernel_rfl) (by kernel_rfl) (fun _ _ _ h => h) (Or.inl ⟨by rfl, ?_⟩) hH ?_
    rotate_left
    · ((intro W hW; clear hW; go_simp) <;> with_reducible rfl)
    simp only [Act.put, List.getElem_toArray, List.getElem_cons_zero, List.getElem_cons_succ, List.setIfInBounds_toArray, List.set_cons_zero, List.set_cons_succ]
    refine wpAnyH_take (i := 18) (v := ?_) rfl (by kernel_rfl) (by kernel_rfl) (by kernel_rfl) (fun _ _ _ h => h) (Or.inl ⟨by rfl, ?_⟩) hH ?_
    rotate_left
    · ((intro W hW; clear hW; go_simp) <;> with_reducible rfl)
    simp only [Act.put, List.getElem_toArray, List.getElem_cons_zero, List.getElem_cons_succ, List.setIfInBounds_toArray, List.set_cons_zero, List.set_cons_succ]
    refine wpAnyH_done (by kernel_rfl) ?_ _
    go_wp2_with fail
    go_roundg (n - (k + 1))
    case measure => have := HGK_.out; omega
    case rel => exact ⟨k + 1, rfl, by omega, own, g2, by go_num, by rw [HV.out], htb, en, bel⟩
set_option linter.unusedVariables false in
set_option linter.unusedSimpArgs false in
set_option maxRecDepth 100000 in
set_option maxHeartbeats 16000000 in
theorem add_room {lo gt n c : Nat} {A : Option Addr} {age now : Int} {l : List En} (e : En) (w : World) (hlo : lo ≤ w.heap.size) (otb : lo ≤ gt) (htb : w.heap[gt]? = some (.cells #[.int .i64 age, .int .i64 now, .slice A n c] 49 (0, 0))) (hown : w.ownsRow lo 52 14 (.slice A n c) n (l.flatMap enE)) (hS : Srt l) (hn : n < 32) : Calls Try.prog 18 #[.pointer (some ⟨gt, 0, none⟩), .agg #[.int .u8 (e.ad.a.toNat : Int), .int .u8 (e.ad.b.toNat : Int), .int .u8 (e.ad.c.toNat : Int), .int .u8 (e.ad.d.toNat : Int), .int .i64 e.t, .bool e.k, .int .u8 (e.m.a.toNat : Int), .int .u8 (e.m.b.toNat : Int), .int .u8 (e.m.c.toNat : Int), .int .u8 (e.m.d.toNat : Int), .int .u8 (e.m.e.toNat : Int), .int .u8 (e.m.f.toNat : Int), .int .i64 e.r, .slice e.wA e.wn e.wc]] w fun e' w' => ∃ A2 c2, e' = .returned (.bool true) ∧ w'.heap[gt]? = some (.cells #[.int .i64 age, .int .i64 now, .slice A2 (n + 1) c2] 49 (0, 0)) ∧ w'.ownsRow lo 52 14 (.slice A2 (n + 1) c2) (n + 1) ((ins l e).flatMap enE) ∧ Gr2 w w' gt (.slice A n c) := by
  have own := hown
  clear hown
  have off_tb := ofs_type own htb (by decide)
  have hcap := row_cap own
  have HCAP := Lib.hid hcap
  have hl := row_len (by decide) enE_len own
  have HLL := Lib.hid hl
  have HLO := Lib.hid hlo
  clear hcap hl
  have g2 := Gr2.refl w gt (.slice A n c)
  have HS := Lib.hid hS
  clear hS
  have h32 : decide (32 ≤ (n : Int)) = false := decide_eq_false (by omega)
  have H32 : Hid (n ≤ 1000) := Lib.hid (by omega)
  clear hn
  have bel := Below.refl lo w
  go_enter Try.func18, Try.ntmps18
  go_wp2_with (first | ((with_reducible show wpList _ _ _ (⟨some 3, _, _, _, _, _⟩ :: _) _ _); refine wpList_box_n rfl 52 (.tmp 1) rfl #[.int .u8 (e.ad.a.toNat : Int), .int .u8 (e.ad.b.toNat : Int), .int .u8 (e.ad.c.toNat : Int), .int .u8 (e.ad.d.toNat : Int), .int .i64 e.t, .bool e.k, .int .u8 (e.m.a.toNat : Int), .int .u8 (e.m.b.toNat : Int), .int .u8 (e.m.c.toNat : Int), .int .u8 (e.m.d.toNat : Int), .int .u8 (e.m.e.toNat : Int), .int .u8 (e.m.f.toNat : Int), .int .i64 e.r, .slice e.wA e.wn e.wc] rfl ?_; intro g3 w1 ge lt hh bb; have d_tb_eb := ne_new (hlt htb) ge; have oeb := Nat.le_trans (Nat.le_trans hlo bel.size) ge; have off_eb := owk_new own ge; have pn_eb := Nat.le_trans g2.size ge; replace htb := blk_u htb bb; replace own := owk_under own bb; replace g2 := g2.trans (Gr2.of_below bb) (fun _ _ h => h); replace bel := bel.trans (bb.mono (Nat.le_trans hlo bel.size)); have heb := hh; clear hh lt ge bb; have R10 := cell_lit htb 2 _ rfl; have R21 := Lib.hid (range_lit heb 0 4 [.int .u8 (e.ad.a.toNat : Int), .int .u8 (e.ad.b.toNat : Int), .int .u8 (e.ad.c.toNat : Int), .int .u8 (e.ad.d.toNat : Int)] rfl)) | ((with_reducible show wpList _ _ _ (⟨some 21, _, _, _, _, _⟩ :: _) _ _); refine wpList_load_rng 30 (.tmp 20) rfl (by kernel_rfl) _ _ rfl _ R21.out _ Try.underlying30 rfl (by kernel_rfl) ?_))
  try clear R10
  try clear R21
  with_reducible refine (find_any e.ad _ htb (owk_sle (by decide) enE_len own).1 HS.out H32.out).mono ?_
  rintro e w2 ⟨rfl, b2⟩
  replace htb := blk_u htb b2
  replace heb := blk_u heb b2
  replace own := owk_under own b2
  replace g2 := g2.trans (Gr2.of_below b2) (fun _ _ h => h)
  replace bel := bel.trans (b2.mono (Nat.le_trans hlo bel.size))
  clear b2
  obtain ⟨p, hp⟩ : ∃ p, fpos (l) e.ad.num = p := ⟨_, rfl⟩
  rw [hp]
  have HPN : Hid (p ≤ n) := Lib.hid (by rw [← hp]; exact Nat.le_trans (fpos_le _ _) (Nat.le_of_eq (row_len (by decide) enE_len own)))
  have HP := Lib.hid hp
  clear hp
  go_wp2_with fail
  replace bel := bel.drew
  replace htb : w2.drew.heap[gt]? = _ := htb
  replace heb : w2.drew.heap[g3]? = _ := heb
  replace own := World.ownsRow.drew own
  replace g2 := g2.drew
  refine wp_region_z 11 (S := fun W => W.heap[gt]? = some (.cells #[.int .i64 age, .int .i64 now, .slice A n c] 49 (0, 0)) ∧ W.heap[g3]? = some (.cells #[.int .u8 (e.ad.a.toNat : Int), .int .u8 (e.ad.b.toNat : Int), .int .u8 (e.ad.c.toNat : Int), .int .u8 (e.ad.d.toNat : Int), .int .i64 e.t, .bool e.k, .int .u8 (e.m.a.toNat : Int), .int .u8 (e.m.b.toNat : Int), .int .u8 (e.m.c.toNat : Int), .int .u8 (e.m.d.toNat : Int), .int .u8 (e.m.e.toNat : Int), .int .u8 (e.m.f.toNat : Int), .int .i64 e.r, .slice e.wA e.wn e.wc] 52 (0, 0))) (by kernel_rfl) ⟨htb, heb⟩ (fun hH => ?_)
  generalize w2.drew = w3 at bel htb heb own g2 hH ⊢
  refine wpAnyZ_take (i := 0) (v := ?_) rfl (by kernel_rfl) (by kernel_rfl) (by kernel_rfl) (fun _ _ _ h => h) (Or.inl ⟨by rfl, ?_⟩) hH ?_
  rotate_left
  · ((intro W hW; clear hW; go_simp) <;> with_reducible rfl)
  simp only [Act.put, List.getElem_toArray, List.getElem_cons_zero, List.setIfInBounds_toArray, List.set_cons_zero, List.set_cons_succ]
  refine wpAnyZ_take (i := 1) (v := ?_) rfl (by kernel_rfl) (by kernel_rfl) (by kernel_rfl) (fun _ _ _ h => h) (Or.inl ⟨by rfl, ?_⟩) hH ?_
  rotate_left
  · ((intro W hW; clear hW; go_simp) <;> with_reducible rfl)
  simp only [Act.put, List.getElem_toArray, List.getElem_cons_zero, List.getElem_cons_succ, List.setIfInBounds_toArray, List.set_cons_zero, List.set_cons_succ]
  refine wpAnyZ_take (i := 2) (v := ?_) rfl (by kernel_rfl) (by kernel_rfl) (by kernel_rfl) (fun _ _ _ h => h) (Or.inl ⟨by rfl, ?_⟩) hH ?_
  rotate_left
  · ((intro W hW; clear hW; go_simp) <;> with_reducible rfl)
  simp only [Act.put, List.getElem_toArray, List.getElem_cons_zero, List.getElem_cons_succ, List.setIfInBounds_toArray, List.set_cons_zero, List.set_cons_succ]
  refine wpAnyZ_take (i := 3) (v := ?_) rfl (by kernel_rfl) (by kernel_rfl) (by kernel_rfl) (fun _ _ _ h => h) (Or.inl ⟨by rfl, ?_⟩) hH ?_
  rotate_left
  · ((intro W hW; clear hW; go_simp) <;> with_reducible rfl)
  simp only [Act.put, List.getElem_toArray, List.getElem_cons_zero, List.getElem_cons_succ, List.setIfInBounds_toArray, List.set_cons_zero, List.set_cons_succ]
  refine wpAnyZ_take (i := 4) (v := ?_) rfl (by kernel_rfl) (by kernel_rfl) (by kernel_rfl) (fun _ _ _ h => h) (Or.inl ⟨by rfl, ?_⟩) hH ?_
  rotate_left
  · ((intro W hW; have hk := cell_lit (hW.1) 2 _ rfl; clear hW; go_simp) <;> with_reducible rfl)
  simp only [Act.put, List.getElem_toArray, List.getElem_cons_zero, List.getElem_cons_succ, List.setIfInBounds_toArray, List.set_cons_zero, List.set_cons_succ]
  refine wpAnyZ_take (i := 5) (v := ?_) rfl (by kernel_rfl) (by kernel_rfl) (by kernel_rfl) (fun _ _ _ h => h) (Or.inl ⟨by rfl, ?_⟩) hH ?_
  rotate_left
  · ((intro W hW; clear hW; go_simp) <;> with_reducible rfl)
  simp only [Act.put, List.getElem_toArray, List.getElem_cons_zero, List.getElem_cons_succ, List.setIfInBounds_toArray, List.set_cons_zero, List.set_cons_succ]
  refine wpAnyZ_take (i := 6) (v := .agg #[.int .u8 (e.ad.a.toNat : Int), .int .u8 (e.ad.b.toNat : Int), .int .u8 (e.ad.c.toNat : Int), .int .u8 (e.ad.d.toNat : Int), .int .i64 e.t, .bool e.k, .int .u8 (e.m.a.toNat : Int), .int .u8 (e.m.b.toNat : Int), .int .u8 (e.m.c.toNat : Int), .int .u8 (e.m.d.toNat : Int), .int .u8 (e.m.e.toNat : Int), .int .u8 (e.m.f.toNat : Int), .int .i64 e.r, .slice e.wA e.wn e.wc]) rfl (by kernel_rfl) (by kernel_rfl) (by kernel_rfl) (fun _ _ _ h => h) (yieldsIf_load_part (by kernel_rfl) 52 _ rfl g3 0 14 rfl _ 52 (0, 0) (fun W hW => hW.2) _ rfl _ Try.underlying52 rfl (by kernel_rfl)) hH ?_
  simp only [Act.put, List.getElem_toArray, List.getElem_cons_zero, List.getElem_cons_succ, List.setIfInBounds_toArray, List.set_cons_zero, List.set_cons_succ]
  refine wpAnyZ_ready (rs := [7]) (by kernel_rfl) (by simp) ?_
  refine AllReadyZ.cons (o := _) rfl (fun K hK => ?_) AllReadyZ.nil
  simp only [List.getElem_toArray, List.getElem_cons_zero, List.getElem_cons_succ]
  rw [if_pos (by rfl)]
  refine wp_lit_n 47 52 1 _ rfl #[.int .u8 (e.ad.a.toNat : Int), .int .u8 (e.ad.b.toNat : Int), .int .u8 (e.ad.c.toNat : Int), .int .u8 (e.ad.d.toNat : Int), .int .i64 e.t, .bool e.k, .int .u8 (e.m.a.toNat : Int), .int .u8 (e.m.b.toNat : Int), .int .u8 (e.m.c.toNat : Int), .int .u8 (e.m.d.toNat : Int), .int .u8 (e.m.e.toNat : Int), .int .u8 (e.m.f.toNat : Int), .int .i64 e.r, .slice e.wA e.wn e.wc] (.agg #[.int .u8 0, .int .u8 0, .int .u8 0, .int .u8 0, .int .i64 0, .bool false, .int .u8 0, .int .u8 0, .int .u8 0, .int .u8 0, .int .u8 0, .int .u8 0, .int .i64 0, .slice none 0 0]) Try.underlying47 (by kernel_rfl) 14 (by kernel_rfl) (by decide) (by kernel_rfl) ?_
  intro g32 w4 ge lt hh bb
  have d_tb_b32 := ne_new (hlt htb) ge
  have d_eb_b32 := ne_new (hlt heb) ge
  have ob32 := Nat.le_trans (Nat.le_trans hlo bel.size) ge
  have off_b32 := owk_new own ge
  have pn_b32 := Nat.le_trans g2.size ge
  replace htb := blk_u htb bb
  replace heb := blk_u heb bb
  replace own := owk_under own bb
  replace g2 := g2.trans (Gr2.of_below bb) (fun _ _ h => h)
  replace bel := bel.trans (bb.mono (Nat.le_trans hlo bel.size))
  have hb32 := hh
  clear hh lt ge bb
  refine hK.out _ _ ⟨htb, heb⟩ (fun hH5 => ?_)
  clear hK K
  simp only [Act.put, List.setIfInBounds_toArray, List.set_cons_zero, List.set_cons_succ]
  refine wpAnyZ_ready (rs := [8]) (by kernel_rfl) (by simp) ?_
  refine AllReadyZ.cons (o := _) rfl (fun K hK => ?_) AllReadyZ.nil
  simp only [List.getElem_toArray, List.getElem_cons_zero, List.getElem_cons_succ]
  go_simp
  have hvx : w4.heap[g32]? = some (.cells (enE e).toArray 52 (0, 0)) := hb32
  have HLO_ := Nat.le_trans HLO.out bel.size
  with_reducible refine (en_insert _ HLO_ own H32.out hvx off_b32 HPN.out).mono ?_
  rintro e w6 ⟨A2, c2, rfl, own_, gw, ofw⟩
  dsimp only
  have off_tb_ := ofw _ (hlt htb) off_tb
  replace htb := blk_own (v := .slice A n c) htb gw off_tb
  clear off_tb
  have off_tb := off_tb_
  clear off_tb_
  have off_eb_ := ofw _ (hlt heb) off_eb
  replace heb := blk_own (v := .slice A n c) heb gw off_eb
  clear off_eb
  have off_eb := off_eb_
  clear off_eb_
  have off_b32_ := ofw _ (hlt hb32) off_b32
  replace hb32 := blk_own (v := .slice A n c) hb32 gw off_b32
  clear off_b32
  have off_b32 := off_b32_
  clear off_b32_
  replace g2 := g2.trans (Gr2.of_row gw) (fun _ _ h => h)
  replace bel := bel.trans (row_bel gw own (Nat.le_trans hlo bel.size))
  clear own
  have own := own_
  clear own_ gw ofw
  clear hvx HLO_
  refine hK.out _ _ ⟨htb, heb⟩ (fun hH7 => ?_)
  clear hK K
  refine wpAnyZ_take (i := 9) (v := ?_) rfl (by kernel_rfl) (by kernel_rfl) (by kernel_rfl) (fun _ _ _ h => h) (Or.inl ⟨by rfl, ?_⟩) hH7 ?_
  rotate_left
  · ((intro W hW; clear hW; go_simp) <;> with_reducible rfl)
  simp only [Act.put, List.getElem_toArray, List.getElem_cons_zero, List.getElem_cons_succ, List.setIfInBounds_toArray, List.set_cons_zero, List.set_cons_succ]
  refine wpAnyZ_take (i := 10) (v := ?_) rfl (by kernel_rfl) (by kernel_rfl) (by kernel_rfl) (fun _ _ _ h => h) (Or.inl ⟨by rfl, ?_⟩) hH7 ?_
  rotate_left
  · ((intro W hW; clear hW; go_simp) <;> with_reducible rfl)
  simp only [Act.put, List.getElem_toArray, List.getElem_cons_zero, List.getElem_cons_succ, List.setIfInBounds_toArray, List.set_cons_zero, List.set_cons_succ]
  refine wpAnyZ_ready (rs := [11]) (by kernel_rfl) (by simp) ?_
  refine AllReadyZ.last (o := _) rfl (fun K hK => ?_)
  simp only [List.getElem_toArray, List.getElem_cons_zero, List.getElem_cons_succ]
  rw [if_pos (by rfl)]
  refine wp_store_part 47 (.tmp 35) (.tmp 33) rfl gt 2 rfl [.slice A2 (n + 1) c2] rfl [.int .i64 age, .int .i64 now, .slice A n c] 49 htb (by simp) [.int .i64 age, .int .i64 now, .slice A2 (n + 1) c2] rfl (by kernel_rfl) (by rfl) ?_
  intro w8 hq gr
  replace heb := blk_a heb gr (ne_symm d_tb_eb)
  replace hb32 := blk_a hb32 gr (ne_symm d_tb_b32)
  replace own := owk_off own off_tb gr
  replace g2 := g2.trans (Gr2.of_grown gr) (fun _ _ h => h)
  replace bel := below_grown bel gr otb (Nat.le_trans hlo bel.size)
  clear htb
  have htb := hq
  clear hq gr
  refine hK.out _ _ trivial (fun hH9 => ?_)
  clear hK K
  simp only [Act.put]
  refine wpAnyZ_done (by kernel_rfl) ?_ _
  go_wp2_with fail
  go_ret
  exact ⟨A2, c2, rfl, htb, by have h_ := own; rw [← HP.out] at h_; exact h_, g2⟩
set_option linter.unusedVariables false in
set_option linter.unusedSimpArgs false in
set_option maxRecDepth 100000 in
set_option maxHeartbeats 16000000 in
theorem add_full {lo gt gE n c : Nat} {age now : Int} {l : List En} (e : En) (w : World) (hlo : lo ≤ w.heap.size) (otb : lo ≤ gt) (htb : w.heap[gt]? = some (.cells #[.int .i64 age, .int .i64 now, .slice (some ⟨gE, 0, none⟩) n c] 49 (0, 0))) (hown : w.ownsRow lo 52 14 (.slice (some ⟨gE, 0, none⟩) n c) n (l.flatMap enE)) (hS : Srt l) (hn : 32 ≤ n) (hm : n ≤ 1000) (hE : eldF l n = none) : Calls Try.prog 18 #[.pointer (some ⟨gt, 0, none⟩), .agg #[.int .u8 (e.ad.a.toNat : Int), .int .u8 (e.ad.b.toNat : Int), .int .u8 (e.ad.c.toNat : Int), .int .u8 (e.ad.d.toNat : Int), .int .i64 e.t, .bool e.k, .int .u8 (e.m.a.toNat : Int), .int .u8 (e.m.b.toNat : Int), .int .u8 (e.m.c.toNat : Int), .int .u8 (e.m.d.toNat : Int), .int .u8 (e.m.e.toNat : Int), .int .u8 (e.m.f.toNat : Int), .int .i64 e.r, .slice e.wA e.wn e.wc]] w fun e' w' => e' = .returned (.bool false) ∧ w'.heap[gt]? = some (.cells #[.int .i64 age, .int .i64 now, .slice (some ⟨gE, 0, none⟩) n c] 49 (0, 0)) ∧ w'.ownsRow lo 52 14 (.slice (some ⟨gE, 0, none⟩) n c) n (l.flatMap enE) ∧ Gr2 w w' gt (.slice (some ⟨gE, 0, none⟩) n c) := by
  have own := hown
  clear hown
  have off_tb := ofs_type own htb (by decide)
  have hcap := row_cap own
  have HCAP := Lib.hid hcap
  have hl := row_len (by decide) enE_len own
  have HLL := Lib.hid hl
  have HLO := Lib.hid hlo
  clear hcap hl
  have g2 := Gr2.refl w gt (.slice (some ⟨gE, 0, none⟩) n c)
  have HS := Lib.hid hS
  clear hS
  have h32 : (32 : Int) ≤ n := by omega
  have H32 : Hid (n ≤ 1000) := Lib.hid hm
  clear hm hn
  have HE := Lib.hid hE
  clear hE
  have bel := Below.refl lo w
  go_enter Try.func18, Try.ntmps18
  go_wp2_with (first | ((with_reducible show wpList _ _ _ (⟨some 3, _, _, _, _, _⟩ :: _) _ _); refine wpList_box_n rfl 52 (.tmp 1) rfl #[.int .u8 (e.ad.a.toNat : Int), .int .u8 (e.ad.b.toNat : Int), .int .u8 (e.ad.c.toNat : Int), .int .u8 (e.ad.d.toNat : Int), .int .i64 e.t, .bool e.k, .int .u8 (e.m.a.toNat : Int), .int .u8 (e.m.b.toNat : Int), .int .u8 (e.m.c.toNat : Int), .int .u8 (e.m.d.toNat : Int), .int .u8 (e.m.e.toNat : Int), .int .u8 (e.m.f.toNat : Int), .int .i64 e.r, .slice e.wA e.wn e.wc] rfl ?_; intro g3 w1 ge lt hh bb; have d_tb_eb := ne_new (hlt htb) ge; have oeb := Nat.le_trans (Nat.le_trans hlo bel.size) ge; have off_eb := owk_new own ge; have pn_eb := Nat.le_trans g2.size ge; replace htb := blk_u htb bb; replace own := owk_under own bb; replace g2 := g2.trans (Gr2.of_below bb) (fun _ _ h => h); replace bel := bel.trans (bb.mono (Nat.le_trans hlo bel.size)); have heb := hh; clear hh lt ge bb; have R10 := cell_lit htb 2 _ rfl))
  try clear R10
  have HLO_ := Nat.le_trans HLO.out bel.size
  with_reducible refine (relem_none _ HLO_ otb htb own H32.out HE.out).mono ?_
  rintro e w2 ⟨rfl, htb_, own_, g2_⟩
  replace heb := Gr2.blk g2_ heb (ne_symm d_tb_eb) off_eb
  replace g2 := g2.trans g2_ (fun _ _ h => h)
  replace bel := bel.trans (Gr2.bel g2_ otb own (Nat.le_trans hlo bel.size))
  clear htb own g2_
  have htb := htb_
  have own := own_
  clear htb_ own_
  clear HLO_
  go_wp2_with fail
  go_ret
  exact ⟨rfl, htb, own, g2⟩
set_option linter.unusedVariables false in
set_option linter.unusedSimpArgs false in
set_option maxRecDepth 100000 in
set_option maxHeartbeats 16000000 in
theorem add_old {lo gt gE n c : Nat} {age now : Int} {l : List En} {j : Nat} (e : En) (w : World) (hlo : lo ≤ w.heap.size) (otb : lo ≤ gt) (htb : w.heap[gt]? = some (.cells #[.int .i64 age, .int .i64 now, .slice (some ⟨gE, 0, none⟩) n c] 49 (0, 0))) (hown : w.ownsRow lo 52 14 (.slice (some ⟨gE, 0, none⟩) n c) n (l.flatMap enE)) (hS : Srt l) (hn : 32 ≤ n) (hm : n ≤ 1000) (hE : eldF l n = some j) : Calls Try.prog 18 #[.pointer (some ⟨gt, 0, none⟩), .agg #[.int .u8 (e.ad.a.toNat : Int), .int .u8 (e.ad.b.toNat : Int), .int .u8 (e.ad.c.toNat : Int), .int .u8 (e.ad.d.toNat : Int), .int .i64 e.t, .bool e.k, .int .u8 (e.m.a.toNat : Int), .int .u8 (e.m.b.toNat : Int), .int .u8 (e.m.c.toNat : Int), .int .u8 (e.m.d.toNat : Int), .int .u8 (e.m.e.toNat : Int), .int .u8 (e.m.f.toNat : Int), .int .i64 e.r, .slice e.wA e.wn e.wc]] w fun e' w' => ∃ A2 c2 m, m + 1 = n ∧ e' = .returned (.bool true) ∧ w'.heap[gt]? = some (.cells #[.int .i64 age, .int .i64 now, .slice A2 (m + 1) c2] 49 (0, 0)) ∧ w'.ownsRow lo 52 14 (.slice A2 (m + 1) c2) (m + 1) ((ins (l.eraseIdx j) e).flatMap enE) ∧ Gr2 w w' gt (.slice (some ⟨gE, 0, none⟩) n c) := by
  have own := hown
  clear hown
  have off_tb := ofs_type own htb (by decide)
  have hcap := row_cap own
  have HCAP := Lib.hid hcap
  have hl := row_len (by decide) enE_len own
  have HLL := Lib.hid hl
  have HLO := Lib.hid hlo
  clear hcap hl
  have g2 := Gr2.refl w gt (.slice (some ⟨gE, 0, none⟩) n c)
  have HS := Lib.hid hS
  clear hS
  have h32 : (32 : Int) ≤ n := by omega
  have H32 : Hid (n ≤ 1000) := Lib.hid hm
  clear hm hn
  have HE := Lib.hid hE
  clear hE
  have bel := Below.refl lo w
  go_enter Try.func18, Try.ntmps18
  go_wp2_with (first | ((with_reducible show wpList _ _ _ (⟨some 3, _, _, _, _, _⟩ :: _) _ _); refine wpList_box_n rfl 52 (.tmp 1) rfl #[.int .u8 (e.ad.a.toNat : Int), .int .u8 (e.ad.b.toNat : Int), .int .u8 (e.ad.c.toNat : Int), .int .u8 (e.ad.d.toNat : Int), .int .i64 e.t, .bool e.k, .int .u8 (e.m.a.toNat : Int), .int .u8 (e.m.b.toNat : Int), .int .u8 (e.m.c.toNat : Int), .int .u8 (e.m.d.toNat : Int), .int .u8 (e.m.e.toNat : Int), .int .u8 (e.m.f.toNat : Int), .int .i64 e.r, .slice e.wA e.wn e.wc] rfl ?_; intro g3 w1 ge lt hh bb; have d_tb_eb := ne_new (hlt htb) ge; have oeb := Nat.le_trans (Nat.le_trans hlo bel.size) ge; have off_eb := owk_new own ge; have pn_eb := Nat.le_trans g2.size ge; replace htb := blk_u htb bb; replace own := owk_under own bb; replace g2 := g2.trans (Gr2.of_below bb) (fun _ _ h => h); replace bel := bel.trans (bb.mono (Nat.le_trans hlo bel.size)); have heb := hh; clear hh lt ge bb; have R10 := cell_lit htb 2 _ rfl))
  try clear R10
  have HLO_ := Nat.le_trans HLO.out bel.size
  with_reducible refine (relem_some _ HLO_ otb htb own H32.out HE.out).mono ?_
  rintro e w2 ⟨m, hm, rfl, htb_, own_, g2_⟩
  replace heb := Gr2.blk g2_ heb (ne_symm d_tb_eb) off_eb
  replace g2 := g2.trans g2_ (fun _ _ h => h)
  replace bel := bel.trans (Gr2.bel g2_ otb own (Nat.le_trans hlo bel.size))
  clear htb own g2_
  have htb := htb_
  have own := own_
  clear htb_ own_
  clear HLO_
  have HM := Lib.hid hm
  have HM3 : Hid (m ≤ 1000) := Lib.hid (by have h_ := H32.out; omega)
  clear hm
  have R21 := Lib.hid (range_lit heb 0 4 [.int .u8 (e.ad.a.toNat : Int), .int .u8 (e.ad.b.toNat : Int), .int .u8 (e.ad.c.toNat : Int), .int .u8 (e.ad.d.toNat : Int)] rfl)
  go_wp2_with (first | ((with_reducible show wpList _ _ _ (⟨some 21, _, _, _, _, _⟩ :: _) _ _); refine wpList_load_rng 30 (.tmp 20) rfl (by kernel_rfl) _ _ rfl _ R21.out _ Try.underlying30 rfl (by kernel_rfl) ?_))
  try clear R21
  with_reducible refine (find_any e.ad _ htb (owk_sle (by decide) enE_len own).1 (HS.out.erase j) HM3.out).mono ?_
  rintro e w3 ⟨rfl, b3⟩
  replace htb := blk_u htb b3
  replace heb := blk_u heb b3
  replace own := owk_under own b3
  replace g2 := g2.trans (Gr2.of_below b3) (fun _ _ h => h)
  replace bel := bel.trans (b3.mono (Nat.le_trans hlo bel.size))
  clear b3
  obtain ⟨p, hp⟩ : ∃ p, fpos (l.eraseIdx j) e.ad.num = p := ⟨_, rfl⟩
  rw [hp]
  have HPN : Hid (p ≤ m) := Lib.hid (by rw [← hp]; exact Nat.le_trans (fpos_le _ _) (Nat.le_of_eq (row_len (by decide) enE_len own)))
  have HP := Lib.hid hp
  clear hp
  go_wp2_with fail
  replace bel := bel.drew
  replace htb : w3.drew.heap[gt]? = _ := htb
  replace heb : w3.drew.heap[g3]? = _ := heb
  replace own := World.ownsRow.drew own
  replace g2 := g2.drew
  refine wp_region_z 11 (S := fun W => W.heap[gt]? = some (.cells #[.int .i64 age, .int .i64 now, .slice (some ⟨gE, 0, none⟩) m c] 49 (0, 0)) ∧ W.heap[g3]? = some (.cells #[.int .u8 (e.ad.a.toNat : Int), .int .u8 (e.ad.b.toNat : Int), .int .u8 (e.ad.c.toNat : Int), .int .u8 (e.ad.d.toNat : Int), .int .i64 e.t, .bool e.k, .int .u8 (e.m.a.toNat : Int), .int .u8 (e.m.b.toNat : Int), .int .u8 (e.m.c.toNat : Int), .int .u8 (e.m.d.toNat : Int), .int .u8 (e.m.e.toNat : Int), .int .u8 (e.m.f.toNat : Int), .int .i64 e.r, .slice e.wA e.wn e.wc] 52 (0, 0))) (by kernel_rfl) ⟨htb, heb⟩ (fun hH => ?_)
  generalize w3.drew = w4 at bel htb heb own g2 hH ⊢
  refine wpAnyZ_take (i := 0) (v := ?_) rfl (by kernel_rfl) (by kernel_rfl) (by kernel_rfl) (fun _ _ _ h => h) (Or.inl ⟨by rfl, ?_⟩) hH ?_
  rotate_left
  · ((intro W hW; clear hW; go_simp) <;> with_reducible rfl)
  simp only [Act.put, List.getElem_toArray, List.getElem_cons_zero, List.setIfInBounds_toArray, List.set_cons_zero, List.set_cons_succ]
  refine wpAnyZ_take (i := 1) (v := ?_) rfl (by kernel_rfl) (by kernel_rfl) (by kernel_rfl) (fun _ _ _ h => h) (Or.inl ⟨by rfl, ?_⟩) hH ?_
  rotate_left
  · ((intro W hW; clear hW; go_simp) <;> with_reducible rfl)
  simp only [Act.put, List.getElem_toArray, List.getElem_cons_zero, List.getElem_cons_succ, List.setIfInBounds_toArray, List.set_cons_zero, List.set_cons_succ]
  refine wpAnyZ_take (i := 2) (v := ?_) rfl (by kernel_rfl) (by kernel_rfl) (by kernel_rfl) (fun _ _ _ h => h) (Or.inl ⟨by rfl, ?_⟩) hH ?_
  rotate_left
  · ((intro W hW; clear hW; go_simp) <;> with_reducible rfl)
  simp only [Act.put, List.getElem_toArray, List.getElem_cons_zero, List.getElem_cons_succ, List.setIfInBounds_toArray, List.set_cons_zero, List.set_cons_succ]
  refine wpAnyZ_take (i := 3) (v := ?_) rfl (by kernel_rfl) (by kernel_rfl) (by kernel_rfl) (fun _ _ _ h => h) (Or.inl ⟨by rfl, ?_⟩) hH ?_
  rotate_left
  · ((intro W hW; clear hW; go_simp) <;> with_reducible rfl)
  simp only [Act.put, List.getElem_toArray, List.getElem_cons_zero, List.getElem_cons_succ, List.setIfInBounds_toArray, List.set_cons_zero, List.set_cons_succ]
  refine wpAnyZ_take (i := 4) (v := ?_) rfl (by kernel_rfl) (by kernel_rfl) (by kernel_rfl) (fun _ _ _ h => h) (Or.inl ⟨by rfl, ?_⟩) hH ?_
  rotate_left
  · ((intro W hW; have hk := cell_lit (hW.1) 2 _ rfl; clear hW; go_simp) <;> with_reducible rfl)
  simp only [Act.put, List.getElem_toArray, List.getElem_cons_zero, List.getElem_cons_succ, List.setIfInBounds_toArray, List.set_cons_zero, List.set_cons_succ]
  refine wpAnyZ_take (i := 5) (v := ?_) rfl (by kernel_rfl) (by kernel_rfl) (by kernel_rfl) (fun _ _ _ h => h) (Or.inl ⟨by rfl, ?_⟩) hH ?_
  rotate_left
  · ((intro W hW; clear hW; go_simp) <;> with_reducible rfl)
  simp only [Act.put, List.getElem_toArray, List.getElem_cons_zero, List.getElem_cons_succ, List.setIfInBounds_toArray, List.set_cons_zero, List.set_cons_succ]
  refine wpAnyZ_take (i := 6) (v := .agg #[.int .u8 (e.ad.a.toNat : Int), .int .u8 (e.ad.b.toNat : Int), .int .u8 (e.ad.c.toNat : Int), .int .u8 (e.ad.d.toNat : Int), .int .i64 e.t, .bool e.k, .int .u8 (e.m.a.toNat : Int), .int .u8 (e.m.b.toNat : Int), .int .u8 (e.m.c.toNat : Int), .int .u8 (e.m.d.toNat : Int), .int .u8 (e.m.e.toNat : Int), .int .u8 (e.m.f.toNat : Int), .int .i64 e.r, .slice e.wA e.wn e.wc]) rfl (by kernel_rfl) (by kernel_rfl) (by kernel_rfl) (fun _ _ _ h => h) (yieldsIf_load_part (by kernel_rfl) 52 _ rfl g3 0 14 rfl _ 52 (0, 0) (fun W hW => hW.2) _ rfl _ Try.underlying52 rfl (by kernel_rfl)) hH ?_
  simp only [Act.put, List.getElem_toArray, List.getElem_cons_zero, List.getElem_cons_succ, List.setIfInBounds_toArray, List.set_cons_zero, List.set_cons_succ]
  refine wpAnyZ_ready (rs := [7]) (by kernel_rfl) (by simp) ?_
  refine AllReadyZ.cons (o := _) rfl (fun K hK => ?_) AllReadyZ.nil
  simp only [List.getElem_toArray, List.getElem_cons_zero, List.getElem_cons_succ]
  rw [if_pos (by rfl)]
  refine wp_lit_n 47 52 1 _ rfl #[.int .u8 (e.ad.a.toNat : Int), .int .u8 (e.ad.b.toNat : Int), .int .u8 (e.ad.c.toNat : Int), .int .u8 (e.ad.d.toNat : Int), .int .i64 e.t, .bool e.k, .int .u8 (e.m.a.toNat : Int), .int .u8 (e.m.b.toNat : Int), .int .u8 (e.m.c.toNat : Int), .int .u8 (e.m.d.toNat : Int), .int .u8 (e.m.e.toNat : Int), .int .u8 (e.m.f.toNat : Int), .int .i64 e.r, .slice e.wA e.wn e.wc] (.agg #[.int .u8 0, .int .u8 0, .int .u8 0, .int .u8 0, .int .i64 0, .bool false, .int .u8 0, .int .u8 0, .int .u8 0, .int .u8 0, .int .u8 0, .int .u8 0, .int .i64 0, .slice none 0 0]) Try.underlying47 (by kernel_rfl) 14 (by kernel_rfl) (by decide) (by kernel_rfl) ?_
  intro g32 w5 ge lt hh bb
  have d_tb_b32 := ne_new (hlt htb) ge
  have d_eb_b32 := ne_new (hlt heb) ge
  have ob32 := Nat.le_trans (Nat.le_trans hlo bel.size) ge
  have off_b32 := owk_new own ge
  have pn_b32 := Nat.le_trans g2.size ge
  replace htb := blk_u htb bb
  replace heb := blk_u heb bb
  replace own := owk_under own bb
  replace g2 := g2.trans (Gr2.of_below bb) (fun _ _ h => h)
  replace bel := bel.trans (bb.mono (Nat.le_trans hlo bel.size))
  have hb32 := hh
  clear hh lt ge bb
  refine hK.out _ _ ⟨htb, heb⟩ (fun hH6 => ?_)
  clear hK K
  simp only [Act.put, List.setIfInBounds_toArray, List.set_cons_zero, List.set_cons_succ]
  refine wpAnyZ_ready (rs := [8]) (by kernel_rfl) (by simp) ?_
  refine AllReadyZ.cons (o := _) rfl (fun K hK => ?_) AllReadyZ.nil
  simp only [List.getElem_toArray, List.getElem_cons_zero, List.getElem_cons_succ]
  go_simp
  have hvx : w5.heap[g32]? = some (.cells (enE e).toArray 52 (0, 0)) := hb32
  have HLO_ := Nat.le_trans HLO.out bel.size
  with_reducible refine (en_insert _ HLO_ own HM3.out hvx off_b32 HPN.out).mono ?_
  rintro e w7 ⟨A2, c2, rfl, own_, gw, ofw⟩
  dsimp only
  have off_tb_ := ofw _ (hlt htb) off_tb
  replace htb := blk_own (v := .slice (some ⟨gE, 0, none⟩) m c) htb gw off_tb
  clear off_tb
  have off_tb := off_tb_
  clear off_tb_
  have off_eb_ := ofw _ (hlt heb) off_eb
  replace heb := blk_own (v := .slice (some ⟨gE, 0, none⟩) m c) heb gw off_eb
  clear off_eb
  have off_eb := off_eb_
  clear off_eb_
  have off_b32_ := ofw _ (hlt hb32) off_b32
  replace hb32 := blk_own (v := .slice (some ⟨gE, 0, none⟩) m c) hb32 gw off_b32
  clear off_b32
  have off_b32 := off_b32_
  clear off_b32_
  replace g2 := g2.trans (Gr2.of_row gw) (fun _ _ h => h)
  replace bel := bel.trans (row_bel gw own (Nat.le_trans hlo bel.size))
  clear own
  have own := own_
  clear own_ gw ofw
  clear hvx HLO_
  refine hK.out _ _ ⟨htb, heb⟩ (fun hH8 => ?_)
  clear hK K
  refine wpAnyZ_take (i := 9) (v := ?_) rfl (by kernel_rfl) (by kernel_rfl) (by kernel_rfl) (fun _ _ _ h => h) (Or.inl ⟨by rfl, ?_⟩) hH8 ?_
  rotate_left
  · ((intro W hW; clear hW; go_simp) <;> with_reducible rfl)
  simp only [Act.put, List.getElem_toArray, List.getElem_cons_zero, List.getElem_cons_succ, List.setIfInBounds_toArray, List.set_cons_zero, List.set_cons_succ]
  refine wpAnyZ_take (i := 10) (v := ?_) rfl (by kernel_rfl) (by kernel_rfl) (by kernel_rfl) (fun _ _ _ h => h) (Or.inl ⟨by rfl, ?_⟩) hH8 ?_
  rotate_left
  · ((intro W hW; clear hW; go_simp) <;> with_reducible rfl)
  simp only [Act.put, List.getElem_toArray, List.getElem_cons_zero, List.getElem_cons_succ, List.setIfInBounds_toArray, List.set_cons_zero, List.set_cons_succ]
  refine wpAnyZ_ready (rs := [11]) (by kernel_rfl) (by simp) ?_
  refine AllReadyZ.last (o := _) rfl (fun K hK => ?_)
  simp only [List.getElem_toArray, List.getElem_cons_zero, List.getElem_cons_succ]
  rw [if_pos (by rfl)]
  refine wp_store_part 47 (.tmp 35) (.tmp 33) rfl gt 2 rfl [.slice A2 (m + 1) c2] rfl [.int .i64 age, .int .i64 now, .slice (some ⟨gE, 0, none⟩) m c] 49 htb (by simp) [.int .i64 age, .int .i64 now, .slice A2 (m + 1) c2] rfl (by kernel_rfl) (by rfl) ?_
  intro w9 hq gr
  replace heb := blk_a heb gr (ne_symm d_tb_eb)
  replace hb32 := blk_a hb32 gr (ne_symm d_tb_b32)
  replace own := owk_off own off_tb gr
  replace g2 := g2.trans (Gr2.of_grown gr) (fun _ _ h => h)
  replace bel := below_grown bel gr otb (Nat.le_trans hlo bel.size)
  clear htb
  have htb := hq
  clear hq gr
  refine hK.out _ _ trivial (fun hH10 => ?_)
  clear hK K
  simp only [Act.put]
  refine wpAnyZ_done (by kernel_rfl) ?_ _
  go_wp2_with fail
  go_ret
  exact ⟨A2, c2, m, HM.out, rfl, htb, by have h_ := own; rw [← HP.out] at h_; exact h_, g2⟩
/-- add, whichever way. -/
theorem add_any {lo gt n c : Nat} {A : Option Addr} {age now : Int} {l : List En} (e : En) (w : World) (hlo : lo ≤ w.heap.size) (otb : lo ≤ gt) (htb : w.heap[gt]? = some (.cells #[.int .i64 age, .int .i64 now, .slice A n c] 49 (0, 0))) (hown : w.ownsRow lo 52 14 (.slice A n c) n (l.flatMap enE)) (hS : Srt l) (hn : n ≤ 1000) : Calls Try.prog 18 #[.pointer (some ⟨gt, 0, none⟩), .agg #[.int .u8 (e.ad.a.toNat : Int), .int .u8 (e.ad.b.toNat : Int), .int .u8 (e.ad.c.toNat : Int), .int .u8 (e.ad.d.toNat : Int), .int .i64 e.t, .bool e.k, .int .u8 (e.m.a.toNat : Int), .int .u8 (e.m.b.toNat : Int), .int .u8 (e.m.c.toNat : Int), .int .u8 (e.m.d.toNat : Int), .int .u8 (e.m.e.toNat : Int), .int .u8 (e.m.f.toNat : Int), .int .i64 e.r, .slice e.wA e.wn e.wc]] w fun e' w' => ∃ A2 n2 c2, e' = .returned (.bool (addE l e).2) ∧ w'.heap[gt]? = some (.cells #[.int .i64 age, .int .i64 now, .slice A2 n2 c2] 49 (0, 0)) ∧ w'.ownsRow lo 52 14 (.slice A2 n2 c2) n2 ((addE l e).1.flatMap enE) ∧ Gr2 w w' gt (.slice A n c) := by
  have hl := row_len (by decide) enE_len hown
  unfold addE
  rw [hl]
  rcases Nat.lt_or_ge n 32 with h | h
  · rw [if_neg (by omega)]
    refine (add_room e w hlo otb htb hown hS h).mono ?_
    rintro e' w' ⟨A2, c2, h1, h2, h3, h4⟩
    exact ⟨A2, _, c2, h1, h2, h3, h4⟩
  · rw [if_pos h]
    obtain ⟨gE, rfl, _⟩ := row_at hown (by omega)
    cases hE : eldF l n with
    | none =>
      refine (add_full e w hlo otb htb hown hS h hn hE).mono ?_
      rintro e' w' ⟨h1, h2, h3, h4⟩
      exact ⟨_, _, _, h1, h2, h3, h4⟩
    | some j =>
      refine (add_old e w hlo otb htb hown hS h hn hE).mono ?_
      rintro e' w' ⟨A2, c2, m, _, h1, h2, h3, h4⟩
      exact ⟨A2, _, c2, h1, h2, h3, h4⟩
end Go.Proofs.Ytfghmckeogajnaa
