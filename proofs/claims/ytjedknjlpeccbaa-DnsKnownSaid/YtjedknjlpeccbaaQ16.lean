/- Texts put together: Dr6, Dw1, Dwf. -/
import Derived.Test.YtjedknjlpeccbaaQ1
import Derived.Test.YtjedknjlpeccbaaQ5
import Derived.Test.YtjedknjlpeccbaaQ8
import Derived.Test.YtjedknjlpeccbaaQ10
import Derived.Test.YtjedknjlpeccbaaQ14
import Derived.Test.YtjedknjlpeccbaaQ15
namespace Go.Proofs.Ytjedknjlpeccbaa
open Go.RowKit

set_option linter.unusedVariables false in
set_option linter.unusedSimpArgs false in
set_option maxRecDepth 100000 in
set_option maxHeartbeats 16000000 in
theorem rsamer_n {A B : Option Addr} {n c cb : Nat} {hs gs : List Rh} {L : List Rn} (w : World) (sa : Sle rE 5 w A n c hs) (ra : RRs w hs L) (sb : Sle rE 5 w B n cb gs) (rb : RRs w gs L) (hn : n ≤ 100000) (hnb : ∀ r ∈ L, sizeN r.name ≤ 99999) : Calls Try.prog 30 #[.slice A n c, .slice B n cb] w fun e w' => e = .returned (.bool true) ∧ Below w.heap.size w w' := by
  have HSL := Lib.hid sa.1
  have HGL := Lib.hid sb.1
  have HRA := Lib.hid ra
  have HRB := Lib.hid rb
  have HNB := Lib.hid hnb
  have n0 : (0 : Int) ≤ n := by omega
  have n1 : (n : Int) ≤ 100000 := by omega
  have tn : ((n : Int) != (n : Int)) = false := by simp
  have tm : (n != n) = false := by simp
  clear ra rb hnb
  have bel := Below.refl w.heap.size w
  go_enter Try.func30, Try.ntmps30
  go_wp2_with fail
  go_loopg [5] (n) (fun gk s5 wr => ∃ i : Nat, gk = n - i ∧ i ≤ n ∧ s5 = .int .i64 (i : Int) ∧ Sle rE 5 wr (A) (n) (c) (hs) ∧ Sle rE 5 wr (B) (n) (cb) (gs) ∧ Below w.heap.size w wr)
  case atStart => exact ⟨0, Nat.sub_zero _, Nat.zero_le _, rfl, sa, sb, bel⟩
  case round =>
    clear sa sb bel
    obtain ⟨i, HGK, hi, rfl, sa, sb, bel⟩ := hrel
    have HGK_ := Lib.hid HGK
    clear HGK
    have i0 : (0 : Int) ≤ i := by omega
    by_cases hik : i < n
    rotate_left
    · replace hik : decide (i < n) = false := decide_eq_false hik
      go_wp2_with fail
      go_ret
      exact ⟨rfl, bel⟩
    have HRX : Hid True := Lib.hid trivial
    obtain ⟨gE, oE, hp_⟩ := sa.place (by omega)
    subst hp_
    obtain ⟨gF, oF, hq_⟩ := sb.place (by omega)
    subst hq_
    obtain ⟨x, hx_⟩ : ∃ u_, hs[i]? = some u_ := ⟨_, List.getElem?_eq_getElem (by rw [HSL.out]; exact hik)⟩
    obtain ⟨y, hy_⟩ : ∃ u_, gs[i]? = some u_ := ⟨_, List.getElem?_eq_getElem (by rw [HGL.out]; exact hik)⟩
    have HX := Lib.hid hx_
    have HY := Lib.hid hy_
    obtain ⟨r1, hl_, hr_⟩ := HRA.out.at hx_
    have hs_ := HRB.out.2 i y r1 hy_ hl_
    have HXA : Hid (Sle stf 1 w x.A x.n x.c r1.name) := Lib.hid hr_.2.2.2.1
    have HYA : Hid (Sle stf 1 w y.A y.n y.c r1.name) := Lib.hid hs_.2.2.2.1
    have HXD : Hid (Sl w x.B x.d x.e r1.data) := Lib.hid hr_.2.2.2.2
    have HYD : Hid (Sl w y.B y.d y.e r1.data) := Lib.hid hs_.2.2.2.2
    have HTX : Hid (sizeN r1.name ≤ 99999) := Lib.hid (HNB.out r1 (List.mem_of_getElem? hl_))
    have qt : (x.t != y.t) = false := by rw [hr_.1, hs_.1]; simp
    have qk : (x.k != y.k) = false := by rw [hr_.2.1, hs_.2.1]; simp
    have qu : (x.u != y.u) = false := by rw [hr_.2.2.1, hs_.2.2.1]; simp
    clear hx_ hy_ hl_ hr_ hs_
    go_wp2_with fail
    go_cut [6, 7] from 9999 (fun s6 s7 W => ∃ g6 : Nat, ∃ g7 : Nat, s6 = .pointer (some ⟨g6, 0, none⟩) ∧ s7 = .pointer (some ⟨g7, 0, none⟩) ∧ W.heap[g6]? = some (.cells #[.slice x.A x.n x.c, .int .i64 x.t, .int .i64 x.k, .int .u32 x.u, .slice x.B x.d x.e] 100 (0, 0)) ∧ w.heap.size ≤ g6 ∧ W.heap[g7]? = some (.cells #[.slice y.A y.n y.c, .int .i64 y.t, .int .i64 y.k, .int .u32 y.u, .slice y.B y.d y.e] 100 (0, 0)) ∧ w.heap.size ≤ g7 ∧ Hid (g6 ≠ g7) ∧ Sle rE 5 W (some ⟨gE, oE, none⟩) (n) (c) (hs) ∧ Av (some ⟨gE, oE, none⟩) (n) g6 ∧ Av (some ⟨gE, oE, none⟩) (n) g7 ∧ Sle rE 5 W (some ⟨gF, oF, none⟩) (n) (cb) (gs) ∧ Av (some ⟨gF, oF, none⟩) (n) g6 ∧ Av (some ⟨gF, oF, none⟩) (n) g7 ∧ Below w.heap.size w W)
    case first =>
      replace bel := bel.drew
      replace sa := sa.drew
      replace sb := sb.drew
      refine wp_region_held_drew (S := fun W => Sle rE 5 W (some ⟨gE, oE, none⟩) (n) (c) (hs) ∧ Sle rE 5 W (some ⟨gF, oF, none⟩) (n) (cb) (gs)) (by kernel_rfl) ⟨sa, sb⟩ (fun hH => ?_)
      generalize wr.drew = w1 at bel sa sb hH ⊢
      refine wpAnyH_take (i := 0) (v := ?_) rfl (by kernel_rfl) (by kernel_rfl) (by kernel_rfl) (fun _ _ _ h => h) (Or.inl ⟨by rfl, ?_⟩) hH ?_
      rotate_left
      · ((intro W hW; clear hW; go_simp) <;> with_reducible rfl)
      simp only [Act.put, List.getElem_toArray, List.getElem_cons_zero, List.setIfInBounds_toArray, List.set_cons_zero, List.set_cons_succ]
      refine wpAnyH_take (i := 1) (v := ?_) rfl (by kernel_rfl) (by kernel_rfl) (by kernel_rfl) (fun _ _ _ h => h) (Or.inl ⟨by rfl, ?_⟩) hH ?_
      rotate_left
      · ((intro W hW; clear hW; go_simp) <;> with_reducible rfl)
      simp only [sq3, sq4]
      refine wpAnyH_take (i := 2) (v := ?_) rfl (by kernel_rfl) (by kernel_rfl) (by kernel_rfl) (fun _ _ _ h => h) (Or.inl ⟨by rfl, ?_⟩) hH ?_
      rotate_left
      · ((intro W hW; clear hW; go_simp) <;> with_reducible rfl)
      simp only [sq3, sq4]
      refine wpAnyH_take (i := 3) (v := .agg #[.slice x.A x.n x.c, .int .i64 x.t, .int .i64 x.k, .int .u32 x.u, .slice x.B x.d x.e]) rfl (by kernel_rfl) (by kernel_rfl) (by kernel_rfl) (fun _ _ _ h => h) (yieldsIf_load_mid (by kernel_rfl) 100 _ rfl gE (oE + i * 5) rfl [.slice x.A x.n x.c, .int .i64 x.t, .int .i64 x.k, .int .u32 x.u, .slice x.B x.d x.e] _ (fun W hW => Sle.range0 (hW.1) HX.out 5 [.slice x.A x.n x.c, .int .i64 x.t, .int .i64 x.k, .int .u32 x.u, .slice x.B x.d x.e] rfl) Try.underlying100 rfl (by kernel_rfl)) hH ?_
      simp only [sq3, sq4]
      refine wpAnyH_take (i := 4) (v := ?_) rfl (by kernel_rfl) (by kernel_rfl) (by kernel_rfl) (fun _ _ _ h => h) (Or.inl ⟨by rfl, ?_⟩) hH ?_
      rotate_left
      · ((intro W hW; clear hW; go_simp) <;> with_reducible rfl)
      simp only [sq3, sq4]
      refine wpAnyH_take (i := 5) (v := ?_) rfl (by kernel_rfl) (by kernel_rfl) (by kernel_rfl) (fun _ _ _ h => h) (Or.inl ⟨by rfl, ?_⟩) hH ?_
      rotate_left
      · ((intro W hW; clear hW; go_simp) <;> with_reducible rfl)
      simp only [sq3, sq4]
      refine wpAnyH_take (i := 6) (v := ?_) rfl (by kernel_rfl) (by kernel_rfl) (by kernel_rfl) (fun _ _ _ h => h) (Or.inl ⟨by rfl, ?_⟩) hH ?_
      rotate_left
      · ((intro W hW; clear hW; go_simp) <;> with_reducible rfl)
      simp only [sq3, sq4]
      refine wpAnyH_take (i := 7) (v := .agg #[.slice y.A y.n y.c, .int .i64 y.t, .int .i64 y.k, .int .u32 y.u, .slice y.B y.d y.e]) rfl (by kernel_rfl) (by kernel_rfl) (by kernel_rfl) (fun _ _ _ h => h) (yieldsIf_load_mid (by kernel_rfl) 100 _ rfl gF (oF + i * 5) rfl [.slice y.A y.n y.c, .int .i64 y.t, .int .i64 y.k, .int .u32 y.u, .slice y.B y.d y.e] _ (fun W hW => Sle.range0 (hW.2) HY.out 5 [.slice y.A y.n y.c, .int .i64 y.t, .int .i64 y.k, .int .u32 y.u, .slice y.B y.d y.e] rfl) Try.underlying100 rfl (by kernel_rfl)) hH ?_
      simp only [sq3, sq4]
      refine wpAnyH_ready (rs := [8, 9]) (by kernel_rfl) (by simp) ?_
      refine AllReadyH.cons (o := _) rfl (fun K hK => ?_) (AllReadyH.cons (o := _) rfl (fun K hK => ?_) AllReadyH.nil)
      · simp only [sq3]
        rw [if_pos (by rfl)]
        refine wp_new_a 100 rfl #[.slice none 0 0, .int .i64 0, .int .i64 0, .int .u32 0, .slice none 0 0] (by kernel_rfl) ?_
        intro g6 w2 ge hh bb
        have av_sa_bx := sa.av_new ge
        have av_sb_bx := sb.av_new ge
        have obx := Nat.le_trans bel.size ge
        replace sa := sa.below bb
        replace sb := sb.below bb
        replace bel := bel.trans (bb.mono bel.size)
        have hbx := hh
        clear hh ge bb
        refine hK.out _ _ ⟨sa, sb⟩ (fun hH3 => ?_)
        clear hK K
        simp only [sq4]
        refine wpAnyH_ready (rs := [9]) (by kernel_rfl) (by simp) ?_
        refine AllReadyH.cons (o := _) rfl (fun K hK => ?_) AllReadyH.nil
        simp only [sq3]
        rw [if_pos (by rfl)]
        refine wp_new_a 100 rfl #[.slice none 0 0, .int .i64 0, .int .i64 0, .int .u32 0, .slice none 0 0] (by kernel_rfl) ?_
        intro g7 w4 ge hh bb
        have d_bx_by_ := ne_new (hlt hbx) ge
        have av_sa_by_ := sa.av_new ge
        have av_sb_by_ := sb.av_new ge
        have oby_ := Nat.le_trans bel.size ge
        replace hbx := blk_u hbx bb
        replace sa := sa.below bb
        replace sb := sb.below bb
        replace bel := bel.trans (bb.mono bel.size)
        have hby_ := hh
        clear hh ge bb
        refine hK.out _ _ ⟨sa, sb⟩ (fun hH5 => ?_)
        clear hK K
        simp only [sq4]
        refine wpAnyH_ready (rs := [10]) (by kernel_rfl) (by simp) ?_
        refine AllReadyH.cons (o := _) rfl (fun K hK => ?_) AllReadyH.nil
        simp only [sq3]
        rw [if_pos (by rfl)]
        refine wp_store_blk 100 (.tmp 6) (.tmp 22) rfl g6 rfl _ rfl _ 100 hbx (by rfl) (by kernel_rfl) (by kernel_rfl) ?_
        intro w6 hq gr
        replace sa := sa.away av_sa_bx gr
        replace sb := sb.away av_sb_bx gr
        replace hby_ := blk_a hby_ gr (ne_symm d_bx_by_)
        replace bel := below_grown bel gr obx bel.size
        clear hbx
        have hbx := hq
        clear hq gr
        refine hK.out _ _ ⟨sa, sb⟩ (fun hH7 => ?_)
        clear hK K
        simp only [Act.put]
        refine wpAnyH_ready (rs := [11]) (by kernel_rfl) (by simp) ?_
        refine AllReadyH.cons (o := _) rfl (fun K hK => ?_) AllReadyH.nil
        simp only [sq3]
        rw [if_pos (by rfl)]
        refine wp_store_blk 100 (.tmp 7) (.tmp 26) rfl g7 rfl _ rfl _ 100 hby_ (by rfl) (by kernel_rfl) (by kernel_rfl) ?_
        intro w8 hq gr
        replace sa := sa.away av_sa_by_ gr
        replace sb := sb.away av_sb_by_ gr
        replace hbx := blk_a hbx gr d_bx_by_
        replace bel := below_grown bel gr oby_ bel.size
        clear hby_
        have hby_ := hq
        clear hq gr
        refine hK.out _ _ ⟨sa, sb⟩ (fun hH9 => ?_)
        clear hK K
        simp only [Act.put]
        refine wpAnyH_done (by kernel_rfl) ?_ _
        go_wp2_with fail
        go_meet
        case rel => exact ⟨g6, g7, rfl, rfl, hbx, obx, hby_, oby_, d_bx_by_, sa, av_sa_bx, av_sa_by_, sb, av_sb_bx, av_sb_by_, bel⟩
      simp only [sq3]
      rw [if_pos (by rfl)]
      refine wp_new_a 100 rfl #[.slice none 0 0, .int .i64 0, .int .i64 0, .int .u32 0, .slice none 0 0] (by kernel_rfl) ?_
      intro g7 w2 ge hh bb
      have av_sa_by_ := sa.av_new ge
      have av_sb_by_ := sb.av_new ge
      have oby_ := Nat.le_trans bel.size ge
      replace sa := sa.below bb
      replace sb := sb.below bb
      replace bel := bel.trans (bb.mono bel.size)
      have hby_ := hh
      clear hh ge bb
      refine hK.out _ _ ⟨sa, sb⟩ (fun hH3 => ?_)
      clear hK K
      simp only [sq4]
      refine wpAnyH_ready (rs := [8]) (by kernel_rfl) (by simp) ?_
      refine AllReadyH.cons (o := _) rfl (fun K hK => ?_) AllReadyH.nil
      simp only [sq3]
      rw [if_pos (by rfl)]
      refine wp_new_a 100 rfl #[.slice none 0 0, .int .i64 0, .int .i64 0, .int .u32 0, .slice none 0 0] (by kernel_rfl) ?_
      intro g6 w4 ge hh bb
      have d_by__bx := ne_new (hlt hby_) ge
      have av_sa_bx := sa.av_new ge
      have av_sb_bx := sb.av_new ge
      have obx := Nat.le_trans bel.size ge
      replace hby_ := blk_u hby_ bb
      replace sa := sa.below bb
      replace sb := sb.below bb
      replace bel := bel.trans (bb.mono bel.size)
      have hbx := hh
      clear hh ge bb
      refine hK.out _ _ ⟨sa, sb⟩ (fun hH5 => ?_)
      clear hK K
      simp only [sq4]
      refine wpAnyH_ready (rs := [10]) (by kernel_rfl) (by simp) ?_
      refine AllReadyH.cons (o := _) rfl (fun K hK => ?_) AllReadyH.nil
      simp only [sq3]
      rw [if_pos (by rfl)]
      refine wp_store_blk 100 (.tmp 6) (.tmp 22) rfl g6 rfl _ rfl _ 100 hbx (by rfl) (by kernel_rfl) (by kernel_rfl) ?_
      intro w6 hq gr
      replace sa := sa.away av_sa_bx gr
      replace sb := sb.away av_sb_bx gr
      replace hby_ := blk_a hby_ gr d_by__bx
      replace bel := below_grown bel gr obx bel.size
      clear hbx
      have hbx := hq
      clear hq gr
      refine hK.out _ _ ⟨sa, sb⟩ (fun hH7 => ?_)
      clear hK K
      simp only [Act.put]
      refine wpAnyH_ready (rs := [11]) (by kernel_rfl) (by simp) ?_
      refine AllReadyH.cons (o := _) rfl (fun K hK => ?_) AllReadyH.nil
      simp only [sq3]
      rw [if_pos (by rfl)]
      refine wp_store_blk 100 (.tmp 7) (.tmp 26) rfl g7 rfl _ rfl _ 100 hby_ (by rfl) (by kernel_rfl) (by kernel_rfl) ?_
      intro w8 hq gr
      replace sa := sa.away av_sa_by_ gr
      replace sb := sb.away av_sb_by_ gr
      replace hbx := blk_a hbx gr (ne_symm d_by__bx)
      replace bel := below_grown bel gr oby_ bel.size
      clear hby_
      have hby_ := hq
      clear hq gr
      refine hK.out _ _ ⟨sa, sb⟩ (fun hH9 => ?_)
      clear hK K
      simp only [Act.put]
      refine wpAnyH_done (by kernel_rfl) ?_ _
      go_wp2_with fail
      go_meet
      case rel => exact ⟨g6, g7, rfl, rfl, hbx, obx, hby_, oby_, (ne_symm d_by__bx), sa, av_sa_bx, av_sa_by_, sb, av_sb_bx, av_sb_by_, bel⟩
    obtain ⟨w10, hw_⟩ : ∃ x, x = wc := ⟨_, rfl⟩
    subst hw_
    obtain ⟨g6, g7, rfl, rfl, hbx, obx, hby_, oby_, d_bx_by_, sa, av_sa_bx, av_sa_by_, sb, av_sb_bx, av_sb_by_, bel⟩ := hcut
    have dx := HXD.out.below bel
    have dy := HYD.out.below bel
    go_wp2_with fail
    replace bel := bel.drew
    replace hbx : w10.drew.heap[g6]? = _ := hbx
    replace hby_ : w10.drew.heap[g7]? = _ := hby_
    replace sa := sa.drew
    replace sb := sb.drew
    replace dx := dx.drew
    replace dy := dy.drew
    refine wp_region_held_drew (S := fun W => W.heap[g6]? = some (.cells #[.slice x.A x.n x.c, .int .i64 x.t, .int .i64 x.k, .int .u32 x.u, .slice x.B x.d x.e] 100 (0, 0)) ∧ W.heap[g7]? = some (.cells #[.slice y.A y.n y.c, .int .i64 y.t, .int .i64 y.k, .int .u32 y.u, .slice y.B y.d y.e] 100 (0, 0)) ∧ Sl W (x.B) (x.d) (x.e) (r1.data) ∧ Sl W (y.B) (y.d) (y.e) (r1.data)) (by kernel_rfl) ⟨hbx, hby_, dx, dy⟩ (fun hH => ?_)
    generalize w10.drew = w11 at bel hbx hby_ sa sb dx dy hH ⊢
    refine wpAnyH_take (i := 0) (v := ?_) rfl (by kernel_rfl) (by kernel_rfl) (by kernel_rfl) (fun _ _ _ h => h) (Or.inl ⟨by rfl, ?_⟩) hH ?_
    rotate_left
    · ((intro W hW; clear hW; go_simp) <;> with_reducible rfl)
    simp only [Act.put, List.getElem_toArray, List.getElem_cons_zero, List.setIfInBounds_toArray, List.set_cons_zero, List.set_cons_succ]
    refine wpAnyH_take (i := 1) (v := ?_) rfl (by kernel_rfl) (by kernel_rfl) (by kernel_rfl) (fun _ _ _ h => h) (Or.inl ⟨by rfl, ?_⟩) hH ?_
    rotate_left
    · ((intro W hW; have hk := cell_lit (hW.1) 1 _ rfl; clear hW; go_simp) <;> with_reducible rfl)
    simp only [sq3, sq4]
    refine wpAnyH_take (i := 2) (v := ?_) rfl (by kernel_rfl) (by kernel_rfl) (by kernel_rfl) (fun _ _ _ h => h) (Or.inl ⟨by rfl, ?_⟩) hH ?_
    rotate_left
    · ((intro W hW; clear hW; go_simp) <;> with_reducible rfl)
    simp only [sq3, sq4]
    refine wpAnyH_take (i := 3) (v := ?_) rfl (by kernel_rfl) (by kernel_rfl) (by kernel_rfl) (fun _ _ _ h => h) (Or.inl ⟨by rfl, ?_⟩) hH ?_
    rotate_left
    · ((intro W hW; have hk := cell_lit (hW.2.1) 1 _ rfl; clear hW; go_simp) <;> with_reducible rfl)
    simp only [sq3, sq4]
    refine wpAnyH_take (i := 4) (v := ?_) rfl (by kernel_rfl) (by kernel_rfl) (by kernel_rfl) (fun _ _ _ h => h) (Or.inl ⟨by rfl, ?_⟩) hH ?_
    rotate_left
    · ((intro W hW; clear hW; go_simp) <;> with_reducible rfl)
    simp only [sq3, sq4]
    refine wpAnyH_take (i := 5) (v := ?_) rfl (by kernel_rfl) (by kernel_rfl) (by kernel_rfl) (fun _ _ _ h => h) (Or.inl ⟨by rfl, ?_⟩) hH ?_
    rotate_left
    · ((intro W hW; clear hW; go_simp) <;> with_reducible rfl)
    simp only [sq3, sq4]
    refine wpAnyH_take (i := 6) (v := ?_) rfl (by kernel_rfl) (by kernel_rfl) (by kernel_rfl) (fun _ _ _ h => h) (Or.inl ⟨by rfl, ?_⟩) hH ?_
    rotate_left
    · ((intro W hW; clear hW; go_simp) <;> with_reducible rfl)
    simp only [sq3, sq4]
    refine wpAnyH_take (i := 7) (v := ?_) rfl (by kernel_rfl) (by kernel_rfl) (by kernel_rfl) (fun _ _ _ h => h) (Or.inl ⟨by rfl, ?_⟩) hH ?_
    rotate_left
    · ((intro W hW; have hk := cell_lit (hW.1) 2 _ rfl; clear hW; go_simp) <;> with_reducible rfl)
    simp only [sq3, sq4]
    refine wpAnyH_take (i := 8) (v := ?_) rfl (by kernel_rfl) (by kernel_rfl) (by kernel_rfl) (fun _ _ _ h => h) (Or.inl ⟨by rfl, ?_⟩) hH ?_
    rotate_left
    · ((intro W hW; clear hW; go_simp) <;> with_reducible rfl)
    simp only [sq3, sq4]
    refine wpAnyH_take (i := 9) (v := ?_) rfl (by kernel_rfl) (by kernel_rfl) (by kernel_rfl) (fun _ _ _ h => h) (Or.inl ⟨by rfl, ?_⟩) hH ?_
    rotate_left
    · ((intro W hW; have hk := cell_lit (hW.2.1) 2 _ rfl; clear hW; go_simp) <;> with_reducible rfl)
    simp only [sq3, sq4]
    refine wpAnyH_take (i := 10) (v := ?_) rfl (by kernel_rfl) (by kernel_rfl) (by kernel_rfl) (fun _ _ _ h => h) (Or.inl ⟨by rfl, ?_⟩) hH ?_
    rotate_left
    · ((intro W hW; clear hW; go_simp) <;> with_reducible rfl)
    simp only [sq3, sq4]
    refine wpAnyH_take (i := 11) (v := ?_) rfl (by kernel_rfl) (by kernel_rfl) (by kernel_rfl) (fun _ _ _ h => h) (Or.inl ⟨by rfl, ?_⟩) hH ?_
    rotate_left
    · ((intro W hW; clear hW; go_simp) <;> with_reducible rfl)
    simp only [sq3, sq4]
    refine wpAnyH_take (i := 12) (v := ?_) rfl (by kernel_rfl) (by kernel_rfl) (by kernel_rfl) (fun _ _ _ h => h) (Or.inl ⟨by rfl, ?_⟩) hH ?_
    rotate_left
    · ((intro W hW; clear hW; go_simp) <;> with_reducible rfl)
    simp only [sq3, sq4]
    refine wpAnyH_take (i := 13) (v := ?_) rfl (by kernel_rfl) (by kernel_rfl) (by kernel_rfl) (fun _ _ _ h => h) (Or.inl ⟨by rfl, ?_⟩) hH ?_
    rotate_left
    · ((intro W hW; clear hW; go_simp) <;> with_reducible rfl)
    simp only [sq3, sq4]
    refine wpAnyH_take (i := 14) (v := ?_) rfl (by kernel_rfl) (by kernel_rfl) (by kernel_rfl) (fun _ _ _ h => h) (Or.inl ⟨by rfl, ?_⟩) hH ?_
    rotate_left
    · ((intro W hW; have hk := cell_lit (hW.1) 3 _ rfl; clear hW; go_simp) <;> with_reducible rfl)
    simp only [sq3, sq4]
    refine wpAnyH_take (i := 15) (v := ?_) rfl (by kernel_rfl) (by kernel_rfl) (by kernel_rfl) (fun _ _ _ h => h) (Or.inl ⟨by rfl, ?_⟩) hH ?_
    rotate_left
    · ((intro W hW; clear hW; go_simp) <;> with_reducible rfl)
    simp only [sq3, sq4]
    refine wpAnyH_take (i := 16) (v := ?_) rfl (by kernel_rfl) (by kernel_rfl) (by kernel_rfl) (fun _ _ _ h => h) (Or.inl ⟨by rfl, ?_⟩) hH ?_
    rotate_left
    · ((intro W hW; have hk := cell_lit (hW.2.1) 3 _ rfl; clear hW; go_simp) <;> with_reducible rfl)
    simp only [sq3, sq4]
    refine wpAnyH_take (i := 17) (v := ?_) rfl (by kernel_rfl) (by kernel_rfl) (by kernel_rfl) (fun _ _ _ h => h) (Or.inl ⟨by rfl, ?_⟩) hH ?_
    rotate_left
    · ((intro W hW; clear hW; go_simp) <;> with_reducible rfl)
    simp only [sq3, sq4]
    refine wpAnyH_take (i := 18) (v := ?_) rfl (by kernel_rfl) (by kernel_rfl) (by kernel_rfl) (fun _ _ _ h => h) (Or.inl ⟨by rfl, ?_⟩) hH ?_
    rotate_left
    · ((intro W hW; clear hW; go_simp) <;> with_reducible rfl)
    simp only [sq3, sq4]
    refine wpAnyH_take (i := 19) (v := ?_) rfl (by kernel_rfl) (by kernel_rfl) (by kernel_rfl) (fun _ _ _ h => h) (Or.inl ⟨by rfl, ?_⟩) hH ?_
    rotate_left
    · ((intro W hW; clear hW; go_simp) <;> with_reducible rfl)
    simp only [sq3, sq4]
    refine wpAnyH_take (i := 20) (v := ?_) rfl (by kernel_rfl) (by kernel_rfl) (by kernel_rfl) (fun _ _ _ h => h) (Or.inl ⟨by rfl, ?_⟩) hH ?_
    rotate_left
    · ((intro W hW; clear hW; go_simp) <;> with_reducible rfl)
    simp only [sq3, sq4]
    refine wpAnyH_take (i := 21) (v := ?_) rfl (by kernel_rfl) (by kernel_rfl) (by kernel_rfl) (fun _ _ _ h => h) (Or.inl ⟨by rfl, ?_⟩) hH ?_
    rotate_left
    · ((intro W hW; have hk := cell_lit (hW.1) 4 _ rfl; clear hW; go_simp) <;> with_reducible rfl)
    simp only [sq3, sq4]
    refine wpAnyH_take (i := 22) (v := ?_) rfl (by kernel_rfl) (by kernel_rfl) (by kernel_rfl) (fun _ _ _ h => h) (Or.inl ⟨by rfl, ?_⟩) hH ?_
    rotate_left
    · ((intro W hW; have st0 := (hW.2.2.1).str (P := Try.prog) 30 5 9 Try.underlying30 Try.underlying5 Try.underlying9; clear hW; go_simp) <;> with_reducible rfl)
    simp only [sq3, sq4]
    refine wpAnyH_take (i := 23) (v := ?_) rfl (by kernel_rfl) (by kernel_rfl) (by kernel_rfl) (fun _ _ _ h => h) (Or.inl ⟨by rfl, ?_⟩) hH ?_
    rotate_left
    · ((intro W hW; clear hW; go_simp) <;> with_reducible rfl)
    simp only [sq3, sq4]
    refine wpAnyH_take (i := 24) (v := ?_) rfl (by kernel_rfl) (by kernel_rfl) (by kernel_rfl) (fun _ _ _ h => h) (Or.inl ⟨by rfl, ?_⟩) hH ?_
    rotate_left
    · ((intro W hW; have hk := cell_lit (hW.2.1) 4 _ rfl; clear hW; go_simp) <;> with_reducible rfl)
    simp only [sq3, sq4]
    refine wpAnyH_take (i := 25) (v := ?_) rfl (by kernel_rfl) (by kernel_rfl) (by kernel_rfl) (fun _ _ _ h => h) (Or.inl ⟨by rfl, ?_⟩) hH ?_
    rotate_left
    · ((intro W hW; have st0 := (hW.2.2.2).str (P := Try.prog) 30 5 9 Try.underlying30 Try.underlying5 Try.underlying9; clear hW; go_simp) <;> with_reducible rfl)
    simp only [sq3, sq4]
    refine wpAnyH_take (i := 26) (v := ?_) rfl (by kernel_rfl) (by kernel_rfl) (by kernel_rfl) (fun _ _ _ h => h) (Or.inl ⟨by rfl, ?_⟩) hH ?_
    rotate_left
    · ((intro W hW; clear hW; go_simp) <;> with_reducible rfl)
    simp only [sq3, sq4]
    refine wpAnyH_take (i := 27) (v := ?_) rfl (by kernel_rfl) (by kernel_rfl) (by kernel_rfl) (fun _ _ _ h => h) (Or.inl ⟨by rfl, ?_⟩) hH ?_
    rotate_left
    · ((intro W hW; clear hW; go_simp) <;> with_reducible rfl)
    simp only [sq3, sq4]
    refine wpAnyH_take (i := 28) (v := ?_) rfl (by kernel_rfl) (by kernel_rfl) (by kernel_rfl) (fun _ _ _ h => h) (Or.inl ⟨by rfl, ?_⟩) hH ?_
    rotate_left
    · ((intro W hW; clear hW; go_simp) <;> with_reducible rfl)
    simp only [sq3, sq4]
    refine wpAnyH_take (i := 29) (v := ?_) rfl (by kernel_rfl) (by kernel_rfl) (by kernel_rfl) (fun _ _ _ h => h) (Or.inl ⟨by rfl, ?_⟩) hH ?_
    rotate_left
    · ((intro W hW; clear hW; go_simp) <;> with_reducible rfl)
    simp only [sq3, sq4]
    refine wpAnyH_take (i := 30) (v := ?_) rfl (by kernel_rfl) (by kernel_rfl) (by kernel_rfl) (fun _ _ _ h => h) (Or.inl ⟨by rfl, ?_⟩) hH ?_
    rotate_left
    · ((intro W hW; have hk := cell_lit (hW.1) 0 _ rfl; clear hW; go_simp) <;> with_reducible rfl)
    simp only [sq3, sq4]
    refine wpAnyH_take (i := 32) (v := ?_) rfl (by kernel_rfl) (by kernel_rfl) (by kernel_rfl) (fun _ _ _ h => h) (Or.inl ⟨by rfl, ?_⟩) hH ?_
    rotate_left
    · ((intro W hW; clear hW; go_simp) <;> with_reducible rfl)
    simp only [sq3, sq4]
    refine wpAnyH_take (i := 33) (v := ?_) rfl (by kernel_rfl) (by kernel_rfl) (by kernel_rfl) (fun _ _ _ h => h) (Or.inl ⟨by rfl, ?_⟩) hH ?_
    rotate_left
    · ((intro W hW; have hk := cell_lit (hW.2.1) 0 _ rfl; clear hW; go_simp) <;> with_reducible rfl)
    simp only [sq3, sq4]
    refine wpAnyH_ready (rs := [31]) (by kernel_rfl) (by simp) ?_
    refine AllReadyH.cons (o := _) rfl (fun K hK => ?_) AllReadyH.nil
    simp only [sq3]
    go_simp
    with_reducible refine (rtext_any _ _ _ r1.name _ (HXA.out.below bel) HTX.out).mono ?_
    rintro e w12 ⟨rfl, b12⟩
    dsimp only
    replace hbx := blk_u hbx b12
    replace hby_ := blk_u hby_ b12
    replace sa := sa.below b12
    replace sb := sb.below b12
    replace dx := dx.below b12
    replace dy := dy.below b12
    replace bel := bel.trans (b12.mono bel.size)
    clear b12
    refine hK.out _ _ ⟨hbx, hby_, dx, dy⟩ (fun hH13 => ?_)
    clear hK K
    refine wpAnyH_ready (rs := [34]) (by kernel_rfl) (by simp) ?_
    refine AllReadyH.cons (o := _) rfl (fun K hK => ?_) AllReadyH.nil
    simp only [sq3]
    go_simp
    with_reducible refine (rtext_any _ _ _ r1.name _ (HYA.out.below bel) HTX.out).mono ?_
    rintro e w14 ⟨rfl, b14⟩
    dsimp only
    replace hbx := blk_u hbx b14
    replace hby_ := blk_u hby_ b14
    replace sa := sa.below b14
    replace sb := sb.below b14
    replace dx := dx.below b14
    replace dy := dy.below b14
    replace bel := bel.trans (b14.mono bel.size)
    clear b14
    refine hK.out _ _ ⟨hbx, hby_, dx, dy⟩ (fun hH15 => ?_)
    clear hK K
    refine wpAnyH_take (i := 35) (v := ?_) rfl (by kernel_rfl) (by kernel_rfl) (by kernel_rfl) (fun _ _ _ h => h) (Or.inl ⟨by rfl, ?_⟩) hH15 ?_
    rotate_left
    · ((intro W hW; clear hW; go_simp) <;> with_reducible rfl)
    simp only [sq3, sq4]
    refine wpAnyH_take (i := 36) (v := ?_) rfl (by kernel_rfl) (by kernel_rfl) (by kernel_rfl) (fun _ _ _ h => h) (Or.inl ⟨by rfl, ?_⟩) hH15 ?_
    rotate_left
    · ((intro W hW; clear hW; go_simp) <;> with_reducible rfl)
    simp only [sq3, sq4]
    refine wpAnyH_done (by kernel_rfl) ?_ _
    go_wp2_with fail
    go_roundg (n - (i + 1))
    case measure => have := HGK_.out; omega
    case rel => exact ⟨i + 1, rfl, hik, by go_num, sa, sb, bel⟩
theorem rsamer_any {A B : Option Addr} {n c nb cb : Nat} {hs gs : List Rh} {L : List Rn} (w : World) (sa : Sle rE 5 w A n c hs) (ra : RRs w hs L) (sb : Sle rE 5 w B nb cb gs) (rb : RRs w gs L) (hn : n ≤ 100000) (hnb : ∀ r ∈ L, sizeN r.name ≤ 99999) : Calls Try.prog 30 #[.slice A n c, .slice B nb cb] w fun e w' => e = .returned (.bool true) ∧ Below w.heap.size w w' := by
  obtain rfl : n = nb := sa.1.symm.trans (ra.1.trans (rb.1.symm.trans sb.1))
  exact rsamer_n w sa ra sb rb hn hnb
set_option linter.unusedVariables false in
set_option linter.unusedSimpArgs false in
set_option maxRecDepth 100000 in
set_option maxHeartbeats 16000000 in
theorem rsame_n (id fl : Int) (Q : Option Addr) (qn qc : Nat) (A : Option Addr) (an ac : Nat) (O : Option Addr) (on oc : Nat) (M : Option Addr) (mn mc : Nat) (id2 fl2 : Int) (Q2 : Option Addr) (qd : Nat) (A2 : Option Addr) (am ad : Nat) (O2 : Option Addr) (om od : Nat) (M2 : Option Addr) (mm md : Nat) {hs gs : List Qh} {ha hb ho hp hm hn : List Rh} {m : Mn} (w : World) (sq : Sle qE 3 w Q qn qc hs) (rq : QRs w hs m.q) (sr : Sle qE 3 w Q2 qn qd gs) (rr : QRs w gs m.q) (sa : Sle rE 5 w A an ac ha) (ra : RRs w ha m.a) (sb : Sle rE 5 w A2 am ad hb) (rb : RRs w hb m.a) (so : Sle rE 5 w O on oc ho) (ro : RRs w ho m.o) (sp : Sle rE 5 w O2 om od hp) (rp : RRs w hp m.o) (sm : Sle rE 5 w M mn mc hm) (rm : RRs w hm m.m) (sn : Sle rE 5 w M2 mm md hn) (rn : RRs w hn m.m) (hi : id = id2) (hf : fl = fl2) (hqn : qn ≤ 100000) (hna : an ≤ 100000) (hno : on ≤ 100000) (hnm : mn ≤ 100000) (hnb : ∀ q ∈ m.q, sizeN q.name ≤ 99999) (hrb : ∀ r ∈ allR m, sizeN r.name ≤ 99999) : Calls Try.prog 12 #[.agg #[.int .i64 id, .int .i64 fl, .slice Q qn qc, .slice A an ac, .slice O on oc, .slice M mn mc], .agg #[.int .i64 id2, .int .i64 fl2, .slice Q2 qn qd, .slice A2 am ad, .slice O2 om od, .slice M2 mm md]] w fun e w' => e = .returned (.bool true) ∧ Below w.heap.size w w' := by
  have HSL := Lib.hid sq.1
  have HGL := Lib.hid sr.1
  have HRA := Lib.hid rq
  have HRB := Lib.hid rr
  have HNB := Lib.hid hnb
  have HA1 := Lib.hid sa
  have HA2 := Lib.hid ra
  have HA3 := Lib.hid sb
  have HA4 := Lib.hid rb
  have HO1 := Lib.hid so
  have HO2 := Lib.hid ro
  have HO3 := Lib.hid sp
  have HO4 := Lib.hid rp
  have HM1 := Lib.hid sm
  have HM2 := Lib.hid rm
  have HM3 := Lib.hid sn
  have HM4 := Lib.hid rn
  have HNA := Lib.hid hna
  have HNO := Lib.hid hno
  have HNM := Lib.hid hnm
  have HTA : Hid (∀ r ∈ m.a, sizeN r.name ≤ 99999) := Lib.hid (fun r hr => hrb r (by simp [allR, hr]))
  have HTO : Hid (∀ r ∈ m.o, sizeN r.name ≤ 99999) := Lib.hid (fun r hr => hrb r (by simp [allR, hr]))
  have HTM : Hid (∀ r ∈ m.m, sizeN r.name ≤ 99999) := Lib.hid (fun r hr => hrb r (by simp [allR, hr]))
  have n0 : (0 : Int) ≤ qn := by omega
  have n1 : (qn : Int) ≤ 100000 := by omega
  have ti : (id != id2) = false := by rw [hi]; simp
  have tf : (fl != fl2) = false := by rw [hf]; simp
  have tn : ((qn : Int) != (qn : Int)) = false := by simp
  have tm : (qn != qn) = false := by simp
  clear rq rr sa ra sb rb so ro sp rp sm rm sn rn hnb hna hno hnm hrb hi hf
  have bel := Below.refl w.heap.size w
  go_enter Try.func12, Try.ntmps12
  go_wp2_with (first | ((with_reducible show wpList _ _ _ (⟨some 2, _, _, _, _, _⟩ :: _) _ _); refine wpList_box_n rfl 40 (.tmp 0) rfl #[.int .i64 id, .int .i64 fl, .slice Q qn qc, .slice A an ac, .slice O on oc, .slice M mn mc] rfl ?_; intro g2 w1 ge lt hh bb; have av_sq_m1 := sq.av_new ge; have av_sr_m1 := sr.av_new ge; have om1 := Nat.le_trans bel.size ge; replace sq := sq.below bb; replace sr := sr.below bb; replace bel := bel.trans (bb.mono bel.size); have hm1 := hh; clear hh lt ge bb) | ((with_reducible show wpList _ _ _ (⟨some 3, _, _, _, _, _⟩ :: _) _ _); refine wpList_box_n rfl 40 (.tmp 1) rfl #[.int .i64 id2, .int .i64 fl2, .slice Q2 qn qd, .slice A2 am ad, .slice O2 om od, .slice M2 mm md] rfl ?_; intro g3 w2 ge lt hh bb; have d_m1_m2 := ne_new (hlt hm1) ge; have av_sq_m2 := sq.av_new ge; have av_sr_m2 := sr.av_new ge; have om2 := Nat.le_trans bel.size ge; replace hm1 := blk_u hm1 bb; replace sq := sq.below bb; replace sr := sr.below bb; replace bel := bel.trans (bb.mono bel.size); have hm2 := hh; clear hh lt ge bb; have R9 := cell_lit hm1 0 _ rfl; have R11 := cell_lit hm2 0 _ rfl; have R15 := cell_lit hm1 1 _ rfl; have R17 := cell_lit hm2 1 _ rfl; have R22 := cell_lit hm1 2 _ rfl; have R25 := cell_lit hm2 2 _ rfl; have R31 := cell_lit hm1 3 _ rfl; have R33 := cell_lit hm2 3 _ rfl))
  try clear R9
  try clear R11
  try clear R15
  try clear R17
  try clear R22
  try clear R25
  try clear R31
  try clear R33
  with_reducible refine (rsamer_any _ (HA1.out.below bel) (HA2.out.below bel) (HA3.out.below bel) (HA4.out.below bel) HNA.out HTA.out).mono ?_
  rintro e w3 ⟨rfl, b3⟩
  replace hm1 := blk_u hm1 b3
  replace hm2 := blk_u hm2 b3
  replace sq := sq.below b3
  replace sr := sr.below b3
  replace bel := bel.trans (b3.mono bel.size)
  clear b3
  have R39 := cell_lit hm1 4 _ rfl
  have R41 := cell_lit hm2 4 _ rfl
  go_wp2_with fail
  clear R39 R41
  with_reducible refine (rsamer_any _ (HO1.out.below bel) (HO2.out.below bel) (HO3.out.below bel) (HO4.out.below bel) HNO.out HTO.out).mono ?_
  rintro e w4 ⟨rfl, b4⟩
  replace hm1 := blk_u hm1 b4
  replace hm2 := blk_u hm2 b4
  replace sq := sq.below b4
  replace sr := sr.below b4
  replace bel := bel.trans (b4.mono bel.size)
  clear b4
  have R47 := cell_lit hm1 5 _ rfl
  have R49 := cell_lit hm2 5 _ rfl
  go_wp2_with fail
  clear R47 R49
  with_reducible refine (rsamer_any _ (HM1.out.below bel) (HM2.out.below bel) (HM3.out.below bel) (HM4.out.below bel) HNM.out HTM.out).mono ?_
  rintro e w5 ⟨rfl, b5⟩
  replace hm1 := blk_u hm1 b5
  replace hm2 := blk_u hm2 b5
  replace sq := sq.below b5
  replace sr := sr.below b5
  replace bel := bel.trans (b5.mono bel.size)
  clear b5
  go_wp2_with fail
  go_loopg [5] (qn) (fun gk s5 wr => ∃ i : Nat, gk = qn - i ∧ i ≤ qn ∧ s5 = .int .i64 (i : Int) ∧ wr.heap[g2]? = some (.cells #[.int .i64 id, .int .i64 fl, .slice Q qn qc, .slice A an ac, .slice O on oc, .slice M mn mc] 40 (0, 0)) ∧ wr.heap[g3]? = some (.cells #[.int .i64 id2, .int .i64 fl2, .slice Q2 qn qd, .slice A2 am ad, .slice O2 om od, .slice M2 mm md] 40 (0, 0)) ∧ Sle qE 3 wr (Q) (qn) (qc) (hs) ∧ Sle qE 3 wr (Q2) (qn) (qd) (gs) ∧ Below w.heap.size w wr)
  case atStart => exact ⟨0, Nat.sub_zero _, Nat.zero_le _, rfl, hm1, hm2, sq, sr, bel⟩
  case round =>
    clear hm1 hm2 sq sr bel
    obtain ⟨i, HGK, hi, rfl, hm1, hm2, sq, sr, bel⟩ := hrel
    have HGK_ := Lib.hid HGK
    clear HGK
    have i0 : (0 : Int) ≤ i := by omega
    by_cases hik : i < qn
    rotate_left
    · replace hik : decide (i < qn) = false := decide_eq_false hik
      have R55 := cell_lit hm1 2 _ rfl
      go_wp2_with fail
      clear R55
      go_ret
      exact ⟨rfl, bel⟩
    obtain ⟨gE, oE, hp_⟩ := sq.place (by omega)
    subst hp_
    obtain ⟨gF, oF, hq_⟩ := sr.place (by omega)
    subst hq_
    obtain ⟨x, hx_⟩ : ∃ u_, hs[i]? = some u_ := ⟨_, List.getElem?_eq_getElem (by rw [HSL.out]; exact hik)⟩
    obtain ⟨y, hy_⟩ : ∃ u_, gs[i]? = some u_ := ⟨_, List.getElem?_eq_getElem (by rw [HGL.out]; exact hik)⟩
    have HX := Lib.hid hx_
    have HY := Lib.hid hy_
    obtain ⟨r1, hl_, hr_⟩ := HRA.out.at hx_
    have hs_ := HRB.out.2 i y r1 hy_ hl_
    have HXA : Hid (Sle stf 1 w x.A x.n x.c r1.name) := Lib.hid hr_.2.2
    have HYA : Hid (Sle stf 1 w y.A y.n y.c r1.name) := Lib.hid hs_.2.2
    have HTX : Hid (sizeN r1.name ≤ 99999) := Lib.hid (HNB.out r1 (List.mem_of_getElem? hl_))
    have qt : (x.t != y.t) = false := by rw [hr_.1, hs_.1]; simp
    have qk : (x.k != y.k) = false := by rw [hr_.2.1, hs_.2.1]; simp
    clear hx_ hy_ hl_ hr_ hs_
    have R55 := cell_lit hm1 2 _ rfl
    go_wp2_with fail
    clear R55
    go_cut [6, 7] from 9999 (fun s6 s7 W => ∃ g6 : Nat, ∃ g7 : Nat, s6 = .pointer (some ⟨g6, 0, none⟩) ∧ s7 = .pointer (some ⟨g7, 0, none⟩) ∧ W.heap[g2]? = some (.cells #[.int .i64 id, .int .i64 fl, .slice (some ⟨gE, oE, none⟩) qn qc, .slice A an ac, .slice O on oc, .slice M mn mc] 40 (0, 0)) ∧ W.heap[g3]? = some (.cells #[.int .i64 id2, .int .i64 fl2, .slice (some ⟨gF, oF, none⟩) qn qd, .slice A2 am ad, .slice O2 om od, .slice M2 mm md] 40 (0, 0)) ∧ W.heap[g6]? = some (.cells #[.slice x.A x.n x.c, .int .i64 x.t, .int .i64 x.k] 68 (0, 0)) ∧ w.heap.size ≤ g6 ∧ W.heap[g7]? = some (.cells #[.slice y.A y.n y.c, .int .i64 y.t, .int .i64 y.k] 68 (0, 0)) ∧ w.heap.size ≤ g7 ∧ Hid (g6 ≠ g7) ∧ Hid (g6 ≠ g2) ∧ Hid (g6 ≠ g3) ∧ Hid (g7 ≠ g2) ∧ Hid (g7 ≠ g3) ∧ Hid (g2 ≠ g3) ∧ Sle qE 3 W (some ⟨gE, oE, none⟩) (qn) (qc) (hs) ∧ Av (some ⟨gE, oE, none⟩) (qn) g6 ∧ Av (some ⟨gE, oE, none⟩) (qn) g7 ∧ Av (some ⟨gE, oE, none⟩) (qn) g2 ∧ Av (some ⟨gE, oE, none⟩) (qn) g3 ∧ Sle qE 3 W (some ⟨gF, oF, none⟩) (qn) (qd) (gs) ∧ Av (some ⟨gF, oF, none⟩) (qn) g6 ∧ Av (some ⟨gF, oF, none⟩) (qn) g7 ∧ Av (some ⟨gF, oF, none⟩) (qn) g2 ∧ Av (some ⟨gF, oF, none⟩) (qn) g3 ∧ Below w.heap.size w W)
    case first =>
      replace bel := bel.drew
      replace hm1 : wr.drew.heap[g2]? = _ := hm1
      replace hm2 : wr.drew.heap[g3]? = _ := hm2
      replace sq := sq.drew
      replace sr := sr.drew
      refine wp_region_held_drew (S := fun W => W.heap[g2]? = some (.cells #[.int .i64 id, .int .i64 fl, .slice (some ⟨gE, oE, none⟩) qn qc, .slice A an ac, .slice O on oc, .slice M mn mc] 40 (0, 0)) ∧ W.heap[g3]? = some (.cells #[.int .i64 id2, .int .i64 fl2, .slice (some ⟨gF, oF, none⟩) qn qd, .slice A2 am ad, .slice O2 om od, .slice M2 mm md] 40 (0, 0)) ∧ Sle qE 3 W (some ⟨gE, oE, none⟩) (qn) (qc) (hs) ∧ Sle qE 3 W (some ⟨gF, oF, none⟩) (qn) (qd) (gs)) (by kernel_rfl) ⟨hm1, hm2, sq, sr⟩ (fun hH => ?_)
      generalize wr.drew = w6 at bel hm1 hm2 sq sr hH ⊢
      refine wpAnyH_take (i := 0) (v := ?_) rfl (by kernel_rfl) (by kernel_rfl) (by kernel_rfl) (fun _ _ _ h => h) (Or.inl ⟨by rfl, ?_⟩) hH ?_
      rotate_left
      · ((intro W hW; clear hW; go_simp) <;> with_reducible rfl)
      simp only [Act.put, List.getElem_toArray, List.getElem_cons_zero, List.setIfInBounds_toArray, List.set_cons_zero, List.set_cons_succ]
      refine wpAnyH_take (i := 1) (v := ?_) rfl (by kernel_rfl) (by kernel_rfl) (by kernel_rfl) (fun _ _ _ h => h) (Or.inl ⟨by rfl, ?_⟩) hH ?_
      rotate_left
      · ((intro W hW; have hk := cell_lit (hW.1) 2 _ rfl; clear hW; go_simp) <;> with_reducible rfl)
      simp only [sq3, sq4]
      refine wpAnyH_take (i := 2) (v := ?_) rfl (by kernel_rfl) (by kernel_rfl) (by kernel_rfl) (fun _ _ _ h => h) (Or.inl ⟨by rfl, ?_⟩) hH ?_
      rotate_left
      · ((intro W hW; clear hW; go_simp) <;> with_reducible rfl)
      simp only [sq3, sq4]
      refine wpAnyH_take (i := 3) (v := ?_) rfl (by kernel_rfl) (by kernel_rfl) (by kernel_rfl) (fun _ _ _ h => h) (Or.inl ⟨by rfl, ?_⟩) hH ?_
      rotate_left
      · ((intro W hW; clear hW; go_simp) <;> with_reducible rfl)
      simp only [sq3, sq4]
      refine wpAnyH_take (i := 4) (v := .agg #[.slice x.A x.n x.c, .int .i64 x.t, .int .i64 x.k]) rfl (by kernel_rfl) (by kernel_rfl) (by kernel_rfl) (fun _ _ _ h => h) (yieldsIf_load_mid (by kernel_rfl) 68 _ rfl gE (oE + i * 3) rfl [.slice x.A x.n x.c, .int .i64 x.t, .int .i64 x.k] _ (fun W hW => Sle.range0 (hW.2.2.1) HX.out 3 [.slice x.A x.n x.c, .int .i64 x.t, .int .i64 x.k] rfl) Try.underlying68 rfl (by kernel_rfl)) hH ?_
      simp only [sq3, sq4]
      refine wpAnyH_take (i := 5) (v := ?_) rfl (by kernel_rfl) (by kernel_rfl) (by kernel_rfl) (fun _ _ _ h => h) (Or.inl ⟨by rfl, ?_⟩) hH ?_
      rotate_left
      · ((intro W hW; clear hW; go_simp) <;> with_reducible rfl)
      simp only [sq3, sq4]
      refine wpAnyH_take (i := 6) (v := ?_) rfl (by kernel_rfl) (by kernel_rfl) (by kernel_rfl) (fun _ _ _ h => h) (Or.inl ⟨by rfl, ?_⟩) hH ?_
      rotate_left
      · ((intro W hW; have hk := cell_lit (hW.2.1) 2 _ rfl; clear hW; go_simp) <;> with_reducible rfl)
      simp only [sq3, sq4]
      refine wpAnyH_take (i := 7) (v := ?_) rfl (by kernel_rfl) (by kernel_rfl) (by kernel_rfl) (fun _ _ _ h => h) (Or.inl ⟨by rfl, ?_⟩) hH ?_
      rotate_left
      · ((intro W hW; clear hW; go_simp) <;> with_reducible rfl)
      simp only [sq3, sq4]
      refine wpAnyH_take (i := 8) (v := ?_) rfl (by kernel_rfl) (by kernel_rfl) (by kernel_rfl) (fun _ _ _ h => h) (Or.inl ⟨by rfl, ?_⟩) hH ?_
      rotate_left
      · ((intro W hW; clear hW; go_simp) <;> with_reducible rfl)
      simp only [sq3, sq4]
      refine wpAnyH_take (i := 9) (v := .agg #[.slice y.A y.n y.c, .int .i64 y.t, .int .i64 y.k]) rfl (by kernel_rfl) (by kernel_rfl) (by kernel_rfl) (fun _ _ _ h => h) (yieldsIf_load_mid (by kernel_rfl) 68 _ rfl gF (oF + i * 3) rfl [.slice y.A y.n y.c, .int .i64 y.t, .int .i64 y.k] _ (fun W hW => Sle.range0 (hW.2.2.2) HY.out 3 [.slice y.A y.n y.c, .int .i64 y.t, .int .i64 y.k] rfl) Try.underlying68 rfl (by kernel_rfl)) hH ?_
      simp only [sq3, sq4]
      refine wpAnyH_ready (rs := [10, 11]) (by kernel_rfl) (by simp) ?_
      refine AllReadyH.cons (o := _) rfl (fun K hK => ?_) (AllReadyH.cons (o := _) rfl (fun K hK => ?_) AllReadyH.nil)
      · simp only [sq3]
        rw [if_pos (by rfl)]
        refine wp_new_a 68 rfl #[.slice none 0 0, .int .i64 0, .int .i64 0] (by kernel_rfl) ?_
        intro g6 w7 ge hh bb
        have d_m1_bx := ne_new (hlt hm1) ge
        have d_m2_bx := ne_new (hlt hm2) ge
        have av_sq_bx := sq.av_new ge
        have av_sr_bx := sr.av_new ge
        have obx := Nat.le_trans bel.size ge
        replace hm1 := blk_u hm1 bb
        replace hm2 := blk_u hm2 bb
        replace sq := sq.below bb
        replace sr := sr.below bb
        replace bel := bel.trans (bb.mono bel.size)
        have hbx := hh
        clear hh ge bb
        refine hK.out _ _ ⟨hm1, hm2, sq, sr⟩ (fun hH8 => ?_)
        clear hK K
        simp only [sq4]
        refine wpAnyH_ready (rs := [11]) (by kernel_rfl) (by simp) ?_
        refine AllReadyH.cons (o := _) rfl (fun K hK => ?_) AllReadyH.nil
        simp only [sq3]
        rw [if_pos (by rfl)]
        refine wp_new_a 68 rfl #[.slice none 0 0, .int .i64 0, .int .i64 0] (by kernel_rfl) ?_
        intro g7 w9 ge hh bb
        have d_m1_by_ := ne_new (hlt hm1) ge
        have d_m2_by_ := ne_new (hlt hm2) ge
        have d_bx_by_ := ne_new (hlt hbx) ge
        have av_sq_by_ := sq.av_new ge
        have av_sr_by_ := sr.av_new ge
        have oby_ := Nat.le_trans bel.size ge
        replace hm1 := blk_u hm1 bb
        replace hm2 := blk_u hm2 bb
        replace hbx := blk_u hbx bb
        replace sq := sq.below bb
        replace sr := sr.below bb
        replace bel := bel.trans (bb.mono bel.size)
        have hby_ := hh
        clear hh ge bb
        refine hK.out _ _ ⟨hm1, hm2, sq, sr⟩ (fun hH10 => ?_)
        clear hK K
        simp only [sq4]
        refine wpAnyH_ready (rs := [12]) (by kernel_rfl) (by simp) ?_
        refine AllReadyH.cons (o := _) rfl (fun K hK => ?_) AllReadyH.nil
        simp only [sq3]
        rw [if_pos (by rfl)]
        refine wp_store_blk 68 (.tmp 6) (.tmp 64) rfl g6 rfl _ rfl _ 68 hbx (by rfl) (by kernel_rfl) (by kernel_rfl) ?_
        intro w11 hq gr
        replace sq := sq.away av_sq_bx gr
        replace sr := sr.away av_sr_bx gr
        replace hm1 := blk_a hm1 gr d_m1_bx
        replace hm2 := blk_a hm2 gr d_m2_bx
        replace hby_ := blk_a hby_ gr (ne_symm d_bx_by_)
        replace bel := below_grown bel gr obx bel.size
        clear hbx
        have hbx := hq
        clear hq gr
        refine hK.out _ _ ⟨hm1, hm2, sq, sr⟩ (fun hH12 => ?_)
        clear hK K
        simp only [Act.put]
        refine wpAnyH_ready (rs := [13]) (by kernel_rfl) (by simp) ?_
        refine AllReadyH.cons (o := _) rfl (fun K hK => ?_) AllReadyH.nil
        simp only [sq3]
        rw [if_pos (by rfl)]
        refine wp_store_blk 68 (.tmp 7) (.tmp 69) rfl g7 rfl _ rfl _ 68 hby_ (by rfl) (by kernel_rfl) (by kernel_rfl) ?_
        intro w13 hq gr
        replace sq := sq.away av_sq_by_ gr
        replace sr := sr.away av_sr_by_ gr
        replace hm1 := blk_a hm1 gr d_m1_by_
        replace hm2 := blk_a hm2 gr d_m2_by_
        replace hbx := blk_a hbx gr d_bx_by_
        replace bel := below_grown bel gr oby_ bel.size
        clear hby_
        have hby_ := hq
        clear hq gr
        refine hK.out _ _ ⟨hm1, hm2, sq, sr⟩ (fun hH14 => ?_)
        clear hK K
        simp only [Act.put]
        refine wpAnyH_done (by kernel_rfl) ?_ _
        go_wp2_with fail
        go_meet
        case rel => exact ⟨g6, g7, rfl, rfl, hm1, hm2, hbx, obx, hby_, oby_, d_bx_by_, (ne_symm d_m1_bx), (ne_symm d_m2_bx), (ne_symm d_m1_by_), (ne_symm d_m2_by_), d_m1_m2, sq, av_sq_bx, av_sq_by_, av_sq_m1, av_sq_m2, sr, av_sr_bx, av_sr_by_, av_sr_m1, av_sr_m2, bel⟩
      simp only [sq3]
      rw [if_pos (by rfl)]
      refine wp_new_a 68 rfl #[.slice none 0 0, .int .i64 0, .int .i64 0] (by kernel_rfl) ?_
      intro g7 w7 ge hh bb
      have d_m1_by_ := ne_new (hlt hm1) ge
      have d_m2_by_ := ne_new (hlt hm2) ge
      have av_sq_by_ := sq.av_new ge
      have av_sr_by_ := sr.av_new ge
      have oby_ := Nat.le_trans bel.size ge
      replace hm1 := blk_u hm1 bb
      replace hm2 := blk_u hm2 bb
      replace sq := sq.below bb
      replace sr := sr.below bb
      replace bel := bel.trans (bb.mono bel.size)
      have hby_ := hh
      clear hh ge bb
      refine hK.out _ _ ⟨hm1, hm2, sq, sr⟩ (fun hH8 => ?_)
      clear hK K
      simp only [sq4]
      refine wpAnyH_ready (rs := [10]) (by kernel_rfl) (by simp) ?_
      refine AllReadyH.cons (o := _) rfl (fun K hK => ?_) AllReadyH.nil
      simp only [sq3]
      rw [if_pos (by rfl)]
      refine wp_new_a 68 rfl #[.slice none 0 0, .int .i64 0, .int .i64 0] (by kernel_rfl) ?_
      intro g6 w9 ge hh bb
      have d_m1_bx := ne_new (hlt hm1) ge
      have d_m2_bx := ne_new (hlt hm2) ge
      have d_by__bx := ne_new (hlt hby_) ge
      have av_sq_bx := sq.av_new ge
      have av_sr_bx := sr.av_new ge
      have obx := Nat.le_trans bel.size ge
      replace hm1 := blk_u hm1 bb
      replace hm2 := blk_u hm2 bb
      replace hby_ := blk_u hby_ bb
      replace sq := sq.below bb
      replace sr := sr.below bb
      replace bel := bel.trans (bb.mono bel.size)
      have hbx := hh
      clear hh ge bb
      refine hK.out _ _ ⟨hm1, hm2, sq, sr⟩ (fun hH10 => ?_)
      clear hK K
      simp only [sq4]
      refine wpAnyH_ready (rs := [12]) (by kernel_rfl) (by simp) ?_
      refine AllReadyH.cons (o := _) rfl (fun K hK => ?_) AllReadyH.nil
      simp only [sq3]
      rw [if_pos (by rfl)]
      refine wp_store_blk 68 (.tmp 6) (.tmp 64) rfl g6 rfl _ rfl _ 68 hbx (by rfl) (by kernel_rfl) (by kernel_rfl) ?_
      intro w11 hq gr
      replace sq := sq.away av_sq_bx gr
      replace sr := sr.away av_sr_bx gr
      replace hm1 := blk_a hm1 gr d_m1_bx
      replace hm2 := blk_a hm2 gr d_m2_bx
      replace hby_ := blk_a hby_ gr d_by__bx
      replace bel := below_grown bel gr obx bel.size
      clear hbx
      have hbx := hq
      clear hq gr
      refine hK.out _ _ ⟨hm1, hm2, sq, sr⟩ (fun hH12 => ?_)
      clear hK K
      simp only [Act.put]
      refine wpAnyH_ready (rs := [13]) (by kernel_rfl) (by simp) ?_
      refine AllReadyH.cons (o := _) rfl (fun K hK => ?_) AllReadyH.nil
      simp only [sq3]
      rw [if_pos (by rfl)]
      refine wp_store_blk 68 (.tmp 7) (.tmp 69) rfl g7 rfl _ rfl _ 68 hby_ (by rfl) (by kernel_rfl) (by kernel_rfl) ?_
      intro w13 hq gr
      replace sq := sq.away av_sq_by_ gr
      replace sr := sr.away av_sr_by_ gr
      replace hm1 := blk_a hm1 gr d_m1_by_
      replace hm2 := blk_a hm2 gr d_m2_by_
      replace hbx := blk_a hbx gr (ne_symm d_by__bx)
      replace bel := below_grown bel gr oby_ bel.size
      clear hby_
      have hby_ := hq
      clear hq gr
      refine hK.out _ _ ⟨hm1, hm2, sq, sr⟩ (fun hH14 => ?_)
      clear hK K
      simp only [Act.put]
      refine wpAnyH_done (by kernel_rfl) ?_ _
      go_wp2_with fail
      go_meet
      case rel => exact ⟨g6, g7, rfl, rfl, hm1, hm2, hbx, obx, hby_, oby_, (ne_symm d_by__bx), (ne_symm d_m1_bx), (ne_symm d_m2_bx), (ne_symm d_m1_by_), (ne_symm d_m2_by_), d_m1_m2, sq, av_sq_bx, av_sq_by_, av_sq_m1, av_sq_m2, sr, av_sr_bx, av_sr_by_, av_sr_m1, av_sr_m2, bel⟩
    obtain ⟨w15, hw_⟩ : ∃ x, x = wc := ⟨_, rfl⟩
    subst hw_
    obtain ⟨g6, g7, rfl, rfl, hm1, hm2, hbx, obx, hby_, oby_, d_bx_by_, d_bx_m1, d_bx_m2, d_by__m1, d_by__m2, d_m1_m2, sq, av_sq_bx, av_sq_by_, av_sq_m1, av_sq_m2, sr, av_sr_bx, av_sr_by_, av_sr_m1, av_sr_m2, bel⟩ := hcut
    go_wp2_with fail
    replace bel := bel.drew
    replace hm1 : w15.drew.heap[g2]? = _ := hm1
    replace hm2 : w15.drew.heap[g3]? = _ := hm2
    replace hbx : w15.drew.heap[g6]? = _ := hbx
    replace hby_ : w15.drew.heap[g7]? = _ := hby_
    replace sq := sq.drew
    replace sr := sr.drew
    refine wp_region_held_drew (S := fun W => W.heap[g6]? = some (.cells #[.slice x.A x.n x.c, .int .i64 x.t, .int .i64 x.k] 68 (0, 0)) ∧ W.heap[g7]? = some (.cells #[.slice y.A y.n y.c, .int .i64 y.t, .int .i64 y.k] 68 (0, 0))) (by kernel_rfl) ⟨hbx, hby_⟩ (fun hH => ?_)
    generalize w15.drew = w16 at bel hm1 hm2 hbx hby_ sq sr hH ⊢
    refine wpAnyH_take (i := 0) (v := ?_) rfl (by kernel_rfl) (by kernel_rfl) (by kernel_rfl) (fun _ _ _ h => h) (Or.inl ⟨by rfl, ?_⟩) hH ?_
    rotate_left
    · ((intro W hW; clear hW; go_simp) <;> with_reducible rfl)
    simp only [Act.put, List.getElem_toArray, List.getElem_cons_zero, List.setIfInBounds_toArray, List.set_cons_zero, List.set_cons_succ]
    refine wpAnyH_take (i := 1) (v := ?_) rfl (by kernel_rfl) (by kernel_rfl) (by kernel_rfl) (fun _ _ _ h => h) (Or.inl ⟨by rfl, ?_⟩) hH ?_
    rotate_left
    · ((intro W hW; have hk := cell_lit (hW.1) 1 _ rfl; clear hW; go_simp) <;> with_reducible rfl)
    simp only [sq3, sq4]
    refine wpAnyH_take (i := 2) (v := ?_) rfl (by kernel_rfl) (by kernel_rfl) (by kernel_rfl) (fun _ _ _ h => h) (Or.inl ⟨by rfl, ?_⟩) hH ?_
    rotate_left
    · ((intro W hW; clear hW; go_simp) <;> with_reducible rfl)
    simp only [sq3, sq4]
    refine wpAnyH_take (i := 3) (v := ?_) rfl (by kernel_rfl) (by kernel_rfl) (by kernel_rfl) (fun _ _ _ h => h) (Or.inl ⟨by rfl, ?_⟩) hH ?_
    rotate_left
    · ((intro W hW; have hk := cell_lit (hW.2) 1 _ rfl; clear hW; go_simp) <;> with_reducible rfl)
    simp only [sq3, sq4]
    refine wpAnyH_take (i := 4) (v := ?_) rfl (by kernel_rfl) (by kernel_rfl) (by kernel_rfl) (fun _ _ _ h => h) (Or.inl ⟨by rfl, ?_⟩) hH ?_
    rotate_left
    · ((intro W hW; clear hW; go_simp) <;> with_reducible rfl)
    simp only [sq3, sq4]
    refine wpAnyH_take (i := 5) (v := ?_) rfl (by kernel_rfl) (by kernel_rfl) (by kernel_rfl) (fun _ _ _ h => h) (Or.inl ⟨by rfl, ?_⟩) hH ?_
    rotate_left
    · ((intro W hW; clear hW; go_simp) <;> with_reducible rfl)
    simp only [sq3, sq4]
    refine wpAnyH_take (i := 6) (v := ?_) rfl (by kernel_rfl) (by kernel_rfl) (by kernel_rfl) (fun _ _ _ h => h) (Or.inl ⟨by rfl, ?_⟩) hH ?_
    rotate_left
    · ((intro W hW; clear hW; go_simp) <;> with_reducible rfl)
    simp only [sq3, sq4]
    refine wpAnyH_take (i := 7) (v := ?_) rfl (by kernel_rfl) (by kernel_rfl) (by kernel_rfl) (fun _ _ _ h => h) (Or.inl ⟨by rfl, ?_⟩) hH ?_
    rotate_left
    · ((intro W hW; have hk := cell_lit (hW.1) 2 _ rfl; clear hW; go_simp) <;> with_reducible rfl)
    simp only [sq3, sq4]
    refine wpAnyH_take (i := 8) (v := ?_) rfl (by kernel_rfl) (by kernel_rfl) (by kernel_rfl) (fun _ _ _ h => h) (Or.inl ⟨by rfl, ?_⟩) hH ?_
    rotate_left
    · ((intro W hW; clear hW; go_simp) <;> with_reducible rfl)
    simp only [sq3, sq4]
    refine wpAnyH_take (i := 9) (v := ?_) rfl (by kernel_rfl) (by kernel_rfl) (by kernel_rfl) (fun _ _ _ h => h) (Or.inl ⟨by rfl, ?_⟩) hH ?_
    rotate_left
    · ((intro W hW; have hk := cell_lit (hW.2) 2 _ rfl; clear hW; go_simp) <;> with_reducible rfl)
    simp only [sq3, sq4]
    refine wpAnyH_take (i := 10) (v := ?_) rfl (by kernel_rfl) (by kernel_rfl) (by kernel_rfl) (fun _ _ _ h => h) (Or.inl ⟨by rfl, ?_⟩) hH ?_
    rotate_left
    · ((intro W hW; clear hW; go_simp) <;> with_reducible rfl)
    simp only [sq3, sq4]
    refine wpAnyH_take (i := 11) (v := ?_) rfl (by kernel_rfl) (by kernel_rfl) (by kernel_rfl) (fun _ _ _ h => h) (Or.inl ⟨by rfl, ?_⟩) hH ?_
    rotate_left
    · ((intro W hW; clear hW; go_simp) <;> with_reducible rfl)
    simp only [sq3, sq4]
    refine wpAnyH_take (i := 12) (v := ?_) rfl (by kernel_rfl) (by kernel_rfl) (by kernel_rfl) (fun _ _ _ h => h) (Or.inl ⟨by rfl, ?_⟩) hH ?_
    rotate_left
    · ((intro W hW; clear hW; go_simp) <;> with_reducible rfl)
    simp only [sq3, sq4]
    refine wpAnyH_take (i := 13) (v := ?_) rfl (by kernel_rfl) (by kernel_rfl) (by kernel_rfl) (fun _ _ _ h => h) (Or.inl ⟨by rfl, ?_⟩) hH ?_
    rotate_left
    · ((intro W hW; clear hW; go_simp) <;> with_reducible rfl)
    simp only [sq3, sq4]
    refine wpAnyH_take (i := 14) (v := ?_) rfl (by kernel_rfl) (by kernel_rfl) (by kernel_rfl) (fun _ _ _ h => h) (Or.inl ⟨by rfl, ?_⟩) hH ?_
    rotate_left
    · ((intro W hW; have hk := cell_lit (hW.1) 0 _ rfl; clear hW; go_simp) <;> with_reducible rfl)
    simp only [sq3, sq4]
    refine wpAnyH_take (i := 16) (v := ?_) rfl (by kernel_rfl) (by kernel_rfl) (by kernel_rfl) (fun _ _ _ h => h) (Or.inl ⟨by rfl, ?_⟩) hH ?_
    rotate_left
    · ((intro W hW; clear hW; go_simp) <;> with_reducible rfl)
    simp only [sq3, sq4]
    refine wpAnyH_take (i := 17) (v := ?_) rfl (by kernel_rfl) (by kernel_rfl) (by kernel_rfl) (fun _ _ _ h => h) (Or.inl ⟨by rfl, ?_⟩) hH ?_
    rotate_left
    · ((intro W hW; have hk := cell_lit (hW.2) 0 _ rfl; clear hW; go_simp) <;> with_reducible rfl)
    simp only [sq3, sq4]
    refine wpAnyH_ready (rs := [15]) (by kernel_rfl) (by simp) ?_
    refine AllReadyH.cons (o := _) rfl (fun K hK => ?_) AllReadyH.nil
    simp only [sq3]
    go_simp
    with_reducible refine (rtext_any _ _ _ r1.name _ (HXA.out.below bel) HTX.out).mono ?_
    rintro e w17 ⟨rfl, b17⟩
    dsimp only
    replace hm1 := blk_u hm1 b17
    replace hm2 := blk_u hm2 b17
    replace hbx := blk_u hbx b17
    replace hby_ := blk_u hby_ b17
    replace sq := sq.below b17
    replace sr := sr.below b17
    replace bel := bel.trans (b17.mono bel.size)
    clear b17
    refine hK.out _ _ ⟨hbx, hby_⟩ (fun hH18 => ?_)
    clear hK K
    refine wpAnyH_ready (rs := [18]) (by kernel_rfl) (by simp) ?_
    refine AllReadyH.cons (o := _) rfl (fun K hK => ?_) AllReadyH.nil
    simp only [sq3]
    go_simp
    with_reducible refine (rtext_any _ _ _ r1.name _ (HYA.out.below bel) HTX.out).mono ?_
    rintro e w19 ⟨rfl, b19⟩
    dsimp only
    replace hm1 := blk_u hm1 b19
    replace hm2 := blk_u hm2 b19
    replace hbx := blk_u hbx b19
    replace hby_ := blk_u hby_ b19
    replace sq := sq.below b19
    replace sr := sr.below b19
    replace bel := bel.trans (b19.mono bel.size)
    clear b19
    refine hK.out _ _ ⟨hbx, hby_⟩ (fun hH20 => ?_)
    clear hK K
    refine wpAnyH_take (i := 19) (v := ?_) rfl (by kernel_rfl) (by kernel_rfl) (by kernel_rfl) (fun _ _ _ h => h) (Or.inl ⟨by rfl, ?_⟩) hH20 ?_
    rotate_left
    · ((intro W hW; clear hW; go_simp) <;> with_reducible rfl)
    simp only [sq3, sq4]
    refine wpAnyH_take (i := 20) (v := ?_) rfl (by kernel_rfl) (by kernel_rfl) (by kernel_rfl) (fun _ _ _ h => h) (Or.inl ⟨by rfl, ?_⟩) hH20 ?_
    rotate_left
    · ((intro W hW; clear hW; go_simp) <;> with_reducible rfl)
    simp only [sq3, sq4]
    refine wpAnyH_done (by kernel_rfl) ?_ _
    go_wp2_with fail
    go_roundg (qn - (i + 1))
    case measure => have := HGK_.out; omega
    case rel => exact ⟨i + 1, rfl, hik, by go_num, hm1, hm2, sq, sr, bel⟩
theorem rsame_any {id fl : Int} {Q : Option Addr} {qn qc : Nat} {A : Option Addr} {an ac : Nat} {O : Option Addr} {on oc : Nat} {M : Option Addr} {mn mc : Nat} {id2 fl2 : Int} {Q2 : Option Addr} {qm qd : Nat} {A2 : Option Addr} {am ad : Nat} {O2 : Option Addr} {om od : Nat} {M2 : Option Addr} {mm md : Nat} {m : Mn} (w : World) (h1 : Mr w Q qn qc A an ac O on oc M mn mc m) (h2 : Mr w Q2 qm qd A2 am ad O2 om od M2 mm md m) (hi : id = id2) (hf : fl = fl2) (hl : partsM m ≤ 1000) (hnb : ∀ q ∈ m.q, sizeN q.name ≤ 99999) (hrb : ∀ r ∈ allR m, sizeN r.name ≤ 99999) : Calls Try.prog 12 #[.agg #[.int .i64 id, .int .i64 fl, .slice Q qn qc, .slice A an ac, .slice O on oc, .slice M mn mc], .agg #[.int .i64 id2, .int .i64 fl2, .slice Q2 qm qd, .slice A2 am ad, .slice O2 om od, .slice M2 mm md]] w fun e w' => e = .returned (.bool true) ∧ Below w.heap.size w w' := by
  obtain ⟨hs, ha, ho, hm, q1, q2, a1, a2, o1, o2, m1, m2⟩ := h1
  obtain ⟨gs, hb, hp, hn, r1, r2, b1, b2, p1, p2, n1, n2⟩ := h2
  obtain rfl : qn = qm := q1.1.symm.trans (q2.1.trans (r2.1.symm.trans r1.1))
  unfold partsM at hl
  have e1 := q1.1.symm.trans q2.1
  have e2 := a1.1.symm.trans a2.1
  have e3 := o1.1.symm.trans o2.1
  have e4 := m1.1.symm.trans m2.1
  exact rsame_n id fl Q qn qc A an ac O on oc M mn mc id2 fl2 Q2 qd A2 am ad O2 om od M2 mm md w q1 q2 r1 r2 a1 a2 b1 b2 o1 o2 p1 p2 m1 m2 n1 n2 hi hf (by omega) (by omega) (by omega) (by omega) hnb hrb
open Go.RowKit

set_option linter.unusedVariables false in
set_option linter.unusedSimpArgs false in
set_option maxRecDepth 100000 in
set_option maxHeartbeats 16000000 in
theorem lgreat_any {id fl : Int} {Q : Option Addr} {qn qc : Nat} {A : Option Addr} {an ac : Nat} {O : Option Addr} {on oc : Nat} {M : Option Addr} {mn mc : Nat} {m : Mn} (w : World) (hM : Mr w Q qn qc A an ac O on oc M mn mc m) : Calls Try.prog 14 #[.agg #[.int .i64 id, .int .i64 fl, .slice Q qn qc, .slice A an ac, .slice O on oc, .slice M mn mc]] w fun e w' => e = .returned (.bool (greatM m)) ∧ Below w.heap.size w w' := by
  obtain ⟨hs, ha, ho, hm, q1_, q2_, a1_, a2_, o1_, o2_, m1_, m2_⟩ := hM
  have sq := q1_
  have HSL := Lib.hid q1_.1
  have HRQ := Lib.hid q2_
  have HSA := Lib.hid a1_
  have HRA := Lib.hid a2_
  have HSO := Lib.hid o1_
  have HRO := Lib.hid o2_
  have HSM := Lib.hid m1_
  have HRM := Lib.hid m2_
  have HLL : Hid (m.q.length = qn) := Lib.hid (q2_.1.symm.trans q1_.1)
  have n0 : (0 : Int) ≤ qn := by omega
  clear q1_ q2_ a1_ a2_ o1_ o2_ m1_ m2_
  have bel := Below.refl w.heap.size w
  go_enter Try.func14, Try.ntmps14
  by_cases h70 : qn ≤ 70
  rotate_left
  · have t6 : (70 : Int) < (qn : Int) := by omega
    have HF : Hid (greatM m = true) := Lib.hid (by unfold greatM; rw [decide_eq_true (by have h_ := HLL.out; omega)]; rfl)
    clear h70
    go_wp2_with (first | ((with_reducible show wpList _ _ _ (⟨some 1, _, _, _, _, _⟩ :: _) _ _); refine wpList_box_n rfl 26 (.tmp 0) rfl #[.int .i64 id, .int .i64 fl, .slice Q qn qc, .slice A an ac, .slice O on oc, .slice M mn mc] rfl ?_; intro g1 w1 ge lt hh bb; have av_sq_p := sq.av_new ge; have op := Nat.le_trans bel.size ge; replace sq := sq.below bb; replace bel := bel.trans (bb.mono bel.size); have hp := hh; clear hh lt ge bb; have R5 := cell_lit hp 2 _ rfl))
    try clear R5
    go_ret
    exact ⟨by rw [HF.out]; rfl, bel⟩
  have t6 : decide ((70 : Int) < (qn : Int)) = false := decide_eq_false (by omega)
  have n70 : (qn : Int) ≤ 70 := by omega
  rcases (by decide : ∀ b : Bool, b = true ∨ b = false) (manyR m.a) with ha_ | ha_
  · have HA := Lib.hid ha_
    have HF : Hid (greatM m = true) := Lib.hid (by unfold greatM; rw [ha_]; simp)
    clear ha_
    go_wp2_with (first | ((with_reducible show wpList _ _ _ (⟨some 1, _, _, _, _, _⟩ :: _) _ _); refine wpList_box_n rfl 26 (.tmp 0) rfl #[.int .i64 id, .int .i64 fl, .slice Q qn qc, .slice A an ac, .slice O on oc, .slice M mn mc] rfl ?_; intro g1 w1 ge lt hh bb; have av_sq_p := sq.av_new ge; have op := Nat.le_trans bel.size ge; replace sq := sq.below bb; replace bel := bel.trans (bb.mono bel.size); have hp := hh; clear hh lt ge bb; have R5 := cell_lit hp 2 _ rfl; have R10 := cell_lit hp 3 _ rfl))
    try clear R5
    try clear R10
    with_reducible refine (lmany_is _ (HSA.out.below bel) (HRA.out.below bel) HA.out).mono ?_
    rintro e _ ⟨rfl, rfl⟩
    go_wp2_with fail
    go_ret
    exact ⟨by rw [HF.out]; rfl, bel⟩
  have HA := Lib.hid ha_
  clear ha_
  go_wp2_with (first | ((with_reducible show wpList _ _ _ (⟨some 1, _, _, _, _, _⟩ :: _) _ _); refine wpList_box_n rfl 26 (.tmp 0) rfl #[.int .i64 id, .int .i64 fl, .slice Q qn qc, .slice A an ac, .slice O on oc, .slice M mn mc] rfl ?_; intro g1 w1 ge lt hh bb; have av_sq_p := sq.av_new ge; have op := Nat.le_trans bel.size ge; replace sq := sq.below bb; replace bel := bel.trans (bb.mono bel.size); have hp := hh; clear hh lt ge bb; have R5 := cell_lit hp 2 _ rfl; have R10 := cell_lit hp 3 _ rfl))
  try clear R5
  try clear R10
  with_reducible refine (lmany_is _ (HSA.out.below bel) (HRA.out.below bel) HA.out).mono ?_
  rintro e _ ⟨rfl, rfl⟩
  rcases (by decide : ∀ b : Bool, b = true ∨ b = false) (manyR m.o) with ho_ | ho_
  · have HOO := Lib.hid ho_
    have HF : Hid (greatM m = true) := Lib.hid (by unfold greatM; rw [ho_]; simp)
    clear ho_
    have R15 := cell_lit hp 4 _ rfl
    go_wp2_with fail
    clear R15
    with_reducible refine (lmany_is _ (HSO.out.below bel) (HRO.out.below bel) HOO.out).mono ?_
    rintro e _ ⟨rfl, rfl⟩
    go_wp2_with fail
    go_ret
    exact ⟨by rw [HF.out]; rfl, bel⟩
  have HOO := Lib.hid ho_
  clear ho_
  have R15 := cell_lit hp 4 _ rfl
  go_wp2_with fail
  clear R15
  with_reducible refine (lmany_is _ (HSO.out.below bel) (HRO.out.below bel) HOO.out).mono ?_
  rintro e _ ⟨rfl, rfl⟩
  rcases (by decide : ∀ b : Bool, b = true ∨ b = false) (manyR m.m) with hm_ | hm_
  · have HM := Lib.hid hm_
    have HF : Hid (greatM m = true) := Lib.hid (by unfold greatM; rw [hm_]; simp)
    clear hm_
    have R20 := cell_lit hp 5 _ rfl
    go_wp2_with fail
    clear R20
    with_reducible refine (lmany_is _ (HSM.out.below bel) (HRM.out.below bel) HM.out).mono ?_
    rintro e _ ⟨rfl, rfl⟩
    go_wp2_with fail
    go_ret
    exact ⟨by rw [HF.out]; rfl, bel⟩
  have HM := Lib.hid hm_
  clear hm_
  have R20 := cell_lit hp 5 _ rfl
  go_wp2_with fail
  clear R20
  with_reducible refine (lmany_is _ (HSM.out.below bel) (HRM.out.below bel) HM.out).mono ?_
  rintro e _ ⟨rfl, rfl⟩
  go_wp2_with fail
  go_loopg [3] (qn) (fun gk s3 wr => ∃ i : Nat, gk = qn - i ∧ i ≤ qn ∧ Hid ((m.q.take i).any (fun q => longN q.name) = false) ∧ s3 = .int .i64 (i : Int) ∧ wr.heap[g1]? = some (.cells #[.int .i64 id, .int .i64 fl, .slice Q qn qc, .slice A an ac, .slice O on oc, .slice M mn mc] 26 (0, 0)) ∧ Sle qE 3 wr (Q) (qn) (qc) (hs) ∧ Below w.heap.size w wr)
  case atStart => exact ⟨0, Nat.sub_zero _, Nat.zero_le _, Lib.hid rfl, rfl, hp, sq, bel⟩
  case round =>
    clear hp sq bel
    obtain ⟨i, HGK, hi, HO, rfl, hp, sq, bel⟩ := hrel
    have HGK_ := Lib.hid HGK
    clear HGK
    have i0 : (0 : Int) ≤ i := by omega
    by_cases hik : i < qn
    rotate_left
    · have HF : Hid (greatM m = false) := Lib.hid (by unfold greatM; have h_ := HO.out; rw [List.take_of_length_le (by have h1_ := HLL.out; omega)] at h_; rw [h_, HA.out, HOO.out, HM.out, decide_eq_false (by have h1_ := HLL.out; omega)]; rfl)
      replace hik : decide (i < qn) = false := decide_eq_false hik
      have R25 := cell_lit hp 2 _ rfl
      go_wp2_with fail
      clear R25
      go_ret
      exact ⟨by rw [HF.out]; rfl, bel⟩
    obtain ⟨gE, oE, hp_⟩ := sq.place (by omega)
    subst hp_
    obtain ⟨x, hx_⟩ : ∃ u_, hs[i]? = some u_ := ⟨_, List.getElem?_eq_getElem (by rw [HSL.out]; exact hik)⟩
    have HX := Lib.hid hx_
    obtain ⟨q1, hl_, hr_⟩ := HRQ.out.at hx_
    have HLI := Lib.hid hl_
    have HSN : Hid (Sle stf 1 w x.A x.n x.c q1.name) := Lib.hid hr_.2.2
    clear hx_ hl_ hr_
    rcases (by decide : ∀ b : Bool, b = true ∨ b = false) (longN q1.name) with hg_ | hg_
    · have HG := Lib.hid hg_
      have HF : Hid (greatM m = true) := Lib.hid (by unfold greatM; rw [Bool.or_eq_true]; exact .inr (List.any_eq_true.2 ⟨q1, List.mem_of_getElem? HLI.out, hg_⟩))
      clear hg_
      have R25 := cell_lit hp 2 _ rfl
      have R31 := cell_lit hp 2 _ rfl
      have R35 := Sle.cellk0 sq HX.out _ rfl
      go_wp2_with fail
      clear R25 R31 R35
      with_reducible refine (llong_is _ (HSN.out.below bel) HG.out).mono ?_
      rintro e _ ⟨rfl, rfl⟩
      go_wp2_with fail
      go_ret
      exact ⟨by rw [HF.out]; rfl, bel⟩
    have HG := Lib.hid hg_
    clear hg_
    have R25 := cell_lit hp 2 _ rfl
    have R31 := cell_lit hp 2 _ rfl
    have R35 := Sle.cellk0 sq HX.out _ rfl
    go_wp2_with fail
    clear R25 R31 R35
    with_reducible refine (llong_is _ (HSN.out.below bel) HG.out).mono ?_
    rintro e _ ⟨rfl, rfl⟩
    go_wp2_with fail
    go_roundg (qn - (i + 1))
    case measure => have := HGK_.out; omega
    case rel => exact ⟨i + 1, rfl, hik, Lib.hid (by rw [take_next HLI.out, List.any_append, HO.out]; simp [HG.out]), by go_num, hp, sq, bel⟩
theorem lgreat_is {id fl : Int} {Q : Option Addr} {qn qc : Nat} {A : Option Addr} {an ac : Nat} {O : Option Addr} {on oc : Nat} {M : Option Addr} {mn mc : Nat} {m : Mn} {b : Bool} (w : World) (hM : Mr w Q qn qc A an ac O on oc M mn mc m) (h : greatM m = b) : Calls Try.prog 14 #[.agg #[.int .i64 id, .int .i64 fl, .slice Q qn qc, .slice A an ac, .slice O on oc, .slice M mn mc]] w fun e w' => e = .returned (.bool b) ∧ Below w.heap.size w w' := by
  subst h
  exact lgreat_any w hM
def askM : Mn := ⟨7, 256, [⟨[[97], [98]], 1, 1⟩], [], [], []⟩
set_option linter.unusedVariables false in
set_option linter.unusedSimpArgs false in
set_option maxRecDepth 100000 in
set_option maxHeartbeats 16000000 in
theorem lasks_any (w : World) : Calls Try.prog 18 #[] w fun e w' => ∃ Q qc, e = .returned (.agg #[.int .i64 7, .int .i64 256, .slice Q 1 qc, .slice none 0 0, .slice none 0 0, .slice none 0 0]) ∧ Mr w' Q 1 qc none 0 0 none 0 0 none 0 0 askM ∧ Below w.heap.size w w' := by
  have bel := Below.refl w.heap.size w
  go_enter Try.func18, Try.ntmps18
  go_wp2_with (first | ((with_reducible show wpList _ _ _ (⟨some 0, _, _, _, _, _⟩ :: _) _ _); refine wpList_new_a rfl 26 rfl #[.int .i64 0, .int .i64 0, .slice none 0 0, .slice none 0 0, .slice none 0 0, .slice none 0 0] (by kernel_rfl) ?_; intro g0 w1 ge hh bb; have ob0 := Nat.le_trans bel.size ge; replace bel := bel.trans (bb.mono bel.size); have hb0 := hh; clear hh ge bb) | ((with_reducible show wpList _ _ _ (⟨some 1, _, _, _, _, _⟩ :: _) _ _); refine wpList_lit_n rfl 33 9 2 _ rfl #[.string ⟨#[97]⟩, .string ⟨#[98]⟩] (.string ⟨#[]⟩) Try.underlying33 (by kernel_rfl) 1 (by kernel_rfl) (by decide) (by kernel_rfl) ?_; intro g1 w2 ge lt hh bb; have nbw := owk_lit (B := w1.heap.size) ([[97], [98]] : List (List UInt8)) stf_len (show w2.heap[g1]? = some (.cells (([[97], [98]] : List (List UInt8)).flatMap stf).toArray 9 (0, 0)) from hh) ge 2 rfl (by simp [maxLen]); have nb := (owk_sle (by decide) stf_len nbw).1; have nblo := bel.size; have nbge := ge; have lz_nb := bb.size; have y_nb_b0 := Lib.hid (hlt hb0); have d_b0_b1 := ne_new (hlt hb0) ge; have ob1 := Nat.le_trans bel.size ge; replace hb0 := blk_u hb0 bb; replace bel := bel.trans (bb.mono bel.size); have hb1 := hh; clear hh lt ge bb; have av_nb_b0 := (owk_sle (by decide) stf_len nbw).2.av y_nb_b0.out) | ((with_reducible show wpList _ _ _ (⟨some 3, _, _, _, _, _⟩ :: _) _ _); refine wpList_lit_n rfl 23 60 1 _ rfl #[.slice (some ⟨g1, 0, none⟩) 2 2, .int .i64 1, .int .i64 1] (.agg #[.slice none 0 0, .int .i64 0, .int .i64 0]) Try.underlying23 (by kernel_rfl) 3 (by kernel_rfl) (by decide) (by kernel_rfl) ?_; intro g3 w3 ge lt hh bb; have sqw := owk_lit (B := w2.heap.size) ([⟨some ⟨g1, 0, none⟩, 2, 2, 1, 1⟩] : List Qh) qE_len (show w3.heap[g3]? = some (.cells (([⟨some ⟨g1, 0, none⟩, 2, 2, 1, 1⟩] : List Qh).flatMap qE).toArray 60 (0, 0)) from hh) ge 1 rfl (by simp [maxLen]); have sq := (owk_sle (by decide) qE_len sqw).1; have sqlo := bel.size; have sqge := ge; have lz_sq := bb.size; have y_sq_b0 := Lib.hid (hlt hb0); have y_sq_b1 := Lib.hid (hlt hb1); have bl_nb_sq := nb.bl_new; have d_b0_b3 := ne_new (hlt hb0) ge; have d_b1_b3 := ne_new (hlt hb1) ge; have av_nb_b3 := nb.av_new ge; have of_nb_b3 := owk_new nbw ge; have ob3 := Nat.le_trans bel.size ge; replace hb0 := blk_u hb0 bb; replace hb1 := blk_u hb1 bb; replace nb := nb.below bb; replace nbw := owk_under nbw bb; replace lz_nb := Nat.le_trans lz_nb bb.size; replace bel := bel.trans (bb.mono bel.size); have hb3 := hh; clear hh lt ge bb; have av_sq_b0 := (owk_sle (by decide) qE_len sqw).2.av y_sq_b0.out; have av_sq_b1 := (owk_sle (by decide) qE_len sqw).2.av y_sq_b1.out) | ((with_reducible show wpList _ _ _ (⟨none, Op.store _ (.tmp 0) _, _, _, _, _⟩ :: _) _ _); refine wpList_store_blk rfl 26 (.tmp 0) (.tmp 4) rfl g0 rfl _ rfl _ 26 hb0 (by rfl) (by kernel_rfl) (by kernel_rfl) ?_; intro w4 hq gr; replace nb := nb.away av_nb_b0 gr; replace nbw := owk_away nbw y_nb_b0.out gr; replace sq := sq.away av_sq_b0 gr; replace sqw := owk_away sqw y_sq_b0.out gr; replace lz_nb := Nat.le_trans lz_nb gr.size; replace lz_sq := Nat.le_trans lz_sq gr.size; replace hb1 := blk_a hb1 gr (ne_symm d_b0_b1); replace hb3 := blk_a hb3 gr (ne_symm d_b0_b3); replace bel := below_grown bel gr ob0 bel.size; clear hb0; have hb0 := hq; clear hq gr))
  exact bodyPost_ret (results_cell_row' rfl _ _ _ _ _ _ _ rfl hb0 Try.underlying26 rfl (by kernel_rfl)) rfl ⟨_, _, rfl, ⟨[⟨some ⟨g1, 0, none⟩, 2, 2, 1, 1⟩], [], [], [], sq, (All2.nil.snoc (x := (⟨some ⟨g1, 0, none⟩, 2, 2, 1, 1⟩ : Qh)) (y := (⟨[[97], [98]], 1, 1⟩ : Qn)) ⟨rfl, rfl, nb⟩), Sle.nil (by decide) rE_len _, All2.nil, Sle.nil (by decide) rE_len _, All2.nil, Sle.nil (by decide) rE_len _, All2.nil⟩, bel⟩
/-- How large a message is: what the contracts ask. -/
def Bm (m : Mn) : Prop := (partsM m ≤ 300 ∧ m.q.length ≤ 100) ∧ (∀ q ∈ m.q, q.name.length ≤ 1000 ∧ sizeN q.name ≤ 99999) ∧ ∀ r ∈ allR m, r.name.length ≤ 1000 ∧ sizeN r.name ≤ 99999 ∧ r.data.length ≤ 2100 ∧ 0 ≤ r.ttl ∧ r.ttl < 4294967296
theorem dput_is {id fl : Int} {Q : Option Addr} {qn qc : Nat} {A : Option Addr} {an ac : Nat} {O : Option Addr} {on oc : Nat} {M : Option Addr} {mn mc : Nat} {m : Mn} {l : List UInt8} {y : Int} {k : Nat} (w : World) (hM : Mr w Q qn qc A an ac O on oc M mn mc m) (hi : m.id = id) (hf : m.fl = fl) (hb : Bm m) (hp : putM m = (l, y)) (hk : l.length = k) : Calls Try.prog 10 #[.agg #[.int .i64 id, .int .i64 fl, .slice Q qn qc, .slice A an ac, .slice O on oc, .slice M mn mc]] w fun e w' => ∃ v, e = .returned (.tuple #[v, .int .i64 y]) ∧ w'.ownsRow w.heap.size 5 1 v k (l.map u8v) ∧ Below w.heap.size w w' := by
  obtain ⟨hs, ha, ho, hm, q1, q2, a1, a2, o1, o2, m1, m2⟩ := hM
  obtain ⟨b1, b2, b3⟩ := hb
  have e1 := q1.1.symm.trans q2.1
  have e2 := a1.1.symm.trans a2.1
  have e3 := o1.1.symm.trans o2.1
  have e4 := m1.1.symm.trans m2.1
  unfold partsM at b1
  have b4 := b1.2
  replace b1 := b1.1
  have h1 := dput_any id fl Q qn qc A an ac O on oc M mn mc w q1 q2 a1 a2 o1 o2 m1 m2 (by omega) (fun q hq => by have := (b2 q hq).1; omega) (fun r hr => by have := b3 r hr; exact ⟨by omega, this.2.2.1, this.2.2.2⟩)
  subst hi; subst hf; subst hk
  have e : (⟨m.id, m.fl, m.q, m.a, m.o, m.m⟩ : Mn) = m := rfl
  rw [e, hp] at h1
  exact h1
theorem rput_is {id fl : Int} {Q : Option Addr} {qn qc : Nat} {A : Option Addr} {an ac : Nat} {O : Option Addr} {on oc : Nat} {M : Option Addr} {mn mc : Nat} {m : Mn} {l : List UInt8} {y : Int} (w : World) (hM : Mr w Q qn qc A an ac O on oc M mn mc m) (hi : m.id = id) (hf : m.fl = fl) (hb : Bm m) (hp : putM m = (l, y)) : Calls Try.prog 15 #[.agg #[.int .i64 id, .int .i64 fl, .slice Q qn qc, .slice A an ac, .slice O on oc, .slice M mn mc]] w fun e w' => ∃ B n c, e = .returned (.tuple #[.slice B n c, .int .i64 y]) ∧ Sl w' B n c l ∧ Below w.heap.size w w' := by
  obtain ⟨hs, ha, ho, hm, q1, q2, a1, a2, o1, o2, m1, m2⟩ := hM
  obtain ⟨b1, b2, b3⟩ := hb
  have e1 := q1.1.symm.trans q2.1
  have e2 := a1.1.symm.trans a2.1
  have e3 := o1.1.symm.trans o2.1
  have e4 := m1.1.symm.trans m2.1
  unfold partsM at b1
  have b4 := b1.2
  replace b1 := b1.1
  have h1 := rputm_any id fl Q qn qc A an ac O on oc M mn mc w q1 q2 a1 a2 o1 o2 m1 m2 (by omega) (fun q hq => by have := (b2 q hq).1; omega) (fun r hr => by have := b3 r hr; exact ⟨by omega, this.2.2.1, this.2.2.2⟩)
  subst hi; subst hf
  have e : (⟨m.id, m.fl, m.q, m.a, m.o, m.m⟩ : Mn) = m := rfl
  rw [e, hp] at h1
  exact h1
theorem rsame_is {id fl : Int} {Q : Option Addr} {qn qc : Nat} {A : Option Addr} {an ac : Nat} {O : Option Addr} {on oc : Nat} {M : Option Addr} {mn mc : Nat} {id2 fl2 : Int} {Q2 : Option Addr} {qm qd : Nat} {A2 : Option Addr} {am ad : Nat} {O2 : Option Addr} {om od : Nat} {M2 : Option Addr} {mm md : Nat} {m : Mn} (w : World) (h1 : Mr w Q qn qc A an ac O on oc M mn mc m) (h2 : Mr w Q2 qm qd A2 am ad O2 om od M2 mm md m) (hi : id = id2) (hf : fl = fl2) (hb : Bm m) : Calls Try.prog 12 #[.agg #[.int .i64 id, .int .i64 fl, .slice Q qn qc, .slice A an ac, .slice O on oc, .slice M mn mc], .agg #[.int .i64 id2, .int .i64 fl2, .slice Q2 qm qd, .slice A2 am ad, .slice O2 om od, .slice M2 mm md]] w fun e w' => e = .returned (.bool true) ∧ Below w.heap.size w w' :=
  rsame_any w h1 h2 hi hf (by have := hb.1.1; omega) (fun q hq => (hb.2.1 q hq).2) (fun r hr => (hb.2.2 r hr).2.1)
/-- What is left of a message in its refusal. -/
def refM (m : Mn) (code : Int) : Mn := ⟨m.id, flR m.fl code, m.q, [], [], []⟩
theorem refM_b {m : Mn} {code : Int} (h : Bm m) : Bm (refM m code) := by
  obtain ⟨b1, b2, b3⟩ := h
  refine ⟨?_, b2, ?_⟩
  · refine ⟨?_, b1.2⟩
    have := b1.2
    show m.q.length + 0 + 0 + 0 ≤ 300
    omega
  · intro r hr
    simp [allR, refM] at hr
theorem drefuse_is {id fl code : Int} {Q : Option Addr} {qn qc : Nat} {A : Option Addr} {an ac : Nat} {O : Option Addr} {on oc : Nat} {M : Option Addr} {mn mc : Nat} {m : Mn} (w : World) (hM : Mr w Q qn qc A an ac O on oc M mn mc m) (hb : Bm m) : Calls Try.prog 16 #[.agg #[.int .i64 id, .int .i64 fl, .slice Q qn qc, .slice A an ac, .slice O on oc, .slice M mn mc], .int .i64 code] w fun e w' => ∃ Q' cq, e = .returned (.agg #[.int .i64 id, .int .i64 (flR fl code), .slice Q' qn cq, .slice none 0 0, .slice none 0 0, .slice none 0 0]) ∧ Mr w' Q' qn cq none 0 0 none 0 0 none 0 0 (refM m code) ∧ Below w.heap.size w w' := by
  obtain ⟨hs, ha, ho, hm, q1, q2, a1, a2, o1, o2, m1, m2⟩ := hM
  obtain ⟨b1, b2, b3⟩ := hb
  have e1 := q1.1.symm.trans q2.1
  unfold partsM at b1
  have b4 := b1.2
  replace b1 := b1.1
  refine (drefuse_any id fl code A an ac O on oc M mn mc w q1 q2 (by omega) (fun q hq => by have := (b2 q hq).1; omega)).mono ?_
  rintro e w' ⟨Q', cq, rfl, h1, h2⟩
  exact ⟨Q', cq, rfl, mr_of (Tr := 36) (m := refM m code) h1 (LR.nil w') (LR.nil w') (LR.nil w'), h2⟩
open Go.RowKit

theorem bv_or (x y : Int) : BitVec.ofInt 64 (bits .or .i64 x y) = BitVec.ofInt 64 x ||| BitVec.ofInt 64 y := by
  show BitVec.ofInt 64 (IntKind.i64.wrap ((BitVec.ofInt 64 x ||| BitVec.ofInt 64 y).toNat : Int)) = _
  generalize BitVec.ofInt 64 x ||| BitVec.ofInt 64 y = v
  have h := v.isLt
  apply BitVec.eq_of_toNat_eq
  rw [IntKind.wrap_i64, BitVec.toNat_ofInt]
  omega
theorem bv_and (x y : Int) : BitVec.ofInt 64 (bits .and .i64 x y) = BitVec.ofInt 64 x &&& BitVec.ofInt 64 y := by
  show BitVec.ofInt 64 (IntKind.i64.wrap ((BitVec.ofInt 64 x &&& BitVec.ofInt 64 y).toNat : Int)) = _
  generalize BitVec.ofInt 64 x &&& BitVec.ofInt 64 y = v
  have h := v.isLt
  apply BitVec.eq_of_toNat_eq
  rw [IntKind.wrap_i64, BitVec.toNat_ofInt]
  omega
theorem or_bv (x y : Int) : bits .or .i64 x y = IntKind.i64.wrap ((BitVec.ofInt 64 x ||| BitVec.ofInt 64 y).toNat : Int) := rfl
theorem and_bv (x y : Int) : bits .and .i64 x y = IntKind.i64.wrap ((BitVec.ofInt 64 x &&& BitVec.ofInt 64 y).toNat : Int) := rfl
/-- The flags of a refusal, as the reference has them. -/
theorem flR_ref (fl code : Int) : bits .or .i64 (bits .or .i64 (bits .or .i64 (bits .or .i64 32768 (bits .and .i64 fl 30720)) (bits .and .i64 fl 256)) 128) (bits .and .i64 code 15) = flR fl code := by
  unfold flR
  rw [or_bv, or_bv (bits .or .i64 32896 _)]
  simp only [bv_or, bv_and]
  generalize BitVec.ofInt 64 fl = F
  generalize BitVec.ofInt 64 code = C
  have e1 : BitVec.ofInt 64 32896 = BitVec.ofInt 64 32768 ||| BitVec.ofInt 64 128 := by decide
  have e2 : BitVec.ofInt 64 30976 = BitVec.ofInt 64 30720 ||| BitVec.ofInt 64 256 := by decide
  have e : (BitVec.ofInt 64 32768 ||| F &&& BitVec.ofInt 64 30720) ||| F &&& BitVec.ofInt 64 256 ||| BitVec.ofInt 64 128 ||| C &&& BitVec.ofInt 64 15 = BitVec.ofInt 64 32896 ||| F &&& BitVec.ofInt 64 30976 ||| C &&& BitVec.ofInt 64 15 := by
    rw [e1, e2, BitVec.and_or_distrib_left]
    ac_rfl
  rw [e]
theorem flR_val (fl code : Int) : flR fl code = (((BitVec.ofInt 64 32896 ||| BitVec.ofInt 64 fl &&& BitVec.ofInt 64 30976) ||| BitVec.ofInt 64 code &&& BitVec.ofInt 64 15).toNat : Int) ∧ flR fl code ≤ 65535 ∧ 0 ≤ flR fl code := by
  have h : ((BitVec.ofInt 64 32896 ||| BitVec.ofInt 64 fl &&& BitVec.ofInt 64 30976) ||| BitVec.ofInt 64 code &&& BitVec.ofInt 64 15).toNat < 2 ^ 16 := by
    rw [BitVec.toNat_or, BitVec.toNat_or, BitVec.toNat_and, BitVec.toNat_and]
    refine Nat.or_lt_two_pow (Nat.or_lt_two_pow (by decide) ?_) ?_
    · exact Nat.lt_of_le_of_lt Nat.and_le_right (by decide)
    · exact Nat.lt_of_le_of_lt Nat.and_le_right (by decide)
  have e : flR fl code = (((BitVec.ofInt 64 32896 ||| BitVec.ofInt 64 fl &&& BitVec.ofInt 64 30976) ||| BitVec.ofInt 64 code &&& BitVec.ofInt 64 15).toNat : Int) := by
    unfold flR
    rw [or_bv (bits .or .i64 32896 _)]
    simp only [bv_or, bv_and]
    rw [IntKind.wrap_i64]
    omega
  exact ⟨e, by omega, by omega⟩
theorem flR_top (fl code : Int) : bits .and .i64 (flR fl code) 32768 = 32768 := by
  unfold flR
  rw [and_bv]
  simp only [bv_or, bv_and]
  generalize BitVec.ofInt 64 fl = F
  generalize BitVec.ofInt 64 code = C
  have e : (BitVec.ofInt 64 32896 ||| F &&& BitVec.ofInt 64 30976 ||| C &&& BitVec.ofInt 64 15) &&& BitVec.ofInt 64 32768 = BitVec.ofInt 64 32768 := by
    rw [BitVec.and_or_distrib_right, BitVec.and_or_distrib_right, BitVec.and_assoc, BitVec.and_assoc,
      show BitVec.ofInt 64 30976 &&& BitVec.ofInt 64 32768 = 0#64 by decide, show BitVec.ofInt 64 15 &&& BitVec.ofInt 64 32768 = 0#64 by decide, show BitVec.ofInt 64 32896 &&& BitVec.ofInt 64 32768 = BitVec.ofInt 64 32768 by decide,
      BitVec.and_zero, BitVec.and_zero, BitVec.or_zero, BitVec.or_zero]
  rw [e]
  decide
theorem flR_low (fl code : Int) : bits .and .i64 (flR fl code) 15 = bits .and .i64 code 15 := by
  unfold flR
  rw [and_bv]
  simp only [bv_or, bv_and]
  have e : (BitVec.ofInt 64 32896 ||| BitVec.ofInt 64 fl &&& BitVec.ofInt 64 30976 ||| BitVec.ofInt 64 code &&& BitVec.ofInt 64 15) &&& BitVec.ofInt 64 15 = BitVec.ofInt 64 code &&& BitVec.ofInt 64 15 := by
    rw [BitVec.and_or_distrib_right, BitVec.and_or_distrib_right, BitVec.and_assoc, BitVec.and_assoc,
      show BitVec.ofInt 64 30976 &&& BitVec.ofInt 64 15 = 0#64 by decide, show BitVec.ofInt 64 15 &&& BitVec.ofInt 64 15 = BitVec.ofInt 64 15 by decide, show BitVec.ofInt 64 32896 &&& BitVec.ofInt 64 15 = 0#64 by decide,
      BitVec.and_zero, BitVec.or_zero, BitVec.zero_or]
  rw [e]
  rfl
theorem flR_h16 (fl code : Int) : h16 (flR fl code) = true := h16_of (flR_val fl code).2.2 (flR_val fl code).2.1
/-- A message that may be written has a refusal that may. -/
theorem putM_zero {m : Mn} {l : List UInt8} (h : putM m = (l, 0)) : okM m = true ∧ (encM m).length ≤ 1472 ∧ l = encM m := by
  unfold putM at h
  split at h
  · rename_i h1
    split at h
    · rename_i h2
      injection h with h3 h4
      exact ⟨h1, h2, h3.symm⟩
    · injection h with h3 h4
      exact absurd h4 (by decide)
  · injection h with h3 h4
    exact absurd h4 (by decide)
theorem refM_ok {m : Mn} {l : List UInt8} (code : Int) (h : putM m = (l, 0)) : putM (refM m code) = (encM (refM m code), 0) ∧ getM (encM (refM m code)) = .ok (refM m code) := by
  obtain ⟨h1, h2, -⟩ := putM_zero h
  obtain ⟨g1, g2, g3, g4, g5⟩ := okM_is h1
  have hk : okM (refM m code) = true := okM_of g1 (flR_h16 _ _) (by unfold partsM at g3 ⊢; show m.q.length + 0 + 0 + 0 ≤ 64; omega) g4 (fun r hr => by simp [allR, refM] at hr)
  have hl : (encM (refM m code)).length ≤ 1472 := by
    have e1 : (encM m).length = 12 + (m.q.flatMap encQ).length + ((allR m).flatMap encR).length := by rw [encM, List.length_append, List.length_append]; rfl
    have e2 : (encM (refM m code)).length = 12 + (m.q.flatMap encQ).length + 0 := by rw [encM, List.length_append, List.length_append]; rfl
    omega
  refine ⟨?_, getM_enc ⟨hk, fun r hr => by simp [allR, refM] at hr⟩ hl⟩
  unfold putM
  rw [if_pos hk, if_pos hl]
theorem Mr.ref {w : World} {Q A O M : Option Addr} {qn qc an ac on oc mn mc : Nat} {m : Mn} (h : Mr w Q qn qc A an ac O on oc M mn mc m) (code : Int) : Mr w Q qn qc none 0 0 none 0 0 none 0 0 (refM m code) := by
  obtain ⟨hs, ha, ho, hm, q1, q2, a1, a2, o1, o2, m1, m2⟩ := h
  exact ⟨hs, [], [], [], q1, q2, Sle.nil (by decide) rE_len _, All2.nil, Sle.nil (by decide) rE_len _, All2.nil, Sle.nil (by decide) rE_len _, All2.nil⟩
theorem rAt_data {b : List UInt8} {a a2 : Nat} {r : Rn} (hb : b.length ≤ 1472) (h : rAt b a = .ok (r, a2)) : r.data.length ≤ 2100 ∧ a2 ≤ b.length := by
  refine ⟨?_, (rAt_ok (by omega) h).2⟩
  unfold rAt at h
  split at h
  · cases h
  · split at h
    · cases h
    · split at h
      · cases h
      · rename_i d hd
        injection h with h
        injection h with h3 h4
        subst h3; subst h4
        have := (dAt_okD hd).2.1
        show d.length ≤ 2100
        omega
theorem getM_data {b : List UInt8} {m : Mn} (h : getM b = .ok m) : ∀ r ∈ allR m, r.data.length ≤ 2100 := by
  unfold getM at h
  split at h
  · cases h
  · rename_i h1
    split at h
    · cases h
    · rename_i h2
      split at h
      · cases h
      · rename_i h3
        split at h
        · cases h
        · rename_i q a1 hq
          split at h
          · cases h
          · rename_i a a2 ha
            split at h
            · cases h
            · rename_i o a3 ho
              split at h
              · cases h
              · rename_i x a4 hx
                split at h
                · rename_i h4
                  injection h with h
                  subst h
                  obtain ⟨q1, q2, q3⟩ := goL_all (P := fun q => okQ q = true) (n := b.length) (fun _ _ _ h => qAt_ok h) _ _ _ _ _ (by simp) (by omega) hq
                  obtain ⟨b1, b2, b3⟩ := goL_all (P := fun r => r.data.length ≤ 2100) (n := b.length) (fun _ _ _ h => rAt_data (by omega) h) _ _ _ _ _ (by simp) q2 ha
                  obtain ⟨c1, c2, c3⟩ := goL_all (P := fun r => r.data.length ≤ 2100) (n := b.length) (fun _ _ _ h => rAt_data (by omega) h) _ _ _ _ _ (by simp) b2 ho
                  obtain ⟨d1, d2, d3⟩ := goL_all (P := fun r => r.data.length ≤ 2100) (n := b.length) (fun _ _ _ h => rAt_data (by omega) h) _ _ _ _ _ (by simp) c2 hx
                  intro r hr
                  rcases List.mem_append.1 hr with hr | hr
                  · rcases List.mem_append.1 hr with hr | hr
                    · exact b1 r hr
                    · exact c1 r hr
                  · exact d1 r hr
                · cases h
theorem good_b {l : List (List UInt8)} (h : goodN l = true) : l.length ≤ 1000 ∧ sizeN l ≤ 99999 := by
  have h1 := good_size h
  have h2 := size_ge l
  omega
theorem getM_b {b : List UInt8} {m : Mn} (h : getM b = .ok m) : Bm m := by
  obtain ⟨⟨h1, h2⟩, h3, h4⟩ := getM_ok h
  obtain ⟨g1, g2, g3, g4, g5⟩ := okM_is h1
  refine ⟨⟨by omega, by unfold partsM at g3; omega⟩, fun q hq => ?_, fun r hr => ?_⟩
  · have h5 := g4 q hq
    unfold okQ at h5
    rw [Bool.and_eq_true, Bool.and_eq_true] at h5
    exact good_b h5.1.1
  · have h5 := (h2 r hr).1
    unfold okR at h5
    rw [Bool.and_eq_true, Bool.and_eq_true, Bool.and_eq_true] at h5
    have h6 := good_b h5.1.1.1
    exact ⟨h6.1, h6.2, getM_data h r hr, (h2 r hr).2.2⟩
theorem long_b {l : List (List UInt8)} (h : longN l = false) : l.length ≤ 1000 ∧ sizeN l ≤ 99999 := by
  unfold longN at h
  rw [Bool.or_eq_false_iff] at h
  have h1 := of_decide_eq_false h.1
  have h2 := size_le (n := 300) (l := l) (fun x hx => by
    have := List.any_eq_false.1 h.2 x hx
    rw [Bool.not_eq_true] at this
    have := of_decide_eq_false this
    omega)
  have h3 : l.length * (300 + 1) ≤ 200 * 301 := Nat.mul_le_mul (by omega) (Nat.le_refl _)
  omega
theorem great_b {m : Mn} (h : greatM m = false) (ht : ∀ r ∈ allR m, 0 ≤ r.ttl ∧ r.ttl < 4294967296) : Bm m := by
  obtain ⟨h1, h2, h3⟩ := great_no h
  unfold greatM at h
  rw [Bool.or_eq_false_iff, Bool.or_eq_false_iff, Bool.or_eq_false_iff, Bool.or_eq_false_iff] at h
  have g1 := of_decide_eq_false h.1.1.1.1
  exact ⟨⟨by omega, by omega⟩, fun q hq => long_b (h2 q hq), fun r hr => ⟨(long_b (h3 r hr).1).1, (long_b (h3 r hr).1).2, by have := (h3 r hr).2; omega, ht r hr⟩⟩
def ask21 : List UInt8 := [0, 7, 1, 0, 0, 1, 0, 0, 0, 0, 0, 0, 1, 97, 1, 98, 0, 0, 1, 0, 1]
theorem ask_put : putM askM = (ask21, 0) := by decide +kernel
theorem ask_enc : encM askM = ask21 := by decide +kernel
theorem ask_get : getM ask21 = .ok askM := by
  rw [← ask_enc]
  exact getM_enc ⟨by decide +kernel, fun r hr => by simp [allR, askM] at hr⟩ (by rw [ask_enc]; decide)
theorem ask_b : Bm askM := getM_b ask_get
theorem ask_fl : flR 256 2 = 33154 := by decide +kernel
end Go.Proofs.Ytjedknjlpeccbaa
