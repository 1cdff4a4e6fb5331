/- All, New; what freeOut answers; Drop. -/
import Derived.Test.YtmjmjfcdblapcaaPt8
namespace Go.Proofs.Ytmjmjfcdblapcaa
open Go.RowKit

set_option linter.unusedVariables false in
set_option linter.unusedSimpArgs false in
set_option maxRecDepth 100000 in
set_option maxHeartbeats 16000000 in
theorem tall_any {lo gt : Nat} {s : Ts} {lw rm now : Int} {l os : List Mp} (t : Int) (w : World) (hT : Tp lo gt w s) (ha : s.adv t = ⟨lw, rm, now, l, os⟩) : Calls Try.prog 18 #[.pointer (some ⟨gt, 0, none⟩), .int .i64 t] w fun e w' => ∃ A2 n2 c2, e = .returned (.slice A2 n2 c2) ∧ w'.ownsRow w.heap.size 31 9 (.slice A2 n2 c2) n2 (l.flatMap mpE) ∧ ApV gt w' (.slice A2 n2 c2) ∧ Tp lo gt w' ⟨lw, rm, now, l, os⟩ ∧ Fap gt w w' ∧ Below lo w w' := by
  have hlo : lo ≤ w.heap.size := hT.lo_le
  have HLO := Lib.hid hlo
  have fr := Fap.refl gt w
  have bel := Below.refl lo w
  go_enter Try.func18, Try.ntmps18
  go_wp2_with fail
  with_reducible refine (tadv_any _ _ hT ha).mono ?_
  rintro e w1 ⟨rfl, hT_, f_, bb⟩
  replace fr := fr.trans f_
  clear hT
  have hT := hT_
  replace bel := bel.trans bb
  clear bb f_ hT_
  obtain ⟨A, n, c, mb, htb, otb, hM, own, hok⟩ := hT
  dsimp only at htb hM own
  have off_tb := ofs_type own htb (by decide)
  have hl := row_len (by decide) mpE_len own
  have HLL := Lib.hid hl
  have HOK := Lib.hid hok
  have H32 : Hid (n ≤ 1000) := Lib.hid (by have h1_ := hok.len; have h2_ := hok.r1; simp only at h1_ h2_; omega)
  have H128 : Hid (n ≤ 128) := Lib.hid (by have h1_ := hok.len; have h2_ := hok.r1; simp only at h1_ h2_; omega)
  clear hl hok
  have fo := fr.fo htb
  clear fr
  have R11 := cell_lit htb 3 _ rfl
  go_wp2_with fail
  clear R11
  have HGT := Lib.hid (hlt htb)
  have HSZ := Lib.hid bel.size
  have HRW : Hid (∀ g, (Value.slice A n c).ownBlock = some g → g < w1.heap.size) := Lib.hid (fun g h => (own.lt g h).2)
  with_reducible refine (clone_any _ (owk_sle (by decide) mpE_len own).1 H32.out).mono ?_
  rintro e w2 ⟨A2, c2, rfl, own2, b2⟩
  replace htb := blk_u htb b2
  replace own := owk_under own b2
  replace fo := fo.below b2
  replace hM := hM.below b2
  replace bel := bel.trans (b2.mono (Nat.le_trans hlo bel.size))
  clear b2
  go_wp2_with fail
  go_ret
  exact ⟨A2, n, c2, rfl, owk_lo own2 HSZ.out, (fun g hg => Ap.mk htb (fun g_ h_ e_ => by have h1_ := HRW.out g_ h_; have h2_ := (own2.lt g hg).1; omega) (by have h1_ := HGT.out; have h2_ := (own2.lt g hg).1; omega)), ⟨A, n, c, mb, htb, otb, hM, own, HOK.out⟩, fo.fr htb, bel⟩
set_option linter.unusedVariables false in
set_option linter.unusedSimpArgs false in
set_option maxRecDepth 100000 in
set_option maxHeartbeats 16000000 in
theorem tnew_lo {lw rm : Int} (w : World) (h : lw < 1024) : Calls Try.prog 10 #[.int .i64 lw, .int .i64 rm] w fun e w' => e = .returned (.tuple #[.pointer none, .int .i64 1]) ∧ Below w.heap.size w w' := by
  have bel := Below.refl w.heap.size w
  go_enter Try.func10, Try.ntmps10
  go_wp2_with fail
  exact bodyPost_ret (v := .tuple #[.pointer none, .int .i64 1]) (by simp [results, Try.results10, go_sem]) rfl ⟨rfl, bel⟩
set_option linter.unusedVariables false in
set_option linter.unusedSimpArgs false in
set_option maxRecDepth 100000 in
set_option maxHeartbeats 16000000 in
theorem tnew_hi {lw rm : Int} (w : World) (h1 : ¬ lw < 1024) (h2 : ¬ 60000 < lw) (h3 : ¬ rm < 1) (h4 : 128 < rm) : Calls Try.prog 10 #[.int .i64 lw, .int .i64 rm] w fun e w' => e = .returned (.tuple #[.pointer none, .int .i64 1]) ∧ Below w.heap.size w w' := by
  have g1 : decide (lw < 1024) = false := decide_eq_false h1
  have g2 : decide (lw > 60000) = false := decide_eq_false h2
  have g3 : decide (rm < 1) = false := decide_eq_false h3
  have g22 : decide (60000 < lw) = false := decide_eq_false h2
  have g4 : rm > 128 := h4
  clear h1 h2 h3
  have bel := Below.refl w.heap.size w
  go_enter Try.func10, Try.ntmps10
  go_wp2_with fail
  exact bodyPost_ret (v := .tuple #[.pointer none, .int .i64 1]) (by simp [results, Try.results10, go_sem]) rfl ⟨rfl, bel⟩
set_option linter.unusedVariables false in
set_option linter.unusedSimpArgs false in
set_option maxRecDepth 100000 in
set_option maxHeartbeats 16000000 in
theorem tnew_any {lw rm : Int} (w : World) (h1 : ¬ lw < 1024) (h2 : ¬ 60000 < lw) (h3 : ¬ rm < 1) (h4 : ¬ 128 < rm) : Calls Try.prog 10 #[.int .i64 lw, .int .i64 rm] w fun e w' => ∃ gt, e = .returned (.tuple #[.pointer (some ⟨gt, 0, none⟩), .int .i64 0]) ∧ Tp w.heap.size gt w' ⟨lw, rm, 0, [], []⟩ ∧ Below w.heap.size w w' := by
  have HOK : Hid (Ts.ok ⟨lw, rm, 0, [], []⟩) := Lib.hid ⟨List.Pairwise.nil, (fun e h => by cases h), Int.le_refl _, by show (0 : Int) ≤ 1099511627776; decide, by show 1024 ≤ lw; omega, by show lw ≤ 60000; omega, by show 1 ≤ rm; omega, by show rm ≤ 128; omega, by show ((0 : Nat) : Int) ≤ rm; omega⟩
  have g1 : decide (lw < 1024) = false := decide_eq_false h1
  have g2 : decide (lw > 60000) = false := decide_eq_false h2
  have g3 : decide (rm < 1) = false := decide_eq_false h3
  have g22 : decide (60000 < lw) = false := decide_eq_false h2
  have g4 : decide (rm > 128) = false := decide_eq_false h4
  have g44 : decide (128 < rm) = false := decide_eq_false h4
  clear h1 h2 h3 h4
  have bel := Below.refl w.heap.size w
  go_enter Try.func10, Try.ntmps10
  go_wp2_with (first | ((with_reducible show wpList _ _ _ (⟨some 22, _, _, _, _, _⟩ :: _) _ _); refine wpList_makemap_n rfl 53 rfl ?_; intro g22 w80 ge hM_ bb; have hM := hM_.lo_le bel.size; replace bel := bel.trans (bb.mono bel.size); clear hM_ bb ge) | ((with_reducible show wpList _ _ _ (⟨some 24, _, _, _, _, _⟩ :: _) _ _); refine wpList_box_n rfl 55 (.tmp 23) rfl #[.int .i64 lw, .int .i64 rm, .int .i64 0, .slice none 0 0, .map (some g22)] rfl ?_; intro g24 w1 ge lt hh bb; have otb := Nat.le_trans bel.size ge; replace hM := hM.below bb; replace bel := bel.trans (bb.mono bel.size); have htb := hh; clear hh lt ge bb))
  exact bodyPost_ret (v := .tuple #[.pointer (some ⟨g24, 0, none⟩), .int .i64 0]) (by simp [results, Try.results10, go_sem]) rfl ⟨g24, rfl, ⟨none, 0, 0, g22, htb, otb, hM, World.ownsRow_nil _ _ _ _, HOK.out⟩, bel⟩
set_option linter.unusedVariables false in
set_option linter.unusedSimpArgs false in
set_option maxRecDepth 100000 in
set_option maxHeartbeats 16000000 in
theorem fo_lt_0 {gt mb n c : Nat} {lw rm now : Int} {l : List Mp} {pr p : Int} {ad : Ad4} {A : Option Addr} (w : World) (htb : w.heap[gt]? = some (.cells #[.int .i64 lw, .int .i64 rm, .int .i64 now, .slice A n c, .map (some mb)] 55 (0, 0))) (en : Sle mpE 9 w A n c l) (hS : MSrt l) (hO : ∀ e ∈ l, e.okp) (h32 : n ≤ 1000) (hpo : okP pr lw) (hlw : lw ≤ 65535) (h1 : ¬ lw ≤ p) (hf : mfhas l (kn pr lw) = false) : Calls Try.prog 32 #[.pointer (some ⟨gt, 0, none⟩), .agg #[.int .i64 pr, .int .u8 (ad.a.toNat : Int), .int .u8 (ad.b.toNat : Int), .int .u8 (ad.c.toNat : Int), .int .u8 (ad.d.toNat : Int), .int .i64 p]] w fun e w' => e = .returned (.tuple #[.int .i64 lw, .bool true]) ∧ Below w.heap.size w w' := by
  have HS := Lib.hid hS
  have HOK := Lib.hid hO
  have HPO := Lib.hid hpo
  have HF := Lib.hid hf
  have h2 : decide (p ≥ lw) = false := decide_eq_false h1
  have h3 : decide (lw ≤ p) = false := decide_eq_false h1
  clear hS hO hpo hf h1
  have bel := Below.refl w.heap.size w
  go_enter Try.func32, Try.ntmps32
  go_wp2_with (first | ((with_reducible show wpList _ _ _ (⟨some 3, _, _, _, _, _⟩ :: _) _ _); refine wpList_box_n rfl 36 (.tmp 1) rfl #[.int .i64 pr, .int .u8 (ad.a.toNat : Int), .int .u8 (ad.b.toNat : Int), .int .u8 (ad.c.toNat : Int), .int .u8 (ad.d.toNat : Int), .int .i64 p] rfl ?_; intro g3 w1 ge lt hh bb; have d_tb_fb := ne_new (hlt htb) ge; have av_en_fb := en.av_new ge; have ofb := Nat.le_trans bel.size ge; replace htb := blk_u htb bb; replace en := en.below bb; replace bel := bel.trans (bb.mono bel.size); have hfb := hh; clear hh lt ge bb))
  replace bel := bel.drew
  replace htb : w1.drew.heap[gt]? = _ := htb
  replace hfb : w1.drew.heap[g3]? = _ := hfb
  replace en := en.drew
  refine wp_region_held_drew (S := fun W => W.heap[g3]? = some (.cells #[.int .i64 pr, .int .u8 (ad.a.toNat : Int), .int .u8 (ad.b.toNat : Int), .int .u8 (ad.c.toNat : Int), .int .u8 (ad.d.toNat : Int), .int .i64 p] 36 (0, 0)) ∧ W.heap[gt]? = some (.cells #[.int .i64 lw, .int .i64 rm, .int .i64 now, .slice A n c, .map (some mb)] 55 (0, 0))) (by kernel_rfl) ⟨hfb, htb⟩ (fun hH => ?_)
  generalize w1.drew = w2 at bel htb hfb en hH ⊢
  refine wpAnyH_take (i := 0) (v := ?_) rfl (by kernel_rfl) (by kernel_rfl) (by kernel_rfl) (fun _ _ _ h => h) (Or.inl ⟨by rfl, ?_⟩) hH ?_
  rotate_left
  · ((intro W hW; clear hW; go_simp) <;> with_reducible rfl)
  simp only [Act.put, List.getElem_toArray, List.getElem_cons_zero, List.setIfInBounds_toArray, List.set_cons_zero, List.set_cons_succ]
  refine wpAnyH_take (i := 1) (v := ?_) rfl (by kernel_rfl) (by kernel_rfl) (by kernel_rfl) (fun _ _ _ h => h) (Or.inl ⟨by rfl, ?_⟩) hH ?_
  rotate_left
  · ((intro W hW; have hk := cell_lit (hW.1) 5 _ rfl; clear hW; go_simp) <;> with_reducible rfl)
  simp only [Act.put, List.getElem_toArray, List.getElem_cons_zero, List.getElem_cons_succ, List.setIfInBounds_toArray, List.set_cons_zero, List.set_cons_succ]
  refine wpAnyH_take (i := 2) (v := ?_) rfl (by kernel_rfl) (by kernel_rfl) (by kernel_rfl) (fun _ _ _ h => h) (Or.inl ⟨by rfl, ?_⟩) hH ?_
  rotate_left
  · ((intro W hW; clear hW; go_simp) <;> with_reducible rfl)
  simp only [Act.put, List.getElem_toArray, List.getElem_cons_zero, List.getElem_cons_succ, List.setIfInBounds_toArray, List.set_cons_zero, List.set_cons_succ]
  refine wpAnyH_take (i := 3) (v := ?_) rfl (by kernel_rfl) (by kernel_rfl) (by kernel_rfl) (fun _ _ _ h => h) (Or.inl ⟨by rfl, ?_⟩) hH ?_
  rotate_left
  · ((intro W hW; clear hW; go_simp) <;> with_reducible rfl)
  simp only [Act.put, List.getElem_toArray, List.getElem_cons_zero, List.getElem_cons_succ, List.setIfInBounds_toArray, List.set_cons_zero, List.set_cons_succ]
  refine wpAnyH_take (i := 4) (v := ?_) rfl (by kernel_rfl) (by kernel_rfl) (by kernel_rfl) (fun _ _ _ h => h) (Or.inl ⟨by rfl, ?_⟩) hH ?_
  rotate_left
  · ((intro W hW; clear hW; go_simp) <;> with_reducible rfl)
  simp only [Act.put, List.getElem_toArray, List.getElem_cons_zero, List.getElem_cons_succ, List.setIfInBounds_toArray, List.set_cons_zero, List.set_cons_succ]
  refine wpAnyH_take (i := 5) (v := ?_) rfl (by kernel_rfl) (by kernel_rfl) (by kernel_rfl) (fun _ _ _ h => h) (Or.inl ⟨by rfl, ?_⟩) hH ?_
  rotate_left
  · ((intro W hW; have hk := cell_lit (hW.2) 0 _ rfl; clear hW; go_simp) <;> with_reducible rfl)
  simp only [Act.put, List.getElem_toArray, List.getElem_cons_zero, List.getElem_cons_succ, List.setIfInBounds_toArray, List.set_cons_zero, List.set_cons_succ]
  refine wpAnyH_take (i := 6) (v := ?_) rfl (by kernel_rfl) (by kernel_rfl) (by kernel_rfl) (fun _ _ _ h => h) (Or.inl ⟨by rfl, ?_⟩) hH ?_
  rotate_left
  · ((intro W hW; clear hW; go_simp) <;> with_reducible rfl)
  simp only [Act.put, List.getElem_toArray, List.getElem_cons_zero, List.getElem_cons_succ, List.setIfInBounds_toArray, List.set_cons_zero, List.set_cons_succ]
  refine wpAnyH_take (i := 7) (v := ?_) rfl (by kernel_rfl) (by kernel_rfl) (by kernel_rfl) (fun _ _ _ h => h) (Or.inl ⟨by rfl, ?_⟩) hH ?_
  rotate_left
  · ((intro W hW; clear hW; go_simp) <;> with_reducible rfl)
  simp only [Act.put, List.getElem_toArray, List.getElem_cons_zero, List.getElem_cons_succ, List.setIfInBounds_toArray, List.set_cons_zero, List.set_cons_succ]
  refine wpAnyH_take (i := 8) (v := undef) rfl (by kernel_rfl) (by kernel_rfl) (by kernel_rfl) (fun _ _ _ h => h) (Or.inr ⟨by rfl, rfl⟩) hH ?_
  simp only [Act.put, List.getElem_toArray, List.getElem_cons_zero, List.getElem_cons_succ, List.setIfInBounds_toArray, List.set_cons_zero, List.set_cons_succ]
  refine wpAnyH_take (i := 9) (v := undef) rfl (by kernel_rfl) (by kernel_rfl) (by kernel_rfl) (fun _ _ _ h => h) (Or.inr ⟨by rfl, rfl⟩) hH ?_
  simp only [Act.put, List.getElem_toArray, List.getElem_cons_zero, List.getElem_cons_succ, List.setIfInBounds_toArray, List.set_cons_zero, List.set_cons_succ]
  refine wpAnyH_take (i := 10) (v := undef) rfl (by kernel_rfl) (by kernel_rfl) (by kernel_rfl) (fun _ _ _ h => h) (Or.inr ⟨by rfl, rfl⟩) hH ?_
  simp only [Act.put, List.getElem_toArray, List.getElem_cons_zero, List.getElem_cons_succ, List.setIfInBounds_toArray, List.set_cons_zero, List.set_cons_succ]
  refine wpAnyH_take (i := 11) (v := undef) rfl (by kernel_rfl) (by kernel_rfl) (by kernel_rfl) (fun _ _ _ h => h) (Or.inr ⟨by rfl, rfl⟩) hH ?_
  simp only [Act.put, List.getElem_toArray, List.getElem_cons_zero, List.getElem_cons_succ, List.setIfInBounds_toArray, List.set_cons_zero, List.set_cons_succ]
  refine wpAnyH_take (i := 12) (v := undef) rfl (by kernel_rfl) (by kernel_rfl) (by kernel_rfl) (fun _ _ _ h => h) (Or.inr ⟨by rfl, rfl⟩) hH ?_
  simp only [Act.put, List.getElem_toArray, List.getElem_cons_zero, List.getElem_cons_succ, List.setIfInBounds_toArray, List.set_cons_zero, List.set_cons_succ]
  refine wpAnyH_take (i := 13) (v := undef) rfl (by kernel_rfl) (by kernel_rfl) (by kernel_rfl) (fun _ _ _ h => h) (Or.inr ⟨by rfl, rfl⟩) hH ?_
  simp only [Act.put, List.getElem_toArray, List.getElem_cons_zero, List.getElem_cons_succ, List.setIfInBounds_toArray, List.set_cons_zero, List.set_cons_succ]
  refine wpAnyH_take (i := 14) (v := undef) rfl (by kernel_rfl) (by kernel_rfl) (by kernel_rfl) (fun _ _ _ h => h) (Or.inr ⟨by rfl, rfl⟩) hH ?_
  simp only [Act.put, List.getElem_toArray, List.getElem_cons_zero, List.getElem_cons_succ, List.setIfInBounds_toArray, List.set_cons_zero, List.set_cons_succ]
  refine wpAnyH_take (i := 15) (v := undef) rfl (by kernel_rfl) (by kernel_rfl) (by kernel_rfl) (fun _ _ _ h => h) (Or.inr ⟨by rfl, rfl⟩) hH ?_
  simp only [Act.put, List.getElem_toArray, List.getElem_cons_zero, List.getElem_cons_succ, List.setIfInBounds_toArray, List.set_cons_zero, List.set_cons_succ]
  refine wpAnyH_take (i := 16) (v := ?_) rfl (by kernel_rfl) (by kernel_rfl) (by kernel_rfl) (fun _ _ _ h => h) (Or.inl ⟨by rfl, ?_⟩) hH ?_
  rotate_left
  · ((intro W hW; clear hW; go_simp) <;> with_reducible rfl)
  simp only [Act.put, List.getElem_toArray, List.getElem_cons_zero, List.getElem_cons_succ, List.setIfInBounds_toArray, List.set_cons_zero, List.set_cons_succ]
  refine wpAnyH_done (by kernel_rfl) ?_ _
  have R29 := cell_lit htb 0 _ rfl
  go_wp2_with fail
  clear R29
  refine wp_loop_rounds 1 ?_
  rw [rounds_succ]
  have R36 := cell_lit hfb 0 _ rfl
  go_wp2_with fail
  clear R36
  with_reducible refine (mat_none pr lw _ htb en HS.out HOK.out HPO.out h32 HF.out).mono ?_
  rintro e w3 ⟨rfl, b3⟩
  replace htb := blk_u htb b3
  replace hfb := blk_u hfb b3
  replace en := en.below b3
  replace bel := bel.trans (b3.mono bel.size)
  clear b3
  go_wp2_with fail
  exact bodyPost_ret (v := .tuple #[.int .i64 lw, .bool true]) (by simp [results, Try.results32, go_sem]) rfl ⟨rfl, bel⟩
theorem fop_own {lw : Int} {l : List Mp} {pr p : Int} {ad : Ad4} (hS : MSrt l) (hO : ∀ e ∈ l, e.okp) (hpo : okP pr p) (h1 : lw ≤ p) (hf : mfhas l (kn pr p) = false) : FoP lw l pr ad p p true :=
  fun W lo gt mb n c A rm now htb own h32 => fo_own W htb (owk_sle (by decide) mpE_len own).1 hS hO h32 hpo h1 hf
/-- The least one: all below it are somebody's; the flow's own is too small or somebody's. -/
theorem fop_least {lw : Int} {l : List Mp} {pr p q : Int} {ad : Ad4} (hS : MSrt l) (hO : ∀ e ∈ l, e.okp) (hlo : 0 ≤ lw) (hlq : lw ≤ q) (hq5 : q ≤ 65535) (hpr : 0 ≤ pr ∧ pr ≤ 255) (hp : lw ≤ p → okP pr p ∧ mfhas l (kn pr p) = true) (hall : ∀ o, lw ≤ o → o < q → mfhas l (kn pr o) = true) (hno : mfhas l (kn pr q) = false) : FoP lw l pr ad p q true := by
  intro W lo gt mb n c A rm now htb own h32
  have en := (owk_sle (by decide) mpE_len own).1
  have hl := row_len (by decide) mpE_len own
  have pos : ∀ x, mfhas l x = true → 0 < n := fun x hx => by
    obtain ⟨e, he, _⟩ := mfhas_true hx
    have := (List.getElem?_eq_some_iff.1 he).1
    omega
  by_cases h1 : lw ≤ p
  · obtain ⟨hpo, hb⟩ := hp h1
    obtain ⟨gE, rfl, _⟩ := row_at own (pos _ hb)
    obtain ⟨i, x, hq, hx, _⟩ := mfhas_ex hb
    exact fo_has_y W htb en (owk_av own (ofs_type own htb (by decide))) hS hO h32 hlo hlq (by omega) hpr hall h1 hpo hq hb hx hq5 hno
  · by_cases h0 : lw = q
    · subst h0
      exact fo_lt_0 W htb en hS hO h32 ⟨hpr.1, hpr.2, hlo, hq5⟩ hq5 h1 hno
    · obtain ⟨gE, rfl, _⟩ := row_at own (pos _ (hall lw (Int.le_refl _) (by omega)))
      exact fo_lt_y W htb en (owk_av own (ofs_type own htb (by decide))) hS hO h32 hlo hlq (by omega) hpr hall h1 hq5 hno
theorem fop_none {lw : Int} {l : List Mp} {pr p : Int} {ad : Ad4} (hS : MSrt l) (hO : ∀ e ∈ l, e.okp) (hlo : 0 ≤ lw) (hl6 : lw ≤ 65535) (hpr : 0 ≤ pr ∧ pr ≤ 255) (hp : lw ≤ p → okP pr p ∧ mfhas l (kn pr p) = true) (hall : ∀ o, lw ≤ o → o < 65536 → mfhas l (kn pr o) = true) : FoP lw l pr ad p 0 false := by
  intro W lo gt mb n c A rm now htb own h32
  have en := (owk_sle (by decide) mpE_len own).1
  have hl := row_len (by decide) mpE_len own
  have h0 : 0 < n := by
    obtain ⟨e, he, _⟩ := mfhas_true (hall lw (Int.le_refl _) (by omega))
    have := (List.getElem?_eq_some_iff.1 he).1
    omega
  obtain ⟨gE, rfl, _⟩ := row_at own h0
  by_cases h1 : lw ≤ p
  · obtain ⟨hpo, hb⟩ := hp h1
    obtain ⟨i, x, hq, hx, _⟩ := mfhas_ex hb
    exact fo_has_n W htb en (owk_av own (ofs_type own htb (by decide))) hS hO h32 hlo (by omega) (by omega) hpr hall h1 hpo hq hb hx rfl
  · exact fo_lt_n W htb en (owk_av own (ofs_type own htb (by decide))) hS hO h32 hlo (by omega) (by omega) hpr hall h1 rfl
/-- It answers, whatever there is: a free port, or none. -/
theorem fop_any {lw : Int} {l : List Mp} {pr p : Int} (ad : Ad4) (hS : MSrt l) (hO : ∀ e ∈ l, e.okp) (hlo : 0 ≤ lw) (hl6 : lw ≤ 65535) (hpo : okP pr p) : (∃ q, FoP lw l pr ad p q true ∧ okP pr q ∧ mfhas l (kn pr q) = false) ∨ FoP lw l pr ad p 0 false := by
  have hpr : 0 ≤ pr ∧ pr ≤ 255 := ⟨hpo.1, hpo.2.1⟩
  by_cases h : lw ≤ p ∧ mfhas l (kn pr p) = false
  · exact .inl ⟨p, fop_own hS hO hpo h.1 h.2, hpo, h.2⟩
  have hp : lw ≤ p → okP pr p ∧ mfhas l (kn pr p) = true := fun h1 => ⟨hpo, by
    cases hb : mfhas l (kn pr p) with
    | true => rfl
    | false => exact absurd ⟨h1, hb⟩ h⟩
  have step : ∀ (d : Nat), (∃ q, lw ≤ q ∧ q < lw + d ∧ (∀ o, lw ≤ o → o < q → mfhas l (kn pr o) = true) ∧ mfhas l (kn pr q) = false) ∨ ∀ o, lw ≤ o → o < lw + d → mfhas l (kn pr o) = true := by
    intro d
    induction d with
    | zero => exact .inr fun o h1 h2 => by omega
    | succ d ih =>
      rcases ih with ⟨q, h1, h2, h3, h4⟩ | ih
      · exact .inl ⟨q, h1, by omega, h3, h4⟩
      · cases hb : mfhas l (kn pr (lw + d)) with
        | false => exact .inl ⟨lw + d, by omega, by omega, ih, hb⟩
        | true =>
          refine .inr fun o h1 h2 => ?_
          by_cases e : o = lw + d
          · rw [e]; exact hb
          · exact ih o h1 (by omega)
  rcases step (65536 - lw).toNat with ⟨q, h1, h2, h3, h4⟩ | h3
  · exact .inl ⟨q, fop_least hS hO hlo h1 (by omega) hpr hp h3 h4, ⟨hpr.1, hpr.2, by omega, by omega⟩, h4⟩
  · exact .inr (fop_none hS hO hlo hl6 hpr hp fun o h1 h2 => h3 o h1 (by omega))
end Go.Proofs.Ytmjmjfcdblapcaa
