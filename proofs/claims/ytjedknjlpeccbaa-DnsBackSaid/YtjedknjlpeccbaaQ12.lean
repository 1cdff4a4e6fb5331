/- Texts put together: Dr2. -/
import Derived.Test.YtjedknjlpeccbaaQ1
import Derived.Test.YtjedknjlpeccbaaQ11
namespace Go.Proofs.Ytjedknjlpeccbaa
open Go.RowKit

theorem dataS_none {b : List UInt8} {t : Int} {a k : Nat} (h : expE (b.take (a + k)) a (lay t k).1 (lay t k).2.1 (lay t k).2.2 = none) : dataS b t k (a, 0) = ([], a, 4) := by
  unfold dataS
  dsimp only
  rw [h]
theorem dataS_some {b d : List UInt8} {t : Int} {a k : Nat} (h : expE (b.take (a + k)) a (lay t k).1 (lay t k).2.1 (lay t k).2.2 = some d) : dataS b t k (a, 0) = (d, a + k, 0) := by
  unfold dataS
  dsimp only
  rw [h]
theorem expE_far {b : List UInt8} {a x k y : Nat} (h : b.length < a + x) : expE b a x k y = none := by unfold expE; rw [if_pos h]
theorem expE_bad {b : List UInt8} {a x k y e : Nat} (h : ¬ b.length < a + x) (hg : goR b k (a + x) ((b.drop a).take x) = .error e) : expE b a x k y = none := by
  unfold expE
  rw [if_neg h, goR_E, hg]
theorem expE_end {b d : List UInt8} {a x k y p : Nat} (h : ¬ b.length < a + x) (hg : goR b k (a + x) ((b.drop a).take x) = .ok (d, p)) : expE b a x k y = if b.length = p + y then some (d ++ (b.drop p).take y) else none := by
  unfold expE
  rw [if_neg h, goR_E, hg]
theorem lay_no {t : Int} (k : Nat) (ht : ¬ (t = 2 ∨ t = 5 ∨ t = 12 ∨ t = 15 ∨ t = 6)) : lay t k = (k, 0, 0) := by
  unfold lay
  rw [if_neg (fun h => ht (by omega)), if_neg (fun h => ht (by omega)), if_neg (fun h => ht (by omega))]
theorem dataS_plain {b : List UInt8} {t : Int} {a k : Nat} (ht : ¬ (t = 2 ∨ t = 5 ∨ t = 12 ∨ t = 15 ∨ t = 6)) (hl : a + k ≤ b.length) : dataS b t k (a, 0) = ((b.drop a).take k, a + k, 0) := by
  have hlen : (b.take (a + k)).length = a + k := by rw [List.length_take]; omega
  apply dataS_some
  rw [lay_no k ht, expE_end (by omega) rfl, if_pos (by omega)]
  simp [List.drop_take, List.take_take]
theorem rnames_is {t : Int} {n x kn yb : Nat} (w : World) (ht : t = 2 ∨ t = 5 ∨ t = 12 ∨ t = 15 ∨ t = 6) (h : lay t n = (x, kn, yb)) : Calls Try.prog 67 #[.int .i64 t] w fun e w' => e = .returned (.tuple #[.int .i64 (x : Int), .int .i64 (kn : Int), .int .i64 (yb : Int)]) ∧ w = w' := by
  have h1 := rnames_yes n w ht
  rw [h] at h1
  exact h1
theorem u8_nil (lo : Nat) (w : World) : w.ownsRow lo 5 1 (.slice none 0 0) 0 (([] : List UInt8).map u8v) := World.ownsRow_nil _ _ _ _
set_option linter.unusedVariables false in
set_option linter.unusedSimpArgs false in
set_option maxRecDepth 100000 in
set_option maxHeartbeats 16000000 in
theorem rdata_plain {gx n c : Nat} {A : Option Addr} {b : List UInt8} {a : Nat} (w : World) (hwk : w.heap[gx]? = some (.cells #[.slice A n c, .int .i64 (a : Int), .int .i64 0] 66 (0, 0))) (sb : Sl w A n c b) (av_sb_wk : Av A n gx) (hn : n ≤ 100000) (ha : a ≤ n) {t : Int} {k : Nat} (hk16 : k ≤ 65535) (hle : a + k ≤ n) (ht : ¬ (t = 2 ∨ t = 5 ∨ t = 12 ∨ t = 15 ∨ t = 6)) : Calls Try.prog 57 #[.pointer (some ⟨gx, 0, none⟩), .int .i64 t, .int .i64 (k : Int)] w fun e w' => ∃ B m cB, e = .returned (.slice B m cB) ∧ w'.ownsRow w.heap.size 5 1 (.slice B m cB) m (((b.drop a).take k).map u8v) ∧ w'.heap[gx]? = some (.cells #[.slice A n c, .int .i64 ((a + k : Nat) : Int), .int .i64 0] 66 (0, 0)) ∧ w.grownBy w' (some gx) := by
  have hlo := Nat.zero_le w.heap.size
  have owk := Nat.zero_le gx
  have HBL := Lib.hid sb.1
  have HAN := Lib.hid ha
  have a0 : (0 : Int) ≤ a := by omega
  have a1 : (a : Int) ≤ 100000 := by omega
  have n0 : (0 : Int) ≤ n := by omega
  have n1 : (n : Int) ≤ 100000 := by omega
  have hsz := Nat.le_refl w.heap.size
  have fz := fz_refl w (some gx)
  have k0 : (0 : Int) ≤ k := by omega
  have k1 : (k : Int) ≤ 65535 := by omega
  obtain ⟨e2, he2_⟩ : ∃ u_, a + k = u_ := ⟨_, rfl⟩
  have HE2 := Lib.hid he2_
  have hE : (a : Int) + (k : Int) = (e2 : Int) := by omega
  have E2N : Hid (e2 ≤ n) := Lib.hid (by omega)
  have e20 : (0 : Int) ≤ e2 := by omega
  have e21 : (e2 : Int) ≤ 100000 := by omega
  have E2L : e2 ≤ 100000 := by omega
  obtain ⟨ii, hii, hz0, hz1, hz2⟩ := info_parts Try.info5
  have bel := Below.refl 0 w
  go_enter Try.func57, Try.ntmps57
  have R22 := cell_lit hwk 1 _ rfl
  go_wp2_with fail
  clear R22
  with_reducible refine (rnames_no _ ht).mono ?_
  rintro e _ ⟨rfl, rfl⟩
  obtain ⟨A43, c43, r43_, f43, u_⟩ := piece_mid sb (p := a) (k := k) (by have h_ := E2N.out; have h1_ := HE2.out; omega)
  have r43 : ∀ W, (Instr.slice 30 (.slice A n c) (some (.int .i64 (a : Int))) (some (.int .i64 (e2 : Int))) none).run Try.prog W = .ok (.slice A43 k c43) W := by rw [← hE]; exact r43_
  clear r43_
  have s43 := f43 _ sb
  have av_s43_wk := av_sb_wk.sub u_
  clear u_
  go_wp2_with fail
  replace bel := bel.drew
  replace hwk : w.drew.heap[gx]? = _ := hwk
  replace sb := sb.drew
  replace s43 := s43.drew
  replace fz := gk_drew fz
  replace hsz := sz_drew' hsz
  refine wp_region_held_drew (S := fun W => W.heap[gx]? = some (.cells #[.slice A n c, .int .i64 (a : Int), .int .i64 0] 66 (0, 0))) (by kernel_rfl) hwk (fun hH => ?_)
  generalize w.drew = w1 at bel hwk sb s43 fz hsz hH ⊢
  refine wpAnyH_take (i := 1) (v := ?_) rfl (by kernel_rfl) (by kernel_rfl) (by kernel_rfl) (fun _ _ _ h => h) (Or.inl ⟨by rfl, ?_⟩) hH ?_
  rotate_left
  · ((intro W hW; clear hW; go_simp) <;> with_reducible rfl)
  simp only [sq3, sq4]
  refine wpAnyH_take (i := 2) (v := ?_) rfl (by kernel_rfl) (by kernel_rfl) (by kernel_rfl) (fun _ _ _ h => h) (Or.inl ⟨by rfl, ?_⟩) hH ?_
  rotate_left
  · ((intro W hW; clear hW; go_simp) <;> with_reducible rfl)
  simp only [sq3, sq4]
  refine wpAnyH_take (i := 3) (v := ?_) rfl (by kernel_rfl) (by kernel_rfl) (by kernel_rfl) (fun _ _ _ h => h) (Or.inl ⟨by rfl, ?_⟩) hH ?_
  rotate_left
  · ((intro W hW; clear hW; go_simp) <;> with_reducible rfl)
  simp only [sq3, sq4]
  refine wpAnyH_take (i := 4) (v := ?_) rfl (by kernel_rfl) (by kernel_rfl) (by kernel_rfl) (fun _ _ _ h => h) (Or.inl ⟨by rfl, ?_⟩) hH ?_
  rotate_left
  · ((intro W hW; have hk := cell_lit (hW) 0 _ rfl; clear hW; go_simp) <;> with_reducible rfl)
  simp only [sq3, sq4]
  refine wpAnyH_take (i := 5) (v := ?_) rfl (by kernel_rfl) (by kernel_rfl) (by kernel_rfl) (fun _ _ _ h => h) (Or.inl ⟨by rfl, ?_⟩) hH ?_
  rotate_left
  · ((intro W hW; clear hW; go_simp) <;> with_reducible rfl)
  simp only [sq3, sq4]
  refine wpAnyH_take (i := 6) (v := ?_) rfl (by kernel_rfl) (by kernel_rfl) (by kernel_rfl) (fun _ _ _ h => h) (Or.inl ⟨by rfl, ?_⟩) hH ?_
  rotate_left
  · ((intro W hW; clear hW; go_simp) <;> with_reducible rfl)
  simp only [sq3, sq4]
  refine wpAnyH_take (i := 7) (v := ?_) rfl (by kernel_rfl) (by kernel_rfl) (by kernel_rfl) (fun _ _ _ h => h) (Or.inl ⟨by rfl, ?_⟩) hH ?_
  rotate_left
  · ((intro W hW; clear hW; go_simp) <;> with_reducible rfl)
  simp only [sq3, sq4]
  refine wpAnyH_take (i := 8) (v := ?_) rfl (by kernel_rfl) (by kernel_rfl) (by kernel_rfl) (fun _ _ _ h => h) (Or.inl ⟨by rfl, ?_⟩) hH ?_
  rotate_left
  · ((intro W hW; have hk := cell_lit (hW) 1 _ rfl; clear hW; go_simp) <;> with_reducible rfl)
  simp only [sq3, sq4]
  refine wpAnyH_take (i := 9) (v := ?_) rfl (by kernel_rfl) (by kernel_rfl) (by kernel_rfl) (fun _ _ _ h => h) (Or.inl ⟨by rfl, ?_⟩) hH ?_
  rotate_left
  · ((intro W hW; clear hW; go_simp) <;> with_reducible rfl)
  simp only [sq3, sq4]
  refine wpAnyH_take (i := 10) (v := ?_) rfl (by kernel_rfl) (by kernel_rfl) (by kernel_rfl) (fun _ _ _ h => h) (Or.inl ⟨by rfl, ?_⟩) hH ?_
  rotate_left
  · ((intro W hW; clear hW; go_simp) <;> with_reducible rfl)
  simp only [sq3, sq4]
  refine wpAnyH_ready (rs := [0]) (by kernel_rfl) (by simp) ?_
  refine AllReadyH.cons (o := _) rfl (fun K hK => ?_) AllReadyH.nil
  simp only [List.getElem_toArray, List.getElem_cons_zero]
  rw [if_pos (by rfl)]
  refine wp_lit_n 30 5 0 _ rfl #[] (.int .u8 0) Try.underlying30 (by kernel_rfl) 1 (by kernel_rfl) (by decide) (by kernel_rfl) ?_
  intro g33 w2 ge lt hh bb
  have hl : w2.heap[g33]? = some (.cells (([] : List UInt8).map u8v).toArray 5 (0, 0)) := (by simpa [u8v, byteOf_val] using hh)
  have e33w := own_lit (B := w1.heap.size) ([]) hl ge 0 rfl (by simp [maxLen])
  have e33 := (own_sl e33w).1
  have e33lo := (Nat.le_trans hlo bel.size)
  clear hl
  have e33ge := ge
  have lz_e33 := bb.size
  have hz_e33 := hsz
  have y_e33_wk := Lib.hid (hlt hwk)
  have bl_sb_e33 := sb.bl_new
  have bl_s43_e33 := s43.bl_new
  replace hwk := blk_u hwk bb
  replace sb := sb.below bb
  replace s43 := s43.below bb
  replace fz := gk_under fz bb hsz
  replace hsz := Nat.le_trans hsz bb.size
  replace bel := bel.trans (bb.mono (Nat.le_trans hlo bel.size))
  clear hh lt ge bb
  have av_e33_wk := (own_sl e33w).2.av y_e33_wk.out
  refine hK.out _ _ hwk (fun hH3 => ?_)
  clear hK K
  simp only [sq4]
  refine wpAnyH_ready (rs := [11]) (by kernel_rfl) (by simp) ?_
  refine AllReadyH.cons (o := _) rfl (fun K hK => ?_) AllReadyH.nil
  simp only [sq3]
  rw [if_pos (by rfl)]
  refine wp_append_bb (.tmp 33) (.tmp 43) 30 rfl (w1.heap.size) 5 ii (.int .u8 0) Try.underlying30 hii hz0 hz1 hz2 rfl _ (0) ([]) rfl e33w (A43) (k) (c43) ((b.drop a).take k) rfl s43 (by omega) lz_e33 ?_
  intro v44 w4 own_ bb
  replace sb := sb.under bl_sb_e33 bb
  replace s43 := s43.under bl_s43_e33 bb
  replace hwk := blk_under hwk bb y_e33_wk.out
  replace fz := gk_under fz bb hz_e33
  replace hsz := Nat.le_trans hsz bb.size
  replace bel := bel.trans (bb.mono e33lo)
  have lz_dd := Nat.le_trans lz_e33 bb.size
  clear bb
  clear e33 e33w lz_e33
  replace own_ : w4.ownsRow (w1.heap.size) 5 1 v44 (k) (((b.drop a).take k : List UInt8).map u8v) := (by simpa using own_)
  obtain ⟨A44, c44, rfl⟩ := own_val own_
  have ddw := own_
  have dd := (own_sl own_).1
  have fr_dd := (own_sl own_).2
  clear own_
  have av_dd_wk := fr_dd.av y_e33_wk.out
  refine hK.out _ _ hwk (fun hH5 => ?_)
  clear hK K
  simp only [sq4]
  refine wpAnyH_take (i := 12) (v := ?_) rfl (by kernel_rfl) (by kernel_rfl) (by kernel_rfl) (fun _ _ _ h => h) (Or.inl ⟨by rfl, ?_⟩) hH5 ?_
  rotate_left
  · ((intro W hW; clear hW; go_simp) <;> with_reducible rfl)
  simp only [sq3, sq4]
  refine wpAnyH_done (by kernel_rfl) ?_ _
  go_wp2_with (first | ((with_reducible show wpList _ _ _ (⟨none, Op.store _ (.tmp 48) _, _, _, _, _⟩ :: _) _ _); refine wpList_store_part rfl 3 (.tmp 48) (.tmp 46) rfl gx 1 rfl [.int .i64 (e2 : Int)] rfl [.slice A n c, .int .i64 (a : Int), .int .i64 0] 66 hwk (by simp) [.slice A n c, .int .i64 (e2 : Int), .int .i64 0] rfl (by kernel_rfl) (by rfl) ?_; intro w6 hq gr; replace sb := sb.away av_sb_wk gr; replace s43 := s43.away av_s43_wk gr; replace dd := dd.away av_dd_wk gr; replace ddw := own_away ddw y_e33_wk.out gr; replace lz_dd := Nat.le_trans lz_dd gr.size; replace fz := fz_self fz gr; replace hsz := Nat.le_trans hsz gr.size; replace bel := below_grown bel gr owk (Nat.le_trans hlo bel.size); clear hwk; have hwk := hq; clear hq gr))
  go_ret
  exact ⟨_, _, _, rfl, owk_lo ddw hz_e33, by rw [HE2.out]; exact hwk, fz⟩
set_option linter.unusedVariables false in
set_option linter.unusedSimpArgs false in
set_option maxRecDepth 100000 in
set_option maxHeartbeats 16000000 in
theorem rdata_names {gx n c : Nat} {A : Option Addr} {b : List UInt8} {a : Nat} (w : World) (hwk : w.heap[gx]? = some (.cells #[.slice A n c, .int .i64 (a : Int), .int .i64 0] 66 (0, 0))) (sb : Sl w A n c b) (av_sb_wk : Av A n gx) (hn : n ≤ 100000) (ha : a ≤ n) {t : Int} {k : Nat} (hk16 : k ≤ 65535) (hle : a + k ≤ n) (ht : t = 2 ∨ t = 5 ∨ t = 12 ∨ t = 15 ∨ t = 6) {d : List UInt8} {a2 y2 : Nat} (hs : dataS b t k (a, 0) = (d, a2, y2)) : Calls Try.prog 57 #[.pointer (some ⟨gx, 0, none⟩), .int .i64 t, .int .i64 (k : Int)] w fun e w' => ∃ B m cB, e = .returned (.slice B m cB) ∧ w'.ownsRow w.heap.size 5 1 (.slice B m cB) m (d.map u8v) ∧ w'.heap[gx]? = some (.cells #[.slice A n c, .int .i64 (a2 : Int), .int .i64 (y2 : Int)] 66 (0, 0)) ∧ w.grownBy w' (some gx) := by
  have hlo := Nat.zero_le w.heap.size
  have owk := Nat.zero_le gx
  have HBL := Lib.hid sb.1
  have HAN := Lib.hid ha
  have a0 : (0 : Int) ≤ a := by omega
  have a1 : (a : Int) ≤ 100000 := by omega
  have n0 : (0 : Int) ≤ n := by omega
  have n1 : (n : Int) ≤ 100000 := by omega
  have hsz := Nat.le_refl w.heap.size
  have fz := fz_refl w (some gx)
  have k0 : (0 : Int) ≤ k := by omega
  have k1 : (k : Int) ≤ 65535 := by omega
  obtain ⟨e2, he2_⟩ : ∃ u_, a + k = u_ := ⟨_, rfl⟩
  have HE2 := Lib.hid he2_
  have hE : (a : Int) + (k : Int) = (e2 : Int) := by omega
  have E2N : Hid (e2 ≤ n) := Lib.hid (by omega)
  have e20 : (0 : Int) ≤ e2 := by omega
  have e21 : (e2 : Int) ≤ 100000 := by omega
  have E2L : e2 ≤ 100000 := by omega
  obtain ⟨x, hx_⟩ : ∃ u_, (lay t k).1 = u_ := ⟨_, rfl⟩
  obtain ⟨kn, hk_⟩ : ∃ u_, (lay t k).2.1 = u_ := ⟨_, rfl⟩
  obtain ⟨yb, hy_⟩ : ∃ u_, (lay t k).2.2 = u_ := ⟨_, rfl⟩
  have HLY : Hid (lay t k = (x, kn, yb)) := Lib.hid (by rw [← hx_, ← hk_, ← hy_])
  have hll_ := lay_le t hk16
  rw [hx_, hk_, hy_] at hll_
  have HLN : Hid (kn ≤ 2) := Lib.hid hll_.2.1
  have x0 : (0 : Int) ≤ x := by omega
  have x1 : (x : Int) ≤ 66000 := by omega
  have kn0 : (0 : Int) ≤ kn := by omega
  have kn1 : (kn : Int) ≤ 2 := by omega
  have yb0 : (0 : Int) ≤ yb := by omega
  have yb1 : (yb : Int) ≤ 100000 := by omega
  have tkn : decide ((kn : Int) < 0) = false := decide_eq_false (by omega)
  have HS := Lib.hid hs
  have HTL : Hid ((b.take e2).length = e2) := Lib.hid (by rw [List.length_take]; have h_ := HBL.out; omega)
  have BLB := sb.bl_new
  have HT := Lib.hid ht
  clear hx_ hk_ hy_ hll_ hs ht he2_
  obtain ⟨ii, hii, hz0, hz1, hz2⟩ := info_parts Try.info5
  have bel := Below.refl 0 w
  go_enter Try.func57, Try.ntmps57
  have R22 := cell_lit hwk 1 _ rfl
  go_wp2_with fail
  clear R22
  with_reducible refine (rnames_is _ HT.out HLY.out).mono ?_
  rintro e _ ⟨rfl, rfl⟩
  by_cases hax : k < x
  · have tax : k < x := hax
    have HX : Hid (d = [] ∧ a2 = a ∧ y2 = 4) := Lib.hid (by have h_ := HS.out.symm.trans (dataS_none (by rw [HLY.out, HE2.out]; dsimp only; exact expE_far (by rw [HTL.out]; have h_ := HE2.out; omega))); injection h_ with h_ h1_; injection h1_ with h1_ h2_; exact ⟨h_, h1_, h2_⟩)
    clear hax
    obtain ⟨A55, c55, r55_, f55, u_⟩ := piece_front sb (k := e2) E2N.out
    have r55 := r55_
    clear r55_
    have s55 := f55 _ sb
    have BLS := BLB.sub u_
    have av_s55_wk := av_sb_wk.sub u_
    clear u_
    have R53 := cell_lit hwk 0 _ rfl
    go_wp2_with (first | ((with_reducible show wpList _ _ _ (⟨none, Op.store _ (.tmp 61) _, _, _, _, _⟩ :: _) _ _); refine wpList_store_part rfl 27 (.tmp 61) (.const (.int .i64 4)) rfl gx 2 rfl [.int .i64 4] rfl [.slice A n c, .int .i64 (a : Int), .int .i64 0] 66 hwk (by simp) [.slice A n c, .int .i64 (a : Int), .int .i64 4] rfl (by kernel_rfl) (by rfl) ?_; intro w1 hq gr; replace sb := sb.away av_sb_wk gr; replace s55 := s55.away av_s55_wk gr; replace fz := fz_self fz gr; replace hsz := Nat.le_trans hsz gr.size; replace bel := below_grown bel gr owk (Nat.le_trans hlo bel.size); clear hwk; have hwk := hq; clear hq gr))
    try clear R53
    go_ret
    exact ⟨none, 0, 0, rfl, by rw [HX.out.1]; exact u8_nil _ _, by rw [HX.out.2.1, HX.out.2.2]; exact hwk, fz⟩
  have tax : decide (k < x) = false := decide_eq_false hax
  have HAX : Hid (a + x ≤ e2) := Lib.hid (by have h_ := HE2.out; omega)
  clear hax
  obtain ⟨A55, c55, r55_, f55, u_⟩ := piece_front sb (k := e2) E2N.out
  have r55 := r55_
  clear r55_
  have s55 := f55 _ sb
  have BLS := BLB.sub u_
  have av_s55_wk := av_sb_wk.sub u_
  clear u_
  have R53 := cell_lit hwk 0 _ rfl
  obtain ⟨A74, c74, r74_, f74, u_⟩ := piece_mid s55 (p := a) (k := x) (by have h_ := HAX.out; omega)
  have r74 := r74_
  clear r74_
  have e73 : IntKind.i64.wrap ((a : Int) + (x : Int)) = (a : Int) + (x : Int) := IntWalk.i64_in _ (by omega)
  have s74 := f74 _ s55
  have av_s74_wk := av_s55_wk.sub u_
  clear u_
  go_wp2_with fail
  clear R53
  replace bel := bel.drew
  replace hwk : w.drew.heap[gx]? = _ := hwk
  replace sb := sb.drew
  replace s55 := s55.drew
  replace s74 := s74.drew
  replace fz := gk_drew fz
  replace hsz := sz_drew' hsz
  refine wp_region_held_drew (S := fun W => W.heap[gx]? = some (.cells #[.slice A n c, .int .i64 (a : Int), .int .i64 0] 66 (0, 0))) (by kernel_rfl) hwk (fun hH => ?_)
  generalize w.drew = w1 at bel hwk sb s55 s74 fz hsz hH ⊢
  refine wpAnyH_take (i := 1) (v := ?_) rfl (by kernel_rfl) (by kernel_rfl) (by kernel_rfl) (fun _ _ _ h => h) (Or.inl ⟨by rfl, ?_⟩) hH ?_
  rotate_left
  · ((intro W hW; clear hW; go_simp) <;> with_reducible rfl)
  simp only [sq3, sq4]
  refine wpAnyH_take (i := 2) (v := ?_) rfl (by kernel_rfl) (by kernel_rfl) (by kernel_rfl) (fun _ _ _ h => h) (Or.inl ⟨by rfl, ?_⟩) hH ?_
  rotate_left
  · ((intro W hW; clear hW; go_simp) <;> with_reducible rfl)
  simp only [sq3, sq4]
  refine wpAnyH_take (i := 3) (v := ?_) rfl (by kernel_rfl) (by kernel_rfl) (by kernel_rfl) (fun _ _ _ h => h) (Or.inl ⟨by rfl, ?_⟩) hH ?_
  rotate_left
  · ((intro W hW; clear hW; go_simp) <;> with_reducible rfl)
  simp only [sq3, sq4]
  refine wpAnyH_take (i := 4) (v := ?_) rfl (by kernel_rfl) (by kernel_rfl) (by kernel_rfl) (fun _ _ _ h => h) (Or.inl ⟨by rfl, ?_⟩) hH ?_
  rotate_left
  · ((intro W hW; clear hW; go_simp) <;> with_reducible rfl)
  simp only [sq3, sq4]
  refine wpAnyH_take (i := 5) (v := ?_) rfl (by kernel_rfl) (by kernel_rfl) (by kernel_rfl) (fun _ _ _ h => h) (Or.inl ⟨by rfl, ?_⟩) hH ?_
  rotate_left
  · ((intro W hW; have hk := cell_lit (hW) 1 _ rfl; clear hW; go_simp) <;> with_reducible rfl)
  simp only [sq3, sq4]
  refine wpAnyH_take (i := 6) (v := ?_) rfl (by kernel_rfl) (by kernel_rfl) (by kernel_rfl) (fun _ _ _ h => h) (Or.inl ⟨by rfl, ?_⟩) hH ?_
  rotate_left
  · ((intro W hW; clear hW; go_simp) <;> with_reducible rfl)
  simp only [sq3, sq4]
  refine wpAnyH_take (i := 7) (v := ?_) rfl (by kernel_rfl) (by kernel_rfl) (by kernel_rfl) (fun _ _ _ h => h) (Or.inl ⟨by rfl, ?_⟩) hH ?_
  rotate_left
  · ((intro W hW; clear hW; go_simp) <;> with_reducible rfl)
  simp only [sq3, sq4]
  refine wpAnyH_take (i := 8) (v := ?_) rfl (by kernel_rfl) (by kernel_rfl) (by kernel_rfl) (fun _ _ _ h => h) (Or.inl ⟨by rfl, ?_⟩) hH ?_
  rotate_left
  · ((intro W hW; clear hW; go_simp) <;> with_reducible rfl)
  simp only [sq3, sq4]
  refine wpAnyH_take (i := 9) (v := ?_) rfl (by kernel_rfl) (by kernel_rfl) (by kernel_rfl) (fun _ _ _ h => h) (Or.inl ⟨by rfl, ?_⟩) hH ?_
  rotate_left
  · ((intro W hW; have hk := cell_lit (hW) 1 _ rfl; clear hW; go_simp) <;> with_reducible rfl)
  simp only [sq3, sq4]
  refine wpAnyH_take (i := 10) (v := ?_) rfl (by kernel_rfl) (by kernel_rfl) (by kernel_rfl) (fun _ _ _ h => h) (Or.inl ⟨by rfl, ?_⟩) hH ?_
  rotate_left
  · ((intro W hW; clear hW; go_simp) <;> with_reducible rfl)
  simp only [sq3, sq4]
  refine wpAnyH_take (i := 11) (v := ?_) rfl (by kernel_rfl) (by kernel_rfl) (by kernel_rfl) (fun _ _ _ h => h) (Or.inl ⟨by rfl, ?_⟩) hH ?_
  rotate_left
  · ((intro W hW; clear hW; go_simp) <;> with_reducible rfl)
  simp only [sq3, sq4]
  refine wpAnyH_take (i := 12) (v := ?_) rfl (by kernel_rfl) (by kernel_rfl) (by kernel_rfl) (fun _ _ _ h => h) (Or.inl ⟨by rfl, ?_⟩) hH ?_
  rotate_left
  · ((intro W hW; clear hW; go_simp) <;> with_reducible rfl)
  simp only [sq3, sq4]
  refine wpAnyH_ready (rs := [0]) (by kernel_rfl) (by simp) ?_
  refine AllReadyH.cons (o := _) rfl (fun K hK => ?_) AllReadyH.nil
  simp only [List.getElem_toArray, List.getElem_cons_zero]
  rw [if_pos (by rfl)]
  refine wp_lit_n 30 5 0 _ rfl #[] (.int .u8 0) Try.underlying30 (by kernel_rfl) 1 (by kernel_rfl) (by decide) (by kernel_rfl) ?_
  intro g62 w2 ge lt hh bb
  have hl : w2.heap[g62]? = some (.cells (([] : List UInt8).map u8v).toArray 5 (0, 0)) := (by simpa [u8v, byteOf_val] using hh)
  have e62w := own_lit (B := w1.heap.size) ([]) hl ge 0 rfl (by simp [maxLen])
  have e62 := (own_sl e62w).1
  have e62lo := (Nat.le_trans hlo bel.size)
  clear hl
  have e62ge := ge
  have lz_e62 := bb.size
  have hz_e62 := hsz
  have y_e62_wk := Lib.hid (hlt hwk)
  have bl_sb_e62 := sb.bl_new
  have bl_s55_e62 := s55.bl_new
  have bl_s74_e62 := s74.bl_new
  replace hwk := blk_u hwk bb
  replace sb := sb.below bb
  replace s55 := s55.below bb
  replace s74 := s74.below bb
  replace fz := gk_under fz bb hsz
  replace hsz := Nat.le_trans hsz bb.size
  replace bel := bel.trans (bb.mono (Nat.le_trans hlo bel.size))
  clear hh lt ge bb
  have av_e62_wk := (own_sl e62w).2.av y_e62_wk.out
  refine hK.out _ _ hwk (fun hH3 => ?_)
  clear hK K
  simp only [sq4]
  refine wpAnyH_ready (rs := [13]) (by kernel_rfl) (by simp) ?_
  refine AllReadyH.cons (o := _) rfl (fun K hK => ?_) AllReadyH.nil
  simp only [sq3]
  rw [if_pos (by rfl)]
  refine wp_append_bb (.tmp 62) (.tmp 74) 30 rfl (w1.heap.size) 5 ii (.int .u8 0) Try.underlying30 hii hz0 hz1 hz2 rfl _ (0) ([]) rfl e62w (A74) (x) (c74) (((b.take e2).drop a).take x) rfl s74 (by omega) lz_e62 ?_
  intro v75 w4 own_ bb
  replace sb := sb.under bl_sb_e62 bb
  replace s55 := s55.under bl_s55_e62 bb
  replace s74 := s74.under bl_s74_e62 bb
  replace hwk := blk_under hwk bb y_e62_wk.out
  replace fz := gk_under fz bb hz_e62
  replace hsz := Nat.le_trans hsz bb.size
  replace bel := bel.trans (bb.mono e62lo)
  have lz_dd := Nat.le_trans lz_e62 bb.size
  clear bb
  clear e62 e62w lz_e62
  replace own_ : w4.ownsRow (w1.heap.size) 5 1 v75 (x) ((((b.take e2).drop a).take x : List UInt8).map u8v) := (by simpa using own_)
  obtain ⟨A75, c75, rfl⟩ := own_val own_
  have ddw := own_
  have dd := (own_sl own_).1
  have fr_dd := (own_sl own_).2
  clear own_
  have av_dd_wk := fr_dd.av y_e62_wk.out
  have of_dd_wk := ofs_type ddw hwk (by decide)
  refine hK.out _ _ hwk (fun hH5 => ?_)
  clear hK K
  simp only [sq4]
  refine wpAnyH_take (i := 14) (v := ?_) rfl (by kernel_rfl) (by kernel_rfl) (by kernel_rfl) (fun _ _ _ h => h) (Or.inl ⟨by rfl, ?_⟩) hH5 ?_
  rotate_left
  · ((intro W hW; clear hW; go_simp) <;> with_reducible rfl)
  simp only [sq3, sq4]
  refine wpAnyH_done (by kernel_rfl) ?_ _
  have R79 := cell_lit hwk 1 _ rfl
  go_wp2_with fail
  clear R79
  go_loopg [13, 14, 15] (kn) (fun gk s13 s14 s15 wr => ∃ i : Nat, ∃ p : Nat, ∃ z : Nat, ∃ dd : List UInt8, ∃ (Aou : Option Addr) (cou : Nat), gk = kn - i ∧ i ≤ kn ∧ Hid (goR (b.take e2) (kn - i) p dd = goR (b.take e2) kn (a + x) (((b.take e2).drop a).take x)) ∧ Hid (p ≤ e2) ∧ z ≤ 66000 + 300 * i ∧ w.grownBy wr (some gx) ∧ w.heap.size ≤ wr.heap.size ∧ s13 = .slice Aou z cou ∧ s14 = .int .i64 (p : Int) ∧ s15 = .int .i64 (i : Int) ∧ wr.ownsRow (w.heap.size) 5 1 (.slice Aou (z) cou) (z) ((dd : List UInt8).map u8v) ∧ Ofs (.slice Aou (z) cou) gx ∧ w.heap.size ≤ wr.heap.size ∧ wr.heap[gx]? = some (.cells #[.slice A n c, .int .i64 (a : Int), .int .i64 0] 66 (0, 0)) ∧ Sl wr (A) (n) (c) (b) ∧ Sl wr (A55) (e2) (c55) (b.take e2) ∧ Sl wr (A74) (x) (c74) (((b.take e2).drop a).take x) ∧ Below 0 w wr)
  case atStart => exact ⟨0, a + x, x, ((b.take e2).drop a).take x, A75, c75, Nat.sub_zero _, Nat.zero_le _, Lib.hid rfl, Lib.hid (by have h_ := HAX.out; omega), by omega, fz, hsz, rfl, rfl, rfl, (owk_lo ddw hz_e62), of_dd_wk, hsz, hwk, sb, s55, s74, bel⟩
  case round =>
    clear fz hsz hwk sb s55 s74 dd bel
    obtain ⟨i, p, z, dd, Aou, cou, HGK, hi, HG, HP, hz, fz, hsz, rfl, rfl, rfl, ouw, of_ou_wk, lz_ou, hwk, sb, s55, s74, bel⟩ := hrel
    have HGK_ := Lib.hid HGK
    clear HGK
    have ou := (own_sl ouw).1
    have fr_ou := (own_sl ouw).2
    have av_ou_wk := own_av ouw of_ou_wk
    have hz_ou := Nat.le_refl w.heap.size
    have i0 : (0 : Int) ≤ i := by omega
    have p0 : (0 : Int) ≤ p := by omega
    have p1 : (p : Int) ≤ e2 := by have h_ := HP.out; omega
    have oulo := Nat.zero_le w.heap.size
    by_cases hik : i < kn
    rotate_left
    · have hh := Lib.hid hik
      have HKI : Hid (i = kn) := Lib.hid (by omega)
      replace hik : decide (i < kn) = false := decide_eq_false (by omega)
      have HGE : Hid (goR (b.take e2) kn (a + x) (((b.take e2).drop a).take x) = .ok (dd, p)) := Lib.hid (by rw [← HG.out, HKI.out, Nat.sub_self]; rfl)
      by_cases hpy : p + yb = e2
      rotate_left
      · have t107 : ((e2 : Int) - (p : Int) != (yb : Int)) = true := by rw [bne_iff_ne]; omega
        have HX : Hid (d = [] ∧ a2 = a ∧ y2 = 4) := Lib.hid (by have h_ := HS.out.symm.trans (dataS_none (by rw [HLY.out, HE2.out]; dsimp only; exact (by rw [expE_end (by have h_ := HTL.out; have h1_ := HAX.out; omega) HGE.out, if_neg (by rw [HTL.out]; omega)]))); injection h_ with h_ h1_; injection h1_ with h1_ h2_; exact ⟨h_, h1_, h2_⟩)
        clear hpy
        go_wp2_with (first | ((with_reducible show wpList _ _ _ (⟨none, Op.store _ (.tmp 110) _, _, _, _, _⟩ :: _) _ _); refine wpList_store_part rfl 27 (.tmp 110) (.const (.int .i64 4)) rfl gx 2 rfl [.int .i64 4] rfl [.slice A n c, .int .i64 (a : Int), .int .i64 0] 66 hwk (by simp) [.slice A n c, .int .i64 (a : Int), .int .i64 4] rfl (by kernel_rfl) (by rfl) ?_; intro w6 hq gr; replace sb := sb.away av_sb_wk gr; replace s55 := s55.away av_s55_wk gr; replace s74 := s74.away av_s74_wk gr; replace ou := ou.away av_ou_wk gr; replace ouw := own_off ouw of_ou_wk gr; replace lz_ou := Nat.le_trans lz_ou gr.size; replace fz := fz_self fz gr; replace hsz := Nat.le_trans hsz gr.size; replace bel := below_grown bel gr owk (Nat.le_trans hlo bel.size); clear hwk; have hwk := hq; clear hq gr))
        go_ret
        exact ⟨none, 0, 0, rfl, by rw [HX.out.1]; exact u8_nil _ _, by rw [HX.out.2.1, HX.out.2.2]; exact hwk, fz⟩
      have HPY : Hid (p + yb = e2) := Lib.hid hpy
      have t107 : ((e2 : Int) - (p : Int) != (yb : Int)) = false := by rw [show (e2 : Int) - (p : Int) = (yb : Int) by omega]; simp
      have HX : Hid (d = dd ++ ((b.take e2).drop p).take yb ∧ a2 = e2 ∧ y2 = 0) := Lib.hid (by have h_ := HS.out.symm.trans (dataS_some (d := dd ++ ((b.take e2).drop p).take yb) (by rw [HLY.out, HE2.out]; dsimp only; rw [expE_end (by have h_ := HTL.out; have h1_ := HAX.out; omega) HGE.out, if_pos (by rw [HTL.out]; exact HPY.out.symm)])); injection h_ with h_ h1_; injection h1_ with h1_ h2_; exact ⟨h_, h1_.trans HE2.out, h2_⟩)
      clear hpy
      obtain ⟨A115, c115, r115_, f115, u_⟩ := piece_mid s55 (p := p) (k := yb) (by have h_ := HPY.out; omega)
      have r115 : ∀ W, (Instr.slice 30 (.slice A55 e2 c55) (some (.int .i64 (p : Int))) (some (.int .i64 (e2 : Int))) none).run Try.prog W = .ok (.slice A115 yb c115) W := by rw [show (e2 : Int) = (p : Int) + (yb : Int) by have h_ := HPY.out; omega]; exact r115_
      clear r115_
      have s115 := f115 _ s55
      have av_s115_wk := av_s55_wk.sub u_
      clear u_
      go_wp2_with (first | ((with_reducible show wpList _ _ _ (⟨some 116, _, _, _, _, _⟩ :: _) _ _); refine wpList_append_bg _ rfl (.tmp 111) (.tmp 115) 30 rfl (w.heap.size) 5 ii (.int .u8 0) Try.underlying30 hii hz0 hz1 hz2 rfl _ (z) (dd) rfl ouw (A115) (yb) (c115) (((b.take e2).drop p).take yb) rfl s115 (by omega) lz_ou ?_; intro v116 w6 own_ bb gw ofw; have of116_wk := ofw _ (hlt hwk) of_ou_wk; clear ofw; replace sb := sb.under BLB bb; replace s55 := s55.under BLS bb; clear s74; clear s115; replace hwk := blk_own hwk gw of_ou_wk; clear gw; replace fz := gk_under fz bb hz_ou; replace hsz := Nat.le_trans hsz bb.size; replace bel := bel.trans (bb.mono oulo); have lz_s116 := Nat.le_trans lz_ou bb.size; clear bb; clear ou ouw lz_ou; replace own_ : w6.ownsRow (w.heap.size) 5 1 v116 (z + yb) ((dd ++ (((b.take e2).drop p).take yb) : List UInt8).map u8v) := own_; obtain ⟨A116, c116, rfl⟩ := own_val own_; have s116w := own_; have s116 := (own_sl own_).1; have fr_s116 := (own_sl own_).2; clear own_; have av_s116_wk := own_av s116w of116_wk) | ((with_reducible show wpList _ _ _ (⟨none, Op.store _ (.tmp 120) _, _, _, _, _⟩ :: _) _ _); refine wpList_store_part rfl 3 (.tmp 120) (.tmp 118) rfl gx 1 rfl [.int .i64 (e2 : Int)] rfl [.slice A n c, .int .i64 (a : Int), .int .i64 0] 66 hwk (by simp) [.slice A n c, .int .i64 (e2 : Int), .int .i64 0] rfl (by kernel_rfl) (by rfl) ?_; intro w7 hq gr; replace sb := sb.away av_sb_wk gr; replace s55 := s55.away av_s55_wk gr; replace s116 := s116.away av_s116_wk gr; replace s116w := own_off s116w of116_wk gr; replace lz_s116 := Nat.le_trans lz_s116 gr.size; replace fz := fz_self fz gr; replace hsz := Nat.le_trans hsz gr.size; replace bel := below_grown bel gr owk (Nat.le_trans hlo bel.size); clear hwk; have hwk := hq; clear hq gr))
      go_ret
      exact ⟨_, _, _, rfl, by rw [HX.out.1]; exact s116w, by rw [HX.out.2.1, HX.out.2.2]; exact hwk, fz⟩
    obtain ⟨r, hr_⟩ : ∃ r, kn - i = r + 1 := ⟨kn - i - 1, by omega⟩
    have HR := Lib.hid hr_
    clear hr_
    obtain ⟨l, nx, er, hgn⟩ : ∃ l nx er, getN (b.take e2) (p : Int) = (l, nx, er) := ⟨_, _, _, rfl⟩
    have HGN := Lib.hid hgn
    clear hgn
    obtain ⟨ln, HLN__⟩ : ∃ u_, l.length = u_ := ⟨_, rfl⟩
    have HLN_ := Lib.hid HLN__
    clear HLN__
    go_wp2_with fail
    with_reducible refine (rget_lit _ s55 E2L HGN.out HLN_.out rfl rfl).mono ?_
    rintro e w6 ⟨v_nm, rfl, nmw, b6⟩
    have hz_nm := hsz
    have y_nm_wk := Lib.hid (hlt hwk)
    have bl_sb_nm := sb.bl_new
    have bl_s55_nm := s55.bl_new
    have bl_s74_nm := s74.bl_new
    have bl_ou_nm := ou.bl_new
    have nmlo := (Nat.le_trans hlo bel.size)
    have lz_nm := b6.size
    replace hwk := blk_u hwk b6
    replace sb := sb.below b6
    replace s55 := s55.below b6
    replace s74 := s74.below b6
    replace ou := ou.below b6
    replace ouw := own_under ouw b6
    replace lz_ou := Nat.le_trans lz_ou b6.size
    replace fz := gk_under fz b6 hsz
    replace hsz := Nat.le_trans hsz b6.size
    replace bel := bel.trans (b6.mono (Nat.le_trans hlo bel.size))
    clear b6
    obtain ⟨Anm, cnm, rfl⟩ := owk_val nmw
    have nm := (owk_sle (by decide) stf_len nmw).1
    have fr_nm := (owk_sle (by decide) stf_len nmw).2
    have av_nm_wk := fr_nm.av y_nm_wk.out
    by_cases he : er = 0
    rotate_left
    · have HY2 : Hid (er ≠ 0) := Lib.hid he
      have y3 : ((er : Int) != 0) = true := by rw [bne_iff_ne]; omega
      have y4 : (er != 0) = true := by rw [bne_iff_ne]; omega
      have HX : Hid (d = [] ∧ a2 = a ∧ y2 = 4) := Lib.hid (by have h_ := HS.out.symm.trans (dataS_none (by rw [HLY.out, HE2.out]; dsimp only; exact expE_bad (by have h_ := HTL.out; have h1_ := HAX.out; omega) (HG.out.symm.trans (by rw [HR.out]; exact goR_no HGN.out HY2.out)))); injection h_ with h_ h1_; injection h1_ with h1_ h2_; exact ⟨h_, h1_, h2_⟩)
      clear he
      go_wp2_with (first | ((with_reducible show wpList _ _ _ (⟨none, Op.store _ (.tmp 98) _, _, _, _, _⟩ :: _) _ _); refine wpList_store_part rfl 27 (.tmp 98) (.const (.int .i64 4)) rfl gx 2 rfl [.int .i64 4] rfl [.slice A n c, .int .i64 (a : Int), .int .i64 0] 66 hwk (by simp) [.slice A n c, .int .i64 (a : Int), .int .i64 4] rfl (by kernel_rfl) (by rfl) ?_; intro w7 hq gr; replace sb := sb.away av_sb_wk gr; replace s55 := s55.away av_s55_wk gr; replace s74 := s74.away av_s74_wk gr; replace ou := ou.away av_ou_wk gr; replace ouw := own_off ouw of_ou_wk gr; replace nm := nm.away av_nm_wk gr; replace nmw := owk_away nmw y_nm_wk.out gr; replace lz_ou := Nat.le_trans lz_ou gr.size; replace lz_nm := Nat.le_trans lz_nm gr.size; replace fz := fz_self fz gr; replace hsz := Nat.le_trans hsz gr.size; replace bel := below_grown bel gr owk (Nat.le_trans hlo bel.size); clear hwk; have hwk := hq; clear hq gr))
      go_ret
      exact ⟨none, 0, 0, rfl, by rw [HX.out.1]; exact u8_nil _ _, by rw [HX.out.2.1, HX.out.2.2]; exact hwk, fz⟩
    obtain rfl : er = 0 := he
    obtain ⟨z2, HPZ_⟩ : ∃ u_, (dd ++ putN l).length = u_ := ⟨_, rfl⟩
    have HPZ := Lib.hid HPZ_
    clear HPZ_
    have HGD : Hid (goodN l = true) := Lib.hid (by have h_ := getN_good (b.take e2) (p : Int); rw [HGN.out] at h_; exact h_)
    have HZ2 : Hid (z2 ≤ z + 255) := Lib.hid (by have h_ := HPZ.out; rw [List.length_append, put_len] at h_; have h1_ := good_size HGD.out; have h2_ := ou.1; omega)
    have HNX : Hid (nx ≤ e2) := Lib.hid (by have h_ := nx_le HGN.out; have h1_ := HTL.out; omega)
    go_wp2_with fail
    with_reducible refine (rput_lit _ ou nm (by omega) HGD.out rfl HPZ.out).mono ?_
    rintro e w7 ⟨v_pt, rfl, ptw, b7⟩
    have hz_pt := hsz
    have y_pt_wk := Lib.hid (hlt hwk)
    have bl_sb_pt := sb.bl_new
    have bl_s55_pt := s55.bl_new
    have bl_s74_pt := s74.bl_new
    have bl_ou_pt := ou.bl_new
    have bl_nm_pt := nm.bl_new
    have ptlo := (Nat.le_trans hlo bel.size)
    have lz_pt := b7.size
    replace hwk := blk_u hwk b7
    replace sb := sb.below b7
    replace s55 := s55.below b7
    replace s74 := s74.below b7
    replace ou := ou.below b7
    replace ouw := own_under ouw b7
    replace nm := nm.below b7
    replace nmw := owk_under nmw b7
    replace lz_ou := Nat.le_trans lz_ou b7.size
    replace lz_nm := Nat.le_trans lz_nm b7.size
    replace fz := gk_under fz b7 hsz
    replace hsz := Nat.le_trans hsz b7.size
    replace bel := bel.trans (b7.mono (Nat.le_trans hlo bel.size))
    clear b7
    obtain ⟨Apt, cpt, rfl⟩ := own_val ptw
    have pt := (own_sl ptw).1
    have fr_pt := (own_sl ptw).2
    have av_pt_wk := fr_pt.av y_pt_wk.out
    have of_pt_wk := ofs_type ptw hwk (by decide)
    go_wp2_with fail
    go_roundg (kn - (i + 1))
    case measure => have := HGK_.out; omega
    case rel => exact ⟨i + 1, nx, z2, dd ++ putN l, Apt, cpt, rfl, hik, Lib.hid (by rw [← HG.out, HR.out, goR_yes HGN.out, show kn - (i + 1) = r by have h_ := HR.out; omega]), HNX, by have h_ := HZ2.out; omega, fz, hsz, rfl, by go_num, by go_num, (owk_lo ptw hz_pt), of_pt_wk, hsz, hwk, sb, s55, s74, bel⟩
theorem rdata_any {gx n c : Nat} {A : Option Addr} {b : List UInt8} {a : Nat} (w : World) (hwk : w.heap[gx]? = some (.cells #[.slice A n c, .int .i64 (a : Int), .int .i64 0] 66 (0, 0))) (sb : Sl w A n c b) (av_sb_wk : Av A n gx) (hn : n ≤ 100000) (ha : a ≤ n) {t : Int} {k : Nat} (hk16 : k ≤ 65535) (hle : a + k ≤ n) {d : List UInt8} {a2 y2 : Nat} (hs : dataS b t k (a, 0) = (d, a2, y2)) : Calls Try.prog 57 #[.pointer (some ⟨gx, 0, none⟩), .int .i64 t, .int .i64 (k : Int)] w fun e w' => ∃ B m cB, e = .returned (.slice B m cB) ∧ w'.ownsRow w.heap.size 5 1 (.slice B m cB) m (d.map u8v) ∧ w'.heap[gx]? = some (.cells #[.slice A n c, .int .i64 (a2 : Int), .int .i64 (y2 : Int)] 66 (0, 0)) ∧ w.grownBy w' (some gx) := by
  have hb := sb.1
  by_cases ht : t = 2 ∨ t = 5 ∨ t = 12 ∨ t = 15 ∨ t = 6
  · exact rdata_names w hwk sb av_sb_wk hn ha hk16 hle ht hs
  · rw [dataS_plain ht (by omega)] at hs
    injection hs with h1 h2
    injection h2 with h2 h3
    subst h1; subst h2; subst h3
    exact rdata_plain w hwk sb av_sb_wk hn ha hk16 hle ht
set_option linter.unusedVariables false in
set_option linter.unusedSimpArgs false in
set_option maxRecDepth 100000 in
set_option maxHeartbeats 16000000 in
theorem rrecs_any {gx n c : Nat} {A : Option Addr} {b : List UInt8} {a y : Nat} (w : World) (hwk : w.heap[gx]? = some (.cells #[.slice A n c, .int .i64 (a : Int), .int .i64 (y : Int)] 66 (0, 0))) (sb : Sl w A n c b) (av_sb_wk : Av A n gx) (hn : n ≤ 100000) (ha : a ≤ n) (k : Nat) (hk : k ≤ 100) {L : List Rn} {a2 y2 : Nat} (hok : manyS (recS b) k (a, y) [] = (L, a2, y2)) : Calls Try.prog 29 #[.pointer (some ⟨gx, 0, none⟩), .int .i64 (k : Int)] w fun e w' => ∃ Q nq cq, e = .returned (.slice Q nq cq) ∧ LR w.heap.size w' 100 Q nq cq L ∧ w'.heap[gx]? = some (.cells #[.slice A n c, .int .i64 (a2 : Int), .int .i64 (y2 : Int)] 66 (0, 0)) ∧ w.grownBy w' (some gx) := by
  have hlo := Nat.zero_le w.heap.size
  have owk := Nat.zero_le gx
  have HBL := Lib.hid sb.1
  have HAN := Lib.hid ha
  have a0 : (0 : Int) ≤ a := by omega
  have a1 : (a : Int) ≤ 100000 := by omega
  have n0 : (0 : Int) ≤ n := by omega
  have n1 : (n : Int) ≤ 100000 := by omega
  have hsz := Nat.le_refl w.heap.size
  have fz := fz_refl w (some gx)
  have BLB := sb.bl_new
  have hqs : Rws w.heap.size w [] [] := All2.nil
  have k0 : (0 : Int) ≤ k := by omega
  have k1 : (k : Int) ≤ 100 := by omega
  have HOK := Lib.hid hok
  clear hok
  obtain ⟨jr, hjr, hjr0, hjr1, hjr2⟩ := info_parts Try.info_rrn
  have bel := Below.refl 0 w
  go_enter Try.func29, Try.ntmps29
  go_wp2_with fail
  go_loopg [5, 6] (k) (fun gk s5 s6 wr => ∃ i : Nat, ∃ p0 : Nat, ∃ z0 : Nat, ∃ hs : List Rh, ∃ L1 : List Rn, ∃ (Aou : Option Addr) (cou : Nat), gk = k - i ∧ i ≤ k ∧ Hid (manyS (recS b) (k - i) (p0, z0) L1 = manyS (recS b) k (a, y) []) ∧ Hid (p0 ≤ n) ∧ w.grownBy wr (some gx) ∧ w.heap.size ≤ wr.heap.size ∧ Rws w.heap.size wr hs L1 ∧ s5 = .slice Aou i cou ∧ s6 = .int .i64 (i : Int) ∧ wr.ownsRow (w.heap.size) 100 5 (.slice Aou (i) cou) (i) ((hs : List Rh).flatMap rE) ∧ Ofs (.slice Aou (i) cou) gx ∧ w.heap.size ≤ wr.heap.size ∧ wr.heap[gx]? = some (.cells #[.slice A n c, .int .i64 (p0 : Int), .int .i64 (z0 : Int)] 66 (0, 0)) ∧ Sl wr (A) (n) (c) (b) ∧ Below 0 w wr)
  case atStart => exact ⟨0, a, y, [], [], none, 0, Nat.sub_zero _, Nat.zero_le _, Lib.hid rfl, HAN, fz, hsz, hqs, rfl, rfl, owk_nil _ _ _, (fun g h => by simp [Value.ownBlock] at h), hsz, hwk, sb, bel⟩
  case round =>
    clear fz hsz hqs hwk sb bel
    obtain ⟨i, p0, z0, hs, L1, Aou, cou, HGK, hi, HG, HP, fz, hsz, hqs, rfl, rfl, ouw, of_ou_wk, lz_ou, hwk, sb, bel⟩ := hrel
    have HGK_ := Lib.hid HGK
    clear HGK
    have ou := (owk_sle (by decide) rE_len ouw).1
    have fr_ou := (owk_sle (by decide) rE_len ouw).2
    have av_ou_wk := owk_av ouw of_ou_wk
    have hz_ou := Nat.le_refl w.heap.size
    have i0 : (0 : Int) ≤ i := by omega
    have p00 : (0 : Int) ≤ p0 := by omega
    have z00 : (0 : Int) ≤ z0 := by omega
    have P0N : p0 ≤ n := HP.out
    have oulo := Nat.zero_le w.heap.size
    by_cases hik : i < k
    rotate_left
    · have hh := Lib.hid hik
      have HKI : Hid (i = k) := Lib.hid (by omega)
      replace hik : decide (i < k) = false := decide_eq_false (by omega)
      have HGE : Hid (manyS (recS b) k (a, y) [] = (L1, p0, z0)) := Lib.hid (by rw [← HG.out]; exact by rw [HKI.out, Nat.sub_self]; rfl)
      have HE2 : Hid (L1 = L ∧ p0 = a2 ∧ z0 = y2) := Lib.hid (by have h_ := HGE.out.symm.trans HOK.out; injection h_ with h_ h1_; injection h1_ with h1_ h2_; exact ⟨h_, h1_, h2_⟩)
      go_wp2_with fail
      go_ret
      exact ⟨_, _, _, rfl, by rw [← HE2.out.1]; exact ⟨hs, ouw, hqs⟩, by rw [← HE2.out.2.1, ← HE2.out.2.2]; exact hwk, fz⟩
    obtain ⟨r, hr_⟩ : ∃ r, k - i = r + 1 := ⟨k - i - 1, by omega⟩
    have HR := Lib.hid hr_
    clear hr_
    by_cases hz0 : z0 = 0
    rotate_left
    · have HZ0 : Hid (z0 ≠ 0) := Lib.hid hz0
      have za : ((z0 : Int) == 0) = false := by rw [beq_eq_false_iff_ne]; omega
      have zb : (z0 == 0) = false := by rw [beq_eq_false_iff_ne]; omega
      clear hz0
      have HGE : Hid (manyS (recS b) k (a, y) [] = (L1, p0, z0)) := Lib.hid (by rw [← HG.out]; exact manyS_stop HZ0.out _ _)
      have HE2 : Hid (L1 = L ∧ p0 = a2 ∧ z0 = y2) := Lib.hid (by have h_ := HGE.out.symm.trans HOK.out; injection h_ with h_ h1_; injection h1_ with h1_ h2_; exact ⟨h_, h1_, h2_⟩)
      have R18 := cell_lit hwk 2 _ rfl
      go_wp2_with fail
      clear R18
      go_ret
      exact ⟨_, _, _, rfl, by rw [← HE2.out.1]; exact ⟨hs, ouw, hqs⟩, by rw [← HE2.out.2.1, ← HE2.out.2.2]; exact hwk, fz⟩
    have HZ0 : Hid ((p0, z0).2 = 0) := Lib.hid hz0
    have za : ((z0 : Int) == 0) = true := by rw [hz0]; rfl
    have zb : (z0 == 0) = true := by rw [hz0]; rfl
    clear hz0
    obtain ⟨l, p1, z1, h_⟩ : ∃ u1_ u2_ u3_, nameS b (p0, z0) = (u1_, u2_, u3_) := ⟨_, _, _, rfl⟩
    have HS1 := Lib.hid h_
    clear h_
    have PN1 : p1 ≤ n := by have h_ := HS1.out; have h1_ := nameS_le (b := b) (s := (p0, z0)) (by have h2_ := HBL.out; dsimp only; omega); rw [h_] at h1_; dsimp only at h1_; have h2_ := HBL.out; omega
    obtain ⟨v1, p2, z2, h_⟩ : ∃ u1_ u2_ u3_, u16S b (p1, z1) = (u1_, u2_, u3_) := ⟨_, _, _, rfl⟩
    have HS2 := Lib.hid h_
    clear h_
    have PN2 : p2 ≤ n := by have h_ := HS2.out; have h1_ := u16S_le (b := b) (s := (p1, z1)) (by have h2_ := HBL.out; dsimp only; omega); rw [h_] at h1_; dsimp only at h1_; have h2_ := HBL.out; omega
    obtain ⟨v2, p3, z3, h_⟩ : ∃ u1_ u2_ u3_, u16S b (p2, z2) = (u1_, u2_, u3_) := ⟨_, _, _, rfl⟩
    have HS3 := Lib.hid h_
    clear h_
    have PN3 : p3 ≤ n := by have h_ := HS3.out; have h1_ := u16S_le (b := b) (s := (p2, z2)) (by have h2_ := HBL.out; dsimp only; omega); rw [h_] at h1_; dsimp only at h1_; have h2_ := HBL.out; omega
    obtain ⟨v3, p4, z4, h_⟩ : ∃ u1_ u2_ u3_, u16S b (p3, z3) = (u1_, u2_, u3_) := ⟨_, _, _, rfl⟩
    have HS4 := Lib.hid h_
    clear h_
    have PN4 : p4 ≤ n := by have h_ := HS4.out; have h1_ := u16S_le (b := b) (s := (p3, z3)) (by have h2_ := HBL.out; dsimp only; omega); rw [h_] at h1_; dsimp only at h1_; have h2_ := HBL.out; omega
    obtain ⟨v4, p5, z5, h_⟩ : ∃ u1_ u2_ u3_, u16S b (p4, z4) = (u1_, u2_, u3_) := ⟨_, _, _, rfl⟩
    have HS5 := Lib.hid h_
    clear h_
    have PN5 : p5 ≤ n := by have h_ := HS5.out; have h1_ := u16S_le (b := b) (s := (p4, z4)) (by have h2_ := HBL.out; dsimp only; omega); rw [h_] at h1_; dsimp only at h1_; have h2_ := HBL.out; omega
    obtain ⟨v5, p6, z6, h_⟩ : ∃ u1_ u2_ u3_, u16S b (p5, z5) = (u1_, u2_, u3_) := ⟨_, _, _, rfl⟩
    have HS6 := Lib.hid h_
    clear h_
    have PN6 : p6 ≤ n := by have h_ := HS6.out; have h1_ := u16S_le (b := b) (s := (p5, z5)) (by have h2_ := HBL.out; dsimp only; omega); rw [h_] at h1_; dsimp only at h1_; have h2_ := HBL.out; omega
    have V1 : v1 < 65536 := by have h_ := u16S_lt b (p1, z1); rw [HS2.out] at h_; exact h_
    have v10 : (0 : Int) ≤ v1 := by omega
    have v11 : (v1 : Int) < 65536 := by omega
    have V2 : v2 < 65536 := by have h_ := u16S_lt b (p2, z2); rw [HS3.out] at h_; exact h_
    have v20 : (0 : Int) ≤ v2 := by omega
    have v21 : (v2 : Int) < 65536 := by omega
    have V3 : v3 < 65536 := by have h_ := u16S_lt b (p3, z3); rw [HS4.out] at h_; exact h_
    have v30 : (0 : Int) ≤ v3 := by omega
    have v31 : (v3 : Int) < 65536 := by omega
    have V4 : v4 < 65536 := by have h_ := u16S_lt b (p4, z4); rw [HS5.out] at h_; exact h_
    have v40 : (0 : Int) ≤ v4 := by omega
    have v41 : (v4 : Int) < 65536 := by omega
    have V5 : v5 < 65536 := by have h_ := u16S_lt b (p5, z5); rw [HS6.out] at h_; exact h_
    have v50 : (0 : Int) ≤ v5 := by omega
    have v51 : (v5 : Int) < 65536 := by omega
    obtain ⟨p7, z7, h_⟩ : ∃ u2_ u3_, needS n v5 (p6, z6) = (u2_, u3_) := ⟨_, _, rfl⟩
    have HS7 := Lib.hid h_
    clear h_
    obtain ⟨u, hu_⟩ : ∃ u_, v3 * 65536 + v4 = u_ := ⟨_, rfl⟩
    have HU := Lib.hid hu_
    have u0 : (0 : Int) ≤ u := by omega
    have u1 : (u : Int) < 4294967296 := by omega
    have hor : bits .or .u32 ((v3 : Int) * 65536) (v4 : Int) = (u : Int) := by rw [or_u32_16 v3 v4 V3 V4, hu_]
    clear hu_
    have HQS : Hid (qS b (p0, z0) = (⟨l, (v1 : Int), (v2 : Int)⟩, p3, z3)) := Lib.hid (by unfold qS; simp only [HS1.out, HS2.out, HS3.out])
    have R18 := cell_lit hwk 2 _ rfl
    go_wp2_with fail
    clear R18
    have HS_N := hsz
    with_reducible refine (rname_any _ hwk sb av_sb_wk hn P0N HS1.out).mono ?_
    rintro e w1 ⟨Lq, mq, cq, rfl, nmw, hq_, b1⟩
    replace sb := sb.away av_sb_wk b1
    replace ou := ou.away av_ou_wk b1
    replace ouw := owk_off ouw of_ou_wk b1
    replace lz_ou := Nat.le_trans lz_ou b1.size
    replace fz := fz_self fz b1
    replace hsz := Nat.le_trans hsz b1.size
    replace hqs := hqs.kt (S := [66]) (kt_grown b1 hwk (by simp)) (by decide) (by decide)
    replace bel := below_grown bel b1 owk (Nat.le_trans hlo bel.size)
    clear b1
    clear hwk
    have hwk := hq_
    clear hq_
    replace nmw := owk_lo nmw HS_N
    go_wp2_with (first | ((with_reducible show wpList _ _ _ (⟨some 7, _, _, _, _, _⟩ :: _) _ _); refine wpList_new_a rfl 100 rfl #[.slice none 0 0, .int .i64 0, .int .i64 0, .int .u32 0, .slice none 0 0] (by kernel_rfl) ?_; intro g7 w2 ge hh bb; have d_wk_rc := ne_new (hlt hwk) ge; have av_sb_rc := sb.av_new ge; have av_ou_rc := ou.av_new ge; have of_ou_rc := owk_new ouw ge; have orc := Nat.le_trans (Nat.le_trans hlo bel.size) ge; have prc := Nat.le_trans hsz ge; replace hwk := blk_u hwk bb; replace sb := sb.below bb; replace ou := ou.below bb; replace ouw := owk_under ouw bb; replace lz_ou := Nat.le_trans lz_ou bb.size; replace fz := gk_under fz bb hsz; replace hsz := Nat.le_trans hsz bb.size; replace hqs := hqs.kt (S := []) (kt_below bb) (by simp) (by simp); replace nmw := owk_under nmw bb; replace bel := bel.trans (bb.mono (Nat.le_trans hlo bel.size)); have hrc := hh; clear hh ge bb) | ((with_reducible show wpList _ _ _ (⟨none, Op.store _ (.tmp 7) _, _, _, _, _⟩ :: _) _ _); refine wpList_store_blk rfl 100 (.tmp 7) (.tmp 25) rfl g7 rfl _ rfl _ 100 hrc (by rfl) (by kernel_rfl) (by kernel_rfl) ?_; intro w3 hq gr; replace sb := sb.away av_sb_rc gr; replace ou := ou.away av_ou_rc gr; replace ouw := owk_off ouw of_ou_rc gr; replace lz_ou := Nat.le_trans lz_ou gr.size; replace hwk := blk_a hwk gr d_wk_rc; replace fz := fz_new fz gr prc; replace hsz := Nat.le_trans hsz gr.size; replace hqs := hqs.kt (S := [100]) (kt_grown gr hrc (by simp)) (by decide) (by decide); replace nmw := owk_off nmw (ofs_type nmw hrc (by decide)) gr; replace bel := below_grown bel gr orc (Nat.le_trans hlo bel.size); clear hrc; have hrc := hq; clear hq gr))
    with_reducible refine (ru16_any _ hwk sb av_sb_wk hn PN1 HS2.out).mono ?_
    rintro e w4 ⟨rfl, hq_, b4⟩
    replace sb := sb.away av_sb_wk b4
    replace ou := ou.away av_ou_wk b4
    replace ouw := owk_off ouw of_ou_wk b4
    replace lz_ou := Nat.le_trans lz_ou b4.size
    replace hrc := blk_a hrc b4 (ne_symm d_wk_rc)
    replace fz := fz_self fz b4
    replace hsz := Nat.le_trans hsz b4.size
    replace hqs := hqs.kt (S := [66]) (kt_grown b4 hwk (by simp)) (by decide) (by decide)
    replace nmw := owk_off nmw (ofs_type nmw hwk (by decide)) b4
    replace bel := below_grown bel b4 owk (Nat.le_trans hlo bel.size)
    clear b4
    clear hwk
    have hwk := hq_
    clear hq_
    go_wp2_with (first | ((with_reducible show wpList _ _ _ (⟨none, Op.store _ (.tmp 28) _, _, _, _, _⟩ :: _) _ _); refine wpList_store_part rfl 3 (.tmp 28) (.tmp 27) rfl g7 1 rfl [.int .i64 (v1 : Int)] rfl [.slice Lq mq cq, .int .i64 0, .int .i64 0, .int .u32 0, .slice none 0 0] 100 hrc (by simp) [.slice Lq mq cq, .int .i64 (v1 : Int), .int .i64 0, .int .u32 0, .slice none 0 0] rfl (by kernel_rfl) (by rfl) ?_; intro w5 hq gr; replace sb := sb.away av_sb_rc gr; replace ou := ou.away av_ou_rc gr; replace ouw := owk_off ouw of_ou_rc gr; replace lz_ou := Nat.le_trans lz_ou gr.size; replace hwk := blk_a hwk gr d_wk_rc; replace fz := fz_new fz gr prc; replace hsz := Nat.le_trans hsz gr.size; replace hqs := hqs.kt (S := [100]) (kt_grown gr hrc (by simp)) (by decide) (by decide); replace nmw := owk_off nmw (ofs_type nmw hrc (by decide)) gr; replace bel := below_grown bel gr orc (Nat.le_trans hlo bel.size); clear hrc; have hrc := hq; clear hq gr))
    with_reducible refine (ru16_any _ hwk sb av_sb_wk hn PN2 HS3.out).mono ?_
    rintro e w6 ⟨rfl, hq_, b6⟩
    replace sb := sb.away av_sb_wk b6
    replace ou := ou.away av_ou_wk b6
    replace ouw := owk_off ouw of_ou_wk b6
    replace lz_ou := Nat.le_trans lz_ou b6.size
    replace hrc := blk_a hrc b6 (ne_symm d_wk_rc)
    replace fz := fz_self fz b6
    replace hsz := Nat.le_trans hsz b6.size
    replace hqs := hqs.kt (S := [66]) (kt_grown b6 hwk (by simp)) (by decide) (by decide)
    replace nmw := owk_off nmw (ofs_type nmw hwk (by decide)) b6
    replace bel := below_grown bel b6 owk (Nat.le_trans hlo bel.size)
    clear b6
    clear hwk
    have hwk := hq_
    clear hq_
    go_wp2_with (first | ((with_reducible show wpList _ _ _ (⟨none, Op.store _ (.tmp 31) _, _, _, _, _⟩ :: _) _ _); refine wpList_store_part rfl 3 (.tmp 31) (.tmp 30) rfl g7 2 rfl [.int .i64 (v2 : Int)] rfl [.slice Lq mq cq, .int .i64 (v1 : Int), .int .i64 0, .int .u32 0, .slice none 0 0] 100 hrc (by simp) [.slice Lq mq cq, .int .i64 (v1 : Int), .int .i64 (v2 : Int), .int .u32 0, .slice none 0 0] rfl (by kernel_rfl) (by rfl) ?_; intro w7 hq gr; replace sb := sb.away av_sb_rc gr; replace ou := ou.away av_ou_rc gr; replace ouw := owk_off ouw of_ou_rc gr; replace lz_ou := Nat.le_trans lz_ou gr.size; replace hwk := blk_a hwk gr d_wk_rc; replace fz := fz_new fz gr prc; replace hsz := Nat.le_trans hsz gr.size; replace hqs := hqs.kt (S := [100]) (kt_grown gr hrc (by simp)) (by decide) (by decide); replace nmw := owk_off nmw (ofs_type nmw hrc (by decide)) gr; replace bel := below_grown bel gr orc (Nat.le_trans hlo bel.size); clear hrc; have hrc := hq; clear hq gr))
    with_reducible refine (ru16_any _ hwk sb av_sb_wk hn PN3 HS4.out).mono ?_
    rintro e w8 ⟨rfl, hq_, b8⟩
    replace sb := sb.away av_sb_wk b8
    replace ou := ou.away av_ou_wk b8
    replace ouw := owk_off ouw of_ou_wk b8
    replace lz_ou := Nat.le_trans lz_ou b8.size
    replace hrc := blk_a hrc b8 (ne_symm d_wk_rc)
    replace fz := fz_self fz b8
    replace hsz := Nat.le_trans hsz b8.size
    replace hqs := hqs.kt (S := [66]) (kt_grown b8 hwk (by simp)) (by decide) (by decide)
    replace nmw := owk_off nmw (ofs_type nmw hwk (by decide)) b8
    replace bel := below_grown bel b8 owk (Nat.le_trans hlo bel.size)
    clear b8
    clear hwk
    have hwk := hq_
    clear hq_
    go_wp2_with fail
    with_reducible refine (ru16_any _ hwk sb av_sb_wk hn PN4 HS5.out).mono ?_
    rintro e w9 ⟨rfl, hq_, b9⟩
    replace sb := sb.away av_sb_wk b9
    replace ou := ou.away av_ou_wk b9
    replace ouw := owk_off ouw of_ou_wk b9
    replace lz_ou := Nat.le_trans lz_ou b9.size
    replace hrc := blk_a hrc b9 (ne_symm d_wk_rc)
    replace fz := fz_self fz b9
    replace hsz := Nat.le_trans hsz b9.size
    replace hqs := hqs.kt (S := [66]) (kt_grown b9 hwk (by simp)) (by decide) (by decide)
    replace nmw := owk_off nmw (ofs_type nmw hwk (by decide)) b9
    replace bel := below_grown bel b9 owk (Nat.le_trans hlo bel.size)
    clear b9
    clear hwk
    have hwk := hq_
    clear hq_
    go_wp2_with (first | ((with_reducible show wpList _ _ _ (⟨none, Op.store _ (.tmp 42) _, _, _, _, _⟩ :: _) _ _); refine wpList_store_part rfl 34 (.tmp 42) (.tmp 41) rfl g7 3 rfl [.int .u32 (u : Int)] rfl [.slice Lq mq cq, .int .i64 (v1 : Int), .int .i64 (v2 : Int), .int .u32 0, .slice none 0 0] 100 hrc (by simp) [.slice Lq mq cq, .int .i64 (v1 : Int), .int .i64 (v2 : Int), .int .u32 (u : Int), .slice none 0 0] rfl (by kernel_rfl) (by rfl) ?_; intro w10 hq gr; replace sb := sb.away av_sb_rc gr; replace ou := ou.away av_ou_rc gr; replace ouw := owk_off ouw of_ou_rc gr; replace lz_ou := Nat.le_trans lz_ou gr.size; replace hwk := blk_a hwk gr d_wk_rc; replace fz := fz_new fz gr prc; replace hsz := Nat.le_trans hsz gr.size; replace hqs := hqs.kt (S := [100]) (kt_grown gr hrc (by simp)) (by decide) (by decide); replace nmw := owk_off nmw (ofs_type nmw hrc (by decide)) gr; replace bel := below_grown bel gr orc (Nat.le_trans hlo bel.size); clear hrc; have hrc := hq; clear hq gr))
    with_reducible refine (ru16_any _ hwk sb av_sb_wk hn PN5 HS6.out).mono ?_
    rintro e w11 ⟨rfl, hq_, b11⟩
    replace sb := sb.away av_sb_wk b11
    replace ou := ou.away av_ou_wk b11
    replace ouw := owk_off ouw of_ou_wk b11
    replace lz_ou := Nat.le_trans lz_ou b11.size
    replace hrc := blk_a hrc b11 (ne_symm d_wk_rc)
    replace fz := fz_self fz b11
    replace hsz := Nat.le_trans hsz b11.size
    replace hqs := hqs.kt (S := [66]) (kt_grown b11 hwk (by simp)) (by decide) (by decide)
    replace nmw := owk_off nmw (ofs_type nmw hwk (by decide)) b11
    replace bel := below_grown bel b11 owk (Nat.le_trans hlo bel.size)
    clear b11
    clear hwk
    have hwk := hq_
    clear hq_
    by_cases hz7 : z7 = 0
    rotate_left
    · have HZN : Hid (¬ z7 = 0) := Lib.hid hz7
      clear hz7
      have HRE : Hid (recS b (p0, z0) = ((⟨l, (v1 : Int), (v2 : Int), (u : Int), []⟩ : Rn), p7, z7)) := Lib.hid (by unfold recS; simp only [HQS.out, HS4.out, HS5.out, HS6.out, HBL.out, HS7.out, HU.out, if_neg HZN.out])
      go_wp2_with fail
      with_reducible refine (rneed_no _ hwk sb av_sb_wk hn PN6 (v5 : Int) v5 rfl (by omega) HS7.out HZN.out).mono ?_
      rintro e w12 ⟨rfl, hq_, b12⟩
      replace sb := sb.away av_sb_wk b12
      replace ou := ou.away av_ou_wk b12
      replace ouw := owk_off ouw of_ou_wk b12
      replace lz_ou := Nat.le_trans lz_ou b12.size
      replace hrc := blk_a hrc b12 (ne_symm d_wk_rc)
      replace fz := fz_self fz b12
      replace hsz := Nat.le_trans hsz b12.size
      replace hqs := hqs.kt (S := [66]) (kt_grown b12 hwk (by simp)) (by decide) (by decide)
      replace nmw := owk_off nmw (ofs_type nmw hwk (by decide)) b12
      replace bel := below_grown bel b12 owk (Nat.le_trans hlo bel.size)
      clear b12
      clear hwk
      have hwk := hq_
      clear hq_
      have dw_ : w12.ownsRow w.heap.size 5 1 (.slice none 0 0) 0 (([] : List UInt8).map u8v) := u8_nil _ _
      replace hqs := hqs.snoc (x := (⟨Lq, mq, cq, (v1 : Int), (v2 : Int), (u : Int), none, 0, 0⟩ : Rh)) (q := (⟨l, (v1 : Int), (v2 : Int), (u : Int), []⟩ : Rn)) ⟨rfl, rfl, rfl, nmw, dw_⟩
      clear nmw dw_
      have R55 := Lib.hid (range_lit hrc 0 5 [.slice Lq mq cq, .int .i64 (v1 : Int), .int .i64 (v2 : Int), .int .u32 (u : Int), .slice none 0 0] rfl)
      go_wp2_with (first | ((with_reducible show wpList _ _ _ (⟨some 55, _, _, _, _, _⟩ :: _) _ _); refine wpList_load_rng 100 (.tmp 7) rfl (by kernel_rfl) _ _ rfl _ R55.out _ Try.underlying100 rfl (by kernel_rfl) ?_) | ((with_reducible show wpList _ _ _ (⟨some 56, _, _, _, _, _⟩ :: _) _ _); refine wpList_lit_n rfl 38 100 1 _ rfl #[.slice Lq mq cq, .int .i64 (v1 : Int), .int .i64 (v2 : Int), .int .u32 (u : Int), .slice none 0 0] (.agg #[.slice none 0 0, .int .i64 0, .int .i64 0, .int .u32 0, .slice none 0 0]) Try.underlying38 (by kernel_rfl) 5 (by kernel_rfl) (by decide) (by kernel_rfl) ?_; intro g56 w13 ge lt hh bb; have d_wk_b56 := ne_new (hlt hwk) ge; have d_rc_b56 := ne_new (hlt hrc) ge; have av_sb_b56 := sb.av_new ge; have av_ou_b56 := ou.av_new ge; have of_ou_b56 := owk_new ouw ge; have ob56 := Nat.le_trans (Nat.le_trans hlo bel.size) ge; have pb56 := Nat.le_trans hsz ge; replace hwk := blk_u hwk bb; replace hrc := blk_u hrc bb; replace sb := sb.below bb; replace ou := ou.below bb; replace ouw := owk_under ouw bb; replace lz_ou := Nat.le_trans lz_ou bb.size; replace fz := gk_under fz bb hsz; replace hsz := Nat.le_trans hsz bb.size; replace hqs := hqs.kt (S := []) (kt_below bb) (by simp) (by simp); replace bel := bel.trans (bb.mono (Nat.le_trans hlo bel.size)); have hb56 := hh; clear hh lt ge bb; have l1 : Sle rE 5 w13 (some ⟨g56, 0, none⟩) (1) (1) ([(⟨Lq, mq, cq, (v1 : Int), (v2 : Int), (u : Int), none, 0, 0⟩ : Rh)]) := sle_lit ([(⟨Lq, mq, cq, (v1 : Int), (v2 : Int), (u : Int), none, 0, 0⟩ : Rh)]) (by decide) rE_len hb56 rfl (by simp [maxLen])) | ((with_reducible show wpList _ _ _ (⟨some 57, _, _, _, _, _⟩ :: _) _ _); refine wpList_append_sle rfl (.tmp 54) (.tmp 56) 38 rfl (w.heap.size) 100 jr (.agg #[.slice none 0 0, .int .i64 0, .int .i64 0, .int .u32 0, .slice none 0 0]) 72 Try.underlying38 hjr hjr0 hjr1 hjr2 rfl rE_one _ (i) (hs) rfl ouw (some ⟨g56, 0, none⟩) (1) (1) ([(⟨Lq, mq, cq, (v1 : Int), (v2 : Int), (u : Int), none, 0, 0⟩ : Rh)]) rfl l1 (by unfold maxLen; omega) (by omega) lz_ou ?_; intro v57 w14 own_ bb gw ofw; have of57_wk := ofw _ (hlt hwk) of_ou_wk; have of57_rc := ofw _ (hlt hrc) of_ou_rc; have of57_b56 := ofw _ (hlt hb56) of_ou_b56; clear ofw; replace fz := fz_row fz gw ouw hz_ou; replace hqs := hqs.kt (S := [100]) (kt_row gw ouw (by simp)) (by decide) (by decide); replace sb := sb.under BLB bb; replace l1 := Sle.off l1 of_ou_b56 gw; replace hwk := blk_own hwk gw of_ou_wk; replace hrc := blk_own hrc gw of_ou_rc; replace hb56 := blk_own hb56 gw of_ou_b56; clear gw; replace hsz := Nat.le_trans hsz bb.size; replace bel := bel.trans (bb.mono oulo); have lz_s57 := Nat.le_trans lz_ou bb.size; clear bb; clear ou ouw lz_ou; replace own_ : w14.ownsRow (w.heap.size) 100 5 v57 (i + 1) ((hs ++ [(⟨Lq, mq, cq, (v1 : Int), (v2 : Int), (u : Int), none, 0, 0⟩ : Rh)] : List Rh).flatMap rE) := own_; obtain ⟨A57, c57, rfl⟩ := owk_val own_; have s57w := own_; have s57 := (owk_sle (by decide) rE_len own_).1; have fr_s57 := (owk_sle (by decide) rE_len own_).2; clear own_; have av_s57_wk := owk_av s57w of57_wk; have av_s57_rc := owk_av s57w of57_rc; have av_s57_b56 := owk_av s57w of57_b56))
      try clear R55
      go_roundg (k - (i + 1))
      case measure => have := HGK_.out; omega
      case rel => exact ⟨i + 1, p7, z7, hs ++ [(⟨Lq, mq, cq, (v1 : Int), (v2 : Int), (u : Int), none, 0, 0⟩ : Rh)], L1 ++ [(⟨l, (v1 : Int), (v2 : Int), (u : Int), []⟩ : Rn)], A57, c57, rfl, hik, Lib.hid (by rw [← HG.out, HR.out, manyS_go HZ0.out, HRE.out, show k - (i + 1) = r by have h_ := HR.out; omega]), Lib.hid (by have h_ := recS_le (b := b) (s := (p0, z0)) (by dsimp only; have h_ := HBL.out; omega); rw [HRE.out] at h_; dsimp only at h_; have h1_ := HBL.out; omega), fz, hsz, hqs, rfl, by go_num, s57w, of57_wk, lz_s57, hwk, sb, bel⟩
    have HZ7 := Lib.hid hz7
    have HN := Lib.hid (need_is (n := n) (k := v5) (s := (p6, z6)) (by rw [HS7.out]; exact hz7))
    have HS7Y : Hid (needS n v5 (p6, z6) = (p6, 0)) := Lib.hid (by have h_ := HN.out; rw [h_.2.1, show z6 = 0 from h_.1])
    have HP7 : Hid (p7 = p6) := Lib.hid (by have h_ := HS7.out.symm.trans HS7Y.out; injection h_)
    have HNL : Hid (p6 + v5 ≤ n) := Lib.hid HN.out.2.2
    obtain ⟨d, p8, z8, h_⟩ : ∃ u1_ u2_ u3_, dataS b (v1 : Int) v5 (p6, 0) = (u1_, u2_, u3_) := ⟨_, _, _, rfl⟩
    have HS8 := Lib.hid h_
    clear h_ hz7
    have HRE : Hid (recS b (p0, z0) = ((⟨l, (v1 : Int), (v2 : Int), (u : Int), d⟩ : Rn), p8, z8)) := Lib.hid (by unfold recS; simp only [HQS.out, HS4.out, HS5.out, HS6.out, HBL.out, HS7Y.out, HS8.out, HU.out, if_true])
    go_wp2_with fail
    with_reducible refine (rneed_yes _ hwk sb av_sb_wk hn PN6 (v5 : Int) v5 rfl (by omega) HS7Y.out).mono ?_
    rintro e w12 ⟨rfl, hq_, b12⟩
    replace sb := sb.away av_sb_wk b12
    replace ou := ou.away av_ou_wk b12
    replace ouw := owk_off ouw of_ou_wk b12
    replace lz_ou := Nat.le_trans lz_ou b12.size
    replace hrc := blk_a hrc b12 (ne_symm d_wk_rc)
    replace fz := fz_self fz b12
    replace hsz := Nat.le_trans hsz b12.size
    replace hqs := hqs.kt (S := [66]) (kt_grown b12 hwk (by simp)) (by decide) (by decide)
    replace nmw := owk_off nmw (ofs_type nmw hwk (by decide)) b12
    replace bel := below_grown bel b12 owk (Nat.le_trans hlo bel.size)
    clear b12
    clear hwk
    have hwk := hq_
    clear hq_
    have R50 := cell_lit hrc 1 _ rfl
    go_wp2_with fail
    clear R50
    have HS_D := hsz
    with_reducible refine (rdata_any _ hwk sb av_sb_wk hn PN6 (t := (v1 : Int)) (k := v5) (by omega) HNL.out HS8.out).mono ?_
    rintro e w13 ⟨Bd, md, cd, rfl, dw_, hq_, b13⟩
    replace sb := sb.away av_sb_wk b13
    replace ou := ou.away av_ou_wk b13
    replace ouw := owk_off ouw of_ou_wk b13
    replace lz_ou := Nat.le_trans lz_ou b13.size
    replace hrc := blk_a hrc b13 (ne_symm d_wk_rc)
    replace fz := fz_self fz b13
    replace hsz := Nat.le_trans hsz b13.size
    replace hqs := hqs.kt (S := [66]) (kt_grown b13 hwk (by simp)) (by decide) (by decide)
    replace nmw := owk_off nmw (ofs_type nmw hwk (by decide)) b13
    replace bel := below_grown bel b13 owk (Nat.le_trans hlo bel.size)
    clear b13
    clear hwk
    have hwk := hq_
    clear hq_
    replace dw_ := owk_lo dw_ HS_D
    go_wp2_with (first | ((with_reducible show wpList _ _ _ (⟨none, Op.store _ (.tmp 53) _, _, _, _, _⟩ :: _) _ _); refine wpList_store_part rfl 30 (.tmp 53) (.tmp 52) rfl g7 4 rfl [.slice Bd md cd] rfl [.slice Lq mq cq, .int .i64 (v1 : Int), .int .i64 (v2 : Int), .int .u32 (u : Int), .slice none 0 0] 100 hrc (by simp) [.slice Lq mq cq, .int .i64 (v1 : Int), .int .i64 (v2 : Int), .int .u32 (u : Int), .slice Bd md cd] rfl (by kernel_rfl) (by rfl) ?_; intro w14 hq gr; replace sb := sb.away av_sb_rc gr; replace ou := ou.away av_ou_rc gr; replace ouw := owk_off ouw of_ou_rc gr; replace lz_ou := Nat.le_trans lz_ou gr.size; replace hwk := blk_a hwk gr d_wk_rc; replace fz := fz_new fz gr prc; replace hsz := Nat.le_trans hsz gr.size; replace hqs := hqs.kt (S := [100]) (kt_grown gr hrc (by simp)) (by decide) (by decide); replace nmw := owk_off nmw (ofs_type nmw hrc (by decide)) gr; replace dw_ := owk_off dw_ (ofs_type dw_ hrc (by decide)) gr; replace bel := below_grown bel gr orc (Nat.le_trans hlo bel.size); clear hrc; have hrc := hq; clear hq gr; replace hqs := hqs.snoc (x := (⟨Lq, mq, cq, (v1 : Int), (v2 : Int), (u : Int), Bd, md, cd⟩ : Rh)) (q := (⟨l, (v1 : Int), (v2 : Int), (u : Int), d⟩ : Rn)) ⟨rfl, rfl, rfl, nmw, dw_⟩; clear nmw dw_; have R55 := Lib.hid (range_lit hrc 0 5 [.slice Lq mq cq, .int .i64 (v1 : Int), .int .i64 (v2 : Int), .int .u32 (u : Int), .slice Bd md cd] rfl)) | ((with_reducible show wpList _ _ _ (⟨some 55, _, _, _, _, _⟩ :: _) _ _); refine wpList_load_rng 100 (.tmp 7) rfl (by kernel_rfl) _ _ rfl _ R55.out _ Try.underlying100 rfl (by kernel_rfl) ?_) | ((with_reducible show wpList _ _ _ (⟨some 56, _, _, _, _, _⟩ :: _) _ _); refine wpList_lit_n rfl 38 100 1 _ rfl #[.slice Lq mq cq, .int .i64 (v1 : Int), .int .i64 (v2 : Int), .int .u32 (u : Int), .slice Bd md cd] (.agg #[.slice none 0 0, .int .i64 0, .int .i64 0, .int .u32 0, .slice none 0 0]) Try.underlying38 (by kernel_rfl) 5 (by kernel_rfl) (by decide) (by kernel_rfl) ?_; intro g56 w15 ge lt hh bb; have d_wk_b56 := ne_new (hlt hwk) ge; have d_rc_b56 := ne_new (hlt hrc) ge; have av_sb_b56 := sb.av_new ge; have av_ou_b56 := ou.av_new ge; have of_ou_b56 := owk_new ouw ge; have ob56 := Nat.le_trans (Nat.le_trans hlo bel.size) ge; have pb56 := Nat.le_trans hsz ge; replace hwk := blk_u hwk bb; replace hrc := blk_u hrc bb; replace sb := sb.below bb; replace ou := ou.below bb; replace ouw := owk_under ouw bb; replace lz_ou := Nat.le_trans lz_ou bb.size; replace fz := gk_under fz bb hsz; replace hsz := Nat.le_trans hsz bb.size; replace hqs := hqs.kt (S := []) (kt_below bb) (by simp) (by simp); replace bel := bel.trans (bb.mono (Nat.le_trans hlo bel.size)); have hb56 := hh; clear hh lt ge bb; have l1 : Sle rE 5 w15 (some ⟨g56, 0, none⟩) (1) (1) ([(⟨Lq, mq, cq, (v1 : Int), (v2 : Int), (u : Int), Bd, md, cd⟩ : Rh)]) := sle_lit ([(⟨Lq, mq, cq, (v1 : Int), (v2 : Int), (u : Int), Bd, md, cd⟩ : Rh)]) (by decide) rE_len hb56 rfl (by simp [maxLen])) | ((with_reducible show wpList _ _ _ (⟨some 57, _, _, _, _, _⟩ :: _) _ _); refine wpList_append_sle rfl (.tmp 54) (.tmp 56) 38 rfl (w.heap.size) 100 jr (.agg #[.slice none 0 0, .int .i64 0, .int .i64 0, .int .u32 0, .slice none 0 0]) 72 Try.underlying38 hjr hjr0 hjr1 hjr2 rfl rE_one _ (i) (hs) rfl ouw (some ⟨g56, 0, none⟩) (1) (1) ([(⟨Lq, mq, cq, (v1 : Int), (v2 : Int), (u : Int), Bd, md, cd⟩ : Rh)]) rfl l1 (by unfold maxLen; omega) (by omega) lz_ou ?_; intro v57 w16 own_ bb gw ofw; have of57_wk := ofw _ (hlt hwk) of_ou_wk; have of57_rc := ofw _ (hlt hrc) of_ou_rc; have of57_b56 := ofw _ (hlt hb56) of_ou_b56; clear ofw; replace fz := fz_row fz gw ouw hz_ou; replace hqs := hqs.kt (S := [100]) (kt_row gw ouw (by simp)) (by decide) (by decide); replace sb := sb.under BLB bb; replace l1 := Sle.off l1 of_ou_b56 gw; replace hwk := blk_own hwk gw of_ou_wk; replace hrc := blk_own hrc gw of_ou_rc; replace hb56 := blk_own hb56 gw of_ou_b56; clear gw; replace hsz := Nat.le_trans hsz bb.size; replace bel := bel.trans (bb.mono oulo); have lz_s57 := Nat.le_trans lz_ou bb.size; clear bb; clear ou ouw lz_ou; replace own_ : w16.ownsRow (w.heap.size) 100 5 v57 (i + 1) ((hs ++ [(⟨Lq, mq, cq, (v1 : Int), (v2 : Int), (u : Int), Bd, md, cd⟩ : Rh)] : List Rh).flatMap rE) := own_; obtain ⟨A57, c57, rfl⟩ := owk_val own_; have s57w := own_; have s57 := (owk_sle (by decide) rE_len own_).1; have fr_s57 := (owk_sle (by decide) rE_len own_).2; clear own_; have av_s57_wk := owk_av s57w of57_wk; have av_s57_rc := owk_av s57w of57_rc; have av_s57_b56 := owk_av s57w of57_b56))
    try clear R55
    go_roundg (k - (i + 1))
    case measure => have := HGK_.out; omega
    case rel => exact ⟨i + 1, p8, z8, hs ++ [(⟨Lq, mq, cq, (v1 : Int), (v2 : Int), (u : Int), Bd, md, cd⟩ : Rh)], L1 ++ [(⟨l, (v1 : Int), (v2 : Int), (u : Int), d⟩ : Rn)], A57, c57, rfl, hik, Lib.hid (by rw [← HG.out, HR.out, manyS_go HZ0.out, HRE.out, show k - (i + 1) = r by have h_ := HR.out; omega]), Lib.hid (by have h_ := recS_le (b := b) (s := (p0, z0)) (by dsimp only; have h_ := HBL.out; omega); rw [HRE.out] at h_; dsimp only at h_; have h1_ := HBL.out; omega), fz, hsz, hqs, rfl, by go_num, s57w, of57_wk, lz_s57, hwk, sb, bel⟩
end Go.Proofs.Ytjedknjlpeccbaa
