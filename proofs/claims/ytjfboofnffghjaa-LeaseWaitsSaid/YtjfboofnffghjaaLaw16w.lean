/- LeaseWaits. -/
import Derived.Test.YtjfboofnffghjaaLaw16
namespace Go.Proofs.Ytjfboofnffghjaa
open Go.RowKit

/-- The client ahead of the Tick at k: the next DISCOVER is due at nx, its wait is wt. -/
def Cw (lo gc : Nat) (w : World) (k nx wt draw : Int) : Prop := (k = 0 ∧ nx = 0 ∧ wt = 4 ∧ Cl lo gc w #[.int .u8 2, .int .u8 0, .int .u8 0, .int .u8 0, .int .u8 0, .int .u8 2, .int .i64 0, .int .i64 0, .int .u32 0, .int .i64 0, .int .i64 0, .int .i64 0, .int .u8 0, .int .u8 0, .int .u8 0, .int .u8 0, .int .u8 0, .int .u8 0, .int .u8 0, .int .u8 0, .int .u8 0, .int .u8 0, .int .u8 0, .int .u8 0, .int .u8 0, .int .u8 0, .int .u8 0, .int .u8 0, .int .i64 0, .int .i64 0, .int .i64 0]) ∨ (1 ≤ k ∧ k ≤ nx ∧ 4 ≤ wt ∧ wt ≤ 64 ∧ ∃ now sent tries : Int, now + 1 = k ∧ sent + wt = nx ∧ 0 ≤ sent ∧ sent ≤ now ∧ 0 ≤ tries ∧ tries ≤ k ∧ Cl lo gc w #[.int .u8 2, .int .u8 0, .int .u8 0, .int .u8 0, .int .u8 0, .int .u8 2, .int .i64 now, .int .i64 1, .int .u32 draw, .int .i64 sent, .int .i64 wt, .int .i64 tries, .int .u8 0, .int .u8 0, .int .u8 0, .int .u8 0, .int .u8 0, .int .u8 0, .int .u8 0, .int .u8 0, .int .u8 0, .int .u8 0, .int .u8 0, .int .u8 0, .int .u8 0, .int .u8 0, .int .u8 0, .int .u8 0, .int .i64 0, .int .i64 0, .int .i64 0])
section
variable {lo gc : Nat} {w w' : World} {k nx wt draw : Int}
theorem Cw.below (h : Cw lo gc w k nx wt draw) (b : Below w.heap.size w w') : Cw lo gc w' k nx wt draw := by
  rcases h with ⟨h1, h2, h3, h4⟩ | ⟨h1, h2, h3, h4, a, s, e, g1, g2, g3, g4, g5, g6, g7⟩
  · exact Or.inl ⟨h1, h2, h3, h4.below b⟩
  · exact Or.inr ⟨h1, h2, h3, h4, a, s, e, g1, g2, g3, g4, g5, g6, g7.below b⟩
theorem cw_drew (h : Cw lo gc w k nx wt draw) : Cw lo gc w.drew k nx wt draw := h
theorem Cw.grown {q : Nat} {d : Array Value} {T : TypeId} {fz : Nat × Nat} (h : Cw lo gc w k nx wt draw) (gr : w.grownBy w' (some q)) (hq : w.heap[q]? = some (.cells d T fz)) (hT : T ≠ 51) : Cw lo gc w' k nx wt draw := by
  rcases h with ⟨h1, h2, h3, h4⟩ | ⟨h1, h2, h3, h4, a, s, e, g1, g2, g3, g4, g5, g6, g7⟩
  · exact Or.inl ⟨h1, h2, h3, h4.grown gr hq hT⟩
  · exact Or.inr ⟨h1, h2, h3, h4, a, s, e, g1, g2, g3, g4, g5, g6, g7.grown gr hq hT⟩
theorem cw_bd (h : Cw lo gc w k nx wt draw) : 0 ≤ k ∧ k ≤ nx ∧ 4 ≤ wt ∧ wt ≤ 64 ∧ (k = 0 → nx = 0 ∧ wt = 4) := by
  rcases h with ⟨h1, h2, h3, h4⟩ | ⟨h1, h2, h3, h4, a, s, e, g1, g2, g3, g4, g5, g6, g7⟩
  · refine ⟨?_, ?_, ?_, ?_, fun _ => ⟨h2, h3⟩⟩ <;> omega
  · refine ⟨?_, ?_, ?_, ?_, fun _ => ?_⟩ <;> omega
end
theorem cw_first {lo gc : Nat} {k nx wt draw : Int} (w : World) (h : Cw lo gc w k nx wt draw) (hk : k = 0) : Calls Try.prog 12 #[.pointer (some ⟨gc, 0, none⟩), .int .i64 k, .int .u32 draw] w fun e w' => ∃ g, e = .returned (.slice (some ⟨g, 0, none⟩) 1 1) ∧ Ms w' g [.int .i64 1, .int .i64 0, .int .u32 draw, .int .i64 0, .int .i64 32768, .int .u8 0, .int .u8 0, .int .u8 0, .int .u8 0, .int .u8 0, .int .u8 0, .int .u8 0, .int .u8 0, .int .u8 0, .int .u8 0, .int .u8 0, .int .u8 0, .int .u8 0, .int .u8 0, .int .u8 0, .int .u8 0, .int .u8 2, .int .u8 0, .int .u8 0, .int .u8 0, .int .u8 0, .int .u8 2] 1 ∧ Cw lo gc w' (k + 1) (k + wt) wt draw ∧ Kt [51] w w' ∧ Below lo w w' := by
  rcases h with ⟨h1, h2, h3, h4⟩ | ⟨h1, h2, h3, h4, a, s, e, g1, g2, g3, g4, g5, g6, g7⟩
  · subst h1; subst h2; subst h3
    refine (ltick_new _ h4 (by decide) (by decide)).mono ?_
    rintro e w2 ⟨g, rfl, hm, hT, k_, bb⟩
    exact ⟨g, rfl, hm, Or.inr ⟨by decide, by decide, by decide, by decide, 0, 0, 1, by decide, by decide, by decide, by decide, by decide, by decide, hT⟩, k_, bb⟩
  · omega
theorem cw_again {lo gc : Nat} {k nx wt wn draw : Int} (w : World) (h : Cw lo gc w k nx wt draw) (hk : 0 < k) (hn : k = nx) (h4k : k ≤ 1000) (hw : (if 64 < 2 * wt then 64 else 2 * wt) = wn) : Calls Try.prog 12 #[.pointer (some ⟨gc, 0, none⟩), .int .i64 k, .int .u32 draw] w fun e w' => ∃ g, e = .returned (.slice (some ⟨g, 0, none⟩) 1 1) ∧ Ms w' g [.int .i64 1, .int .i64 0, .int .u32 draw, .int .i64 0, .int .i64 32768, .int .u8 0, .int .u8 0, .int .u8 0, .int .u8 0, .int .u8 0, .int .u8 0, .int .u8 0, .int .u8 0, .int .u8 0, .int .u8 0, .int .u8 0, .int .u8 0, .int .u8 0, .int .u8 0, .int .u8 0, .int .u8 0, .int .u8 2, .int .u8 0, .int .u8 0, .int .u8 0, .int .u8 0, .int .u8 2] 1 ∧ Cw lo gc w' (k + 1) (k + wn) wn draw ∧ Kt [51] w w' ∧ Below lo w w' := by
  rcases h with ⟨h1, h2, h3, h4⟩ | ⟨h1, h2, h3, h4, a, s, e, g1, g2, g3, g4, g5, g6, g7⟩
  · omega
  · have hwb : 4 ≤ wn ∧ wn ≤ 64 := by
      rw [← hw]
      split <;> omega
    refine (ltick_1yes (d := k - s) (q := e + 1) _ g7 (by omega) (by omega) (IntWalk.i64_in _ (by omega)) (decide_eq_true (by omega)) (IntWalk.i64_in _ (by omega)) hw (IntWalk.i64_in _ (by omega))).mono ?_
    rintro e w2 ⟨g, rfl, hm, hT, k_, bb⟩
    exact ⟨g, rfl, hm, Or.inr ⟨by omega, by omega, hwb.1, hwb.2, k, k, _, rfl, rfl, by omega, Int.le_refl _, by omega, by omega, hT⟩, k_, bb⟩
theorem cw_idle {lo gc : Nat} {k nx wt draw : Int} (w : World) (h : Cw lo gc w k nx wt draw) (hn : ¬ k = nx) (h4k : k ≤ 1000) : Calls Try.prog 12 #[.pointer (some ⟨gc, 0, none⟩), .int .i64 k, .int .u32 draw] w fun e w' =>  e = .returned (.slice none 0 0) ∧ Cw lo gc w' (k + 1) nx wt draw ∧ Kt [51] w w' ∧ Below lo w w' := by
  rcases h with ⟨h1, h2, h3, h4⟩ | ⟨h1, h2, h3, h4, a, s, e, g1, g2, g3, g4, g5, g6, g7⟩
  · omega
  · refine (ltick_1no (d := k - s) _ g7 (by omega) (by omega) (IntWalk.i64_in _ (by omega)) (decide_eq_false (by omega))).mono ?_
    rintro e w2 ⟨rfl, hT, k_, bb⟩
    exact ⟨rfl, Or.inr ⟨by omega, by omega, h3, h4, k, s, _, rfl, g2, g3, by omega, g5, by omega, hT⟩, k_, bb⟩
theorem cw_state {lo gc : Nat} {k nx wt draw : Int} (w : World) (h : Cw lo gc w k nx wt draw) (hk : 0 < k) : Calls Try.prog 15 #[.pointer (some ⟨gc, 0, none⟩)] w fun e w' => e = .returned (.int .i64 1) ∧ w = w' := by
  rcases h with ⟨h1, h2, h3, h4⟩ | ⟨h1, h2, h3, h4, a, s, e, g1, g2, g3, g4, g5, g6, g7⟩
  · omega
  · exact lstate _ g7
set_option linter.unusedVariables false in
set_option linter.unusedSimpArgs false in
set_option maxRecDepth 100000 in
set_option maxHeartbeats 16000000 in
theorem leaseWaits_walk (ticks draw : Int) (w : World) : Calls Try.prog 6 #[.int .i64 ticks, .int .u32 draw] w fun e w' => e = .returned (.bool true) ∧ Below w.heap.size w w' := by
  have bel := Below.refl w.heap.size w
  go_enter Try.func6, Try.ntmps6
  go_wp2_with fail
  with_reducible refine (lawake _).mono ?_
  rintro e w1 ⟨rfl, b1⟩
  replace bel := bel.trans (b1.mono bel.size)
  clear b1
  by_cases c0 : ticks < 0
  · go_wp2_with fail
    go_ret
    exact ⟨rfl, bel⟩
  have Hc0 : Hid (0 ≤ ticks) := Lib.hid (by omega)
  replace c0 : decide (ticks < 0) = false := decide_eq_false c0
  by_cases c1 : 400 < ticks
  · go_wp2_with fail
    go_ret
    exact ⟨rfl, bel⟩
  have Hc1 : Hid (ticks ≤ 400) := Lib.hid (by omega)
  replace c1 : decide (400 < ticks) = false := decide_eq_false c1
  have := Hc0.out
  have := Hc1.out
  have HT0 : Hid (0 ≤ ticks) := Lib.hid (by omega)
  have HT4 : Hid (ticks ≤ 400) := Lib.hid (by omega)
  try clear c0
  try clear c1
  have e58 : ∀ W, (binOp .neq 26 (.agg #[.int .u8 2, .int .u8 0, .int .u8 0, .int .u8 0, .int .u8 0, .int .u8 2]) (.agg #[.int .u8 2, .int .u8 0, .int .u8 0, .int .u8 0, .int .u8 0, .int .u8 2])).run Try.prog W = .ok (.bool false) W := fun W => by kernel_rfl
  go_wp2_with fail
  with_reducible refine (lmac _).mono ?_
  rintro e w2 ⟨rfl, b2⟩
  replace bel := bel.trans (b2.mono bel.size)
  clear b2
  go_wp2_with fail
  have HLO_ := bel.size
  with_reducible refine (lnew _).mono ?_
  rintro e w3 ⟨gc, rfl, hT, b3⟩
  replace bel := bel.trans (b3.mono bel.size)
  clear b3
  replace hT : Cl w.heap.size gc w3 #[.int .u8 2, .int .u8 0, .int .u8 0, .int .u8 0, .int .u8 0, .int .u8 2, .int .i64 0, .int .i64 0, .int .u32 0, .int .i64 0, .int .i64 0, .int .i64 0, .int .u8 0, .int .u8 0, .int .u8 0, .int .u8 0, .int .u8 0, .int .u8 0, .int .u8 0, .int .u8 0, .int .u8 0, .int .u8 0, .int .u8 0, .int .u8 0, .int .u8 0, .int .u8 0, .int .u8 0, .int .u8 0, .int .i64 0, .int .i64 0, .int .i64 0] := hT.lo_mono HLO_
  clear HLO_
  go_wp2_with fail
  go_loopg [6, 7, 8] ((ticks + 1 - 0).toNat) (fun gk s6 s7 s8 wr => ∃ k : Int, ∃ nx : Int, ∃ wt : Int, gk = (ticks + 1 - k).toNat ∧ Hid (k ≤ ticks + 1) ∧ Cw w.heap.size gc wr k nx wt draw ∧ s6 = .int .i64 nx ∧ s7 = .int .i64 wt ∧ s8 = .int .i64 k ∧ Below w.heap.size w wr)
  case atStart => exact ⟨0, 0, 4, rfl, Lib.hid (by have := HT0.out; omega), Or.inl ⟨rfl, rfl, rfl, hT⟩, rfl, rfl, rfl, bel⟩
  case round =>
    clear hT bel
    obtain ⟨k, nx, wt, HGK, hk2, hT, rfl, rfl, rfl, bel⟩ := hrel
    have HGK_ := Lib.hid HGK
    clear HGK
    by_cases hkk : k ≤ ticks
    rotate_left
    · have HKX : Hid (0 < k) := Lib.hid (by have := HT0.out; omega)
      replace hkk : decide (k ≤ ticks) = false := decide_eq_false hkk
      go_wp2_with fail
      with_reducible refine (cw_state _ hT HKX.out).mono ?_
      rintro e _ ⟨rfl, rfl⟩
      go_wp2_with fail
      go_ret
      exact ⟨rfl, bel⟩
    have HKK := Lib.hid hkk
    have CB := Lib.hid (cw_bd hT)
    have k0_ : 0 ≤ k := (by have h9_ := CB.out.1; have h8_ := CB.out.2.1; have h7_ := CB.out.2.2.1; have h6_ := CB.out.2.2.2.1; have h5_ := HT4.out; have h4_ := HKK.out; omega)
    have k9_ : k ≤ 400 := (by have h9_ := CB.out.1; have h8_ := CB.out.2.1; have h7_ := CB.out.2.2.1; have h6_ := CB.out.2.2.2.1; have h5_ := HT4.out; have h4_ := HKK.out; omega)
    have w0_ : 4 ≤ wt := (by have h9_ := CB.out.1; have h8_ := CB.out.2.1; have h7_ := CB.out.2.2.1; have h6_ := CB.out.2.2.2.1; have h5_ := HT4.out; have h4_ := HKK.out; omega)
    have w9_ : wt ≤ 64 := (by have h9_ := CB.out.1; have h8_ := CB.out.2.1; have h7_ := CB.out.2.2.1; have h6_ := CB.out.2.2.2.1; have h5_ := HT4.out; have h4_ := HKK.out; omega)
    by_cases hk0_ : k = 0
    · have HK0 := Lib.hid hk0_
      have e34 : (k == nx) = true := beq_iff_eq.2 (by have h_ := (CB.out.2.2.2.2 hk0_).1; omega)
      have e61 : decide (0 < k) = false := decide_eq_false (by omega)
      have wn_ : IntKind.i64.wrap (k + wt) = k + wt := IntWalk.i64_in _ (by omega)
      have wk_ : IntKind.i64.wrap (k + 1) = k + 1 := IntWalk.i64_in _ (by omega)
      clear hk0_
      go_wp2_with fail
      go_wp2_with fail
      with_reducible refine (cw_first _ hT HK0.out).mono ?_
      rintro e w4 ⟨g_lm, rfl, hm_, hT_, k_, bb⟩
      clear hT
      have hT := hT_
      replace bel := bel.trans bb
      clear bb k_ hT_
      obtain ⟨A_lm, n_lm, c_lm, hs_lm, L_lm, hlm, hPlm, ht_⟩ := hm_
      have HTlm := Lib.hid ht_
      clear ht_
      replace hlm : w4.heap[g_lm]? = some (.cells #[.int .i64 1, .int .i64 0, .int .u32 draw, .int .i64 0, .int .i64 32768, .int .u8 0, .int .u8 0, .int .u8 0, .int .u8 0, .int .u8 0, .int .u8 0, .int .u8 0, .int .u8 0, .int .u8 0, .int .u8 0, .int .u8 0, .int .u8 0, .int .u8 0, .int .u8 0, .int .u8 0, .int .u8 0, .int .u8 2, .int .u8 0, .int .u8 0, .int .u8 0, .int .u8 0, .int .u8 2, .slice A_lm n_lm c_lm] 37 (0, 0)) := hlm
      go_wp2_with fail
      replace bel := bel.drew
      replace hlm : w4.drew.heap[g_lm]? = _ := hlm
      replace hT := cw_drew hT
      replace hPlm := hPlm.drew
      refine wp_region_held_drew (S := fun W => W.heap[g_lm]? = some (.cells #[.int .i64 1, .int .i64 0, .int .u32 draw, .int .i64 0, .int .i64 32768, .int .u8 0, .int .u8 0, .int .u8 0, .int .u8 0, .int .u8 0, .int .u8 0, .int .u8 0, .int .u8 0, .int .u8 0, .int .u8 0, .int .u8 0, .int .u8 0, .int .u8 0, .int .u8 0, .int .u8 0, .int .u8 0, .int .u8 2, .int .u8 0, .int .u8 0, .int .u8 0, .int .u8 0, .int .u8 2, .slice A_lm n_lm c_lm] 37 (0, 0))) (by kernel_rfl) hlm (fun hH => ?_)
      generalize w4.drew = w5 at bel hlm hT hPlm hH ⊢
      refine wpAnyH_take (i := 0) (v := ?_) rfl (by kernel_rfl) (by kernel_rfl) (by kernel_rfl) (fun _ _ _ h => h) (Or.inl ⟨by rfl, ?_⟩) hH ?_
      rotate_left
      · ((intro W hW; clear hW; go_simp) <;> with_reducible rfl)
      simp only [Act.put, List.getElem_toArray, List.getElem_cons_zero, List.setIfInBounds_toArray, List.set_cons_zero, List.set_cons_succ]
      refine wpAnyH_take (i := 1) (v := ?_) rfl (by kernel_rfl) (by kernel_rfl) (by kernel_rfl) (fun _ _ _ h => h) (Or.inl ⟨by rfl, ?_⟩) hH ?_
      rotate_left
      · ((intro W hW; clear hW; go_simp) <;> with_reducible rfl)
      simp only [Act.put, List.getElem_toArray, List.getElem_cons_zero, List.getElem_cons_succ, List.setIfInBounds_toArray, List.set_cons_zero, List.set_cons_succ]
      refine wpAnyH_take (i := 2) (v := .agg #[.int .i64 1, .int .i64 0, .int .u32 draw, .int .i64 0, .int .i64 32768, .int .u8 0, .int .u8 0, .int .u8 0, .int .u8 0, .int .u8 0, .int .u8 0, .int .u8 0, .int .u8 0, .int .u8 0, .int .u8 0, .int .u8 0, .int .u8 0, .int .u8 0, .int .u8 0, .int .u8 0, .int .u8 0, .int .u8 2, .int .u8 0, .int .u8 0, .int .u8 0, .int .u8 0, .int .u8 2, .slice A_lm n_lm c_lm]) rfl (by kernel_rfl) (by kernel_rfl) (by kernel_rfl) (fun _ _ _ h => h) (yieldsIf_load_part (by kernel_rfl) 37 _ rfl g_lm 0 28 rfl _ 37 (0, 0) (fun W hW => hW) _ rfl _ Try.underlying37 rfl (by kernel_rfl)) hH ?_
      simp only [Act.put, List.getElem_toArray, List.getElem_cons_zero, List.getElem_cons_succ, List.setIfInBounds_toArray, List.set_cons_zero, List.set_cons_succ]
      refine wpAnyH_ready (rs := [3]) (by kernel_rfl) (by simp) ?_
      refine AllReadyH.cons (o := _) rfl (fun K hK => ?_) AllReadyH.nil
      simp only [List.getElem_toArray, List.getElem_cons_zero, List.getElem_cons_succ]
      go_simp
      with_reducible refine (ltype_a (k := 1) _ hPlm (by rw [HTlm.out]; kernel_rfl)).mono ?_
      rintro e w6 ⟨rfl, b6⟩
      dsimp only
      replace hlm := blk_u hlm b6
      replace hT := hT.below b6
      replace hPlm := hPlm.below b6
      replace bel := bel.trans (b6.mono bel.size)
      clear b6
      refine hK.out _ _ hlm (fun hH7 => ?_)
      clear hK K
      refine wpAnyH_take (i := 4) (v := ?_) rfl (by kernel_rfl) (by kernel_rfl) (by kernel_rfl) (fun _ _ _ h => h) (Or.inl ⟨by rfl, ?_⟩) hH7 ?_
      rotate_left
      · ((intro W hW; clear hW; go_simp) <;> with_reducible rfl)
      simp only [Act.put, List.getElem_toArray, List.getElem_cons_zero, List.getElem_cons_succ, List.setIfInBounds_toArray, List.set_cons_zero, List.set_cons_succ]
      refine wpAnyH_take (i := 5) (v := ?_) rfl (by kernel_rfl) (by kernel_rfl) (by kernel_rfl) (fun _ _ _ h => h) (Or.inl ⟨by rfl, ?_⟩) hH7 ?_
      rotate_left
      · ((intro W hW; clear hW; go_simp) <;> with_reducible rfl)
      simp only [Act.put, List.getElem_toArray, List.getElem_cons_zero, List.getElem_cons_succ, List.setIfInBounds_toArray, List.set_cons_zero, List.set_cons_succ]
      refine wpAnyH_take (i := 6) (v := ?_) rfl (by kernel_rfl) (by kernel_rfl) (by kernel_rfl) (fun _ _ _ h => h) (Or.inl ⟨by rfl, ?_⟩) hH7 ?_
      rotate_left
      · ((intro W hW; clear hW; go_simp) <;> with_reducible rfl)
      simp only [Act.put, List.getElem_toArray, List.getElem_cons_zero, List.getElem_cons_succ, List.setIfInBounds_toArray, List.set_cons_zero, List.set_cons_succ]
      refine wpAnyH_take (i := 7) (v := ?_) rfl (by kernel_rfl) (by kernel_rfl) (by kernel_rfl) (fun _ _ _ h => h) (Or.inl ⟨by rfl, ?_⟩) hH7 ?_
      rotate_left
      · ((intro W hW; clear hW; go_simp) <;> with_reducible rfl)
      simp only [Act.put, List.getElem_toArray, List.getElem_cons_zero, List.getElem_cons_succ, List.setIfInBounds_toArray, List.set_cons_zero, List.set_cons_succ]
      refine wpAnyH_take (i := 8) (v := ?_) rfl (by kernel_rfl) (by kernel_rfl) (by kernel_rfl) (fun _ _ _ h => h) (Or.inl ⟨by rfl, ?_⟩) hH7 ?_
      rotate_left
      · ((intro W hW; clear hW; go_simp) <;> with_reducible rfl)
      simp only [Act.put, List.getElem_toArray, List.getElem_cons_zero, List.getElem_cons_succ, List.setIfInBounds_toArray, List.set_cons_zero, List.set_cons_succ]
      refine wpAnyH_take (i := 9) (v := ?_) rfl (by kernel_rfl) (by kernel_rfl) (by kernel_rfl) (fun _ _ _ h => h) (Or.inl ⟨by rfl, ?_⟩) hH7 ?_
      rotate_left
      · ((intro W hW; have hk := cell_lit (hW) 2 _ rfl; clear hW; go_simp) <;> with_reducible rfl)
      simp only [Act.put, List.getElem_toArray, List.getElem_cons_zero, List.getElem_cons_succ, List.setIfInBounds_toArray, List.set_cons_zero, List.set_cons_succ]
      refine wpAnyH_take (i := 10) (v := ?_) rfl (by kernel_rfl) (by kernel_rfl) (by kernel_rfl) (fun _ _ _ h => h) (Or.inl ⟨by rfl, ?_⟩) hH7 ?_
      rotate_left
      · ((intro W hW; clear hW; go_simp) <;> with_reducible rfl)
      simp only [Act.put, List.getElem_toArray, List.getElem_cons_zero, List.getElem_cons_succ, List.setIfInBounds_toArray, List.set_cons_zero, List.set_cons_succ]
      refine wpAnyH_take (i := 11) (v := ?_) rfl (by kernel_rfl) (by kernel_rfl) (by kernel_rfl) (fun _ _ _ h => h) (Or.inl ⟨by rfl, ?_⟩) hH7 ?_
      rotate_left
      · ((intro W hW; clear hW; go_simp) <;> with_reducible rfl)
      simp only [Act.put, List.getElem_toArray, List.getElem_cons_zero, List.getElem_cons_succ, List.setIfInBounds_toArray, List.set_cons_zero, List.set_cons_succ]
      refine wpAnyH_take (i := 12) (v := ?_) rfl (by kernel_rfl) (by kernel_rfl) (by kernel_rfl) (fun _ _ _ h => h) (Or.inl ⟨by rfl, ?_⟩) hH7 ?_
      rotate_left
      · ((intro W hW; clear hW; go_simp) <;> with_reducible rfl)
      simp only [Act.put, List.getElem_toArray, List.getElem_cons_zero, List.getElem_cons_succ, List.setIfInBounds_toArray, List.set_cons_zero, List.set_cons_succ]
      refine wpAnyH_take (i := 13) (v := ?_) rfl (by kernel_rfl) (by kernel_rfl) (by kernel_rfl) (fun _ _ _ h => h) (Or.inl ⟨by rfl, ?_⟩) hH7 ?_
      rotate_left
      · ((intro W hW; clear hW; go_simp) <;> with_reducible rfl)
      simp only [Act.put, List.getElem_toArray, List.getElem_cons_zero, List.getElem_cons_succ, List.setIfInBounds_toArray, List.set_cons_zero, List.set_cons_succ]
      refine wpAnyH_take (i := 14) (v := ?_) rfl (by kernel_rfl) (by kernel_rfl) (by kernel_rfl) (fun _ _ _ h => h) (Or.inl ⟨by rfl, ?_⟩) hH7 ?_
      rotate_left
      · ((intro W hW; clear hW; go_simp) <;> with_reducible rfl)
      simp only [Act.put, List.getElem_toArray, List.getElem_cons_zero, List.getElem_cons_succ, List.setIfInBounds_toArray, List.set_cons_zero, List.set_cons_succ]
      refine wpAnyH_take (i := 15) (v := ?_) rfl (by kernel_rfl) (by kernel_rfl) (by kernel_rfl) (fun _ _ _ h => h) (Or.inl ⟨by rfl, ?_⟩) hH7 ?_
      rotate_left
      · ((intro W hW; clear hW; go_simp) <;> with_reducible rfl)
      simp only [Act.put, List.getElem_toArray, List.getElem_cons_zero, List.getElem_cons_succ, List.setIfInBounds_toArray, List.set_cons_zero, List.set_cons_succ]
      refine wpAnyH_take (i := 16) (v := ?_) rfl (by kernel_rfl) (by kernel_rfl) (by kernel_rfl) (fun _ _ _ h => h) (Or.inl ⟨by rfl, ?_⟩) hH7 ?_
      rotate_left
      · ((intro W hW; clear hW; go_simp) <;> with_reducible rfl)
      simp only [Act.put, List.getElem_toArray, List.getElem_cons_zero, List.getElem_cons_succ, List.setIfInBounds_toArray, List.set_cons_zero, List.set_cons_succ]
      refine wpAnyH_take (i := 17) (v := .agg #[.int .u8 2, .int .u8 0, .int .u8 0, .int .u8 0, .int .u8 0, .int .u8 2]) rfl (by kernel_rfl) (by kernel_rfl) (by kernel_rfl) (fun _ _ _ h => h) (yieldsIf_load_part (by kernel_rfl) 26 _ rfl g_lm 21 6 rfl _ 37 (0, 0) (fun W hW => hW) _ rfl _ Try.underlying26 rfl (by kernel_rfl)) hH7 ?_
      simp only [Act.put, List.getElem_toArray, List.getElem_cons_zero, List.getElem_cons_succ, List.setIfInBounds_toArray, List.set_cons_zero, List.set_cons_succ]
      refine wpAnyH_ready (rs := [18]) (by kernel_rfl) (by simp) ?_
      refine AllReadyH.cons (o := _) rfl (fun K hK => ?_) AllReadyH.nil
      simp only [List.getElem_toArray, List.getElem_cons_zero, List.getElem_cons_succ]
      go_simp
      with_reducible refine (lmac _).mono ?_
      rintro e w8 ⟨rfl, b8⟩
      dsimp only
      replace hlm := blk_u hlm b8
      replace hT := hT.below b8
      replace hPlm := hPlm.below b8
      replace bel := bel.trans (b8.mono bel.size)
      clear b8
      refine hK.out _ _ hlm (fun hH9 => ?_)
      clear hK K
      refine wpAnyH_take (i := 19) (v := ?_) rfl (by kernel_rfl) (by kernel_rfl) (by kernel_rfl) (fun _ _ _ h => h) (Or.inl ⟨by rfl, ?_⟩) hH9 ?_
      rotate_left
      · ((intro W hW; clear hW; go_simp) <;> with_reducible rfl)
      simp only [Act.put, List.getElem_toArray, List.getElem_cons_zero, List.getElem_cons_succ, List.setIfInBounds_toArray, List.set_cons_zero, List.set_cons_succ]
      refine wpAnyH_take (i := 20) (v := ?_) rfl (by kernel_rfl) (by kernel_rfl) (by kernel_rfl) (fun _ _ _ h => h) (Or.inl ⟨by rfl, ?_⟩) hH9 ?_
      rotate_left
      · ((intro W hW; clear hW; go_simp) <;> with_reducible rfl)
      simp only [Act.put, List.getElem_toArray, List.getElem_cons_zero, List.getElem_cons_succ, List.setIfInBounds_toArray, List.set_cons_zero, List.set_cons_succ]
      refine wpAnyH_done (by kernel_rfl) ?_ _
      go_wp2_with fail
      go_roundg ((ticks + 1 - (k + 1)).toNat)
      case measure => have := HGK_.out; have := HKK.out; omega
      case rel => exact ⟨k + 1, k + wt, wt, rfl, Lib.hid (by have h9_ := CB.out.1; have h8_ := CB.out.2.1; have h7_ := CB.out.2.2.1; have h6_ := CB.out.2.2.2.1; have h5_ := HT4.out; have h4_ := HKK.out; omega), hT, by go_num, by go_num, by go_num, bel⟩
    have hkp_ : 0 < k := by omega
    have HKP := Lib.hid hkp_
    have wk_ : IntKind.i64.wrap (k + 1) = k + 1 := IntWalk.i64_in _ (by omega)
    clear hk0_
    by_cases hkn_ : k = nx
    rotate_left
    · have HKN := Lib.hid hkn_
      have e34 : (k == nx) = false := beq_eq_false_iff_ne.2 hkn_
      clear hkn_
      go_wp2_with fail
      go_wp2_with fail
      with_reducible refine (cw_idle _ hT HKN.out (by have h9_ := CB.out.1; have h8_ := CB.out.2.1; have h7_ := CB.out.2.2.1; have h6_ := CB.out.2.2.2.1; have h5_ := HT4.out; have h4_ := HKK.out; omega)).mono ?_
      rintro e w4 ⟨rfl, hT_, k_, bb⟩
      clear hT
      have hT := hT_
      replace bel := bel.trans bb
      clear bb k_ hT_
      go_wp2_with fail
      go_roundg ((ticks + 1 - (k + 1)).toNat)
      case measure => have := HGK_.out; have := HKK.out; omega
      case rel => exact ⟨k + 1, nx, wt, rfl, Lib.hid (by have h9_ := CB.out.1; have h8_ := CB.out.2.1; have h7_ := CB.out.2.2.1; have h6_ := CB.out.2.2.2.1; have h5_ := HT4.out; have h4_ := HKK.out; omega), hT, by go_num, by go_num, by go_num, bel⟩
    have HKN := Lib.hid hkn_
    have e34 : (k == nx) = true := beq_iff_eq.2 hkn_
    clear hkn_
    have hwm : IntKind.i64.wrap (2 * wt) = 2 * wt := IntWalk.i64_in _ (by omega)
    by_cases h64 : 64 < 2 * wt
    · have HWN : Hid ((if 64 < 2 * wt then 64 else 2 * wt) = 64) := Lib.hid (if_pos h64)
      have wn_ : IntKind.i64.wrap (k + 64) = k + 64 := IntWalk.i64_in _ (by omega)
      go_wp2_with fail
      go_wp2_with fail
      with_reducible refine (cw_again (wn := 64) _ hT HKP.out HKN.out (by have h9_ := CB.out.1; have h8_ := CB.out.2.1; have h7_ := CB.out.2.2.1; have h6_ := CB.out.2.2.2.1; have h5_ := HT4.out; have h4_ := HKK.out; omega) HWN.out).mono ?_
      rintro e w4 ⟨g_lm, rfl, hm_, hT_, k_, bb⟩
      clear hT
      have hT := hT_
      replace bel := bel.trans bb
      clear bb k_ hT_
      obtain ⟨A_lm, n_lm, c_lm, hs_lm, L_lm, hlm, hPlm, ht_⟩ := hm_
      have HTlm := Lib.hid ht_
      clear ht_
      replace hlm : w4.heap[g_lm]? = some (.cells #[.int .i64 1, .int .i64 0, .int .u32 draw, .int .i64 0, .int .i64 32768, .int .u8 0, .int .u8 0, .int .u8 0, .int .u8 0, .int .u8 0, .int .u8 0, .int .u8 0, .int .u8 0, .int .u8 0, .int .u8 0, .int .u8 0, .int .u8 0, .int .u8 0, .int .u8 0, .int .u8 0, .int .u8 0, .int .u8 2, .int .u8 0, .int .u8 0, .int .u8 0, .int .u8 0, .int .u8 2, .slice A_lm n_lm c_lm] 37 (0, 0)) := hlm
      go_wp2_with fail
      replace bel := bel.drew
      replace hlm : w4.drew.heap[g_lm]? = _ := hlm
      replace hT := cw_drew hT
      replace hPlm := hPlm.drew
      refine wp_region_held_drew (S := fun W => W.heap[g_lm]? = some (.cells #[.int .i64 1, .int .i64 0, .int .u32 draw, .int .i64 0, .int .i64 32768, .int .u8 0, .int .u8 0, .int .u8 0, .int .u8 0, .int .u8 0, .int .u8 0, .int .u8 0, .int .u8 0, .int .u8 0, .int .u8 0, .int .u8 0, .int .u8 0, .int .u8 0, .int .u8 0, .int .u8 0, .int .u8 0, .int .u8 2, .int .u8 0, .int .u8 0, .int .u8 0, .int .u8 0, .int .u8 2, .slice A_lm n_lm c_lm] 37 (0, 0))) (by kernel_rfl) hlm (fun hH => ?_)
      generalize w4.drew = w5 at bel hlm hT hPlm hH ⊢
      refine wpAnyH_take (i := 0) (v := ?_) rfl (by kernel_rfl) (by kernel_rfl) (by kernel_rfl) (fun _ _ _ h => h) (Or.inl ⟨by rfl, ?_⟩) hH ?_
      rotate_left
      · ((intro W hW; clear hW; go_simp) <;> with_reducible rfl)
      simp only [Act.put, List.getElem_toArray, List.getElem_cons_zero, List.setIfInBounds_toArray, List.set_cons_zero, List.set_cons_succ]
      refine wpAnyH_take (i := 1) (v := ?_) rfl (by kernel_rfl) (by kernel_rfl) (by kernel_rfl) (fun _ _ _ h => h) (Or.inl ⟨by rfl, ?_⟩) hH ?_
      rotate_left
      · ((intro W hW; clear hW; go_simp) <;> with_reducible rfl)
      simp only [Act.put, List.getElem_toArray, List.getElem_cons_zero, List.getElem_cons_succ, List.setIfInBounds_toArray, List.set_cons_zero, List.set_cons_succ]
      refine wpAnyH_take (i := 2) (v := .agg #[.int .i64 1, .int .i64 0, .int .u32 draw, .int .i64 0, .int .i64 32768, .int .u8 0, .int .u8 0, .int .u8 0, .int .u8 0, .int .u8 0, .int .u8 0, .int .u8 0, .int .u8 0, .int .u8 0, .int .u8 0, .int .u8 0, .int .u8 0, .int .u8 0, .int .u8 0, .int .u8 0, .int .u8 0, .int .u8 2, .int .u8 0, .int .u8 0, .int .u8 0, .int .u8 0, .int .u8 2, .slice A_lm n_lm c_lm]) rfl (by kernel_rfl) (by kernel_rfl) (by kernel_rfl) (fun _ _ _ h => h) (yieldsIf_load_part (by kernel_rfl) 37 _ rfl g_lm 0 28 rfl _ 37 (0, 0) (fun W hW => hW) _ rfl _ Try.underlying37 rfl (by kernel_rfl)) hH ?_
      simp only [Act.put, List.getElem_toArray, List.getElem_cons_zero, List.getElem_cons_succ, List.setIfInBounds_toArray, List.set_cons_zero, List.set_cons_succ]
      refine wpAnyH_ready (rs := [3]) (by kernel_rfl) (by simp) ?_
      refine AllReadyH.cons (o := _) rfl (fun K hK => ?_) AllReadyH.nil
      simp only [List.getElem_toArray, List.getElem_cons_zero, List.getElem_cons_succ]
      go_simp
      with_reducible refine (ltype_a (k := 1) _ hPlm (by rw [HTlm.out]; kernel_rfl)).mono ?_
      rintro e w6 ⟨rfl, b6⟩
      dsimp only
      replace hlm := blk_u hlm b6
      replace hT := hT.below b6
      replace hPlm := hPlm.below b6
      replace bel := bel.trans (b6.mono bel.size)
      clear b6
      refine hK.out _ _ hlm (fun hH7 => ?_)
      clear hK K
      refine wpAnyH_take (i := 4) (v := ?_) rfl (by kernel_rfl) (by kernel_rfl) (by kernel_rfl) (fun _ _ _ h => h) (Or.inl ⟨by rfl, ?_⟩) hH7 ?_
      rotate_left
      · ((intro W hW; clear hW; go_simp) <;> with_reducible rfl)
      simp only [Act.put, List.getElem_toArray, List.getElem_cons_zero, List.getElem_cons_succ, List.setIfInBounds_toArray, List.set_cons_zero, List.set_cons_succ]
      refine wpAnyH_take (i := 5) (v := ?_) rfl (by kernel_rfl) (by kernel_rfl) (by kernel_rfl) (fun _ _ _ h => h) (Or.inl ⟨by rfl, ?_⟩) hH7 ?_
      rotate_left
      · ((intro W hW; clear hW; go_simp) <;> with_reducible rfl)
      simp only [Act.put, List.getElem_toArray, List.getElem_cons_zero, List.getElem_cons_succ, List.setIfInBounds_toArray, List.set_cons_zero, List.set_cons_succ]
      refine wpAnyH_take (i := 6) (v := ?_) rfl (by kernel_rfl) (by kernel_rfl) (by kernel_rfl) (fun _ _ _ h => h) (Or.inl ⟨by rfl, ?_⟩) hH7 ?_
      rotate_left
      · ((intro W hW; clear hW; go_simp) <;> with_reducible rfl)
      simp only [Act.put, List.getElem_toArray, List.getElem_cons_zero, List.getElem_cons_succ, List.setIfInBounds_toArray, List.set_cons_zero, List.set_cons_succ]
      refine wpAnyH_take (i := 7) (v := ?_) rfl (by kernel_rfl) (by kernel_rfl) (by kernel_rfl) (fun _ _ _ h => h) (Or.inl ⟨by rfl, ?_⟩) hH7 ?_
      rotate_left
      · ((intro W hW; clear hW; go_simp) <;> with_reducible rfl)
      simp only [Act.put, List.getElem_toArray, List.getElem_cons_zero, List.getElem_cons_succ, List.setIfInBounds_toArray, List.set_cons_zero, List.set_cons_succ]
      refine wpAnyH_take (i := 8) (v := ?_) rfl (by kernel_rfl) (by kernel_rfl) (by kernel_rfl) (fun _ _ _ h => h) (Or.inl ⟨by rfl, ?_⟩) hH7 ?_
      rotate_left
      · ((intro W hW; clear hW; go_simp) <;> with_reducible rfl)
      simp only [Act.put, List.getElem_toArray, List.getElem_cons_zero, List.getElem_cons_succ, List.setIfInBounds_toArray, List.set_cons_zero, List.set_cons_succ]
      refine wpAnyH_take (i := 9) (v := ?_) rfl (by kernel_rfl) (by kernel_rfl) (by kernel_rfl) (fun _ _ _ h => h) (Or.inl ⟨by rfl, ?_⟩) hH7 ?_
      rotate_left
      · ((intro W hW; have hk := cell_lit (hW) 2 _ rfl; clear hW; go_simp) <;> with_reducible rfl)
      simp only [Act.put, List.getElem_toArray, List.getElem_cons_zero, List.getElem_cons_succ, List.setIfInBounds_toArray, List.set_cons_zero, List.set_cons_succ]
      refine wpAnyH_take (i := 10) (v := ?_) rfl (by kernel_rfl) (by kernel_rfl) (by kernel_rfl) (fun _ _ _ h => h) (Or.inl ⟨by rfl, ?_⟩) hH7 ?_
      rotate_left
      · ((intro W hW; clear hW; go_simp) <;> with_reducible rfl)
      simp only [Act.put, List.getElem_toArray, List.getElem_cons_zero, List.getElem_cons_succ, List.setIfInBounds_toArray, List.set_cons_zero, List.set_cons_succ]
      refine wpAnyH_take (i := 11) (v := ?_) rfl (by kernel_rfl) (by kernel_rfl) (by kernel_rfl) (fun _ _ _ h => h) (Or.inl ⟨by rfl, ?_⟩) hH7 ?_
      rotate_left
      · ((intro W hW; clear hW; go_simp) <;> with_reducible rfl)
      simp only [Act.put, List.getElem_toArray, List.getElem_cons_zero, List.getElem_cons_succ, List.setIfInBounds_toArray, List.set_cons_zero, List.set_cons_succ]
      refine wpAnyH_take (i := 12) (v := ?_) rfl (by kernel_rfl) (by kernel_rfl) (by kernel_rfl) (fun _ _ _ h => h) (Or.inl ⟨by rfl, ?_⟩) hH7 ?_
      rotate_left
      · ((intro W hW; clear hW; go_simp) <;> with_reducible rfl)
      simp only [Act.put, List.getElem_toArray, List.getElem_cons_zero, List.getElem_cons_succ, List.setIfInBounds_toArray, List.set_cons_zero, List.set_cons_succ]
      refine wpAnyH_take (i := 13) (v := ?_) rfl (by kernel_rfl) (by kernel_rfl) (by kernel_rfl) (fun _ _ _ h => h) (Or.inl ⟨by rfl, ?_⟩) hH7 ?_
      rotate_left
      · ((intro W hW; clear hW; go_simp) <;> with_reducible rfl)
      simp only [Act.put, List.getElem_toArray, List.getElem_cons_zero, List.getElem_cons_succ, List.setIfInBounds_toArray, List.set_cons_zero, List.set_cons_succ]
      refine wpAnyH_take (i := 14) (v := ?_) rfl (by kernel_rfl) (by kernel_rfl) (by kernel_rfl) (fun _ _ _ h => h) (Or.inl ⟨by rfl, ?_⟩) hH7 ?_
      rotate_left
      · ((intro W hW; clear hW; go_simp) <;> with_reducible rfl)
      simp only [Act.put, List.getElem_toArray, List.getElem_cons_zero, List.getElem_cons_succ, List.setIfInBounds_toArray, List.set_cons_zero, List.set_cons_succ]
      refine wpAnyH_take (i := 15) (v := ?_) rfl (by kernel_rfl) (by kernel_rfl) (by kernel_rfl) (fun _ _ _ h => h) (Or.inl ⟨by rfl, ?_⟩) hH7 ?_
      rotate_left
      · ((intro W hW; clear hW; go_simp) <;> with_reducible rfl)
      simp only [Act.put, List.getElem_toArray, List.getElem_cons_zero, List.getElem_cons_succ, List.setIfInBounds_toArray, List.set_cons_zero, List.set_cons_succ]
      refine wpAnyH_take (i := 16) (v := ?_) rfl (by kernel_rfl) (by kernel_rfl) (by kernel_rfl) (fun _ _ _ h => h) (Or.inl ⟨by rfl, ?_⟩) hH7 ?_
      rotate_left
      · ((intro W hW; clear hW; go_simp) <;> with_reducible rfl)
      simp only [Act.put, List.getElem_toArray, List.getElem_cons_zero, List.getElem_cons_succ, List.setIfInBounds_toArray, List.set_cons_zero, List.set_cons_succ]
      refine wpAnyH_take (i := 17) (v := .agg #[.int .u8 2, .int .u8 0, .int .u8 0, .int .u8 0, .int .u8 0, .int .u8 2]) rfl (by kernel_rfl) (by kernel_rfl) (by kernel_rfl) (fun _ _ _ h => h) (yieldsIf_load_part (by kernel_rfl) 26 _ rfl g_lm 21 6 rfl _ 37 (0, 0) (fun W hW => hW) _ rfl _ Try.underlying26 rfl (by kernel_rfl)) hH7 ?_
      simp only [Act.put, List.getElem_toArray, List.getElem_cons_zero, List.getElem_cons_succ, List.setIfInBounds_toArray, List.set_cons_zero, List.set_cons_succ]
      refine wpAnyH_ready (rs := [18]) (by kernel_rfl) (by simp) ?_
      refine AllReadyH.cons (o := _) rfl (fun K hK => ?_) AllReadyH.nil
      simp only [List.getElem_toArray, List.getElem_cons_zero, List.getElem_cons_succ]
      go_simp
      with_reducible refine (lmac _).mono ?_
      rintro e w8 ⟨rfl, b8⟩
      dsimp only
      replace hlm := blk_u hlm b8
      replace hT := hT.below b8
      replace hPlm := hPlm.below b8
      replace bel := bel.trans (b8.mono bel.size)
      clear b8
      refine hK.out _ _ hlm (fun hH9 => ?_)
      clear hK K
      refine wpAnyH_take (i := 19) (v := ?_) rfl (by kernel_rfl) (by kernel_rfl) (by kernel_rfl) (fun _ _ _ h => h) (Or.inl ⟨by rfl, ?_⟩) hH9 ?_
      rotate_left
      · ((intro W hW; clear hW; go_simp) <;> with_reducible rfl)
      simp only [Act.put, List.getElem_toArray, List.getElem_cons_zero, List.getElem_cons_succ, List.setIfInBounds_toArray, List.set_cons_zero, List.set_cons_succ]
      refine wpAnyH_take (i := 20) (v := ?_) rfl (by kernel_rfl) (by kernel_rfl) (by kernel_rfl) (fun _ _ _ h => h) (Or.inl ⟨by rfl, ?_⟩) hH9 ?_
      rotate_left
      · ((intro W hW; clear hW; go_simp) <;> with_reducible rfl)
      simp only [Act.put, List.getElem_toArray, List.getElem_cons_zero, List.getElem_cons_succ, List.setIfInBounds_toArray, List.set_cons_zero, List.set_cons_succ]
      refine wpAnyH_done (by kernel_rfl) ?_ _
      go_wp2_with fail
      go_roundg ((ticks + 1 - (k + 1)).toNat)
      case measure => have := HGK_.out; have := HKK.out; omega
      case rel => exact ⟨k + 1, k + 64, 64, rfl, Lib.hid (by have h9_ := CB.out.1; have h8_ := CB.out.2.1; have h7_ := CB.out.2.2.1; have h6_ := CB.out.2.2.2.1; have h5_ := HT4.out; have h4_ := HKK.out; omega), hT, by go_num, by go_num, by go_num, bel⟩
    have HWN : Hid ((if 64 < 2 * wt then 64 else 2 * wt) = 2 * wt) := Lib.hid (if_neg h64)
    replace h64 : decide (64 < 2 * wt) = false := decide_eq_false h64
    have wn_ : IntKind.i64.wrap (k + 2 * wt) = k + 2 * wt := IntWalk.i64_in _ (by omega)
    go_wp2_with fail
    go_wp2_with fail
    with_reducible refine (cw_again (wn := (2 * wt)) _ hT HKP.out HKN.out (by have h9_ := CB.out.1; have h8_ := CB.out.2.1; have h7_ := CB.out.2.2.1; have h6_ := CB.out.2.2.2.1; have h5_ := HT4.out; have h4_ := HKK.out; omega) HWN.out).mono ?_
    rintro e w4 ⟨g_lm, rfl, hm_, hT_, k_, bb⟩
    clear hT
    have hT := hT_
    replace bel := bel.trans bb
    clear bb k_ hT_
    obtain ⟨A_lm, n_lm, c_lm, hs_lm, L_lm, hlm, hPlm, ht_⟩ := hm_
    have HTlm := Lib.hid ht_
    clear ht_
    replace hlm : w4.heap[g_lm]? = some (.cells #[.int .i64 1, .int .i64 0, .int .u32 draw, .int .i64 0, .int .i64 32768, .int .u8 0, .int .u8 0, .int .u8 0, .int .u8 0, .int .u8 0, .int .u8 0, .int .u8 0, .int .u8 0, .int .u8 0, .int .u8 0, .int .u8 0, .int .u8 0, .int .u8 0, .int .u8 0, .int .u8 0, .int .u8 0, .int .u8 2, .int .u8 0, .int .u8 0, .int .u8 0, .int .u8 0, .int .u8 2, .slice A_lm n_lm c_lm] 37 (0, 0)) := hlm
    go_wp2_with fail
    replace bel := bel.drew
    replace hlm : w4.drew.heap[g_lm]? = _ := hlm
    replace hT := cw_drew hT
    replace hPlm := hPlm.drew
    refine wp_region_held_drew (S := fun W => W.heap[g_lm]? = some (.cells #[.int .i64 1, .int .i64 0, .int .u32 draw, .int .i64 0, .int .i64 32768, .int .u8 0, .int .u8 0, .int .u8 0, .int .u8 0, .int .u8 0, .int .u8 0, .int .u8 0, .int .u8 0, .int .u8 0, .int .u8 0, .int .u8 0, .int .u8 0, .int .u8 0, .int .u8 0, .int .u8 0, .int .u8 0, .int .u8 2, .int .u8 0, .int .u8 0, .int .u8 0, .int .u8 0, .int .u8 2, .slice A_lm n_lm c_lm] 37 (0, 0))) (by kernel_rfl) hlm (fun hH => ?_)
    generalize w4.drew = w5 at bel hlm hT hPlm hH ⊢
    refine wpAnyH_take (i := 0) (v := ?_) rfl (by kernel_rfl) (by kernel_rfl) (by kernel_rfl) (fun _ _ _ h => h) (Or.inl ⟨by rfl, ?_⟩) hH ?_
    rotate_left
    · ((intro W hW; clear hW; go_simp) <;> with_reducible rfl)
    simp only [Act.put, List.getElem_toArray, List.getElem_cons_zero, List.setIfInBounds_toArray, List.set_cons_zero, List.set_cons_succ]
    refine wpAnyH_take (i := 1) (v := ?_) rfl (by kernel_rfl) (by kernel_rfl) (by kernel_rfl) (fun _ _ _ h => h) (Or.inl ⟨by rfl, ?_⟩) hH ?_
    rotate_left
    · ((intro W hW; clear hW; go_simp) <;> with_reducible rfl)
    simp only [Act.put, List.getElem_toArray, List.getElem_cons_zero, List.getElem_cons_succ, List.setIfInBounds_toArray, List.set_cons_zero, List.set_cons_succ]
    refine wpAnyH_take (i := 2) (v := .agg #[.int .i64 1, .int .i64 0, .int .u32 draw, .int .i64 0, .int .i64 32768, .int .u8 0, .int .u8 0, .int .u8 0, .int .u8 0, .int .u8 0, .int .u8 0, .int .u8 0, .int .u8 0, .int .u8 0, .int .u8 0, .int .u8 0, .int .u8 0, .int .u8 0, .int .u8 0, .int .u8 0, .int .u8 0, .int .u8 2, .int .u8 0, .int .u8 0, .int .u8 0, .int .u8 0, .int .u8 2, .slice A_lm n_lm c_lm]) rfl (by kernel_rfl) (by kernel_rfl) (by kernel_rfl) (fun _ _ _ h => h) (yieldsIf_load_part (by kernel_rfl) 37 _ rfl g_lm 0 28 rfl _ 37 (0, 0) (fun W hW => hW) _ rfl _ Try.underlying37 rfl (by kernel_rfl)) hH ?_
    simp only [Act.put, List.getElem_toArray, List.getElem_cons_zero, List.getElem_cons_succ, List.setIfInBounds_toArray, List.set_cons_zero, List.set_cons_succ]
    refine wpAnyH_ready (rs := [3]) (by kernel_rfl) (by simp) ?_
    refine AllReadyH.cons (o := _) rfl (fun K hK => ?_) AllReadyH.nil
    simp only [List.getElem_toArray, List.getElem_cons_zero, List.getElem_cons_succ]
    go_simp
    with_reducible refine (ltype_a (k := 1) _ hPlm (by rw [HTlm.out]; kernel_rfl)).mono ?_
    rintro e w6 ⟨rfl, b6⟩
    dsimp only
    replace hlm := blk_u hlm b6
    replace hT := hT.below b6
    replace hPlm := hPlm.below b6
    replace bel := bel.trans (b6.mono bel.size)
    clear b6
    refine hK.out _ _ hlm (fun hH7 => ?_)
    clear hK K
    refine wpAnyH_take (i := 4) (v := ?_) rfl (by kernel_rfl) (by kernel_rfl) (by kernel_rfl) (fun _ _ _ h => h) (Or.inl ⟨by rfl, ?_⟩) hH7 ?_
    rotate_left
    · ((intro W hW; clear hW; go_simp) <;> with_reducible rfl)
    simp only [Act.put, List.getElem_toArray, List.getElem_cons_zero, List.getElem_cons_succ, List.setIfInBounds_toArray, List.set_cons_zero, List.set_cons_succ]
    refine wpAnyH_take (i := 5) (v := ?_) rfl (by kernel_rfl) (by kernel_rfl) (by kernel_rfl) (fun _ _ _ h => h) (Or.inl ⟨by rfl, ?_⟩) hH7 ?_
    rotate_left
    · ((intro W hW; clear hW; go_simp) <;> with_reducible rfl)
    simp only [Act.put, List.getElem_toArray, List.getElem_cons_zero, List.getElem_cons_succ, List.setIfInBounds_toArray, List.set_cons_zero, List.set_cons_succ]
    refine wpAnyH_take (i := 6) (v := ?_) rfl (by kernel_rfl) (by kernel_rfl) (by kernel_rfl) (fun _ _ _ h => h) (Or.inl ⟨by rfl, ?_⟩) hH7 ?_
    rotate_left
    · ((intro W hW; clear hW; go_simp) <;> with_reducible rfl)
    simp only [Act.put, List.getElem_toArray, List.getElem_cons_zero, List.getElem_cons_succ, List.setIfInBounds_toArray, List.set_cons_zero, List.set_cons_succ]
    refine wpAnyH_take (i := 7) (v := ?_) rfl (by kernel_rfl) (by kernel_rfl) (by kernel_rfl) (fun _ _ _ h => h) (Or.inl ⟨by rfl, ?_⟩) hH7 ?_
    rotate_left
    · ((intro W hW; clear hW; go_simp) <;> with_reducible rfl)
    simp only [Act.put, List.getElem_toArray, List.getElem_cons_zero, List.getElem_cons_succ, List.setIfInBounds_toArray, List.set_cons_zero, List.set_cons_succ]
    refine wpAnyH_take (i := 8) (v := ?_) rfl (by kernel_rfl) (by kernel_rfl) (by kernel_rfl) (fun _ _ _ h => h) (Or.inl ⟨by rfl, ?_⟩) hH7 ?_
    rotate_left
    · ((intro W hW; clear hW; go_simp) <;> with_reducible rfl)
    simp only [Act.put, List.getElem_toArray, List.getElem_cons_zero, List.getElem_cons_succ, List.setIfInBounds_toArray, List.set_cons_zero, List.set_cons_succ]
    refine wpAnyH_take (i := 9) (v := ?_) rfl (by kernel_rfl) (by kernel_rfl) (by kernel_rfl) (fun _ _ _ h => h) (Or.inl ⟨by rfl, ?_⟩) hH7 ?_
    rotate_left
    · ((intro W hW; have hk := cell_lit (hW) 2 _ rfl; clear hW; go_simp) <;> with_reducible rfl)
    simp only [Act.put, List.getElem_toArray, List.getElem_cons_zero, List.getElem_cons_succ, List.setIfInBounds_toArray, List.set_cons_zero, List.set_cons_succ]
    refine wpAnyH_take (i := 10) (v := ?_) rfl (by kernel_rfl) (by kernel_rfl) (by kernel_rfl) (fun _ _ _ h => h) (Or.inl ⟨by rfl, ?_⟩) hH7 ?_
    rotate_left
    · ((intro W hW; clear hW; go_simp) <;> with_reducible rfl)
    simp only [Act.put, List.getElem_toArray, List.getElem_cons_zero, List.getElem_cons_succ, List.setIfInBounds_toArray, List.set_cons_zero, List.set_cons_succ]
    refine wpAnyH_take (i := 11) (v := ?_) rfl (by kernel_rfl) (by kernel_rfl) (by kernel_rfl) (fun _ _ _ h => h) (Or.inl ⟨by rfl, ?_⟩) hH7 ?_
    rotate_left
    · ((intro W hW; clear hW; go_simp) <;> with_reducible rfl)
    simp only [Act.put, List.getElem_toArray, List.getElem_cons_zero, List.getElem_cons_succ, List.setIfInBounds_toArray, List.set_cons_zero, List.set_cons_succ]
    refine wpAnyH_take (i := 12) (v := ?_) rfl (by kernel_rfl) (by kernel_rfl) (by kernel_rfl) (fun _ _ _ h => h) (Or.inl ⟨by rfl, ?_⟩) hH7 ?_
    rotate_left
    · ((intro W hW; clear hW; go_simp) <;> with_reducible rfl)
    simp only [Act.put, List.getElem_toArray, List.getElem_cons_zero, List.getElem_cons_succ, List.setIfInBounds_toArray, List.set_cons_zero, List.set_cons_succ]
    refine wpAnyH_take (i := 13) (v := ?_) rfl (by kernel_rfl) (by kernel_rfl) (by kernel_rfl) (fun _ _ _ h => h) (Or.inl ⟨by rfl, ?_⟩) hH7 ?_
    rotate_left
    · ((intro W hW; clear hW; go_simp) <;> with_reducible rfl)
    simp only [Act.put, List.getElem_toArray, List.getElem_cons_zero, List.getElem_cons_succ, List.setIfInBounds_toArray, List.set_cons_zero, List.set_cons_succ]
    refine wpAnyH_take (i := 14) (v := ?_) rfl (by kernel_rfl) (by kernel_rfl) (by kernel_rfl) (fun _ _ _ h => h) (Or.inl ⟨by rfl, ?_⟩) hH7 ?_
    rotate_left
    · ((intro W hW; clear hW; go_simp) <;> with_reducible rfl)
    simp only [Act.put, List.getElem_toArray, List.getElem_cons_zero, List.getElem_cons_succ, List.setIfInBounds_toArray, List.set_cons_zero, List.set_cons_succ]
    refine wpAnyH_take (i := 15) (v := ?_) rfl (by kernel_rfl) (by kernel_rfl) (by kernel_rfl) (fun _ _ _ h => h) (Or.inl ⟨by rfl, ?_⟩) hH7 ?_
    rotate_left
    · ((intro W hW; clear hW; go_simp) <;> with_reducible rfl)
    simp only [Act.put, List.getElem_toArray, List.getElem_cons_zero, List.getElem_cons_succ, List.setIfInBounds_toArray, List.set_cons_zero, List.set_cons_succ]
    refine wpAnyH_take (i := 16) (v := ?_) rfl (by kernel_rfl) (by kernel_rfl) (by kernel_rfl) (fun _ _ _ h => h) (Or.inl ⟨by rfl, ?_⟩) hH7 ?_
    rotate_left
    · ((intro W hW; clear hW; go_simp) <;> with_reducible rfl)
    simp only [Act.put, List.getElem_toArray, List.getElem_cons_zero, List.getElem_cons_succ, List.setIfInBounds_toArray, List.set_cons_zero, List.set_cons_succ]
    refine wpAnyH_take (i := 17) (v := .agg #[.int .u8 2, .int .u8 0, .int .u8 0, .int .u8 0, .int .u8 0, .int .u8 2]) rfl (by kernel_rfl) (by kernel_rfl) (by kernel_rfl) (fun _ _ _ h => h) (yieldsIf_load_part (by kernel_rfl) 26 _ rfl g_lm 21 6 rfl _ 37 (0, 0) (fun W hW => hW) _ rfl _ Try.underlying26 rfl (by kernel_rfl)) hH7 ?_
    simp only [Act.put, List.getElem_toArray, List.getElem_cons_zero, List.getElem_cons_succ, List.setIfInBounds_toArray, List.set_cons_zero, List.set_cons_succ]
    refine wpAnyH_ready (rs := [18]) (by kernel_rfl) (by simp) ?_
    refine AllReadyH.cons (o := _) rfl (fun K hK => ?_) AllReadyH.nil
    simp only [List.getElem_toArray, List.getElem_cons_zero, List.getElem_cons_succ]
    go_simp
    with_reducible refine (lmac _).mono ?_
    rintro e w8 ⟨rfl, b8⟩
    dsimp only
    replace hlm := blk_u hlm b8
    replace hT := hT.below b8
    replace hPlm := hPlm.below b8
    replace bel := bel.trans (b8.mono bel.size)
    clear b8
    refine hK.out _ _ hlm (fun hH9 => ?_)
    clear hK K
    refine wpAnyH_take (i := 19) (v := ?_) rfl (by kernel_rfl) (by kernel_rfl) (by kernel_rfl) (fun _ _ _ h => h) (Or.inl ⟨by rfl, ?_⟩) hH9 ?_
    rotate_left
    · ((intro W hW; clear hW; go_simp) <;> with_reducible rfl)
    simp only [Act.put, List.getElem_toArray, List.getElem_cons_zero, List.getElem_cons_succ, List.setIfInBounds_toArray, List.set_cons_zero, List.set_cons_succ]
    refine wpAnyH_take (i := 20) (v := ?_) rfl (by kernel_rfl) (by kernel_rfl) (by kernel_rfl) (fun _ _ _ h => h) (Or.inl ⟨by rfl, ?_⟩) hH9 ?_
    rotate_left
    · ((intro W hW; clear hW; go_simp) <;> with_reducible rfl)
    simp only [Act.put, List.getElem_toArray, List.getElem_cons_zero, List.getElem_cons_succ, List.setIfInBounds_toArray, List.set_cons_zero, List.set_cons_succ]
    refine wpAnyH_done (by kernel_rfl) ?_ _
    go_wp2_with fail
    go_roundg ((ticks + 1 - (k + 1)).toNat)
    case measure => have := HGK_.out; have := HKK.out; omega
    case rel => exact ⟨k + 1, k + (2 * wt), (2 * wt), rfl, Lib.hid (by have h9_ := CB.out.1; have h8_ := CB.out.2.1; have h7_ := CB.out.2.2.1; have h6_ := CB.out.2.2.2.1; have h5_ := HT4.out; have h4_ := HKK.out; omega), hT, by go_num, by go_num, by go_num, bel⟩
end Go.Proofs.Ytjfboofnffghjaa
