/- Texts put together: Dn4. -/
import Derived.Test.YtjedknjlpeccbaaQ1
import Derived.Test.YtjedknjlpeccbaaQ2
import Derived.Test.YtjedknjlpeccbaaQ3
namespace Go.Proofs.Ytjedknjlpeccbaa
open Go.RowKit

/-- The walk at block gx: where it is (a), where the name ends (af), how many leads it has followed (p), which labels it has (ls), how large (sz). -/
def Wk (lo gx : Nat) (A : Option Addr) (n c : Nat) (b : List UInt8) (a af : Int) (p : Nat) (ls : List (List UInt8)) (sz : Nat) (w : World) : Prop :=
 ∃ m L cl, w.heap[gx]? = some (.cells #[.slice A n c, .int .i64 a, .int .i64 af, .int .i64 (p : Int), .slice L m cl, .int .i64 (sz : Int)] 121 (0, 0)) ∧ w.ownsRow lo 9 1 (.slice L m cl) m (ls.flatMap stf) ∧ lo ≤ gx ∧ Sl w A n c b ∧ Bl A n lo
theorem types_ne {w : World} {g k : Nat} {x y : Array Value} {T U : TypeId} {f h : Nat × Nat} (h1 : w.heap[g]? = some (.cells x T f)) (h2 : w.heap[k]? = some (.cells y U h)) (hn : T ≠ U) : Hid (g ≠ k) := Lib.hid fun e => by
 subst e
 rw [h1] at h2
 injection h2 with h2
 injection h2 with _ h3
 exact hn h3
set_option linter.unusedVariables false in
set_option linter.unusedSimpArgs false in
set_option maxRecDepth 100000 in
set_option maxHeartbeats 16000000 in
theorem wpass_any {lo gx : Nat} {A : Option Addr} {n c : Nat} {b : List UInt8} {a af : Int} {p : Nat} {ls : List (List UInt8)} {sz : Nat} (w : World) (k af2 : Int) (hT : Wk lo gx A n c b a af p ls sz w) (hlo : lo ≤ w.heap.size) (hk : 0 ≤ k ∧ k ≤ 100) (ha : 0 ≤ a ∧ a ≤ 1000000) (haf : (if p = 0 then a + k else af) = af2) : Calls Try.prog 76 #[.pointer (some ⟨gx, 0, none⟩), .int .i64 k] w fun e w' => e = .returned (.tuple #[]) ∧ Wk lo gx A n c b (a + k) (af2) (p) (ls) (sz) w' ∧ Below lo w w' := by
 obtain ⟨m, L, cl, hwk, rlw, owk, sb, BLB⟩ := hT
 have rl := (owk_sle (by decide) stf_len rlw).1
 have of_rl_wk := ofs_type rlw hwk (by decide)
 have av_rl_wk := owk_av rlw of_rl_wk
 have av_sb_wk := BLB.av owk
 have rllo := Nat.le_refl lo
 have lz_rl := hlo
 have ea : IntKind.i64.wrap (a + k) = a + k := IntWalk.i64_in _ (by omega)
 have bel := Below.refl lo w
 go_enter Try.func76, Try.ntmps76
 by_cases hp : p = 0
 rotate_left
 ·obtain rfl : af = af2 := by rw [if_neg hp] at haf; exact haf
  have HPP := Lib.hid hp
  have p1 : ((p : Int) == 0) = false := by simpa using hp
  have p2 : (p == 0) = false := by simpa using hp
  clear hp
  have R7 := cell_lit hwk 1 _ rfl
  go_wp2_with (first | ((with_reducible show wpList _ _ _ (⟨none, Op.store _ (.tmp 11) _, _, _, _, _⟩ :: _) _ _); refine wpList_store_part rfl 3 (.tmp 11) (.tmp 9) rfl gx 1 rfl [.int .i64 (a + k)] rfl [.slice A n c, .int .i64 a, .int .i64 af, .int .i64 (p : Int), .slice L m cl, .int .i64 (sz : Int)] 121 hwk (by simp) [.slice A n c, .int .i64 (a + k), .int .i64 af, .int .i64 (p : Int), .slice L m cl, .int .i64 (sz : Int)] rfl (by kernel_rfl) (by rfl) ?_; intro w1 hq gr; replace sb := sb.away av_sb_wk gr; replace rl := rl.away av_rl_wk gr; replace rlw := owk_off rlw of_rl_wk gr; replace lz_rl := Nat.le_trans lz_rl gr.size; replace bel := below_grown bel gr owk (Nat.le_trans hlo bel.size); clear hwk; have hwk := hq; clear hq gr; have R15 := cell_lit hwk 3 _ rfl))
  try clear R7
  try clear R15
  exact bodyPost_end (results_none rfl _ _ _) rfl ⟨rfl, ⟨_, _, _, hwk, rlw, owk, sb, BLB⟩, bel⟩
 obtain rfl : a + k = af2 := by rw [if_pos hp] at haf; exact haf
 have HPP := Lib.hid hp
 have p1 : ((p : Int) == 0) = true := by rw [hp]; rfl
 have p2 : (p == 0) = true := by rw [hp]; rfl
 clear hp
 have R7 := cell_lit hwk 1 _ rfl
 go_wp2_with (first | ((with_reducible show wpList _ _ _ (⟨none, Op.store _ (.tmp 11) _, _, _, _, _⟩ :: _) _ _); refine wpList_store_part rfl 3 (.tmp 11) (.tmp 9) rfl gx 1 rfl [.int .i64 (a + k)] rfl [.slice A n c, .int .i64 a, .int .i64 af, .int .i64 (p : Int), .slice L m cl, .int .i64 (sz : Int)] 121 hwk (by simp) [.slice A n c, .int .i64 (a + k), .int .i64 af, .int .i64 (p : Int), .slice L m cl, .int .i64 (sz : Int)] rfl (by kernel_rfl) (by rfl) ?_; intro w1 hq gr; replace sb := sb.away av_sb_wk gr; replace rl := rl.away av_rl_wk gr; replace rlw := owk_off rlw of_rl_wk gr; replace lz_rl := Nat.le_trans lz_rl gr.size; replace bel := below_grown bel gr owk (Nat.le_trans hlo bel.size); clear hwk; have hwk := hq; clear hq gr; have R15 := cell_lit hwk 3 _ rfl; have R21 := cell_lit hwk 1 _ rfl) | ((with_reducible show wpList _ _ _ (⟨none, Op.store _ (.tmp 23) _, _, _, _, _⟩ :: _) _ _); refine wpList_store_part rfl 3 (.tmp 23) (.tmp 21) rfl gx 2 rfl [.int .i64 (a + k)] rfl [.slice A n c, .int .i64 (a + k), .int .i64 af, .int .i64 (p : Int), .slice L m cl, .int .i64 (sz : Int)] 121 hwk (by simp) [.slice A n c, .int .i64 (a + k), .int .i64 (a + k), .int .i64 (p : Int), .slice L m cl, .int .i64 (sz : Int)] rfl (by kernel_rfl) (by rfl) ?_; intro w2 hq gr; replace sb := sb.away av_sb_wk gr; replace rl := rl.away av_rl_wk gr; replace rlw := owk_off rlw of_rl_wk gr; replace lz_rl := Nat.le_trans lz_rl gr.size; replace bel := below_grown bel gr owk (Nat.le_trans hlo bel.size); clear hwk; have hwk := hq; clear hq gr))
 try clear R7
 try clear R15
 try clear R21
 exact bodyPost_end (results_none rfl _ _ _) rfl ⟨rfl, ⟨_, _, _, hwk, rlw, owk, sb, BLB⟩, bel⟩
set_option linter.unusedVariables false in
set_option linter.unusedSimpArgs false in
set_option maxRecDepth 100000 in
set_option maxHeartbeats 16000000 in
theorem wread_neg {lo gx : Nat} {A : Option Addr} {n c : Nat} {b : List UInt8} {a af : Int} {p : Nat} {ls : List (List UInt8)} {sz : Nat} (w : World) (hT : Wk lo gx A n c b a af p ls sz w) (ha : a < 0) : Calls Try.prog 73 #[.pointer (some ⟨gx, 0, none⟩)] w fun e w' => ∃ gr Ar nr cr, e = .returned (.pointer (some ⟨gr, 0, none⟩)) ∧ w.heap.size ≤ gr ∧ w'.heap[gr]? = some (.cells #[.slice Ar nr cr, .bool false] 106 (0, 0)) ∧ Sl w' Ar nr cr ([]) ∧ Fr w.heap.size Ar nr ∧ Av Ar nr gr ∧ Below w.heap.size w w' := by
 obtain ⟨m, L, cl, hwk, rlw, owk, sb, BLB⟩ := hT
 have nl := Sl.nil w
 have a0 : a < 0 := ha
 have bel := Below.refl w.heap.size w
 go_enter Try.func73, Try.ntmps73
 go_wp2_with fail
 replace bel := bel.drew
 replace hwk : w.drew.heap[gx]? = _ := hwk
 replace sb := sb.drew
 replace nl := nl.drew
 refine wp_region_held_drew (S := fun W => W.heap[gx]? = some (.cells #[.slice A n c, .int .i64 a, .int .i64 af, .int .i64 (p : Int), .slice L m cl, .int .i64 (sz : Int)] 121 (0, 0))) (by kernel_rfl) hwk (fun hH => ?_)
 generalize w.drew = w1 at bel hwk sb nl hH ⊢
 refine wpAnyH_take (i := 0) (v := ?_) rfl (by kernel_rfl) (by kernel_rfl) (by kernel_rfl) (fun _ _ _ h => h) (Or.inl ⟨by rfl, ?_⟩) hH ?_
 rotate_left
 ·((intro W hW; clear hW; go_simp) <;> with_reducible rfl)
 simp only [Act.put, List.getElem_toArray, List.getElem_cons_zero, List.setIfInBounds_toArray, List.set_cons_zero, List.set_cons_succ]
 refine wpAnyH_take (i := 1) (v := ?_) rfl (by kernel_rfl) (by kernel_rfl) (by kernel_rfl) (fun _ _ _ h => h) (Or.inl ⟨by rfl, ?_⟩) hH ?_
 rotate_left
 ·((intro W hW; clear hW; go_simp) <;> with_reducible rfl)
 simp only [sq3, sq4]
 refine wpAnyH_take (i := 2) (v := ?_) rfl (by kernel_rfl) (by kernel_rfl) (by kernel_rfl) (fun _ _ _ h => h) (Or.inl ⟨by rfl, ?_⟩) hH ?_
 rotate_left
 ·((intro W hW; clear hW; go_simp) <;> with_reducible rfl)
 simp only [sq3, sq4]
 refine wpAnyH_take (i := 3) (v := ?_) rfl (by kernel_rfl) (by kernel_rfl) (by kernel_rfl) (fun _ _ _ h => h) (Or.inl ⟨by rfl, ?_⟩) hH ?_
 rotate_left
 ·((intro W hW; have hk := cell_lit (hW) 1 _ rfl; clear hW; go_simp) <;> with_reducible rfl)
 simp only [sq3, sq4]
 refine wpAnyH_take (i := 4) (v := ?_) rfl (by kernel_rfl) (by kernel_rfl) (by kernel_rfl) (fun _ _ _ h => h) (Or.inl ⟨by rfl, ?_⟩) hH ?_
 rotate_left
 ·((intro W hW; clear hW; go_simp) <;> with_reducible rfl)
 simp only [sq3, sq4]
 refine wpAnyH_take (i := 5) (v := ?_) rfl (by kernel_rfl) (by kernel_rfl) (by kernel_rfl) (fun _ _ _ h => h) (Or.inl ⟨by rfl, ?_⟩) hH ?_
 rotate_left
 ·((intro W hW; clear hW; go_simp) <;> with_reducible rfl)
 simp only [sq3, sq4]
 refine wpAnyH_take (i := 6) (v := undef) rfl (by kernel_rfl) (by kernel_rfl) (by kernel_rfl) (fun _ _ _ h => h) (Or.inr ⟨by rfl, rfl⟩) hH ?_
 simp only [sq3, sq4]
 refine wpAnyH_take (i := 7) (v := undef) rfl (by kernel_rfl) (by kernel_rfl) (by kernel_rfl) (fun _ _ _ h => h) (Or.inr ⟨by rfl, rfl⟩) hH ?_
 simp only [sq3, sq4]
 refine wpAnyH_take (i := 8) (v := undef) rfl (by kernel_rfl) (by kernel_rfl) (by kernel_rfl) (fun _ _ _ h => h) (Or.inr ⟨by rfl, rfl⟩) hH ?_
 simp only [sq3, sq4]
 refine wpAnyH_take (i := 9) (v := undef) rfl (by kernel_rfl) (by kernel_rfl) (by kernel_rfl) (fun _ _ _ h => h) (Or.inr ⟨by rfl, rfl⟩) hH ?_
 simp only [sq3, sq4]
 refine wpAnyH_take (i := 10) (v := undef) rfl (by kernel_rfl) (by kernel_rfl) (by kernel_rfl) (fun _ _ _ h => h) (Or.inr ⟨by rfl, rfl⟩) hH ?_
 simp only [sq3, sq4]
 refine wpAnyH_take (i := 11) (v := undef) rfl (by kernel_rfl) (by kernel_rfl) (by kernel_rfl) (fun _ _ _ h => h) (Or.inr ⟨by rfl, rfl⟩) hH ?_
 simp only [sq3, sq4]
 refine wpAnyH_take (i := 12) (v := undef) rfl (by kernel_rfl) (by kernel_rfl) (by kernel_rfl) (fun _ _ _ h => h) (Or.inr ⟨by rfl, rfl⟩) hH ?_
 simp only [sq3, sq4]
 refine wpAnyH_take (i := 13) (v := undef) rfl (by kernel_rfl) (by kernel_rfl) (by kernel_rfl) (fun _ _ _ h => h) (Or.inr ⟨by rfl, rfl⟩) hH ?_
 simp only [sq3, sq4]
 refine wpAnyH_take (i := 14) (v := undef) rfl (by kernel_rfl) (by kernel_rfl) (by kernel_rfl) (fun _ _ _ h => h) (Or.inr ⟨by rfl, rfl⟩) hH ?_
 simp only [sq3, sq4]
 refine wpAnyH_take (i := 15) (v := undef) rfl (by kernel_rfl) (by kernel_rfl) (by kernel_rfl) (fun _ _ _ h => h) (Or.inr ⟨by rfl, rfl⟩) hH ?_
 simp only [sq3, sq4]
 refine wpAnyH_take (i := 16) (v := ?_) rfl (by kernel_rfl) (by kernel_rfl) (by kernel_rfl) (fun _ _ _ h => h) (Or.inl ⟨by rfl, ?_⟩) hH ?_
 rotate_left
 ·((intro W hW; clear hW; go_simp) <;> with_reducible rfl)
 simp only [sq3, sq4]
 refine wpAnyH_done (by kernel_rfl) ?_ _
 go_wp2_with fail
 have HBS := Lib.hid bel.size
 with_reducible refine (rd_read _ _ _ _ _ nl (by omega)).mono ?_
 rintro e w2 ⟨gr, Ar1, cr1, rfl, ge, hh, rest, frr, avr, b2⟩
 have av_rest_wk := frr.av (hlt hwk)
 have d_wk_r := ne_new (hlt hwk) ge
 have av_sb_r := sb.av_new ge
 have av_nl_r := nl.av_new ge
 have or := Nat.le_trans bel.size ge
 replace hwk := blk_u hwk b2
 replace sb := sb.below b2
 replace nl := nl.below b2
 replace bel := bel.trans (b2.mono bel.size)
 have hr := hh
 clear hh ge b2
 replace rest : Sl w2 (Ar1) (0) (cr1) ([]) := rest
 skip
 go_wp2_with fail
 go_ret
 exact ⟨gr, Ar1, 0, cr1, rfl, or, hr, rest, frr.mono HBS.out, avr, bel⟩
set_option linter.unusedVariables false in
set_option linter.unusedSimpArgs false in
set_option maxRecDepth 100000 in
set_option maxHeartbeats 16000000 in
theorem wread_end {lo gx : Nat} {A : Option Addr} {n c : Nat} {b : List UInt8} {a af : Int} {p : Nat} {ls : List (List UInt8)} {sz : Nat} (w : World) (hT : Wk lo gx A n c b a af p ls sz w) (ha : 0 ≤ a) (hn : (n : Int) ≤ a) : Calls Try.prog 73 #[.pointer (some ⟨gx, 0, none⟩)] w fun e w' => ∃ gr Ar nr cr, e = .returned (.pointer (some ⟨gr, 0, none⟩)) ∧ w.heap.size ≤ gr ∧ w'.heap[gr]? = some (.cells #[.slice Ar nr cr, .bool false] 106 (0, 0)) ∧ Sl w' Ar nr cr ([]) ∧ Fr w.heap.size Ar nr ∧ Av Ar nr gr ∧ Below w.heap.size w w' := by
 obtain ⟨m, L, cl, hwk, rlw, owk, sb, BLB⟩ := hT
 have nl := Sl.nil w
 have a1 : decide (a < 0) = false := decide_eq_false (by omega)
 have a2 : (n : Int) ≤ a := hn
 have bel := Below.refl w.heap.size w
 go_enter Try.func73, Try.ntmps73
 go_wp2_with fail
 replace bel := bel.drew
 replace hwk : w.drew.heap[gx]? = _ := hwk
 replace sb := sb.drew
 replace nl := nl.drew
 refine wp_region_held_drew (S := fun W => W.heap[gx]? = some (.cells #[.slice A n c, .int .i64 a, .int .i64 af, .int .i64 (p : Int), .slice L m cl, .int .i64 (sz : Int)] 121 (0, 0))) (by kernel_rfl) hwk (fun hH => ?_)
 generalize w.drew = w1 at bel hwk sb nl hH ⊢
 refine wpAnyH_take (i := 0) (v := ?_) rfl (by kernel_rfl) (by kernel_rfl) (by kernel_rfl) (fun _ _ _ h => h) (Or.inl ⟨by rfl, ?_⟩) hH ?_
 rotate_left
 ·((intro W hW; clear hW; go_simp) <;> with_reducible rfl)
 simp only [Act.put, List.getElem_toArray, List.getElem_cons_zero, List.setIfInBounds_toArray, List.set_cons_zero, List.set_cons_succ]
 refine wpAnyH_take (i := 1) (v := ?_) rfl (by kernel_rfl) (by kernel_rfl) (by kernel_rfl) (fun _ _ _ h => h) (Or.inl ⟨by rfl, ?_⟩) hH ?_
 rotate_left
 ·((intro W hW; clear hW; go_simp) <;> with_reducible rfl)
 simp only [sq3, sq4]
 refine wpAnyH_take (i := 2) (v := ?_) rfl (by kernel_rfl) (by kernel_rfl) (by kernel_rfl) (fun _ _ _ h => h) (Or.inl ⟨by rfl, ?_⟩) hH ?_
 rotate_left
 ·((intro W hW; clear hW; go_simp) <;> with_reducible rfl)
 simp only [sq3, sq4]
 refine wpAnyH_take (i := 3) (v := ?_) rfl (by kernel_rfl) (by kernel_rfl) (by kernel_rfl) (fun _ _ _ h => h) (Or.inl ⟨by rfl, ?_⟩) hH ?_
 rotate_left
 ·((intro W hW; have hk := cell_lit (hW) 1 _ rfl; clear hW; go_simp) <;> with_reducible rfl)
 simp only [sq3, sq4]
 refine wpAnyH_take (i := 4) (v := ?_) rfl (by kernel_rfl) (by kernel_rfl) (by kernel_rfl) (fun _ _ _ h => h) (Or.inl ⟨by rfl, ?_⟩) hH ?_
 rotate_left
 ·((intro W hW; clear hW; go_simp) <;> with_reducible rfl)
 simp only [sq3, sq4]
 refine wpAnyH_take (i := 5) (v := ?_) rfl (by kernel_rfl) (by kernel_rfl) (by kernel_rfl) (fun _ _ _ h => h) (Or.inl ⟨by rfl, ?_⟩) hH ?_
 rotate_left
 ·((intro W hW; clear hW; go_simp) <;> with_reducible rfl)
 simp only [sq3, sq4]
 refine wpAnyH_take (i := 6) (v := ?_) rfl (by kernel_rfl) (by kernel_rfl) (by kernel_rfl) (fun _ _ _ h => h) (Or.inl ⟨by rfl, ?_⟩) hH ?_
 rotate_left
 ·((intro W hW; clear hW; go_simp) <;> with_reducible rfl)
 simp only [sq3, sq4]
 refine wpAnyH_take (i := 7) (v := ?_) rfl (by kernel_rfl) (by kernel_rfl) (by kernel_rfl) (fun _ _ _ h => h) (Or.inl ⟨by rfl, ?_⟩) hH ?_
 rotate_left
 ·((intro W hW; clear hW; go_simp) <;> with_reducible rfl)
 simp only [sq3, sq4]
 refine wpAnyH_take (i := 8) (v := ?_) rfl (by kernel_rfl) (by kernel_rfl) (by kernel_rfl) (fun _ _ _ h => h) (Or.inl ⟨by rfl, ?_⟩) hH ?_
 rotate_left
 ·((intro W hW; clear hW; go_simp) <;> with_reducible rfl)
 simp only [sq3, sq4]
 refine wpAnyH_take (i := 9) (v := ?_) rfl (by kernel_rfl) (by kernel_rfl) (by kernel_rfl) (fun _ _ _ h => h) (Or.inl ⟨by rfl, ?_⟩) hH ?_
 rotate_left
 ·((intro W hW; have hk := cell_lit (hW) 1 _ rfl; clear hW; go_simp) <;> with_reducible rfl)
 simp only [sq3, sq4]
 refine wpAnyH_take (i := 10) (v := ?_) rfl (by kernel_rfl) (by kernel_rfl) (by kernel_rfl) (fun _ _ _ h => h) (Or.inl ⟨by rfl, ?_⟩) hH ?_
 rotate_left
 ·((intro W hW; clear hW; go_simp) <;> with_reducible rfl)
 simp only [sq3, sq4]
 refine wpAnyH_take (i := 11) (v := ?_) rfl (by kernel_rfl) (by kernel_rfl) (by kernel_rfl) (fun _ _ _ h => h) (Or.inl ⟨by rfl, ?_⟩) hH ?_
 rotate_left
 ·((intro W hW; clear hW; go_simp) <;> with_reducible rfl)
 simp only [sq3, sq4]
 refine wpAnyH_take (i := 12) (v := ?_) rfl (by kernel_rfl) (by kernel_rfl) (by kernel_rfl) (fun _ _ _ h => h) (Or.inl ⟨by rfl, ?_⟩) hH ?_
 rotate_left
 ·((intro W hW; clear hW; go_simp) <;> with_reducible rfl)
 simp only [sq3, sq4]
 refine wpAnyH_take (i := 13) (v := ?_) rfl (by kernel_rfl) (by kernel_rfl) (by kernel_rfl) (fun _ _ _ h => h) (Or.inl ⟨by rfl, ?_⟩) hH ?_
 rotate_left
 ·((intro W hW; have hk := cell_lit (hW) 0 _ rfl; clear hW; go_simp) <;> with_reducible rfl)
 simp only [sq3, sq4]
 refine wpAnyH_take (i := 14) (v := ?_) rfl (by kernel_rfl) (by kernel_rfl) (by kernel_rfl) (fun _ _ _ h => h) (Or.inl ⟨by rfl, ?_⟩) hH ?_
 rotate_left
 ·((intro W hW; clear hW; go_simp) <;> with_reducible rfl)
 simp only [sq3, sq4]
 refine wpAnyH_take (i := 15) (v := ?_) rfl (by kernel_rfl) (by kernel_rfl) (by kernel_rfl) (fun _ _ _ h => h) (Or.inl ⟨by rfl, ?_⟩) hH ?_
 rotate_left
 ·((intro W hW; clear hW; go_simp) <;> with_reducible rfl)
 simp only [sq3, sq4]
 refine wpAnyH_take (i := 16) (v := ?_) rfl (by kernel_rfl) (by kernel_rfl) (by kernel_rfl) (fun _ _ _ h => h) (Or.inl ⟨by rfl, ?_⟩) hH ?_
 rotate_left
 ·((intro W hW; clear hW; go_simp) <;> with_reducible rfl)
 simp only [sq3, sq4]
 refine wpAnyH_done (by kernel_rfl) ?_ _
 go_wp2_with fail
 have HBS := Lib.hid bel.size
 with_reducible refine (rd_read _ _ _ _ _ nl (by omega)).mono ?_
 rintro e w2 ⟨gr, Ar1, cr1, rfl, ge, hh, rest, frr, avr, b2⟩
 have av_rest_wk := frr.av (hlt hwk)
 have d_wk_r := ne_new (hlt hwk) ge
 have av_sb_r := sb.av_new ge
 have av_nl_r := nl.av_new ge
 have or := Nat.le_trans bel.size ge
 replace hwk := blk_u hwk b2
 replace sb := sb.below b2
 replace nl := nl.below b2
 replace bel := bel.trans (b2.mono bel.size)
 have hr := hh
 clear hh ge b2
 replace rest : Sl w2 (Ar1) (0) (cr1) ([]) := rest
 skip
 go_wp2_with fail
 go_ret
 exact ⟨gr, Ar1, 0, cr1, rfl, or, hr, rest, frr.mono HBS.out, avr, bel⟩
set_option linter.unusedVariables false in
set_option linter.unusedSimpArgs false in
set_option maxRecDepth 100000 in
set_option maxHeartbeats 16000000 in
theorem wread_in {lo gx : Nat} {A : Option Addr} {n c : Nat} {b : List UInt8} {a af : Int} {p : Nat} {ls : List (List UInt8)} {sz : Nat} (w : World) (hT : Wk lo gx A n c b a af p ls sz w) (ha : 0 ≤ a) (hn : a < n) (hnb : n ≤ 100000) (l : List UInt8) (hl : (b.drop a.toNat).take 64 = l) : Calls Try.prog 73 #[.pointer (some ⟨gx, 0, none⟩)] w fun e w' => ∃ gr Ar nr cr, e = .returned (.pointer (some ⟨gr, 0, none⟩)) ∧ w.heap.size ≤ gr ∧ w'.heap[gr]? = some (.cells #[.slice Ar nr cr, .bool false] 106 (0, 0)) ∧ Sl w' Ar nr cr (l) ∧ Fr w.heap.size Ar nr ∧ Av Ar nr gr ∧ Below w.heap.size w w' := by
 subst hl
 obtain ⟨m, L, cl, hwk, rlw, owk, sb, BLB⟩ := hT
 obtain ⟨k, rfl⟩ : ∃ k : Nat, a = (k : Int) := ⟨a.toNat, by omega⟩
 have hkn : k < n := by omega
 obtain ⟨A2, c2, r30, f30, u30⟩ := piece_back sb (k := k) (by omega)
 obtain ⟨q1, hq1⟩ : ∃ q1, n - k = q1 := ⟨_, rfl⟩
 rw [hq1] at r30 f30
 obtain ⟨q, hq⟩ : ∃ q : Nat, (if (64 : Int) < q1 then 64 else (q1 : Int)) = q := by
  by_cases h : (64 : Int) < q1
  ·exact ⟨64, if_pos h⟩
  ·exact ⟨q1, if_neg h⟩
 have hqq : q ≤ q1 ∧ q ≤ 64 ∧ ((b.drop k).take q = (b.drop k).take 64) := by
  have hl := (sb.drop (k := k) (by omega)).1
  by_cases h : (64 : Int) < q1
  ·rw [if_pos h] at hq
   obtain rfl : q = 64 := by omega
   exact ⟨by omega, by omega, rfl⟩
  ·rw [if_neg h] at hq
   obtain rfl : q = q1 := by omega
   exact ⟨by omega, by omega, by rw [List.take_of_length_le (by omega), List.take_of_length_le (by omega)]⟩
 have HQ := Lib.hid hq
 have HQQ := Lib.hid hqq.2.2
 have hq2 := hqq.1
 have hq3 := hqq.2.1
 clear hq hqq
 have a1 : (0 : Int) ≤ k := by omega
 have a2 : decide ((n : Int) ≤ k) = false := decide_eq_false (by omega)
 have a3 : decide (n ≤ k) = false := decide_eq_false (by omega)
 have bel := Below.refl w.heap.size w
 go_enter Try.func73, Try.ntmps73
 go_wp2_with fail
 replace bel := bel.drew
 replace hwk : w.drew.heap[gx]? = _ := hwk
 replace sb := sb.drew
 refine wp_region_held_drew (S := fun W => W.heap[gx]? = some (.cells #[.slice A n c, .int .i64 (k : Int), .int .i64 af, .int .i64 (p : Int), .slice L m cl, .int .i64 (sz : Int)] 121 (0, 0))) (by kernel_rfl) hwk (fun hH => ?_)
 generalize w.drew = w1 at bel hwk sb hH ⊢
 refine wpAnyH_take (i := 0) (v := ?_) rfl (by kernel_rfl) (by kernel_rfl) (by kernel_rfl) (fun _ _ _ h => h) (Or.inl ⟨by rfl, ?_⟩) hH ?_
 rotate_left
 ·((intro W hW; clear hW; go_simp) <;> with_reducible rfl)
 simp only [Act.put, List.getElem_toArray, List.getElem_cons_zero, List.setIfInBounds_toArray, List.set_cons_zero, List.set_cons_succ]
 refine wpAnyH_take (i := 1) (v := ?_) rfl (by kernel_rfl) (by kernel_rfl) (by kernel_rfl) (fun _ _ _ h => h) (Or.inl ⟨by rfl, ?_⟩) hH ?_
 rotate_left
 ·((intro W hW; clear hW; go_simp) <;> with_reducible rfl)
 simp only [sq3, sq4]
 refine wpAnyH_take (i := 2) (v := ?_) rfl (by kernel_rfl) (by kernel_rfl) (by kernel_rfl) (fun _ _ _ h => h) (Or.inl ⟨by rfl, ?_⟩) hH ?_
 rotate_left
 ·((intro W hW; clear hW; go_simp) <;> with_reducible rfl)
 simp only [sq3, sq4]
 refine wpAnyH_take (i := 3) (v := ?_) rfl (by kernel_rfl) (by kernel_rfl) (by kernel_rfl) (fun _ _ _ h => h) (Or.inl ⟨by rfl, ?_⟩) hH ?_
 rotate_left
 ·((intro W hW; have hk := cell_lit (hW) 1 _ rfl; clear hW; go_simp) <;> with_reducible rfl)
 simp only [sq3, sq4]
 refine wpAnyH_take (i := 4) (v := ?_) rfl (by kernel_rfl) (by kernel_rfl) (by kernel_rfl) (fun _ _ _ h => h) (Or.inl ⟨by rfl, ?_⟩) hH ?_
 rotate_left
 ·((intro W hW; clear hW; go_simp) <;> with_reducible rfl)
 simp only [sq3, sq4]
 refine wpAnyH_take (i := 5) (v := ?_) rfl (by kernel_rfl) (by kernel_rfl) (by kernel_rfl) (fun _ _ _ h => h) (Or.inl ⟨by rfl, ?_⟩) hH ?_
 rotate_left
 ·((intro W hW; clear hW; go_simp) <;> with_reducible rfl)
 simp only [sq3, sq4]
 refine wpAnyH_take (i := 6) (v := ?_) rfl (by kernel_rfl) (by kernel_rfl) (by kernel_rfl) (fun _ _ _ h => h) (Or.inl ⟨by rfl, ?_⟩) hH ?_
 rotate_left
 ·((intro W hW; clear hW; go_simp) <;> with_reducible rfl)
 simp only [sq3, sq4]
 refine wpAnyH_take (i := 7) (v := ?_) rfl (by kernel_rfl) (by kernel_rfl) (by kernel_rfl) (fun _ _ _ h => h) (Or.inl ⟨by rfl, ?_⟩) hH ?_
 rotate_left
 ·((intro W hW; clear hW; go_simp) <;> with_reducible rfl)
 simp only [sq3, sq4]
 refine wpAnyH_take (i := 8) (v := ?_) rfl (by kernel_rfl) (by kernel_rfl) (by kernel_rfl) (fun _ _ _ h => h) (Or.inl ⟨by rfl, ?_⟩) hH ?_
 rotate_left
 ·((intro W hW; clear hW; go_simp) <;> with_reducible rfl)
 simp only [sq3, sq4]
 refine wpAnyH_take (i := 9) (v := ?_) rfl (by kernel_rfl) (by kernel_rfl) (by kernel_rfl) (fun _ _ _ h => h) (Or.inl ⟨by rfl, ?_⟩) hH ?_
 rotate_left
 ·((intro W hW; have hk := cell_lit (hW) 1 _ rfl; clear hW; go_simp) <;> with_reducible rfl)
 simp only [sq3, sq4]
 refine wpAnyH_take (i := 10) (v := ?_) rfl (by kernel_rfl) (by kernel_rfl) (by kernel_rfl) (fun _ _ _ h => h) (Or.inl ⟨by rfl, ?_⟩) hH ?_
 rotate_left
 ·((intro W hW; clear hW; go_simp) <;> with_reducible rfl)
 simp only [sq3, sq4]
 refine wpAnyH_take (i := 11) (v := ?_) rfl (by kernel_rfl) (by kernel_rfl) (by kernel_rfl) (fun _ _ _ h => h) (Or.inl ⟨by rfl, ?_⟩) hH ?_
 rotate_left
 ·((intro W hW; clear hW; go_simp) <;> with_reducible rfl)
 simp only [sq3, sq4]
 refine wpAnyH_take (i := 12) (v := ?_) rfl (by kernel_rfl) (by kernel_rfl) (by kernel_rfl) (fun _ _ _ h => h) (Or.inl ⟨by rfl, ?_⟩) hH ?_
 rotate_left
 ·((intro W hW; clear hW; go_simp) <;> with_reducible rfl)
 simp only [sq3, sq4]
 refine wpAnyH_take (i := 13) (v := ?_) rfl (by kernel_rfl) (by kernel_rfl) (by kernel_rfl) (fun _ _ _ h => h) (Or.inl ⟨by rfl, ?_⟩) hH ?_
 rotate_left
 ·((intro W hW; have hk := cell_lit (hW) 0 _ rfl; clear hW; go_simp) <;> with_reducible rfl)
 simp only [sq3, sq4]
 refine wpAnyH_take (i := 14) (v := ?_) rfl (by kernel_rfl) (by kernel_rfl) (by kernel_rfl) (fun _ _ _ h => h) (Or.inl ⟨by rfl, ?_⟩) hH ?_
 rotate_left
 ·((intro W hW; clear hW; go_simp) <;> with_reducible rfl)
 simp only [sq3, sq4]
 refine wpAnyH_take (i := 15) (v := ?_) rfl (by kernel_rfl) (by kernel_rfl) (by kernel_rfl) (fun _ _ _ h => h) (Or.inl ⟨by rfl, ?_⟩) hH ?_
 rotate_left
 ·((intro W hW; clear hW; go_simp) <;> with_reducible rfl)
 simp only [sq3, sq4]
 refine wpAnyH_take (i := 16) (v := ?_) rfl (by kernel_rfl) (by kernel_rfl) (by kernel_rfl) (fun _ _ _ h => h) (Or.inl ⟨by rfl, ?_⟩) hH ?_
 rotate_left
 ·((intro W hW; clear hW; go_simp) <;> with_reducible rfl)
 simp only [sq3, sq4]
 refine wpAnyH_done (by kernel_rfl) ?_ _
 go_wp2_with fail
 replace bel := bel.drew
 replace hwk : w1.drew.heap[gx]? = _ := hwk
 replace sb := sb.drew
 refine wp_region_held_drew (S := fun W => W.heap[gx]? = some (.cells #[.slice A n c, .int .i64 (k : Int), .int .i64 af, .int .i64 (p : Int), .slice L m cl, .int .i64 (sz : Int)] 121 (0, 0))) (by kernel_rfl) hwk (fun hH => ?_)
 generalize w1.drew = w2 at bel hwk sb hH ⊢
 refine wpAnyH_take (i := 0) (v := ?_) rfl (by kernel_rfl) (by kernel_rfl) (by kernel_rfl) (fun _ _ _ h => h) (Or.inl ⟨by rfl, ?_⟩) hH ?_
 rotate_left
 ·((intro W hW; clear hW; go_simp) <;> with_reducible rfl)
 simp only [Act.put, List.getElem_toArray, List.getElem_cons_zero, List.setIfInBounds_toArray, List.set_cons_zero, List.set_cons_succ]
 refine wpAnyH_take (i := 1) (v := ?_) rfl (by kernel_rfl) (by kernel_rfl) (by kernel_rfl) (fun _ _ _ h => h) (Or.inl ⟨by rfl, ?_⟩) hH ?_
 rotate_left
 ·((intro W hW; clear hW; go_simp) <;> with_reducible rfl)
 simp only [sq3, sq4]
 refine wpAnyH_take (i := 2) (v := ?_) rfl (by kernel_rfl) (by kernel_rfl) (by kernel_rfl) (fun _ _ _ h => h) (Or.inl ⟨by rfl, ?_⟩) hH ?_
 rotate_left
 ·((intro W hW; clear hW; go_simp) <;> with_reducible rfl)
 simp only [sq3, sq4]
 refine wpAnyH_take (i := 3) (v := ?_) rfl (by kernel_rfl) (by kernel_rfl) (by kernel_rfl) (fun _ _ _ h => h) (Or.inl ⟨by rfl, ?_⟩) hH ?_
 rotate_left
 ·((intro W hW; have hk := cell_lit (hW) 0 _ rfl; clear hW; go_simp) <;> with_reducible rfl)
 simp only [sq3, sq4]
 refine wpAnyH_take (i := 4) (v := ?_) rfl (by kernel_rfl) (by kernel_rfl) (by kernel_rfl) (fun _ _ _ h => h) (Or.inl ⟨by rfl, ?_⟩) hH ?_
 rotate_left
 ·((intro W hW; clear hW; go_simp) <;> with_reducible rfl)
 simp only [sq3, sq4]
 refine wpAnyH_take (i := 5) (v := ?_) rfl (by kernel_rfl) (by kernel_rfl) (by kernel_rfl) (fun _ _ _ h => h) (Or.inl ⟨by rfl, ?_⟩) hH ?_
 rotate_left
 ·((intro W hW; clear hW; go_simp) <;> with_reducible rfl)
 simp only [sq3, sq4]
 refine wpAnyH_take (i := 6) (v := ?_) rfl (by kernel_rfl) (by kernel_rfl) (by kernel_rfl) (fun _ _ _ h => h) (Or.inl ⟨by rfl, ?_⟩) hH ?_
 rotate_left
 ·((intro W hW; clear hW; go_simp) <;> with_reducible rfl)
 simp only [sq3, sq4]
 refine wpAnyH_take (i := 7) (v := ?_) rfl (by kernel_rfl) (by kernel_rfl) (by kernel_rfl) (fun _ _ _ h => h) (Or.inl ⟨by rfl, ?_⟩) hH ?_
 rotate_left
 ·((intro W hW; have hk := cell_lit (hW) 1 _ rfl; clear hW; go_simp) <;> with_reducible rfl)
 simp only [sq3, sq4]
 refine wpAnyH_take (i := 8) (v := ?_) rfl (by kernel_rfl) (by kernel_rfl) (by kernel_rfl) (fun _ _ _ h => h) (Or.inl ⟨by rfl, ?_⟩) hH ?_
 rotate_left
 ·((intro W hW; clear hW; go_simp) <;> with_reducible rfl)
 simp only [sq3, sq4]
 refine wpAnyH_take (i := 9) (v := ?_) rfl (by kernel_rfl) (by kernel_rfl) (by kernel_rfl) (fun _ _ _ h => h) (Or.inl ⟨by rfl, ?_⟩) hH ?_
 rotate_left
 ·((intro W hW; clear hW; go_simp) <;> with_reducible rfl)
 simp only [sq3, sq4]
 refine wpAnyH_done (by kernel_rfl) ?_ _
 have s2 := f30 _ sb
 go_wp2_with (first | ((with_reducible show wpList _ _ _ (⟨some 34, _, _, _, _, _⟩ :: _) _ _); refine wpList_min rfl (.tmp 33) (.const (.int .i64 64)) 3 3 rfl .i64 (q1 : Int) 64 (q : Int) rfl rfl HQ.out ?_; obtain ⟨A35, c35, r35, f35, u35⟩ := piece_front s2 (k := q) hq2; have s3 := f35 _ s2; clear f35 u35))
 have HBS := Lib.hid bel.size
 with_reducible refine (rd_read _ _ _ _ _ s3 (by omega)).mono ?_
 rintro e w3 ⟨gr, Ar2, cr2, rfl, ge, hh, rest, frr, avr, b3⟩
 have av_rest_wk := frr.av (hlt hwk)
 have d_wk_r := ne_new (hlt hwk) ge
 have av_sb_r := sb.av_new ge
 have av_s2_r := s2.av_new ge
 have av_s3_r := s3.av_new ge
 have or := Nat.le_trans bel.size ge
 replace hwk := blk_u hwk b3
 replace sb := sb.below b3
 replace s2 := s2.below b3
 replace s3 := s3.below b3
 replace bel := bel.trans (b3.mono bel.size)
 have hr := hh
 clear hh ge b3
 replace rest : Sl w3 (Ar2) (q) (cr2) ((b.drop k).take (q)) := rest
 skip
 go_wp2_with fail
 go_ret
 exact ⟨gr, Ar2, q, cr2, rfl, or, hr, (by rw [HQQ.out] at rest; exact rest), frr.mono HBS.out, avr, bel⟩
theorem wread_i {lo gx : Nat} {A : Option Addr} {n c : Nat} {b : List UInt8} {i : Nat} {af : Int} {p : Nat} {ls : List (List UInt8)} {sz : Nat} (w : World) (hT : Wk lo gx A n c b (i : Int) af p ls sz w) (hn : i < n) (hnb : n ≤ 100000) (l : List UInt8) (hl : (b.drop i).take 64 = l) : Calls Try.prog 73 #[.pointer (some ⟨gx, 0, none⟩)] w fun e w' => ∃ gr Ar nr cr, e = .returned (.pointer (some ⟨gr, 0, none⟩)) ∧ w.heap.size ≤ gr ∧ w'.heap[gr]? = some (.cells #[.slice Ar nr cr, .bool false] 106 (0, 0)) ∧ Sl w' Ar nr cr (l) ∧ Fr w.heap.size Ar nr ∧ Av Ar nr gr ∧ Below w.heap.size w w' :=
 wread_in w hT (by omega) (by omega) hnb l (by rw [Int.toNat_natCast]; exact hl)
theorem conv_zero (A : Option Addr) (c : Nat) (W : World) : (convert 30 9 (.slice A 0 c)).run Try.prog W = .ok (.string ⟨#[]⟩) W := by
 rcases A with _ | ad
 ·exact run_convert_bytes_nil W 30 5 Try.underlying30 Try.underlying5 _ _ 9 Try.underlying9
 ·exact run_convert_bytes_back W 30 9 5 ad c [] Try.underlying30 Try.underlying5 Try.underlying9 (fun j hj => absurd hj (by simp))
set_option linter.unusedVariables false in
set_option linter.unusedSimpArgs false in
set_option maxRecDepth 100000 in
set_option maxHeartbeats 16000000 in
theorem wlabel_ok {lo gx : Nat} {A : Option Addr} {n c : Nat} {b : List UInt8} {a af : Int} {p : Nat} {ls : List (List UInt8)} {sz : Nat} (w : World) (af2 : Int) (hT : Wk lo gx A n c b a af p ls sz w) (hlo : lo ≤ w.heap.size) {gr : Nat} {Ar : Option Addr} {nr cr : Nat} {t : List UInt8} (hr : w.heap[gr]? = some (.cells #[.slice Ar nr cr, .bool false] 106 (0, 0))) (rest : Sl w Ar nr cr t) (avr : Av Ar nr gr) (hgr : lo ≤ gr) (k : Nat) (hk1 : 1 ≤ k) (hk2 : k ≤ 63) (ht : k ≤ t.length) (hsz : sz + (1 + k) ≤ 255) (hls : ls.length ≤ 1000) (ha0 : 0 ≤ a) (ha1 : a ≤ 1000000) (haf : (if p = 0 then a + (1 + (k : Int)) else af) = af2) : Calls Try.prog 77 #[.pointer (some ⟨gx, 0, none⟩), .pointer (some ⟨gr, 0, none⟩), .int .i64 (k : Int)] w fun e w' => e = .returned (.int .i64 0) ∧ Wk lo gx A n c b (a + (1 + (k : Int))) (af2) (p) (ls ++ [t.take k]) (sz + (1 + k)) w' ∧ Below lo w w' := by
 obtain ⟨m, L, cl, hwk, rlw, owk, sb, BLB⟩ := hT
 have rl := (owk_sle (by decide) stf_len rlw).1
 have of_rl_wk := ofs_type rlw hwk (by decide)
 have av_rl_wk := owk_av rlw of_rl_wk
 have av_sb_wk := BLB.av owk
 have rllo := Nat.le_refl lo
 have lz_rl := hlo
 have or := hgr
 have d_wk_r := types_ne hwk hr (by decide)
 have av_sb_r := BLB.av hgr
 have of_rl_r := ofs_type rlw hr (by decide)
 have av_rl_r := owk_av rlw of_rl_r
 have z1 : IntKind.i64.wrap (1 + (k : Int)) = 1 + (k : Int) := IntWalk.i64_in _ (by omega)
 have z2 : IntKind.i64.wrap ((sz : Int) + (1 + (k : Int))) = (sz : Int) + (1 + (k : Int)) := IntWalk.i64_in _ (by omega)
 have k0 : (0 : Int) ≤ k := by omega
 have k1 : (k : Int) ≤ 63 := by omega
 have zz0 : (0 : Int) ≤ sz := by omega
 have zz1 : (sz : Int) ≤ 255 := by omega
 have HSZ : Hid ((sz : Int) + (1 + (k : Int)) = ((sz + (1 + k) : Nat) : Int)) := Lib.hid (by omega)
 obtain ⟨is, his, his0, his1, his2⟩ := info_parts Try.info_str
 have hml : m ≤ 1000 := by have h_ := rl.1; omega
 have z3 : decide ((255 : Int) < (sz : Int) + (1 + (k : Int))) = false := decide_eq_false (by omega)
 have bel := Below.refl lo w
 go_enter Try.func77, Try.ntmps77
 go_wp2_with fail
 with_reducible refine (rd_bytes (k) _ _ _ _ _ _ _ hr rest (by omega) (by omega)).mono ?_
 rintro e w1 ⟨Asx, csx, A0, n0, c0, rfl, hq, sq, uq, sx, frsx, b1⟩
 have av_sx_wk := frsx.av (hlt hwk)
 have av_sx_r := frsx.av (hlt hr)
 replace sb := sb.away av_sb_r b1
 replace rl := rl.away av_rl_r b1
 replace rlw := owk_off rlw of_rl_r b1
 replace lz_rl := Nat.le_trans lz_rl b1.size
 replace hwk := blk_a hwk b1 d_wk_r
 replace bel := below_grown bel b1 or (Nat.le_trans hlo bel.size)
 clear b1
 clear hr rest
 have hr := hq
 have rest := sq
 clear hq sq
 have av0_rest_r := avr.sub uq
 clear uq
 have st11 := sx.str (P := Try.prog) 30 5 9 Try.underlying30 Try.underlying5 Try.underlying9
 go_wp2_with fail
 clear st11
 with_reducible refine (rd_short _ _ _ _ _ _ _ hr rest).mono ?_
 rintro e _ ⟨rfl, rfl⟩
 have R17 := cell_lit hwk 5 _ rfl
 go_wp2_with (first | ((with_reducible show wpList _ _ _ (⟨none, Op.store _ (.tmp 22) _, _, _, _, _⟩ :: _) _ _); refine wpList_store_part rfl 3 (.tmp 22) (.tmp 20) rfl gx 5 rfl [.int .i64 ((sz : Int) + (1 + (k : Int)))] rfl [.slice A n c, .int .i64 a, .int .i64 af, .int .i64 (p : Int), .slice L m cl, .int .i64 (sz : Int)] 121 hwk (by simp) [.slice A n c, .int .i64 a, .int .i64 af, .int .i64 (p : Int), .slice L m cl, .int .i64 ((sz : Int) + (1 + (k : Int)))] rfl (by kernel_rfl) (by rfl) ?_; intro w2 hq gr; replace sb := sb.away av_sb_wk gr; replace rl := rl.away av_rl_wk gr; replace rlw := owk_off rlw of_rl_wk gr; clear rest; replace sx := sx.away av_sx_wk gr; replace lz_rl := Nat.le_trans lz_rl gr.size; replace hr := blk_a hr gr (ne_symm d_wk_r); replace bel := below_grown bel gr owk (Nat.le_trans hlo bel.size); clear hwk; have hwk := hq; clear hq gr; have R26 := cell_lit hwk 5 _ rfl; have R32 := cell_lit hwk 4 _ rfl) | ((with_reducible show wpList _ _ _ (⟨some 34, _, _, _, _, _⟩ :: _) _ _); refine wpList_lit_n rfl 33 9 1 _ rfl #[.string ⟨(t.take k).toArray⟩] (.string ⟨#[]⟩) Try.underlying33 (by kernel_rfl) 1 (by kernel_rfl) (by decide) (by kernel_rfl) ?_; intro g34 w3 ge lt hh bb; have d_wk_b34 := ne_new (hlt hwk) ge; have d_r_b34 := ne_new (hlt hr) ge; have av_sb_b34 := sb.av_new ge; have av_rl_b34 := rl.av_new ge; have of_rl_b34 := owk_new rlw ge; have av_sx_b34 := sx.av_new ge; have ob34 := Nat.le_trans (Nat.le_trans hlo bel.size) ge; replace hwk := blk_u hwk bb; replace hr := blk_u hr bb; replace sb := sb.below bb; replace rl := rl.below bb; replace rlw := owk_under rlw bb; replace sx := sx.below bb; replace lz_rl := Nat.le_trans lz_rl bb.size; replace bel := bel.trans (bb.mono (Nat.le_trans hlo bel.size)); have hb34 := hh; clear hh lt ge bb; have l1 : Sle stf 1 w3 (some ⟨g34, 0, none⟩) (1) (1) ([t.take k]) := sle_lit ([t.take k]) (by decide) stf_len hb34 rfl (by simp [maxLen])) | ((with_reducible show wpList _ _ _ (⟨some 35, _, _, _, _, _⟩ :: _) _ _); refine wpList_append_sle rfl (.tmp 32) (.tmp 34) 33 rfl (lo) 9 is (.string ⟨#[]⟩) 16 Try.underlying33 his his0 his1 his2 rfl stf_one _ (m) (ls) rfl rlw (some ⟨g34, 0, none⟩) (1) (1) ([t.take k]) rfl l1 (by unfold maxLen; omega) (by omega) lz_rl ?_; intro v35 w4 own_ bb gw ofw; have of35_wk := ofw _ (hlt hwk) of_rl_wk; have of35_r := ofw _ (hlt hr) of_rl_r; have of35_b34 := ofw _ (hlt hb34) of_rl_b34; clear ofw; replace sb := sb.under BLB bb; clear sx; replace l1 := Sle.off l1 of_rl_b34 gw; replace hwk := blk_own hwk gw of_rl_wk; replace hr := blk_own hr gw of_rl_r; replace hb34 := blk_own hb34 gw of_rl_b34; clear gw; replace bel := bel.trans (bb.mono rllo); have lz_la := Nat.le_trans lz_rl bb.size; clear bb; clear rl rlw lz_rl; replace own_ : w4.ownsRow (lo) 9 1 v35 (m + 1) ((ls ++ [t.take k] : List (List UInt8)).flatMap stf) := own_; obtain ⟨A35, c35, rfl⟩ := owk_val own_; have law := own_; have la := (owk_sle (by decide) stf_len own_).1; have fr_la := (owk_sle (by decide) stf_len own_).2; clear own_; have av_la_wk := owk_av law of35_wk; have av_la_r := owk_av law of35_r; have av_la_b34 := owk_av law of35_b34) | ((with_reducible show wpList _ _ _ (⟨none, Op.store _ (.tmp 37) _, _, _, _, _⟩ :: _) _ _); refine wpList_store_part rfl 33 (.tmp 37) (.tmp 35) rfl gx 4 rfl [.slice A35 (m + 1) c35] rfl [.slice A n c, .int .i64 a, .int .i64 af, .int .i64 (p : Int), .slice L m cl, .int .i64 ((sz : Int) + (1 + (k : Int)))] 121 hwk (by simp) [.slice A n c, .int .i64 a, .int .i64 af, .int .i64 (p : Int), .slice A35 (m + 1) c35, .int .i64 ((sz : Int) + (1 + (k : Int)))] rfl (by kernel_rfl) (by rfl) ?_; intro w5 hq gr; replace sb := sb.away av_sb_wk gr; clear l1; replace la := la.away av_la_wk gr; replace law := owk_off law of35_wk gr; replace lz_la := Nat.le_trans lz_la gr.size; replace hr := blk_a hr gr (ne_symm d_wk_r); replace hb34 := blk_a hb34 gr (ne_symm d_wk_b34); replace bel := below_grown bel gr owk (Nat.le_trans hlo bel.size); clear hwk; have hwk := hq; clear hq gr))
 try clear R17
 try clear R26
 try clear R32
 have hT9 : Wk lo gx A n c b a af p (ls ++ [t.take k]) (sz + (1 + k)) w5 := ⟨_, _, _, (by rw [← HSZ.out]; exact hwk), law, owk, sb, BLB⟩
 with_reducible refine (wpass_any _ (1 + (k : Int)) af2 hT9 (Nat.le_trans hlo bel.size) (by omega) ⟨ha0, ha1⟩ haf).mono ?_
 rintro e w6 ⟨rfl, hT_, b6⟩
 replace bel := bel.trans b6
 clear b6 sb la law lz_la hwk hr hb34
 have hT := hT_
 clear hT_
 go_wp2_with fail
 go_ret
 exact ⟨rfl, hT, bel⟩
set_option linter.unusedVariables false in
set_option linter.unusedSimpArgs false in
set_option maxRecDepth 100000 in
set_option maxHeartbeats 16000000 in
theorem wlabel_long {lo gx : Nat} {A : Option Addr} {n c : Nat} {b : List UInt8} {a af : Int} {p : Nat} {ls : List (List UInt8)} {sz : Nat} (w : World) (hT : Wk lo gx A n c b a af p ls sz w) (hlo : lo ≤ w.heap.size) {gr : Nat} {Ar : Option Addr} {nr cr : Nat} {t : List UInt8} (hr : w.heap[gr]? = some (.cells #[.slice Ar nr cr, .bool false] 106 (0, 0))) (rest : Sl w Ar nr cr t) (avr : Av Ar nr gr) (hgr : lo ≤ gr) (k : Nat) (hk1 : 1 ≤ k) (hk2 : k ≤ 63) (ht : k ≤ t.length) (hsz : 255 < sz + (1 + k)) (hs2 : sz ≤ 255) : Calls Try.prog 77 #[.pointer (some ⟨gx, 0, none⟩), .pointer (some ⟨gr, 0, none⟩), .int .i64 (k : Int)] w fun e w' => e = .returned (.int .i64 4) ∧ Below lo w w' := by
 obtain ⟨m, L, cl, hwk, rlw, owk, sb, BLB⟩ := hT
 have rl := (owk_sle (by decide) stf_len rlw).1
 have of_rl_wk := ofs_type rlw hwk (by decide)
 have av_rl_wk := owk_av rlw of_rl_wk
 have av_sb_wk := BLB.av owk
 have rllo := Nat.le_refl lo
 have lz_rl := hlo
 have or := hgr
 have d_wk_r := types_ne hwk hr (by decide)
 have av_sb_r := BLB.av hgr
 have of_rl_r := ofs_type rlw hr (by decide)
 have av_rl_r := owk_av rlw of_rl_r
 have z1 : IntKind.i64.wrap (1 + (k : Int)) = 1 + (k : Int) := IntWalk.i64_in _ (by omega)
 have z2 : IntKind.i64.wrap ((sz : Int) + (1 + (k : Int))) = (sz : Int) + (1 + (k : Int)) := IntWalk.i64_in _ (by omega)
 have k0 : (0 : Int) ≤ k := by omega
 have k1 : (k : Int) ≤ 63 := by omega
 have zz0 : (0 : Int) ≤ sz := by omega
 have zz1 : (sz : Int) ≤ 255 := by omega
 have HSZ : Hid ((sz : Int) + (1 + (k : Int)) = ((sz + (1 + k) : Nat) : Int)) := Lib.hid (by omega)
 have z3 : (255 : Int) < (sz : Int) + (1 + (k : Int)) := by omega
 have bel := Below.refl lo w
 go_enter Try.func77, Try.ntmps77
 go_wp2_with fail
 with_reducible refine (rd_bytes (k) _ _ _ _ _ _ _ hr rest (by omega) (by omega)).mono ?_
 rintro e w1 ⟨Asx, csx, A0, n0, c0, rfl, hq, sq, uq, sx, frsx, b1⟩
 have av_sx_wk := frsx.av (hlt hwk)
 have av_sx_r := frsx.av (hlt hr)
 replace sb := sb.away av_sb_r b1
 replace rl := rl.away av_rl_r b1
 replace rlw := owk_off rlw of_rl_r b1
 replace lz_rl := Nat.le_trans lz_rl b1.size
 replace hwk := blk_a hwk b1 d_wk_r
 replace bel := below_grown bel b1 or (Nat.le_trans hlo bel.size)
 clear b1
 clear hr rest
 have hr := hq
 have rest := sq
 clear hq sq
 have av0_rest_r := avr.sub uq
 clear uq
 have st11 := sx.str (P := Try.prog) 30 5 9 Try.underlying30 Try.underlying5 Try.underlying9
 go_wp2_with fail
 clear st11
 with_reducible refine (rd_short _ _ _ _ _ _ _ hr rest).mono ?_
 rintro e _ ⟨rfl, rfl⟩
 have R17 := cell_lit hwk 5 _ rfl
 go_wp2_with (first | ((with_reducible show wpList _ _ _ (⟨none, Op.store _ (.tmp 22) _, _, _, _, _⟩ :: _) _ _); refine wpList_store_part rfl 3 (.tmp 22) (.tmp 20) rfl gx 5 rfl [.int .i64 ((sz : Int) + (1 + (k : Int)))] rfl [.slice A n c, .int .i64 a, .int .i64 af, .int .i64 (p : Int), .slice L m cl, .int .i64 (sz : Int)] 121 hwk (by simp) [.slice A n c, .int .i64 a, .int .i64 af, .int .i64 (p : Int), .slice L m cl, .int .i64 ((sz : Int) + (1 + (k : Int)))] rfl (by kernel_rfl) (by rfl) ?_; intro w2 hq gr; replace sb := sb.away av_sb_wk gr; replace rl := rl.away av_rl_wk gr; replace rlw := owk_off rlw of_rl_wk gr; clear rest; replace sx := sx.away av_sx_wk gr; replace lz_rl := Nat.le_trans lz_rl gr.size; replace hr := blk_a hr gr (ne_symm d_wk_r); replace bel := below_grown bel gr owk (Nat.le_trans hlo bel.size); clear hwk; have hwk := hq; clear hq gr; have R26 := cell_lit hwk 5 _ rfl))
 try clear R17
 try clear R26
 go_ret
 exact ⟨rfl, bel⟩
set_option linter.unusedVariables false in
set_option linter.unusedSimpArgs false in
set_option maxRecDepth 100000 in
set_option maxHeartbeats 16000000 in
theorem wlabel_cut {lo gx : Nat} {A : Option Addr} {n c : Nat} {b : List UInt8} {a af : Int} {p : Nat} {ls : List (List UInt8)} {sz : Nat} (w : World) (hT : Wk lo gx A n c b a af p ls sz w) (hlo : lo ≤ w.heap.size) {gr : Nat} {Ar : Option Addr} {nr cr : Nat} {t : List UInt8} (hr : w.heap[gr]? = some (.cells #[.slice Ar nr cr, .bool false] 106 (0, 0))) (rest : Sl w Ar nr cr t) (avr : Av Ar nr gr) (hgr : lo ≤ gr) (k : Nat) (hk1 : 1 ≤ k) (hk2 : k ≤ 63) (ht : t.length < k) : Calls Try.prog 77 #[.pointer (some ⟨gx, 0, none⟩), .pointer (some ⟨gr, 0, none⟩), .int .i64 (k : Int)] w fun e w' => e = .returned (.int .i64 3) ∧ Below lo w w' := by
 obtain ⟨m, L, cl, hwk, rlw, owk, sb, BLB⟩ := hT
 have rl := (owk_sle (by decide) stf_len rlw).1
 have of_rl_wk := ofs_type rlw hwk (by decide)
 have av_rl_wk := owk_av rlw of_rl_wk
 have av_sb_wk := BLB.av owk
 have rllo := Nat.le_refl lo
 have lz_rl := hlo
 have or := hgr
 have d_wk_r := types_ne hwk hr (by decide)
 have av_sb_r := BLB.av hgr
 have of_rl_r := ofs_type rlw hr (by decide)
 have av_rl_r := owk_av rlw of_rl_r
 skip
 have bel := Below.refl lo w
 go_enter Try.func77, Try.ntmps77
 go_wp2_with fail
 with_reducible refine (rd_bytes_no k _ _ _ _ _ _ _ hr rest (by omega)).mono ?_
 rintro e w1 ⟨Ab_, cb_, A0, n0, c0, rfl, hq, sq, uq, b1⟩
 replace sb := sb.away av_sb_r b1
 replace rl := rl.away av_rl_r b1
 replace rlw := owk_off rlw of_rl_r b1
 replace lz_rl := Nat.le_trans lz_rl b1.size
 replace hwk := blk_a hwk b1 d_wk_r
 replace bel := below_grown bel b1 or (Nat.le_trans hlo bel.size)
 clear b1
 clear hr rest
 have hr := hq
 have rest := sq
 clear hq sq
 have av0_rest_r := avr.sub uq
 clear uq
 have R11 := fun W => conv_zero Ab_ cb_ W
 go_wp2_with fail
 clear R11
 with_reducible refine (rd_short _ _ _ _ _ _ _ hr rest).mono ?_
 rintro e _ ⟨rfl, rfl⟩
 go_wp2_with fail
 go_ret
 exact ⟨rfl, bel⟩
theorem rd_u8z (g : Nat) (A : Option Addr) (n c : Nat) (w : World) {s : Bool} (h : w.heap[g]? = some (.cells #[.slice A n c, .bool s] 106 (0, 0))) (hs : Sl w A n c []) :
  Calls Try.prog 74 #[.pointer (some ⟨g, 0, none⟩)] w fun e w' => ∃ A' n' c', e = .returned (.int .i64 0) ∧ w'.heap[g]? = some (.cells #[.slice A' n' c', .bool true] 106 (0, 0)) ∧ Sl w' A' n' c' [] ∧ Sub A' n' A n ∧ w.grownBy w' (some g) := by
 refine (u8_no g [] s w ⟨A, n, c, h, hs⟩ (by simp)).mono ?_
 rintro e w' ⟨rfl, h1, h3⟩
 obtain ⟨A', n', c', h4, h5, h6⟩ := rd_out (A := A) (n := n) rfl h1
 exact ⟨A', n', c', rfl, h4, h5, h6, h3⟩
theorem lead_or (c d : UInt8) (x y : Int) (hx : (c.toNat : Int) = x) (hy : (d.toNat : Int) = y) (h : 192 ≤ c.toNat) : bits .or .i64 ((x - 192) * 256) y = (leadTo c d : Int) := by
 subst hx; subst hy
 have h1 := or_i64 (c.toNat - 192) d.toNat (by have := c.toNat_lt; omega) d.toNat_lt
 rw [show (((c.toNat - 192 : Nat) : Int)) = (c.toNat : Int) - 192 by omega] at h1
 exact h1
set_option linter.unusedVariables false in
set_option linter.unusedSimpArgs false in
set_option maxRecDepth 100000 in
set_option maxHeartbeats 16000000 in
theorem wptr_half {lo gx : Nat} {A : Option Addr} {n c : Nat} {b : List UInt8} {a af : Int} {p : Nat} {ls : List (List UInt8)} {sz : Nat} (w : World) (hT : Wk lo gx A n c b a af p ls sz w) (hlo : lo ≤ w.heap.size) {gr : Nat} {Ar : Option Addr} {nr cr : Nat} {t : List UInt8} (hr : w.heap[gr]? = some (.cells #[.slice Ar nr cr, .bool false] 106 (0, 0))) (rest : Sl w Ar nr cr t) (avr : Av Ar nr gr) (hgr : lo ≤ gr) (cc : UInt8) (x : Int) (hx0 : (cc.toNat : Int) = x) (hc : 192 ≤ cc.toNat) (ht : t = []) : Calls Try.prog 78 #[.pointer (some ⟨gx, 0, none⟩), .pointer (some ⟨gr, 0, none⟩), .int .i64 x] w fun e w' => e = .returned (.int .i64 3) ∧ Below lo w w' := by
 subst ht
 obtain ⟨m, L, cl, hwk, rlw, owk, sb, BLB⟩ := hT
 have rl := (owk_sle (by decide) stf_len rlw).1
 have of_rl_wk := ofs_type rlw hwk (by decide)
 have av_rl_wk := owk_av rlw of_rl_wk
 have av_sb_wk := BLB.av owk
 have rllo := Nat.le_refl lo
 have lz_rl := hlo
 have or := hgr
 have d_wk_r := types_ne hwk hr (by decide)
 have av_sb_r := BLB.av hgr
 have of_rl_r := ofs_type rlw hr (by decide)
 have av_rl_r := owk_av rlw of_rl_r
 have HX := Lib.hid hx0
 have x0 : 192 ≤ x := by omega
 have x1 : x < 256 := by have h_ := cc.toNat_lt; omega
 clear hx0
 have hor : ∀ W, (binOp .or 3 (.int .i64 ((x - 192) * 256)) (.int .i64 0)).run Try.prog W = .ok (.int .i64 (bits .or .i64 ((x - 192) * 256) 0)) W := fun W => rfl
 have bel := Below.refl lo w
 go_enter Try.func78, Try.ntmps78
 go_wp2_with fail
 with_reducible refine (rd_u8z _ _ _ _ _ hr rest).mono ?_
 rintro e w1 ⟨A0, n0, c0, rfl, hq, sq, uq, b1⟩
 replace sb := sb.away av_sb_r b1
 replace rl := rl.away av_rl_r b1
 replace rlw := owk_off rlw of_rl_r b1
 replace lz_rl := Nat.le_trans lz_rl b1.size
 replace hwk := blk_a hwk b1 d_wk_r
 replace bel := below_grown bel b1 or (Nat.le_trans hlo bel.size)
 clear b1
 clear hr rest
 have hr := hq
 have rest := sq
 clear hq sq
 have av0_rest_r := avr.sub uq
 clear uq
 go_wp2_with fail
 with_reducible refine (rd_short _ _ _ _ _ _ _ hr rest).mono ?_
 rintro e _ ⟨rfl, rfl⟩
 go_wp2_with fail
 go_ret
 exact ⟨rfl, bel⟩
set_option linter.unusedVariables false in
set_option linter.unusedSimpArgs false in
set_option maxRecDepth 100000 in
set_option maxHeartbeats 16000000 in
theorem wptr_ok {lo gx : Nat} {A : Option Addr} {n c : Nat} {b : List UInt8} {a af : Int} {p : Nat} {ls : List (List UInt8)} {sz : Nat} (w : World) (af2 : Int) (hT : Wk lo gx A n c b a af p ls sz w) (hlo : lo ≤ w.heap.size) {gr : Nat} {Ar : Option Addr} {nr cr : Nat} {t : List UInt8} (hr : w.heap[gr]? = some (.cells #[.slice Ar nr cr, .bool false] 106 (0, 0))) (rest : Sl w Ar nr cr t) (avr : Av Ar nr gr) (hgr : lo ≤ gr) (cc : UInt8) (x : Int) (hx0 : (cc.toNat : Int) = x) (hc : 192 ≤ cc.toNat) (d : UInt8) (r : List UInt8) (ht : t = d :: r) (h1 : (leadTo cc d : Int) < a) (h2 : p < 64) (ha1 : a ≤ 1000000) (haf : (if p = 0 then a + 2 else af) = af2) : Calls Try.prog 78 #[.pointer (some ⟨gx, 0, none⟩), .pointer (some ⟨gr, 0, none⟩), .int .i64 x] w fun e w' => e = .returned (.int .i64 0) ∧ Wk lo gx A n c b ((leadTo cc d : Int)) (af2) (p + 1) (ls) (sz) w' ∧ Below lo w w' := by
 subst ht
 obtain ⟨m, L, cl, hwk, rlw, owk, sb, BLB⟩ := hT
 have rl := (owk_sle (by decide) stf_len rlw).1
 have of_rl_wk := ofs_type rlw hwk (by decide)
 have av_rl_wk := owk_av rlw of_rl_wk
 have av_sb_wk := BLB.av owk
 have rllo := Nat.le_refl lo
 have lz_rl := hlo
 have or := hgr
 have d_wk_r := types_ne hwk hr (by decide)
 have av_sb_r := BLB.av hgr
 have of_rl_r := ofs_type rlw hr (by decide)
 have av_rl_r := owk_av rlw of_rl_r
 have HX := Lib.hid hx0
 have x0 : 192 ≤ x := by omega
 have x1 : x < 256 := by have h_ := cc.toNat_lt; omega
 clear hx0
 obtain ⟨y, HY_⟩ : ∃ u_, (d.toNat : Int) = u_ := ⟨_, rfl⟩
 have HY := Lib.hid HY_
 clear HY_
 have y0 : 0 ≤ y := by have h_ := HY.out; omega
 have y1 : y < 256 := by have h_ := HY.out; have h1_ := d.toNat_lt; omega
 obtain ⟨tq, HTO_⟩ : ∃ u_, leadTo cc d = u_ := ⟨_, rfl⟩
 have HTO := Lib.hid HTO_
 clear HTO_
 have hor : bits .or .i64 ((x - 192) * 256) y = (tq : Int) := by rw [lead_or cc d x y HX.out HY.out hc, HTO.out]
 have t0 : (0 : Int) ≤ tq := by omega
 have t1 : decide (a ≤ (tq : Int)) = false := decide_eq_false (by have h_ := HTO.out; omega)
 have p0 : (0 : Int) ≤ p := by omega
 have p1 : decide ((64 : Int) ≤ p) = false := decide_eq_false (by omega)
 have p2 : IntKind.i64.wrap ((p : Int) + 1) = (p : Int) + 1 := IntWalk.i64_in _ (by omega)
 have HPC : Hid ((p : Int) + 1 = ((p + 1 : Nat) : Int)) := Lib.hid (by omega)
 have ha0 : 0 ≤ a := by have h_ := HTO.out; omega
 have bel := Below.refl lo w
 go_enter Try.func78, Try.ntmps78
 go_wp2_with fail
 with_reducible refine (rd_u8c _ _ _ _ _ _ _ _ hr rest).mono ?_
 rintro e w1 ⟨A0, n0, c0, rfl, hq, sq, uq, b1⟩
 replace sb := sb.away av_sb_r b1
 replace rl := rl.away av_rl_r b1
 replace rlw := owk_off rlw of_rl_r b1
 replace lz_rl := Nat.le_trans lz_rl b1.size
 replace hwk := blk_a hwk b1 d_wk_r
 replace bel := below_grown bel b1 or (Nat.le_trans hlo bel.size)
 clear b1
 clear hr rest
 have hr := hq
 have rest := sq
 clear hq sq
 have av0_rest_r := avr.sub uq
 clear uq
 rw [HY.out]
 go_wp2_with fail
 with_reducible refine (rd_short _ _ _ _ _ _ _ hr rest).mono ?_
 rintro e _ ⟨rfl, rfl⟩
 have R20 := cell_lit hwk 1 _ rfl
 have R26 := cell_lit hwk 3 _ rfl
 go_wp2_with fail
 clear R20 R26
 have hT9 : Wk lo gx A n c b a af p ls sz w1 := ⟨_, _, _, hwk, rlw, owk, sb, BLB⟩
 with_reducible refine (wpass_any _ 2 af2 hT9 (Nat.le_trans hlo bel.size) (by omega) ⟨ha0, ha1⟩ haf).mono ?_
 rintro e w2 ⟨rfl, hT_, b2⟩
 replace bel := bel.trans b2
 clear b2 sb rl rlw lz_rl rest hwk hr
 obtain ⟨m2, L2, cl2, hwk, rlw, owk2, sb, BLB2⟩ := hT_
 have rl := (owk_sle (by decide) stf_len rlw).1
 have of_rl_wk := ofs_type rlw hwk (by decide)
 have av_rl_wk := owk_av rlw of_rl_wk
 have lz_rl := Nat.le_trans hlo bel.size
 have R34 := cell_lit hwk 3 _ rfl
 go_wp2_with (first | ((with_reducible show wpList _ _ _ (⟨none, Op.store _ (.tmp 37) _, _, _, _, _⟩ :: _) _ _); refine wpList_store_part rfl 3 (.tmp 37) (.tmp 35) rfl gx 3 rfl [.int .i64 ((p : Int) + 1)] rfl [.slice A n c, .int .i64 (a + 2), .int .i64 af2, .int .i64 (p : Int), .slice L2 m2 cl2, .int .i64 (sz : Int)] 121 hwk (by simp) [.slice A n c, .int .i64 (a + 2), .int .i64 af2, .int .i64 ((p : Int) + 1), .slice L2 m2 cl2, .int .i64 (sz : Int)] rfl (by kernel_rfl) (by rfl) ?_; intro w3 hq gr; replace sb := sb.away av_sb_wk gr; replace rl := rl.away av_rl_wk gr; replace rlw := owk_off rlw of_rl_wk gr; replace lz_rl := Nat.le_trans lz_rl gr.size; replace bel := below_grown bel gr owk (Nat.le_trans hlo bel.size); clear hwk; have hwk := hq; clear hq gr) | ((with_reducible show wpList _ _ _ (⟨none, Op.store _ (.tmp 41) _, _, _, _, _⟩ :: _) _ _); refine wpList_store_part rfl 3 (.tmp 41) (.tmp 39) rfl gx 1 rfl [.int .i64 (tq : Int)] rfl [.slice A n c, .int .i64 (a + 2), .int .i64 af2, .int .i64 ((p : Int) + 1), .slice L2 m2 cl2, .int .i64 (sz : Int)] 121 hwk (by simp) [.slice A n c, .int .i64 (tq : Int), .int .i64 af2, .int .i64 ((p : Int) + 1), .slice L2 m2 cl2, .int .i64 (sz : Int)] rfl (by kernel_rfl) (by rfl) ?_; intro w4 hq gr; replace sb := sb.away av_sb_wk gr; replace rl := rl.away av_rl_wk gr; replace rlw := owk_off rlw of_rl_wk gr; replace lz_rl := Nat.le_trans lz_rl gr.size; replace bel := below_grown bel gr owk (Nat.le_trans hlo bel.size); clear hwk; have hwk := hq; clear hq gr))
 try clear R34
 go_ret
 exact ⟨rfl, ⟨_, _, _, (by rw [← HPC.out, HTO.out]; exact hwk), rlw, owk, sb, BLB⟩, bel⟩
set_option linter.unusedVariables false in
set_option linter.unusedSimpArgs false in
set_option maxRecDepth 100000 in
set_option maxHeartbeats 16000000 in
theorem wptr_far {lo gx : Nat} {A : Option Addr} {n c : Nat} {b : List UInt8} {a af : Int} {p : Nat} {ls : List (List UInt8)} {sz : Nat} (w : World) (hT : Wk lo gx A n c b a af p ls sz w) (hlo : lo ≤ w.heap.size) {gr : Nat} {Ar : Option Addr} {nr cr : Nat} {t : List UInt8} (hr : w.heap[gr]? = some (.cells #[.slice Ar nr cr, .bool false] 106 (0, 0))) (rest : Sl w Ar nr cr t) (avr : Av Ar nr gr) (hgr : lo ≤ gr) (cc : UInt8) (x : Int) (hx0 : (cc.toNat : Int) = x) (hc : 192 ≤ cc.toNat) (d : UInt8) (r : List UInt8) (ht : t = d :: r) (h1 : a ≤ (leadTo cc d : Int)) : Calls Try.prog 78 #[.pointer (some ⟨gx, 0, none⟩), .pointer (some ⟨gr, 0, none⟩), .int .i64 x] w fun e w' => e = .returned (.int .i64 4) ∧ Below lo w w' := by
 subst ht
 obtain ⟨m, L, cl, hwk, rlw, owk, sb, BLB⟩ := hT
 have rl := (owk_sle (by decide) stf_len rlw).1
 have of_rl_wk := ofs_type rlw hwk (by decide)
 have av_rl_wk := owk_av rlw of_rl_wk
 have av_sb_wk := BLB.av owk
 have rllo := Nat.le_refl lo
 have lz_rl := hlo
 have or := hgr
 have d_wk_r := types_ne hwk hr (by decide)
 have av_sb_r := BLB.av hgr
 have of_rl_r := ofs_type rlw hr (by decide)
 have av_rl_r := owk_av rlw of_rl_r
 have HX := Lib.hid hx0
 have x0 : 192 ≤ x := by omega
 have x1 : x < 256 := by have h_ := cc.toNat_lt; omega
 clear hx0
 obtain ⟨y, HY_⟩ : ∃ u_, (d.toNat : Int) = u_ := ⟨_, rfl⟩
 have HY := Lib.hid HY_
 clear HY_
 have y0 : 0 ≤ y := by have h_ := HY.out; omega
 have y1 : y < 256 := by have h_ := HY.out; have h1_ := d.toNat_lt; omega
 obtain ⟨tq, HTO_⟩ : ∃ u_, leadTo cc d = u_ := ⟨_, rfl⟩
 have HTO := Lib.hid HTO_
 clear HTO_
 have hor : bits .or .i64 ((x - 192) * 256) y = (tq : Int) := by rw [lead_or cc d x y HX.out HY.out hc, HTO.out]
 have t0 : (0 : Int) ≤ tq := by omega
 have t1 : a ≤ (tq : Int) := by have h_ := HTO.out; omega
 have bel := Below.refl lo w
 go_enter Try.func78, Try.ntmps78
 go_wp2_with fail
 with_reducible refine (rd_u8c _ _ _ _ _ _ _ _ hr rest).mono ?_
 rintro e w1 ⟨A0, n0, c0, rfl, hq, sq, uq, b1⟩
 replace sb := sb.away av_sb_r b1
 replace rl := rl.away av_rl_r b1
 replace rlw := owk_off rlw of_rl_r b1
 replace lz_rl := Nat.le_trans lz_rl b1.size
 replace hwk := blk_a hwk b1 d_wk_r
 replace bel := below_grown bel b1 or (Nat.le_trans hlo bel.size)
 clear b1
 clear hr rest
 have hr := hq
 have rest := sq
 clear hq sq
 have av0_rest_r := avr.sub uq
 clear uq
 rw [HY.out]
 go_wp2_with fail
 with_reducible refine (rd_short _ _ _ _ _ _ _ hr rest).mono ?_
 rintro e _ ⟨rfl, rfl⟩
 have R20 := cell_lit hwk 1 _ rfl
 go_wp2_with fail
 clear R20
 go_ret
 exact ⟨rfl, bel⟩
set_option linter.unusedVariables false in
set_option linter.unusedSimpArgs false in
set_option maxRecDepth 100000 in
set_option maxHeartbeats 16000000 in
theorem wptr_many {lo gx : Nat} {A : Option Addr} {n c : Nat} {b : List UInt8} {a af : Int} {p : Nat} {ls : List (List UInt8)} {sz : Nat} (w : World) (hT : Wk lo gx A n c b a af p ls sz w) (hlo : lo ≤ w.heap.size) {gr : Nat} {Ar : Option Addr} {nr cr : Nat} {t : List UInt8} (hr : w.heap[gr]? = some (.cells #[.slice Ar nr cr, .bool false] 106 (0, 0))) (rest : Sl w Ar nr cr t) (avr : Av Ar nr gr) (hgr : lo ≤ gr) (cc : UInt8) (x : Int) (hx0 : (cc.toNat : Int) = x) (hc : 192 ≤ cc.toNat) (d : UInt8) (r : List UInt8) (ht : t = d :: r) (h1 : (leadTo cc d : Int) < a) (h2 : 64 ≤ p) : Calls Try.prog 78 #[.pointer (some ⟨gx, 0, none⟩), .pointer (some ⟨gr, 0, none⟩), .int .i64 x] w fun e w' => e = .returned (.int .i64 4) ∧ Below lo w w' := by
 subst ht
 obtain ⟨m, L, cl, hwk, rlw, owk, sb, BLB⟩ := hT
 have rl := (owk_sle (by decide) stf_len rlw).1
 have of_rl_wk := ofs_type rlw hwk (by decide)
 have av_rl_wk := owk_av rlw of_rl_wk
 have av_sb_wk := BLB.av owk
 have rllo := Nat.le_refl lo
 have lz_rl := hlo
 have or := hgr
 have d_wk_r := types_ne hwk hr (by decide)
 have av_sb_r := BLB.av hgr
 have of_rl_r := ofs_type rlw hr (by decide)
 have av_rl_r := owk_av rlw of_rl_r
 have HX := Lib.hid hx0
 have x0 : 192 ≤ x := by omega
 have x1 : x < 256 := by have h_ := cc.toNat_lt; omega
 clear hx0
 obtain ⟨y, HY_⟩ : ∃ u_, (d.toNat : Int) = u_ := ⟨_, rfl⟩
 have HY := Lib.hid HY_
 clear HY_
 have y0 : 0 ≤ y := by have h_ := HY.out; omega
 have y1 : y < 256 := by have h_ := HY.out; have h1_ := d.toNat_lt; omega
 obtain ⟨tq, HTO_⟩ : ∃ u_, leadTo cc d = u_ := ⟨_, rfl⟩
 have HTO := Lib.hid HTO_
 clear HTO_
 have hor : bits .or .i64 ((x - 192) * 256) y = (tq : Int) := by rw [lead_or cc d x y HX.out HY.out hc, HTO.out]
 have t0 : (0 : Int) ≤ tq := by omega
 have t1 : decide (a ≤ (tq : Int)) = false := decide_eq_false (by have h_ := HTO.out; omega)
 have p1 : (64 : Int) ≤ p := by omega
 have bel := Below.refl lo w
 go_enter Try.func78, Try.ntmps78
 go_wp2_with fail
 with_reducible refine (rd_u8c _ _ _ _ _ _ _ _ hr rest).mono ?_
 rintro e w1 ⟨A0, n0, c0, rfl, hq, sq, uq, b1⟩
 replace sb := sb.away av_sb_r b1
 replace rl := rl.away av_rl_r b1
 replace rlw := owk_off rlw of_rl_r b1
 replace lz_rl := Nat.le_trans lz_rl b1.size
 replace hwk := blk_a hwk b1 d_wk_r
 replace bel := below_grown bel b1 or (Nat.le_trans hlo bel.size)
 clear b1
 clear hr rest
 have hr := hq
 have rest := sq
 clear hq sq
 have av0_rest_r := avr.sub uq
 clear uq
 rw [HY.out]
 go_wp2_with fail
 with_reducible refine (rd_short _ _ _ _ _ _ _ hr rest).mono ?_
 rintro e _ ⟨rfl, rfl⟩
 have R20 := cell_lit hwk 1 _ rfl
 have R26 := cell_lit hwk 3 _ rfl
 go_wp2_with fail
 clear R20 R26
 go_ret
 exact ⟨rfl, bel⟩
theorem Wk.below {lo gx : Nat} {A : Option Addr} {n c : Nat} {b : List UInt8} {a af : Int} {p : Nat} {ls : List (List UInt8)} {sz : Nat} {w w' : World} (h : Wk lo gx A n c b a af p ls sz w) (hb : Below w.heap.size w w') : Wk lo gx A n c b a af p ls sz w' := by
 obtain ⟨m, L, cl, h1, h2, h3, h4, h5⟩ := h
 exact ⟨m, L, cl, blk_u h1 hb, owk_under h2 hb, h3, h4.below hb, h5⟩
theorem Wk.gr {lo gx gr : Nat} {A : Option Addr} {n c : Nat} {b : List UInt8} {a af : Int} {p : Nat} {ls : List (List UInt8)} {sz : Nat} {w w' : World} {x : Array Value} (h : Wk lo gx A n c b a af p ls sz w) (hr : w.heap[gr]? = some (.cells x 106 (0, 0))) (hg : lo ≤ gr) (g : w.grownBy w' (some gr)) : Wk lo gx A n c b a af p ls sz w' := by
 obtain ⟨m, L, cl, h1, h2, h3, h4, h5⟩ := h
 exact ⟨m, L, cl, blk_a h1 g (types_ne h1 hr (by decide)), owk_off h2 (ofs_type h2 hr (by decide)) g, h3, h4.away (h5.av hg) g, h5⟩
theorem rest_at {b : List UInt8} {i : Nat} {cc : UInt8} (h : b[i]? = some cc) : (b.drop i).take 64 = cc :: (b.drop (i + 1)).take 63 := by
 obtain ⟨hi, hx⟩ := List.getElem?_eq_some_iff.1 h
 rw [List.drop_eq_getElem_cons hi, hx]
 rfl
theorem rest_two {b : List UInt8} {i : Nat} {d : UInt8} (h : b[i + 1]? = some d) : ∃ r, (b.drop (i + 1)).take 63 = d :: r := by
 obtain ⟨hi, hx⟩ := List.getElem?_eq_some_iff.1 h
 rw [List.drop_eq_getElem_cons hi, hx]
 exact ⟨_, rfl⟩
set_option linter.unusedVariables false in
set_option linter.unusedSimpArgs false in
set_option maxRecDepth 100000 in
set_option maxHeartbeats 16000000 in
theorem wstep_neg {lo gx : Nat} {A : Option Addr} {n c : Nat} {b : List UInt8} {a af : Int} {p : Nat} {ls : List (List UInt8)} {sz : Nat} (w : World) (hT : Wk lo gx A n c b a af p ls sz w) (hlo : lo ≤ w.heap.size) (ha : a < 0) : Calls Try.prog 72 #[.pointer (some ⟨gx, 0, none⟩)] w fun e w' => e = .returned (.tuple #[.bool false, .int .i64 3]) ∧ Below lo w w' := by
 skip
 have bel := Below.refl lo w
 go_enter Try.func72, Try.ntmps72
 go_wp2_with fail
 with_reducible refine (wread_neg _ hT ha).mono ?_
 rintro e w1 ⟨gr, Ar, nr, cr, rfl, ge, hh, rest, frr, avr, b1⟩
 have or := Nat.le_trans (Nat.le_trans hlo bel.size) ge
 replace hT := hT.below b1
 replace bel := bel.trans (b1.mono (Nat.le_trans hlo bel.size))
 have hr := hh
 clear hh ge b1
 replace rest : Sl w1 (Ar) (nr) (cr) ([]) := rest
 go_wp2_with fail
 with_reducible refine (rd_u8z _ _ _ _ _ hr rest).mono ?_
 rintro e w2 ⟨A1, n1, c1, rfl, hq, sq, uq, b2⟩
 replace hT := hT.gr hr or b2
 replace bel := below_grown bel b2 or (Nat.le_trans hlo bel.size)
 clear b2
 clear hr rest
 have hr := hq
 have rest := sq
 clear hq sq
 have av1_rest_r := avr.sub uq
 clear uq
 go_wp2_with fail
 with_reducible refine (rd_short _ _ _ _ _ _ _ hr rest).mono ?_
 rintro e _ ⟨rfl, rfl⟩
 go_wp2_with fail
 exact bodyPost_ret (v := .tuple #[.bool false, .int .i64 3]) (by simp [results, Try.results72, go_sem]) rfl ⟨rfl, bel⟩
set_option linter.unusedVariables false in
set_option linter.unusedSimpArgs false in
set_option maxRecDepth 100000 in
set_option maxHeartbeats 16000000 in
theorem wstep_out {lo gx : Nat} {A : Option Addr} {n c : Nat} {b : List UInt8} {a af : Int} {p : Nat} {ls : List (List UInt8)} {sz : Nat} (w : World) (hT : Wk lo gx A n c b a af p ls sz w) (hlo : lo ≤ w.heap.size) (ha : 0 ≤ a) (hn : (n : Int) ≤ a) : Calls Try.prog 72 #[.pointer (some ⟨gx, 0, none⟩)] w fun e w' => e = .returned (.tuple #[.bool false, .int .i64 3]) ∧ Below lo w w' := by
 skip
 have bel := Below.refl lo w
 go_enter Try.func72, Try.ntmps72
 go_wp2_with fail
 with_reducible refine (wread_end _ hT ha hn).mono ?_
 rintro e w1 ⟨gr, Ar, nr, cr, rfl, ge, hh, rest, frr, avr, b1⟩
 have or := Nat.le_trans (Nat.le_trans hlo bel.size) ge
 replace hT := hT.below b1
 replace bel := bel.trans (b1.mono (Nat.le_trans hlo bel.size))
 have hr := hh
 clear hh ge b1
 replace rest : Sl w1 (Ar) (nr) (cr) ([]) := rest
 go_wp2_with fail
 with_reducible refine (rd_u8z _ _ _ _ _ hr rest).mono ?_
 rintro e w2 ⟨A1, n1, c1, rfl, hq, sq, uq, b2⟩
 replace hT := hT.gr hr or b2
 replace bel := below_grown bel b2 or (Nat.le_trans hlo bel.size)
 clear b2
 clear hr rest
 have hr := hq
 have rest := sq
 clear hq sq
 have av1_rest_r := avr.sub uq
 clear uq
 go_wp2_with fail
 with_reducible refine (rd_short _ _ _ _ _ _ _ hr rest).mono ?_
 rintro e _ ⟨rfl, rfl⟩
 go_wp2_with fail
 exact bodyPost_ret (v := .tuple #[.bool false, .int .i64 3]) (by simp [results, Try.results72, go_sem]) rfl ⟨rfl, bel⟩
set_option linter.unusedVariables false in
set_option linter.unusedSimpArgs false in
set_option maxRecDepth 100000 in
set_option maxHeartbeats 16000000 in
theorem wstep_end {lo gx : Nat} {A : Option Addr} {n c : Nat} {b : List UInt8} {i : Nat} {af : Int} {p : Nat} {ls : List (List UInt8)} {sz : Nat} (w : World) (cc : UInt8) (x : Int) (hx : (cc.toNat : Int) = x) (hT : Wk lo gx A n c b (i : Int) af p ls sz w) (hlo : lo ≤ w.heap.size) (hb : b[i]? = some cc) (hin : i < n) (hnb : n ≤ 100000) (af2 : Int) (h0 : x = 0) (haf : (if p = 0 then (i : Int) + 1 else af) = af2) : Calls Try.prog 72 #[.pointer (some ⟨gx, 0, none⟩)] w fun e w' => e = .returned (.tuple #[.bool true, .int .i64 0]) ∧ Wk lo gx A n c b ((i : Int) + 1) (af2) (p) (ls) (sz) w' ∧ Below lo w w' := by
 have HRE := Lib.hid (rest_at hb)
 have HX := Lib.hid hx
 have i0 : (0 : Int) ≤ i := by omega
 clear hb hx
 have e0 : (x == 0) = true := by rw [h0]; rfl
 clear h0
 have bel := Below.refl lo w
 go_enter Try.func72, Try.ntmps72
 go_wp2_with fail
 with_reducible refine (wread_i _ hT hin hnb _ HRE.out).mono ?_
 rintro e w1 ⟨gr, Ar, nr, cr, rfl, ge, hh, rest, frr, avr, b1⟩
 have or := Nat.le_trans (Nat.le_trans hlo bel.size) ge
 replace hT := hT.below b1
 replace bel := bel.trans (b1.mono (Nat.le_trans hlo bel.size))
 have hr := hh
 clear hh ge b1
 replace rest : Sl w1 (Ar) (nr) (cr) (cc :: (b.drop (i + 1)).take 63) := rest
 go_wp2_with fail
 with_reducible refine (rd_u8c _ _ _ _ _ _ _ _ hr rest).mono ?_
 rintro e w2 ⟨A1, n1, c1, rfl, hq, sq, uq, b2⟩
 replace hT := hT.gr hr or b2
 replace bel := below_grown bel b2 or (Nat.le_trans hlo bel.size)
 clear b2
 clear hr rest
 have hr := hq
 have rest := sq
 clear hq sq
 have av1_rest_r := avr.sub uq
 clear uq
 rw [HX.out]
 go_wp2_with fail
 with_reducible refine (rd_short _ _ _ _ _ _ _ hr rest).mono ?_
 rintro e _ ⟨rfl, rfl⟩
 go_wp2_with fail
 with_reducible refine (wpass_any _ 1 af2 hT (Nat.le_trans hlo bel.size) (by omega) (by omega) haf).mono ?_
 rintro e w3 ⟨rfl, hT_, b3⟩
 replace bel := bel.trans b3
 clear b3 rest hr hT
 have hT := hT_
 clear hT_
 go_wp2_with fail
 exact bodyPost_ret (v := .tuple #[.bool true, .int .i64 0]) (by simp [results, Try.results72, go_sem]) rfl ⟨rfl, hT, bel⟩
set_option linter.unusedVariables false in
set_option linter.unusedSimpArgs false in
set_option maxRecDepth 100000 in
set_option maxHeartbeats 16000000 in
theorem wstep_form {lo gx : Nat} {A : Option Addr} {n c : Nat} {b : List UInt8} {i : Nat} {af : Int} {p : Nat} {ls : List (List UInt8)} {sz : Nat} (w : World) (cc : UInt8) (x : Int) (hx : (cc.toNat : Int) = x) (hT : Wk lo gx A n c b (i : Int) af p ls sz w) (hlo : lo ≤ w.heap.size) (hb : b[i]? = some cc) (hin : i < n) (hnb : n ≤ 100000) (h0 : x ≠ 0) (h1 : ¬ x ≤ 63) (h2 : ¬ 192 ≤ x) : Calls Try.prog 72 #[.pointer (some ⟨gx, 0, none⟩)] w fun e w' => e = .returned (.tuple #[.bool false, .int .i64 4]) ∧ Below lo w w' := by
 have HRE := Lib.hid (rest_at hb)
 have HX := Lib.hid hx
 have i0 : (0 : Int) ≤ i := by omega
 clear hb hx
 have e0 : (x == 0) = false := by simpa using h0
 have e1 : decide (x ≤ 63) = false := decide_eq_false h1
 have e2 : decide (192 ≤ x) = false := decide_eq_false h2
 clear h0 h1 h2
 have bel := Below.refl lo w
 go_enter Try.func72, Try.ntmps72
 go_wp2_with fail
 with_reducible refine (wread_i _ hT hin hnb _ HRE.out).mono ?_
 rintro e w1 ⟨gr, Ar, nr, cr, rfl, ge, hh, rest, frr, avr, b1⟩
 have or := Nat.le_trans (Nat.le_trans hlo bel.size) ge
 replace hT := hT.below b1
 replace bel := bel.trans (b1.mono (Nat.le_trans hlo bel.size))
 have hr := hh
 clear hh ge b1
 replace rest : Sl w1 (Ar) (nr) (cr) (cc :: (b.drop (i + 1)).take 63) := rest
 go_wp2_with fail
 with_reducible refine (rd_u8c _ _ _ _ _ _ _ _ hr rest).mono ?_
 rintro e w2 ⟨A1, n1, c1, rfl, hq, sq, uq, b2⟩
 replace hT := hT.gr hr or b2
 replace bel := below_grown bel b2 or (Nat.le_trans hlo bel.size)
 clear b2
 clear hr rest
 have hr := hq
 have rest := sq
 clear hq sq
 have av1_rest_r := avr.sub uq
 clear uq
 rw [HX.out]
 go_wp2_with fail
 with_reducible refine (rd_short _ _ _ _ _ _ _ hr rest).mono ?_
 rintro e _ ⟨rfl, rfl⟩
 go_wp2_with fail
 exact bodyPost_ret (v := .tuple #[.bool false, .int .i64 4]) (by simp [results, Try.results72, go_sem]) rfl ⟨rfl, bel⟩
set_option linter.unusedVariables false in
set_option linter.unusedSimpArgs false in
set_option maxRecDepth 100000 in
set_option maxHeartbeats 16000000 in
theorem wstep_label {lo gx : Nat} {A : Option Addr} {n c : Nat} {b : List UInt8} {i : Nat} {af : Int} {p : Nat} {ls : List (List UInt8)} {sz : Nat} (w : World) (cc : UInt8) (x : Int) (hx : (cc.toNat : Int) = x) (hT : Wk lo gx A n c b (i : Int) af p ls sz w) (hlo : lo ≤ w.heap.size) (hb : b[i]? = some cc) (hin : i < n) (hnb : n ≤ 100000) (af2 : Int) (h0 : x ≠ 0) (h1 : x ≤ 63) (hx1 : 0 ≤ x) (h2 : (i : Int) + (1 + x) ≤ n) (h3 : (sz : Int) + (1 + x) ≤ 255) (hls : ls.length ≤ 1000) (haf : (if p = 0 then (i : Int) + (1 + x) else af) = af2) : Calls Try.prog 72 #[.pointer (some ⟨gx, 0, none⟩)] w fun e w' => e = .returned (.tuple #[.bool false, .int .i64 0]) ∧ Wk lo gx A n c b ((i : Int) + (1 + x)) (af2) (p) (ls ++ [(b.drop (i + 1)).take x.toNat]) (sz + (1 + x.toNat)) w' ∧ Below lo w w' := by
 have HRE := Lib.hid (rest_at hb)
 have HX := Lib.hid hx
 have i0 : (0 : Int) ≤ i := by omega
 clear hb hx
 obtain ⟨k, rfl⟩ : ∃ k : Nat, x = (k : Int) := ⟨x.toNat, by omega⟩
 have k1 : 1 ≤ k := by omega
 have k2 : k ≤ 63 := by omega
 have e0 : ((k : Int) == 0) = false := by simpa using h0
 have e00 : (k == 0) = false := by rw [beq_eq_false_iff_ne]; omega
 have e1 : (k : Int) ≤ 63 := h1
 have HKC : Hid (cc.toNat = k) := Lib.hid (by have h_ := HX.out; omega)
 have HBL : Hid (b.length = n) := Lib.hid (by obtain ⟨_, _, _, _, _, _, h_, _⟩ := hT; exact h_.1)
 have HLT : Hid (((b.drop (i + 1)).take 63).length = min 63 (n - (i + 1))) := Lib.hid (by rw [List.length_take, List.length_drop, HBL.out])
 clear h0
 have bel := Below.refl lo w
 go_enter Try.func72, Try.ntmps72
 go_wp2_with fail
 with_reducible refine (wread_i _ hT hin hnb _ HRE.out).mono ?_
 rintro e w1 ⟨gr, Ar, nr, cr, rfl, ge, hh, rest, frr, avr, b1⟩
 have or := Nat.le_trans (Nat.le_trans hlo bel.size) ge
 replace hT := hT.below b1
 replace bel := bel.trans (b1.mono (Nat.le_trans hlo bel.size))
 have hr := hh
 clear hh ge b1
 replace rest : Sl w1 (Ar) (nr) (cr) (cc :: (b.drop (i + 1)).take 63) := rest
 go_wp2_with fail
 with_reducible refine (rd_u8c _ _ _ _ _ _ _ _ hr rest).mono ?_
 rintro e w2 ⟨A1, n1, c1, rfl, hq, sq, uq, b2⟩
 replace hT := hT.gr hr or b2
 replace bel := below_grown bel b2 or (Nat.le_trans hlo bel.size)
 clear b2
 clear hr rest
 have hr := hq
 have rest := sq
 clear hq sq
 have av1_rest_r := avr.sub uq
 clear uq
 rw [HX.out]
 go_wp2_with fail
 with_reducible refine (rd_short _ _ _ _ _ _ _ hr rest).mono ?_
 rintro e _ ⟨rfl, rfl⟩
 go_wp2_with fail
 with_reducible refine (wlabel_ok _ af2 hT (Nat.le_trans hlo bel.size) hr rest av1_rest_r or k k1 k2 (by have h_ := HLT.out; omega) (by omega) hls (by omega) (by omega) haf).mono ?_
 rintro e w3 ⟨rfl, hT_, b3⟩
 replace bel := bel.trans b3
 clear b3 rest hr hT
 have hT := hT_
 clear hT_
 go_wp2_with fail
 exact bodyPost_ret (v := .tuple #[.bool false, .int .i64 0]) (by simp [results, Try.results72, go_sem]) rfl ⟨rfl, (by rw [List.take_take, Nat.min_eq_left k2] at hT; rw [Int.toNat_natCast]; exact hT), bel⟩
set_option linter.unusedVariables false in
set_option linter.unusedSimpArgs false in
set_option maxRecDepth 100000 in
set_option maxHeartbeats 16000000 in
theorem wstep_long {lo gx : Nat} {A : Option Addr} {n c : Nat} {b : List UInt8} {i : Nat} {af : Int} {p : Nat} {ls : List (List UInt8)} {sz : Nat} (w : World) (cc : UInt8) (x : Int) (hx : (cc.toNat : Int) = x) (hT : Wk lo gx A n c b (i : Int) af p ls sz w) (hlo : lo ≤ w.heap.size) (hb : b[i]? = some cc) (hin : i < n) (hnb : n ≤ 100000) (h0 : x ≠ 0) (h1 : x ≤ 63) (hx1 : 0 ≤ x) (h2 : (i : Int) + (1 + x) ≤ n) (h3 : ¬ (sz : Int) + (1 + x) ≤ 255) (hsz : sz ≤ 255) : Calls Try.prog 72 #[.pointer (some ⟨gx, 0, none⟩)] w fun e w' => e = .returned (.tuple #[.bool false, .int .i64 4]) ∧ Below lo w w' := by
 have HRE := Lib.hid (rest_at hb)
 have HX := Lib.hid hx
 have i0 : (0 : Int) ≤ i := by omega
 clear hb hx
 obtain ⟨k, rfl⟩ : ∃ k : Nat, x = (k : Int) := ⟨x.toNat, by omega⟩
 have k1 : 1 ≤ k := by omega
 have k2 : k ≤ 63 := by omega
 have e0 : ((k : Int) == 0) = false := by simpa using h0
 have e00 : (k == 0) = false := by rw [beq_eq_false_iff_ne]; omega
 have e1 : (k : Int) ≤ 63 := h1
 have HKC : Hid (cc.toNat = k) := Lib.hid (by have h_ := HX.out; omega)
 have HBL : Hid (b.length = n) := Lib.hid (by obtain ⟨_, _, _, _, _, _, h_, _⟩ := hT; exact h_.1)
 have HLT : Hid (((b.drop (i + 1)).take 63).length = min 63 (n - (i + 1))) := Lib.hid (by rw [List.length_take, List.length_drop, HBL.out])
 clear h0
 have bel := Below.refl lo w
 go_enter Try.func72, Try.ntmps72
 go_wp2_with fail
 with_reducible refine (wread_i _ hT hin hnb _ HRE.out).mono ?_
 rintro e w1 ⟨gr, Ar, nr, cr, rfl, ge, hh, rest, frr, avr, b1⟩
 have or := Nat.le_trans (Nat.le_trans hlo bel.size) ge
 replace hT := hT.below b1
 replace bel := bel.trans (b1.mono (Nat.le_trans hlo bel.size))
 have hr := hh
 clear hh ge b1
 replace rest : Sl w1 (Ar) (nr) (cr) (cc :: (b.drop (i + 1)).take 63) := rest
 go_wp2_with fail
 with_reducible refine (rd_u8c _ _ _ _ _ _ _ _ hr rest).mono ?_
 rintro e w2 ⟨A1, n1, c1, rfl, hq, sq, uq, b2⟩
 replace hT := hT.gr hr or b2
 replace bel := below_grown bel b2 or (Nat.le_trans hlo bel.size)
 clear b2
 clear hr rest
 have hr := hq
 have rest := sq
 clear hq sq
 have av1_rest_r := avr.sub uq
 clear uq
 rw [HX.out]
 go_wp2_with fail
 with_reducible refine (rd_short _ _ _ _ _ _ _ hr rest).mono ?_
 rintro e _ ⟨rfl, rfl⟩
 go_wp2_with fail
 with_reducible refine (wlabel_long _ hT (Nat.le_trans hlo bel.size) hr rest av1_rest_r or k k1 k2 (by have h_ := HLT.out; omega) (by omega) hsz).mono ?_
 rintro e w3 ⟨rfl, b3⟩
 replace bel := bel.trans b3
 clear b3 rest hr hT
 go_wp2_with fail
 exact bodyPost_ret (v := .tuple #[.bool false, .int .i64 4]) (by simp [results, Try.results72, go_sem]) rfl ⟨rfl, bel⟩
set_option linter.unusedVariables false in
set_option linter.unusedSimpArgs false in
set_option maxRecDepth 100000 in
set_option maxHeartbeats 16000000 in
theorem wstep_cut {lo gx : Nat} {A : Option Addr} {n c : Nat} {b : List UInt8} {i : Nat} {af : Int} {p : Nat} {ls : List (List UInt8)} {sz : Nat} (w : World) (cc : UInt8) (x : Int) (hx : (cc.toNat : Int) = x) (hT : Wk lo gx A n c b (i : Int) af p ls sz w) (hlo : lo ≤ w.heap.size) (hb : b[i]? = some cc) (hin : i < n) (hnb : n ≤ 100000) (h0 : x ≠ 0) (h1 : x ≤ 63) (hx1 : 0 ≤ x) (h2 : ¬ (i : Int) + (1 + x) ≤ n) : Calls Try.prog 72 #[.pointer (some ⟨gx, 0, none⟩)] w fun e w' => e = .returned (.tuple #[.bool false, .int .i64 3]) ∧ Below lo w w' := by
 have HRE := Lib.hid (rest_at hb)
 have HX := Lib.hid hx
 have i0 : (0 : Int) ≤ i := by omega
 clear hb hx
 obtain ⟨k, rfl⟩ : ∃ k : Nat, x = (k : Int) := ⟨x.toNat, by omega⟩
 have k1 : 1 ≤ k := by omega
 have k2 : k ≤ 63 := by omega
 have e0 : ((k : Int) == 0) = false := by simpa using h0
 have e00 : (k == 0) = false := by rw [beq_eq_false_iff_ne]; omega
 have e1 : (k : Int) ≤ 63 := h1
 have HKC : Hid (cc.toNat = k) := Lib.hid (by have h_ := HX.out; omega)
 have HBL : Hid (b.length = n) := Lib.hid (by obtain ⟨_, _, _, _, _, _, h_, _⟩ := hT; exact h_.1)
 have HLT : Hid (((b.drop (i + 1)).take 63).length = min 63 (n - (i + 1))) := Lib.hid (by rw [List.length_take, List.length_drop, HBL.out])
 clear h0
 have bel := Below.refl lo w
 go_enter Try.func72, Try.ntmps72
 go_wp2_with fail
 with_reducible refine (wread_i _ hT hin hnb _ HRE.out).mono ?_
 rintro e w1 ⟨gr, Ar, nr, cr, rfl, ge, hh, rest, frr, avr, b1⟩
 have or := Nat.le_trans (Nat.le_trans hlo bel.size) ge
 replace hT := hT.below b1
 replace bel := bel.trans (b1.mono (Nat.le_trans hlo bel.size))
 have hr := hh
 clear hh ge b1
 replace rest : Sl w1 (Ar) (nr) (cr) (cc :: (b.drop (i + 1)).take 63) := rest
 go_wp2_with fail
 with_reducible refine (rd_u8c _ _ _ _ _ _ _ _ hr rest).mono ?_
 rintro e w2 ⟨A1, n1, c1, rfl, hq, sq, uq, b2⟩
 replace hT := hT.gr hr or b2
 replace bel := below_grown bel b2 or (Nat.le_trans hlo bel.size)
 clear b2
 clear hr rest
 have hr := hq
 have rest := sq
 clear hq sq
 have av1_rest_r := avr.sub uq
 clear uq
 rw [HX.out]
 go_wp2_with fail
 with_reducible refine (rd_short _ _ _ _ _ _ _ hr rest).mono ?_
 rintro e _ ⟨rfl, rfl⟩
 go_wp2_with fail
 with_reducible refine (wlabel_cut _ hT (Nat.le_trans hlo bel.size) hr rest av1_rest_r or k k1 k2 (by have h_ := HLT.out; omega)).mono ?_
 rintro e w3 ⟨rfl, b3⟩
 replace bel := bel.trans b3
 clear b3 rest hr hT
 go_wp2_with fail
 exact bodyPost_ret (v := .tuple #[.bool false, .int .i64 3]) (by simp [results, Try.results72, go_sem]) rfl ⟨rfl, bel⟩
set_option linter.unusedVariables false in
set_option linter.unusedSimpArgs false in
set_option maxRecDepth 100000 in
set_option maxHeartbeats 16000000 in
theorem wstep_half {lo gx : Nat} {A : Option Addr} {n c : Nat} {b : List UInt8} {i : Nat} {af : Int} {p : Nat} {ls : List (List UInt8)} {sz : Nat} (w : World) (cc : UInt8) (x : Int) (hx : (cc.toNat : Int) = x) (hT : Wk lo gx A n c b (i : Int) af p ls sz w) (hlo : lo ≤ w.heap.size) (hb : b[i]? = some cc) (hin : i < n) (hnb : n ≤ 100000) (h2 : 192 ≤ x) (h3 : n ≤ i + 1) : Calls Try.prog 72 #[.pointer (some ⟨gx, 0, none⟩)] w fun e w' => e = .returned (.tuple #[.bool false, .int .i64 3]) ∧ Below lo w w' := by
 have HRE := Lib.hid (rest_at hb)
 have HX := Lib.hid hx
 have i0 : (0 : Int) ≤ i := by omega
 clear hb hx
 have e0 : (x == 0) = false := by simpa using (show x ≠ 0 by omega)
 have e1 : decide (x ≤ 63) = false := decide_eq_false (by omega)
 have e2 : 192 ≤ x := h2
 have hcc : 192 ≤ cc.toNat := by have h_ := HX.out; omega
 have HBL : Hid (b.length = n) := Lib.hid (by obtain ⟨_, _, _, _, _, _, h_, _⟩ := hT; exact h_.1)
 have bel := Below.refl lo w
 go_enter Try.func72, Try.ntmps72
 go_wp2_with fail
 with_reducible refine (wread_i _ hT hin hnb _ HRE.out).mono ?_
 rintro e w1 ⟨gr, Ar, nr, cr, rfl, ge, hh, rest, frr, avr, b1⟩
 have or := Nat.le_trans (Nat.le_trans hlo bel.size) ge
 replace hT := hT.below b1
 replace bel := bel.trans (b1.mono (Nat.le_trans hlo bel.size))
 have hr := hh
 clear hh ge b1
 replace rest : Sl w1 (Ar) (nr) (cr) (cc :: (b.drop (i + 1)).take 63) := rest
 go_wp2_with fail
 with_reducible refine (rd_u8c _ _ _ _ _ _ _ _ hr rest).mono ?_
 rintro e w2 ⟨A1, n1, c1, rfl, hq, sq, uq, b2⟩
 replace hT := hT.gr hr or b2
 replace bel := below_grown bel b2 or (Nat.le_trans hlo bel.size)
 clear b2
 clear hr rest
 have hr := hq
 have rest := sq
 clear hq sq
 have av1_rest_r := avr.sub uq
 clear uq
 rw [HX.out]
 go_wp2_with fail
 with_reducible refine (rd_short _ _ _ _ _ _ _ hr rest).mono ?_
 rintro e _ ⟨rfl, rfl⟩
 go_wp2_with fail
 with_reducible refine (wptr_half _ hT (Nat.le_trans hlo bel.size) hr rest av1_rest_r or cc x HX.out hcc (List.eq_nil_of_length_eq_zero (by rw [List.length_take, List.length_drop]; have h_ := HBL.out; omega))).mono ?_
 rintro e w3 ⟨rfl, b3⟩
 replace bel := bel.trans b3
 clear b3 rest hr hT
 go_wp2_with fail
 exact bodyPost_ret (v := .tuple #[.bool false, .int .i64 3]) (by simp [results, Try.results72, go_sem]) rfl ⟨rfl, bel⟩
set_option linter.unusedVariables false in
set_option linter.unusedSimpArgs false in
set_option maxRecDepth 100000 in
set_option maxHeartbeats 16000000 in
theorem wstep_lead {lo gx : Nat} {A : Option Addr} {n c : Nat} {b : List UInt8} {i : Nat} {af : Int} {p : Nat} {ls : List (List UInt8)} {sz : Nat} (w : World) (cc : UInt8) (x : Int) (hx : (cc.toNat : Int) = x) (hT : Wk lo gx A n c b (i : Int) af p ls sz w) (hlo : lo ≤ w.heap.size) (hb : b[i]? = some cc) (hin : i < n) (hnb : n ≤ 100000) (af2 : Int) (h2 : 192 ≤ x) (d : UInt8) (hd : b[i + 1]? = some d) (h3 : (leadTo cc d : Int) < i) (h4 : p < 64) (haf : (if p = 0 then (i : Int) + 2 else af) = af2) : Calls Try.prog 72 #[.pointer (some ⟨gx, 0, none⟩)] w fun e w' => e = .returned (.tuple #[.bool false, .int .i64 0]) ∧ Wk lo gx A n c b ((leadTo cc d : Int)) (af2) (p + 1) (ls) (sz) w' ∧ Below lo w w' := by
 have HRE := Lib.hid (rest_at hb)
 have HX := Lib.hid hx
 have i0 : (0 : Int) ≤ i := by omega
 clear hb hx
 have e0 : (x == 0) = false := by simpa using (show x ≠ 0 by omega)
 have e1 : decide (x ≤ 63) = false := decide_eq_false (by omega)
 have e2 : 192 ≤ x := h2
 have hcc : 192 ≤ cc.toNat := by have h_ := HX.out; omega
 obtain ⟨r, hr2⟩ := rest_two hd
 have HR2 := Lib.hid hr2
 clear hr2 hd
 have bel := Below.refl lo w
 go_enter Try.func72, Try.ntmps72
 go_wp2_with fail
 with_reducible refine (wread_i _ hT hin hnb _ HRE.out).mono ?_
 rintro e w1 ⟨gr, Ar, nr, cr, rfl, ge, hh, rest, frr, avr, b1⟩
 have or := Nat.le_trans (Nat.le_trans hlo bel.size) ge
 replace hT := hT.below b1
 replace bel := bel.trans (b1.mono (Nat.le_trans hlo bel.size))
 have hr := hh
 clear hh ge b1
 replace rest : Sl w1 (Ar) (nr) (cr) (cc :: (b.drop (i + 1)).take 63) := rest
 go_wp2_with fail
 with_reducible refine (rd_u8c _ _ _ _ _ _ _ _ hr rest).mono ?_
 rintro e w2 ⟨A1, n1, c1, rfl, hq, sq, uq, b2⟩
 replace hT := hT.gr hr or b2
 replace bel := below_grown bel b2 or (Nat.le_trans hlo bel.size)
 clear b2
 clear hr rest
 have hr := hq
 have rest := sq
 clear hq sq
 have av1_rest_r := avr.sub uq
 clear uq
 rw [HX.out]
 go_wp2_with fail
 with_reducible refine (rd_short _ _ _ _ _ _ _ hr rest).mono ?_
 rintro e _ ⟨rfl, rfl⟩
 go_wp2_with fail
 with_reducible refine (wptr_ok _ af2 hT (Nat.le_trans hlo bel.size) hr rest av1_rest_r or cc x HX.out hcc d r HR2.out h3 h4 (by omega) haf).mono ?_
 rintro e w3 ⟨rfl, hT_, b3⟩
 replace bel := bel.trans b3
 clear b3 rest hr hT
 have hT := hT_
 clear hT_
 go_wp2_with fail
 exact bodyPost_ret (v := .tuple #[.bool false, .int .i64 0]) (by simp [results, Try.results72, go_sem]) rfl ⟨rfl, hT, bel⟩
set_option linter.unusedVariables false in
set_option linter.unusedSimpArgs false in
set_option maxRecDepth 100000 in
set_option maxHeartbeats 16000000 in
theorem wstep_far {lo gx : Nat} {A : Option Addr} {n c : Nat} {b : List UInt8} {i : Nat} {af : Int} {p : Nat} {ls : List (List UInt8)} {sz : Nat} (w : World) (cc : UInt8) (x : Int) (hx : (cc.toNat : Int) = x) (hT : Wk lo gx A n c b (i : Int) af p ls sz w) (hlo : lo ≤ w.heap.size) (hb : b[i]? = some cc) (hin : i < n) (hnb : n ≤ 100000) (h2 : 192 ≤ x) (d : UInt8) (hd : b[i + 1]? = some d) (h3 : (i : Int) ≤ (leadTo cc d : Int)) : Calls Try.prog 72 #[.pointer (some ⟨gx, 0, none⟩)] w fun e w' => e = .returned (.tuple #[.bool false, .int .i64 4]) ∧ Below lo w w' := by
 have HRE := Lib.hid (rest_at hb)
 have HX := Lib.hid hx
 have i0 : (0 : Int) ≤ i := by omega
 clear hb hx
 have e0 : (x == 0) = false := by simpa using (show x ≠ 0 by omega)
 have e1 : decide (x ≤ 63) = false := decide_eq_false (by omega)
 have e2 : 192 ≤ x := h2
 have hcc : 192 ≤ cc.toNat := by have h_ := HX.out; omega
 obtain ⟨r, hr2⟩ := rest_two hd
 have HR2 := Lib.hid hr2
 clear hr2 hd
 have bel := Below.refl lo w
 go_enter Try.func72, Try.ntmps72
 go_wp2_with fail
 with_reducible refine (wread_i _ hT hin hnb _ HRE.out).mono ?_
 rintro e w1 ⟨gr, Ar, nr, cr, rfl, ge, hh, rest, frr, avr, b1⟩
 have or := Nat.le_trans (Nat.le_trans hlo bel.size) ge
 replace hT := hT.below b1
 replace bel := bel.trans (b1.mono (Nat.le_trans hlo bel.size))
 have hr := hh
 clear hh ge b1
 replace rest : Sl w1 (Ar) (nr) (cr) (cc :: (b.drop (i + 1)).take 63) := rest
 go_wp2_with fail
 with_reducible refine (rd_u8c _ _ _ _ _ _ _ _ hr rest).mono ?_
 rintro e w2 ⟨A1, n1, c1, rfl, hq, sq, uq, b2⟩
 replace hT := hT.gr hr or b2
 replace bel := below_grown bel b2 or (Nat.le_trans hlo bel.size)
 clear b2
 clear hr rest
 have hr := hq
 have rest := sq
 clear hq sq
 have av1_rest_r := avr.sub uq
 clear uq
 rw [HX.out]
 go_wp2_with fail
 with_reducible refine (rd_short _ _ _ _ _ _ _ hr rest).mono ?_
 rintro e _ ⟨rfl, rfl⟩
 go_wp2_with fail
 with_reducible refine (wptr_far _ hT (Nat.le_trans hlo bel.size) hr rest av1_rest_r or cc x HX.out hcc d r HR2.out h3).mono ?_
 rintro e w3 ⟨rfl, b3⟩
 replace bel := bel.trans b3
 clear b3 rest hr hT
 go_wp2_with fail
 exact bodyPost_ret (v := .tuple #[.bool false, .int .i64 4]) (by simp [results, Try.results72, go_sem]) rfl ⟨rfl, bel⟩
set_option linter.unusedVariables false in
set_option linter.unusedSimpArgs false in
set_option maxRecDepth 100000 in
set_option maxHeartbeats 16000000 in
theorem wstep_many {lo gx : Nat} {A : Option Addr} {n c : Nat} {b : List UInt8} {i : Nat} {af : Int} {p : Nat} {ls : List (List UInt8)} {sz : Nat} (w : World) (cc : UInt8) (x : Int) (hx : (cc.toNat : Int) = x) (hT : Wk lo gx A n c b (i : Int) af p ls sz w) (hlo : lo ≤ w.heap.size) (hb : b[i]? = some cc) (hin : i < n) (hnb : n ≤ 100000) (h2 : 192 ≤ x) (d : UInt8) (hd : b[i + 1]? = some d) (h3 : (leadTo cc d : Int) < i) (h4 : 64 ≤ p) : Calls Try.prog 72 #[.pointer (some ⟨gx, 0, none⟩)] w fun e w' => e = .returned (.tuple #[.bool false, .int .i64 4]) ∧ Below lo w w' := by
 have HRE := Lib.hid (rest_at hb)
 have HX := Lib.hid hx
 have i0 : (0 : Int) ≤ i := by omega
 clear hb hx
 have e0 : (x == 0) = false := by simpa using (show x ≠ 0 by omega)
 have e1 : decide (x ≤ 63) = false := decide_eq_false (by omega)
 have e2 : 192 ≤ x := h2
 have hcc : 192 ≤ cc.toNat := by have h_ := HX.out; omega
 obtain ⟨r, hr2⟩ := rest_two hd
 have HR2 := Lib.hid hr2
 clear hr2 hd
 have bel := Below.refl lo w
 go_enter Try.func72, Try.ntmps72
 go_wp2_with fail
 with_reducible refine (wread_i _ hT hin hnb _ HRE.out).mono ?_
 rintro e w1 ⟨gr, Ar, nr, cr, rfl, ge, hh, rest, frr, avr, b1⟩
 have or := Nat.le_trans (Nat.le_trans hlo bel.size) ge
 replace hT := hT.below b1
 replace bel := bel.trans (b1.mono (Nat.le_trans hlo bel.size))
 have hr := hh
 clear hh ge b1
 replace rest : Sl w1 (Ar) (nr) (cr) (cc :: (b.drop (i + 1)).take 63) := rest
 go_wp2_with fail
 with_reducible refine (rd_u8c _ _ _ _ _ _ _ _ hr rest).mono ?_
 rintro e w2 ⟨A1, n1, c1, rfl, hq, sq, uq, b2⟩
 replace hT := hT.gr hr or b2
 replace bel := below_grown bel b2 or (Nat.le_trans hlo bel.size)
 clear b2
 clear hr rest
 have hr := hq
 have rest := sq
 clear hq sq
 have av1_rest_r := avr.sub uq
 clear uq
 rw [HX.out]
 go_wp2_with fail
 with_reducible refine (rd_short _ _ _ _ _ _ _ hr rest).mono ?_
 rintro e _ ⟨rfl, rfl⟩
 go_wp2_with fail
 with_reducible refine (wptr_many _ hT (Nat.le_trans hlo bel.size) hr rest av1_rest_r or cc x HX.out hcc d r HR2.out h3 h4).mono ?_
 rintro e w3 ⟨rfl, b3⟩
 replace bel := bel.trans b3
 clear b3 rest hr hT
 go_wp2_with fail
 exact bodyPost_ret (v := .tuple #[.bool false, .int .i64 4]) (by simp [results, Try.results72, go_sem]) rfl ⟨rfl, bel⟩
end Go.Proofs.Ytjedknjlpeccbaa
