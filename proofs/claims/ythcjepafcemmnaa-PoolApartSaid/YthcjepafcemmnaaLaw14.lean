/- The statements' addresses and Macs; awake. -/
import Derived.Test.YthcjepafcemmnaaPlb
import Derived.Deep.Cut
import Derived.Deep.CutRange
namespace Go.Proofs.Ythcjepafcemmnaa
open Go.RowKit

def atA (k : Int) : Ad4 := ⟨10, 0, 0, byteOf k⟩
def macM (k : Int) : Mc6 := ⟨2, 0, 0, 0, 0, byteOf k⟩
theorem Sle.zlit1 {α : Type} {f : α → List Value} {k : Nat} {w : World} {g n c i : Nat} {l : List α} {x : α} (h : Sle f k w (some ⟨g, 0, none⟩) n c l) (hx : l[i]? = some x) (a : Nat) (v : Value) (hv : (f x)[a]? = some v) (q : Nat) (hq : i * k + a = q) : w.cell? ⟨g, q, none⟩ = some v := by
  have := h.zcell hx a v hv
  rw [hq] at this
  exact this
set_option linter.unusedVariables false in
set_option linter.unusedSimpArgs false in
set_option maxRecDepth 100000 in
set_option maxHeartbeats 16000000 in
theorem at_k (k : Int) (w : World) : Calls Try.prog 11 #[.int .i64 k] w fun e w' => e = .returned (.agg #[.int .u8 ((atA k).a.toNat : Int), .int .u8 ((atA k).b.toNat : Int), .int .u8 ((atA k).c.toNat : Int), .int .u8 ((atA k).d.toNat : Int)]) ∧ Below w.heap.size w w' := by
  have bel := Below.refl w.heap.size w
  go_enter Try.func11, Try.ntmps11
  go_wp2_with (first | ((with_reducible show wpList _ _ _ (⟨some 2, _, _, _, _, _⟩ :: _) _ _); refine wpList_new_a rfl 28 rfl #[.int .u8 0, .int .u8 0, .int .u8 0, .int .u8 0] (by kernel_rfl) ?_; intro g2 w1 ge hh bb; have orb := Nat.le_trans bel.size ge; replace bel := bel.trans (bb.mono bel.size); have hrb := hh; clear hh ge bb) | ((with_reducible show wpList _ _ _ (⟨none, Op.store _ (.tmp 2) _, _, _, _, _⟩ :: _) _ _); refine wpList_store_blk rfl 28 (.tmp 2) (.tmp 5) rfl g2 rfl _ rfl _ 28 hrb (by rfl) (by kernel_rfl) (by kernel_rfl) ?_; intro w2 hq gr; replace bel := below_grown bel gr orb bel.size; clear hrb; have hrb := hq; clear hq gr))
  exact bodyPost_ret (results_cell_row' rfl _ _ _ _ _ _ _ rfl hrb Try.underlying28 rfl (by kernel_rfl)) rfl ⟨by show Ending.returned (.agg #[.int .u8 10, .int .u8 0, .int .u8 0, .int .u8 (k % 256)]) = .returned (.agg #[.int .u8 10, .int .u8 0, .int .u8 0, .int .u8 ((byteOf k).toNat : Int)]); rw [byteOf_val], bel⟩
set_option linter.unusedVariables false in
set_option linter.unusedSimpArgs false in
set_option maxRecDepth 100000 in
set_option maxHeartbeats 16000000 in
theorem mac_k (k : Int) (w : World) : Calls Try.prog 12 #[.int .i64 k] w fun e w' => e = .returned (.agg #[.int .u8 ((macM k).a.toNat : Int), .int .u8 ((macM k).b.toNat : Int), .int .u8 ((macM k).c.toNat : Int), .int .u8 ((macM k).d.toNat : Int), .int .u8 ((macM k).e.toNat : Int), .int .u8 ((macM k).f.toNat : Int)]) ∧ Below w.heap.size w w' := by
  have bel := Below.refl w.heap.size w
  go_enter Try.func12, Try.ntmps12
  go_wp2_with (first | ((with_reducible show wpList _ _ _ (⟨some 2, _, _, _, _, _⟩ :: _) _ _); refine wpList_new_a rfl 31 rfl #[.int .u8 0, .int .u8 0, .int .u8 0, .int .u8 0, .int .u8 0, .int .u8 0] (by kernel_rfl) ?_; intro g2 w1 ge hh bb; have orb := Nat.le_trans bel.size ge; replace bel := bel.trans (bb.mono bel.size); have hrb := hh; clear hh ge bb) | ((with_reducible show wpList _ _ _ (⟨none, Op.store _ (.tmp 2) _, _, _, _, _⟩ :: _) _ _); refine wpList_store_blk rfl 31 (.tmp 2) (.tmp 5) rfl g2 rfl _ rfl _ 31 hrb (by rfl) (by kernel_rfl) (by kernel_rfl) ?_; intro w2 hq gr; replace bel := below_grown bel gr orb bel.size; clear hrb; have hrb := hq; clear hq gr))
  exact bodyPost_ret (results_cell_row' rfl _ _ _ _ _ _ _ rfl hrb Try.underlying31 rfl (by kernel_rfl)) rfl ⟨by show Ending.returned (.agg #[.int .u8 2, .int .u8 0, .int .u8 0, .int .u8 0, .int .u8 0, .int .u8 (k % 256)]) = .returned (.agg #[.int .u8 2, .int .u8 0, .int .u8 0, .int .u8 0, .int .u8 0, .int .u8 ((byteOf k).toNat : Int)]); rw [byteOf_val], bel⟩
theorem pnew_nil {x y : Ad4} (w : World) (h1 : x.num ≤ y.num) (h2 : y.num - x.num < 64) : Calls Try.prog 10 #[.agg #[.int .u8 (x.a.toNat : Int), .int .u8 (x.b.toNat : Int), .int .u8 (x.c.toNat : Int), .int .u8 (x.d.toNat : Int)], .agg #[.int .u8 (y.a.toNat : Int), .int .u8 (y.b.toNat : Int), .int .u8 (y.c.toNat : Int), .int .u8 (y.d.toNat : Int)], .slice none 0 0] w fun e w' => ∃ gt, e = .returned (.tuple #[.pointer (some ⟨gt, 0, none⟩), .int .i64 0]) ∧ Pl w.heap.size gt w' ⟨0, [], newL [] x.num (y.num - x.num + 1)⟩ ∧ Below w.heap.size w w' := by
  refine (pnew_any (fl := []) w h1 h2 (Sle.nil (by decide) leE_len w) (fun h => absurd h (by omega)) (by omega) (by simp) (by simp)).mono ?_
  rintro e w' ⟨gt, h3, h4, _, h5⟩
  exact ⟨gt, h3, h4, h5⟩
theorem poffer_z {lo gt : Nat} {s : St} {m : Mc6} {t : Int} (w : World) {a : Ad4} {r : Int} (_u : Unit) (hT : Pl lo gt w s) (hr : offerS s m Ad4.zero t = (a, r)) : Calls Try.prog 13 #[.pointer (some ⟨gt, 0, none⟩), .agg #[.int .u8 (m.a.toNat : Int), .int .u8 (m.b.toNat : Int), .int .u8 (m.c.toNat : Int), .int .u8 (m.d.toNat : Int), .int .u8 (m.e.toNat : Int), .int .u8 (m.f.toNat : Int)], .agg #[.int .u8 0, .int .u8 0, .int .u8 0, .int .u8 0], .int .i64 t] w fun e w' => e = .returned (.tuple #[.agg #[.int .u8 (a.a.toNat : Int), .int .u8 (a.b.toNat : Int), .int .u8 (a.c.toNat : Int), .int .u8 (a.d.toNat : Int)], .int .i64 r]) ∧ Pl lo gt w' (s.adv t) ∧ Kt [58, 66] w w' ∧ Below lo w w' := poffer_any m Ad4.zero t w hT hr
theorem poffer_zf {lo gt : Nat} {s : St} {m : Mc6} {t : Int} (w : World) (_u : Unit) (hT : Pl lo gt w s) (hr : offerS s m Ad4.zero t = (Ad4.zero, 7)) : Calls Try.prog 13 #[.pointer (some ⟨gt, 0, none⟩), .agg #[.int .u8 (m.a.toNat : Int), .int .u8 (m.b.toNat : Int), .int .u8 (m.c.toNat : Int), .int .u8 (m.d.toNat : Int), .int .u8 (m.e.toNat : Int), .int .u8 (m.f.toNat : Int)], .agg #[.int .u8 0, .int .u8 0, .int .u8 0, .int .u8 0], .int .i64 t] w fun e w' => e = .returned (.tuple #[.agg #[.int .u8 0, .int .u8 0, .int .u8 0, .int .u8 0], .int .i64 7]) ∧ Pl lo gt w' (s.adv t) ∧ Kt [58, 66] w w' ∧ Below lo w w' := poffer_any m Ad4.zero t w hT hr
theorem poffer_f {lo gt : Nat} {s : St} {m : Mc6} {t : Int} (wa : Ad4) (w : World) (_u : Unit) (hT : Pl lo gt w s) (hr : offerS s m wa t = (Ad4.zero, 7)) : Calls Try.prog 13 #[.pointer (some ⟨gt, 0, none⟩), .agg #[.int .u8 (m.a.toNat : Int), .int .u8 (m.b.toNat : Int), .int .u8 (m.c.toNat : Int), .int .u8 (m.d.toNat : Int), .int .u8 (m.e.toNat : Int), .int .u8 (m.f.toNat : Int)], .agg #[.int .u8 (wa.a.toNat : Int), .int .u8 (wa.b.toNat : Int), .int .u8 (wa.c.toNat : Int), .int .u8 (wa.d.toNat : Int)], .int .i64 t] w fun e w' => e = .returned (.tuple #[.agg #[.int .u8 0, .int .u8 0, .int .u8 0, .int .u8 0], .int .i64 7]) ∧ Pl lo gt w' (s.adv t) ∧ Kt [58, 66] w w' ∧ Below lo w w' := poffer_any m wa t w hT hr
theorem pall_is {lo gt n : Nat} {s : St} {t : Int} {ls : List Le} (w : World) (_u : Unit) (hT : Pl lo gt w s) (hl : allO (s.adv t).now s.l = ls ∧ ls.length = n) : Calls Try.prog 18 #[.pointer (some ⟨gt, 0, none⟩), .int .i64 t] w fun e w' => ∃ A2 c2, e = .returned (.slice A2 n c2) ∧ w'.ownsRow w.heap.size 34 11 (.slice A2 n c2) n (ls.flatMap leE) ∧ Pl lo gt w' (s.adv t) ∧ Kt [58, 66] w w' ∧ Below lo w w' := by
  refine (pall_any t w hT).mono ?_
  rintro e w' ⟨A2, n2, c2, h1, h2, h3⟩
  have hn := row_len (by decide) leE_len h2
  rw [hl.1] at h2 hn
  obtain rfl : n = n2 := hl.2.symm.trans hn
  exact ⟨A2, c2, h1, h2, h3⟩
theorem ptick_is {lo gt n : Nat} {s : St} {t : Int} {ls : List Le} (w : World) (_u : Unit) (hT : Pl lo gt w s) (hl : tickO (s.adv t).now s.l = ls ∧ ls.length = n) : Calls Try.prog 16 #[.pointer (some ⟨gt, 0, none⟩), .int .i64 t] w fun e w' => ∃ A2 c2, e = .returned (.slice A2 n c2) ∧ w'.ownsRow w.heap.size 34 11 (.slice A2 n c2) n (ls.flatMap leE) ∧ Pl lo gt w' { s.adv t with l := tickL (s.adv t).now s.l } ∧ Kt [58, 66] w w' ∧ Below lo w w' := by
  refine (ptick_any t w hT).mono ?_
  rintro e w' ⟨A2, n2, c2, h1, h2, h3⟩
  have hn := row_len (by decide) leE_len h2
  rw [hl.1] at h2 hn
  obtain rfl : n = n2 := hl.2.symm.trans hn
  exact ⟨A2, c2, h1, h2, h3⟩
def kP0 : St := ⟨0, [], newL [] (atA 100).num ((atA 101).num - (atA 100).num + 1)⟩
def kP1 : St := (takeS (kP0.adv 0) (macM 1) (atA 100) 0 60).2
theorem k_o1 : offerS kP0 (macM 1) Ad4.zero 0 = (atA 100, 0) := by kernel_rfl
theorem k_t1 : takeS (kP0.adv 0) (macM 1) (atA 100) 0 60 = (0, kP1) := by kernel_rfl
theorem k_o2 : offerS kP1 (macM 2) Ad4.zero 0 = (atA 101, 0) := by kernel_rfl
theorem k_al : allO ((kP1.adv 0).adv 0).now (kP1.adv 0).l = [⟨macM 1, atA 100, 60⟩] ∧ [(⟨macM 1, atA 100, 60⟩ : Le)].length = 1 := ⟨by kernel_rfl, rfl⟩
theorem k_of : ofS ((kP1.adv 0).adv 0) (macM 1) 59 = (atA 100, true) := by kernel_rfl
set_option linter.unusedVariables false in
set_option linter.unusedSimpArgs false in
set_option maxRecDepth 100000 in
set_option maxHeartbeats 16000000 in
theorem awake_any (w : World) : Calls Try.prog 9 #[] w fun e w' => e = .returned (.bool true) ∧ Below w.heap.size w w' := by
  have bel := Below.refl w.heap.size w
  go_enter Try.func9, Try.ntmps9
  go_wp2_with fail
  with_reducible refine (at_k 100 _).mono ?_
  rintro e w1 ⟨rfl, b1⟩
  replace bel := bel.trans (b1.mono bel.size)
  clear b1
  go_wp2_with fail
  with_reducible refine (at_k 101 _).mono ?_
  rintro e w2 ⟨rfl, b2⟩
  replace bel := bel.trans (b2.mono bel.size)
  clear b2
  go_wp2_with fail
  have HLO_ := bel.size
  with_reducible refine (pnew_nil (x := atA 100) (y := atA 101) _ (by decide) (by decide)).mono ?_
  rintro e w3 ⟨gt, rfl, hT, b3⟩
  replace bel := bel.trans (b3.mono bel.size)
  clear b3
  replace hT : Pl w.heap.size gt w3 kP0 := hT.lo_mono HLO_
  clear HLO_
  go_wp2_with fail
  with_reducible refine (mac_k 1 _).mono ?_
  rintro e w4 ⟨rfl, b4⟩
  replace hT := hT.below b4
  replace bel := bel.trans (b4.mono bel.size)
  clear b4
  go_wp2_with fail
  with_reducible refine (poffer_z (a := (atA 100)) (r := 0) _ () hT k_o1).mono ?_
  rintro e w5 ⟨rfl, hT_, k_, bb⟩
  clear hT
  have hT := hT_
  replace bel := bel.trans bb
  clear bb k_ hT_
  go_wp2_with (first | ((with_reducible show wpList _ _ _ (⟨some 3, _, _, _, _, _⟩ :: _) _ _); refine wpList_new_a rfl 28 rfl #[.int .u8 0, .int .u8 0, .int .u8 0, .int .u8 0] (by kernel_rfl) ?_; intro g3 w6 ge hh bb; have oaB := Nat.le_trans bel.size ge; replace hT := hT.below bb; replace bel := bel.trans (bb.mono bel.size); have haB := hh; clear hh ge bb) | ((with_reducible show wpList _ _ _ (⟨none, Op.store _ (.tmp 3) _, _, _, _, _⟩ :: _) _ _); refine wpList_store_blk rfl 28 (.tmp 3) (.tmp 28) rfl g3 rfl _ rfl _ 28 haB (by rfl) (by kernel_rfl) (by kernel_rfl) ?_; intro w7 hq gr; replace hT := hT.grown gr haB (by decide) (by decide); replace bel := below_grown bel gr oaB bel.size; clear haB; have haB := hq; clear hq gr))
  replace bel := bel.drew
  replace haB : w7.drew.heap[g3]? = _ := haB
  replace hT := pl_drew hT
  refine wp_region_held_drew (S := fun W => W.heap[g3]? = some (.cells #[.int .u8 ((atA 100).a.toNat : Int), .int .u8 ((atA 100).b.toNat : Int), .int .u8 ((atA 100).c.toNat : Int), .int .u8 ((atA 100).d.toNat : Int)] 28 (0, 0))) (by kernel_rfl) haB (fun hH => ?_)
  generalize w7.drew = w8 at bel haB hT hH ⊢
  refine wpAnyH_take (i := 0) (v := ?_) rfl (by kernel_rfl) (by kernel_rfl) (by kernel_rfl) (fun _ _ _ h => h) (Or.inl ⟨by rfl, ?_⟩) hH ?_
  rotate_left
  · ((intro W hW; clear hW; go_simp) <;> with_reducible rfl)
  simp only [Act.put, List.getElem_toArray, List.getElem_cons_zero, List.setIfInBounds_toArray, List.set_cons_zero, List.set_cons_succ]
  refine wpAnyH_take (i := 2) (v := .agg #[.int .u8 ((atA 100).a.toNat : Int), .int .u8 ((atA 100).b.toNat : Int), .int .u8 ((atA 100).c.toNat : Int), .int .u8 ((atA 100).d.toNat : Int)]) rfl (by kernel_rfl) (by kernel_rfl) (by kernel_rfl) (fun _ _ _ h => h) (yieldsIf_load_part (by kernel_rfl) 28 _ rfl g3 0 4 rfl _ 28 (0, 0) (fun W hW => hW) _ rfl _ Try.underlying28 rfl (by kernel_rfl)) hH ?_
  simp only [Act.put, List.getElem_toArray, List.getElem_cons_zero, List.getElem_cons_succ, List.setIfInBounds_toArray, List.set_cons_zero, List.set_cons_succ]
  refine wpAnyH_ready (rs := [1]) (by kernel_rfl) (by simp) ?_
  refine AllReadyH.cons (o := _) rfl (fun K hK => ?_) AllReadyH.nil
  simp only [List.getElem_toArray, List.getElem_cons_zero, List.getElem_cons_succ]
  go_simp
  with_reducible refine (mac_k 1 _).mono ?_
  rintro e w9 ⟨rfl, b9⟩
  dsimp only
  replace haB := blk_u haB b9
  replace hT := hT.below b9
  replace bel := bel.trans (b9.mono bel.size)
  clear b9
  refine hK.out _ _ haB (fun hH10 => ?_)
  clear hK K
  refine wpAnyH_ready (rs := [3]) (by kernel_rfl) (by simp) ?_
  refine AllReadyH.cons (o := _) rfl (fun K hK => ?_) AllReadyH.nil
  simp only [List.getElem_toArray, List.getElem_cons_zero, List.getElem_cons_succ]
  go_simp
  with_reducible refine (ptake_any (r := 0) _ _ _ _ _ hT k_t1).mono ?_
  rintro e w11 ⟨rfl, hT_, k_, bb⟩
  dsimp only
  replace haB := Kt.blk k_ haB (by decide)
  clear hT
  have hT := hT_
  replace bel := bel.trans bb
  clear bb k_ hT_
  refine hK.out _ _ haB (fun hH12 => ?_)
  clear hK K
  refine wpAnyH_take (i := 4) (v := ?_) rfl (by kernel_rfl) (by kernel_rfl) (by kernel_rfl) (fun _ _ _ h => h) (Or.inl ⟨by rfl, ?_⟩) hH12 ?_
  rotate_left
  · ((intro W hW; clear hW; go_simp) <;> with_reducible rfl)
  simp only [Act.put, List.getElem_toArray, List.getElem_cons_zero, List.getElem_cons_succ, List.setIfInBounds_toArray, List.set_cons_zero, List.set_cons_succ]
  refine wpAnyH_done (by kernel_rfl) ?_ _
  go_wp2_with fail
  with_reducible refine (mac_k 2 _).mono ?_
  rintro e w13 ⟨rfl, b13⟩
  replace haB := blk_u haB b13
  replace hT := hT.below b13
  replace bel := bel.trans (b13.mono bel.size)
  clear b13
  go_wp2_with fail
  with_reducible refine (poffer_z (a := (atA 101)) (r := 0) _ () hT k_o2).mono ?_
  rintro e w14 ⟨rfl, hT_, k_, bb⟩
  replace haB := Kt.blk k_ haB (by decide)
  clear hT
  have hT := hT_
  replace bel := bel.trans bb
  clear bb k_ hT_
  go_wp2_with (first | ((with_reducible show wpList _ _ _ (⟨some 6, _, _, _, _, _⟩ :: _) _ _); refine wpList_new_a rfl 28 rfl #[.int .u8 0, .int .u8 0, .int .u8 0, .int .u8 0] (by kernel_rfl) ?_; intro g6 w15 ge hh bb; have d_aB_bB := ne_new (hlt haB) ge; have obB := Nat.le_trans bel.size ge; replace haB := blk_u haB bb; replace hT := hT.below bb; replace bel := bel.trans (bb.mono bel.size); have hbB := hh; clear hh ge bb) | ((with_reducible show wpList _ _ _ (⟨none, Op.store _ (.tmp 6) _, _, _, _, _⟩ :: _) _ _); refine wpList_store_blk rfl 28 (.tmp 6) (.tmp 39) rfl g6 rfl _ rfl _ 28 hbB (by rfl) (by kernel_rfl) (by kernel_rfl) ?_; intro w16 hq gr; replace haB := blk_a haB gr d_aB_bB; replace hT := hT.grown gr hbB (by decide) (by decide); replace bel := below_grown bel gr obB bel.size; clear hbB; have hbB := hq; clear hq gr))
  with_reducible refine (pall_is _ () hT k_al).mono ?_
  rintro e w17 ⟨Als, cls, rfl, lsw, hT_, k_, bb⟩
  replace haB := Kt.blk k_ haB (by decide)
  replace hbB := Kt.blk k_ hbB (by decide)
  clear hT
  have hT := hT_
  replace bel := bel.trans bb
  clear bb k_ hT_
  go_wp2_with fail
  with_reducible refine (mac_k 1 _).mono ?_
  rintro e w18 ⟨rfl, b18⟩
  replace haB := blk_u haB b18
  replace hbB := blk_u hbB b18
  replace hT := hT.below b18
  replace lsw := owk_under lsw b18
  replace bel := bel.trans (b18.mono bel.size)
  clear b18
  go_wp2_with fail
  with_reducible refine (pof_any (a := (atA 100)) (b := true) _ _ _ hT k_of).mono ?_
  rintro e w19 ⟨rfl, hT_, k_, bb⟩
  replace haB := Kt.blk k_ haB (by decide)
  replace hbB := Kt.blk k_ hbB (by decide)
  replace lsw := (k_.own lsw (by decide))
  clear hT
  have hT := hT_
  replace bel := bel.trans bb
  clear bb k_ hT_
  go_wp2_with (first | ((with_reducible show wpList _ _ _ (⟨some 9, _, _, _, _, _⟩ :: _) _ _); refine wpList_new_a rfl 28 rfl #[.int .u8 0, .int .u8 0, .int .u8 0, .int .u8 0] (by kernel_rfl) ?_; intro g9 w20 ge hh bb; have d_aB_cB := ne_new (hlt haB) ge; have d_bB_cB := ne_new (hlt hbB) ge; have ocB := Nat.le_trans bel.size ge; replace haB := blk_u haB bb; replace hbB := blk_u hbB bb; replace hT := hT.below bb; replace lsw := owk_under lsw bb; replace bel := bel.trans (bb.mono bel.size); have hcB := hh; clear hh ge bb) | ((with_reducible show wpList _ _ _ (⟨none, Op.store _ (.tmp 9) _, _, _, _, _⟩ :: _) _ _); refine wpList_store_blk rfl 28 (.tmp 9) (.tmp 47) rfl g9 rfl _ rfl _ 28 hcB (by rfl) (by kernel_rfl) (by kernel_rfl) ?_; intro w21 hq gr; replace haB := blk_a haB gr d_aB_cB; replace hbB := blk_a hbB gr d_bB_cB; replace hT := hT.grown gr hcB (by decide) (by decide); replace lsw := owk_off lsw (ofs_type lsw hcB (by decide)) gr; replace bel := below_grown bel gr ocB bel.size; clear hcB; have hcB := hq; clear hq gr))
  obtain ⟨gL, rfl, _⟩ := row_at lsw (by decide)
  have ls := (owk_sle (by decide) leE_len lsw).1
  have r54 : ∀ W, (binOp .eql 28 (.agg #[.int .u8 ((atA 100).a.toNat : Int), .int .u8 ((atA 100).b.toNat : Int), .int .u8 ((atA 100).c.toNat : Int), .int .u8 ((atA 100).d.toNat : Int)]) (.agg #[.int .u8 ((atA 100).a.toNat : Int), .int .u8 ((atA 100).b.toNat : Int), .int .u8 ((atA 100).c.toNat : Int), .int .u8 ((atA 100).d.toNat : Int)])).run Try.prog W = .ok (.bool true) W := fun W => by kernel_rfl
  have r67 : ∀ W, (binOp .eql 28 (.agg #[.int .u8 ((atA 101).a.toNat : Int), .int .u8 ((atA 101).b.toNat : Int), .int .u8 ((atA 101).c.toNat : Int), .int .u8 ((atA 101).d.toNat : Int)]) (.agg #[.int .u8 ((atA 101).a.toNat : Int), .int .u8 ((atA 101).b.toNat : Int), .int .u8 ((atA 101).c.toNat : Int), .int .u8 ((atA 101).d.toNat : Int)])).run Try.prog W = .ok (.bool true) W := fun W => by kernel_rfl
  have r81 : ∀ W, (binOp .eql 34 (.agg #[.int .u8 ((macM 1).a.toNat : Int), .int .u8 ((macM 1).b.toNat : Int), .int .u8 ((macM 1).c.toNat : Int), .int .u8 ((macM 1).d.toNat : Int), .int .u8 ((macM 1).e.toNat : Int), .int .u8 ((macM 1).f.toNat : Int), .int .u8 ((atA 100).a.toNat : Int), .int .u8 ((atA 100).b.toNat : Int), .int .u8 ((atA 100).c.toNat : Int), .int .u8 ((atA 100).d.toNat : Int), .int .i64 60]) (.agg #[.int .u8 ((macM 1).a.toNat : Int), .int .u8 ((macM 1).b.toNat : Int), .int .u8 ((macM 1).c.toNat : Int), .int .u8 ((macM 1).d.toNat : Int), .int .u8 ((macM 1).e.toNat : Int), .int .u8 ((macM 1).f.toNat : Int), .int .u8 ((atA 100).a.toNat : Int), .int .u8 ((atA 100).b.toNat : Int), .int .u8 ((atA 100).c.toNat : Int), .int .u8 ((atA 100).d.toNat : Int), .int .i64 60])).run Try.prog W = .ok (.bool true) W := fun W => by kernel_rfl
  go_wp2_with fail
  replace bel := bel.drew
  replace haB : w21.drew.heap[g3]? = _ := haB
  replace hbB : w21.drew.heap[g6]? = _ := hbB
  replace hcB : w21.drew.heap[g9]? = _ := hcB
  replace ls := ls.drew
  replace hT := pl_drew hT
  replace lsw := World.ownsRow.drew lsw
  refine wp_region_held_drew (S := fun W => W.heap[g3]? = some (.cells #[.int .u8 ((atA 100).a.toNat : Int), .int .u8 ((atA 100).b.toNat : Int), .int .u8 ((atA 100).c.toNat : Int), .int .u8 ((atA 100).d.toNat : Int)] 28 (0, 0)) ∧ W.heap[g6]? = some (.cells #[.int .u8 ((atA 101).a.toNat : Int), .int .u8 ((atA 101).b.toNat : Int), .int .u8 ((atA 101).c.toNat : Int), .int .u8 ((atA 101).d.toNat : Int)] 28 (0, 0)) ∧ W.heap[g9]? = some (.cells #[.int .u8 ((atA 100).a.toNat : Int), .int .u8 ((atA 100).b.toNat : Int), .int .u8 ((atA 100).c.toNat : Int), .int .u8 ((atA 100).d.toNat : Int)] 28 (0, 0)) ∧ Sle leE 11 W (some ⟨gL, 0, none⟩) (1) (cls) ([⟨macM 1, atA 100, 60⟩])) (by kernel_rfl) ⟨haB, hbB, hcB, ls⟩ (fun hH => ?_)
  generalize w21.drew = w22 at bel haB hbB hcB ls hT lsw hH ⊢
  refine wpAnyH_take (i := 0) (v := ?_) rfl (by kernel_rfl) (by kernel_rfl) (by kernel_rfl) (fun _ _ _ h => h) (Or.inl ⟨by rfl, ?_⟩) hH ?_
  rotate_left
  · ((intro W hW; clear hW; go_simp) <;> with_reducible rfl)
  simp only [Act.put, List.getElem_toArray, List.getElem_cons_zero, List.setIfInBounds_toArray, List.set_cons_zero, List.set_cons_succ]
  refine wpAnyH_take (i := 1) (v := ?_) rfl (by kernel_rfl) (by kernel_rfl) (by kernel_rfl) (fun _ _ _ h => h) (Or.inl ⟨by rfl, ?_⟩) hH ?_
  rotate_left
  · ((intro W hW; clear hW; go_simp) <;> with_reducible rfl)
  simp only [Act.put, List.getElem_toArray, List.getElem_cons_zero, List.getElem_cons_succ, List.setIfInBounds_toArray, List.set_cons_zero, List.set_cons_succ]
  refine wpAnyH_take (i := 2) (v := ?_) rfl (by kernel_rfl) (by kernel_rfl) (by kernel_rfl) (fun _ _ _ h => h) (Or.inl ⟨by rfl, ?_⟩) hH ?_
  rotate_left
  · ((intro W hW; clear hW; go_simp) <;> with_reducible rfl)
  simp only [Act.put, List.getElem_toArray, List.getElem_cons_zero, List.getElem_cons_succ, List.setIfInBounds_toArray, List.set_cons_zero, List.set_cons_succ]
  refine wpAnyH_take (i := 3) (v := .agg #[.int .u8 ((atA 100).a.toNat : Int), .int .u8 ((atA 100).b.toNat : Int), .int .u8 ((atA 100).c.toNat : Int), .int .u8 ((atA 100).d.toNat : Int)]) rfl (by kernel_rfl) (by kernel_rfl) (by kernel_rfl) (fun _ _ _ h => h) (yieldsIf_load_part (by kernel_rfl) 28 _ rfl g3 0 4 rfl _ 28 (0, 0) (fun W hW => hW.1) _ rfl _ Try.underlying28 rfl (by kernel_rfl)) hH ?_
  simp only [Act.put, List.getElem_toArray, List.getElem_cons_zero, List.getElem_cons_succ, List.setIfInBounds_toArray, List.set_cons_zero, List.set_cons_succ]
  refine wpAnyH_ready (rs := [4]) (by kernel_rfl) (by simp) ?_
  refine AllReadyH.cons (o := _) rfl (fun K hK => ?_) AllReadyH.nil
  simp only [List.getElem_toArray, List.getElem_cons_zero, List.getElem_cons_succ]
  go_simp
  with_reducible refine (at_k 100 _).mono ?_
  rintro e w23 ⟨rfl, b23⟩
  dsimp only
  replace haB := blk_u haB b23
  replace hbB := blk_u hbB b23
  replace hcB := blk_u hcB b23
  replace ls := ls.below b23
  replace hT := hT.below b23
  replace lsw := owk_under lsw b23
  replace bel := bel.trans (b23.mono bel.size)
  clear b23
  refine hK.out _ _ ⟨haB, hbB, hcB, ls⟩ (fun hH24 => ?_)
  clear hK K
  refine wpAnyH_take (i := 5) (v := ?_) rfl (by kernel_rfl) (by kernel_rfl) (by kernel_rfl) (fun _ _ _ h => h) (Or.inl ⟨by rfl, ?_⟩) hH24 ?_
  rotate_left
  · ((intro W hW; clear hW; go_simp) <;> with_reducible rfl)
  simp only [Act.put, List.getElem_toArray, List.getElem_cons_zero, List.getElem_cons_succ, List.setIfInBounds_toArray, List.set_cons_zero, List.set_cons_succ]
  refine wpAnyH_take (i := 6) (v := ?_) rfl (by kernel_rfl) (by kernel_rfl) (by kernel_rfl) (fun _ _ _ h => h) (Or.inl ⟨by rfl, ?_⟩) hH24 ?_
  rotate_left
  · ((intro W hW; clear hW; go_simp) <;> with_reducible rfl)
  simp only [Act.put, List.getElem_toArray, List.getElem_cons_zero, List.getElem_cons_succ, List.setIfInBounds_toArray, List.set_cons_zero, List.set_cons_succ]
  refine wpAnyH_take (i := 7) (v := ?_) rfl (by kernel_rfl) (by kernel_rfl) (by kernel_rfl) (fun _ _ _ h => h) (Or.inl ⟨by rfl, ?_⟩) hH24 ?_
  rotate_left
  · ((intro W hW; clear hW; go_simp) <;> with_reducible rfl)
  simp only [Act.put, List.getElem_toArray, List.getElem_cons_zero, List.getElem_cons_succ, List.setIfInBounds_toArray, List.set_cons_zero, List.set_cons_succ]
  refine wpAnyH_take (i := 8) (v := ?_) rfl (by kernel_rfl) (by kernel_rfl) (by kernel_rfl) (fun _ _ _ h => h) (Or.inl ⟨by rfl, ?_⟩) hH24 ?_
  rotate_left
  · ((intro W hW; clear hW; go_simp) <;> with_reducible rfl)
  simp only [Act.put, List.getElem_toArray, List.getElem_cons_zero, List.getElem_cons_succ, List.setIfInBounds_toArray, List.set_cons_zero, List.set_cons_succ]
  refine wpAnyH_take (i := 9) (v := ?_) rfl (by kernel_rfl) (by kernel_rfl) (by kernel_rfl) (fun _ _ _ h => h) (Or.inl ⟨by rfl, ?_⟩) hH24 ?_
  rotate_left
  · ((intro W hW; clear hW; go_simp) <;> with_reducible rfl)
  simp only [Act.put, List.getElem_toArray, List.getElem_cons_zero, List.getElem_cons_succ, List.setIfInBounds_toArray, List.set_cons_zero, List.set_cons_succ]
  refine wpAnyH_take (i := 10) (v := ?_) rfl (by kernel_rfl) (by kernel_rfl) (by kernel_rfl) (fun _ _ _ h => h) (Or.inl ⟨by rfl, ?_⟩) hH24 ?_
  rotate_left
  · ((intro W hW; clear hW; go_simp) <;> with_reducible rfl)
  simp only [Act.put, List.getElem_toArray, List.getElem_cons_zero, List.getElem_cons_succ, List.setIfInBounds_toArray, List.set_cons_zero, List.set_cons_succ]
  refine wpAnyH_take (i := 11) (v := ?_) rfl (by kernel_rfl) (by kernel_rfl) (by kernel_rfl) (fun _ _ _ h => h) (Or.inl ⟨by rfl, ?_⟩) hH24 ?_
  rotate_left
  · ((intro W hW; clear hW; go_simp) <;> with_reducible rfl)
  simp only [Act.put, List.getElem_toArray, List.getElem_cons_zero, List.getElem_cons_succ, List.setIfInBounds_toArray, List.set_cons_zero, List.set_cons_succ]
  refine wpAnyH_take (i := 12) (v := ?_) rfl (by kernel_rfl) (by kernel_rfl) (by kernel_rfl) (fun _ _ _ h => h) (Or.inl ⟨by rfl, ?_⟩) hH24 ?_
  rotate_left
  · ((intro W hW; clear hW; go_simp) <;> with_reducible rfl)
  simp only [Act.put, List.getElem_toArray, List.getElem_cons_zero, List.getElem_cons_succ, List.setIfInBounds_toArray, List.set_cons_zero, List.set_cons_succ]
  refine wpAnyH_take (i := 13) (v := ?_) rfl (by kernel_rfl) (by kernel_rfl) (by kernel_rfl) (fun _ _ _ h => h) (Or.inl ⟨by rfl, ?_⟩) hH24 ?_
  rotate_left
  · ((intro W hW; clear hW; go_simp) <;> with_reducible rfl)
  simp only [Act.put, List.getElem_toArray, List.getElem_cons_zero, List.getElem_cons_succ, List.setIfInBounds_toArray, List.set_cons_zero, List.set_cons_succ]
  refine wpAnyH_take (i := 14) (v := ?_) rfl (by kernel_rfl) (by kernel_rfl) (by kernel_rfl) (fun _ _ _ h => h) (Or.inl ⟨by rfl, ?_⟩) hH24 ?_
  rotate_left
  · ((intro W hW; clear hW; go_simp) <;> with_reducible rfl)
  simp only [Act.put, List.getElem_toArray, List.getElem_cons_zero, List.getElem_cons_succ, List.setIfInBounds_toArray, List.set_cons_zero, List.set_cons_succ]
  refine wpAnyH_take (i := 15) (v := ?_) rfl (by kernel_rfl) (by kernel_rfl) (by kernel_rfl) (fun _ _ _ h => h) (Or.inl ⟨by rfl, ?_⟩) hH24 ?_
  rotate_left
  · ((intro W hW; clear hW; go_simp) <;> with_reducible rfl)
  simp only [Act.put, List.getElem_toArray, List.getElem_cons_zero, List.getElem_cons_succ, List.setIfInBounds_toArray, List.set_cons_zero, List.set_cons_succ]
  refine wpAnyH_take (i := 16) (v := .agg #[.int .u8 ((atA 101).a.toNat : Int), .int .u8 ((atA 101).b.toNat : Int), .int .u8 ((atA 101).c.toNat : Int), .int .u8 ((atA 101).d.toNat : Int)]) rfl (by kernel_rfl) (by kernel_rfl) (by kernel_rfl) (fun _ _ _ h => h) (yieldsIf_load_part (by kernel_rfl) 28 _ rfl g6 0 4 rfl _ 28 (0, 0) (fun W hW => hW.2.1) _ rfl _ Try.underlying28 rfl (by kernel_rfl)) hH24 ?_
  simp only [Act.put, List.getElem_toArray, List.getElem_cons_zero, List.getElem_cons_succ, List.setIfInBounds_toArray, List.set_cons_zero, List.set_cons_succ]
  refine wpAnyH_ready (rs := [17]) (by kernel_rfl) (by simp) ?_
  refine AllReadyH.cons (o := _) rfl (fun K hK => ?_) AllReadyH.nil
  simp only [List.getElem_toArray, List.getElem_cons_zero, List.getElem_cons_succ]
  go_simp
  with_reducible refine (at_k 101 _).mono ?_
  rintro e w25 ⟨rfl, b25⟩
  dsimp only
  replace haB := blk_u haB b25
  replace hbB := blk_u hbB b25
  replace hcB := blk_u hcB b25
  replace ls := ls.below b25
  replace hT := hT.below b25
  replace lsw := owk_under lsw b25
  replace bel := bel.trans (b25.mono bel.size)
  clear b25
  refine hK.out _ _ ⟨haB, hbB, hcB, ls⟩ (fun hH26 => ?_)
  clear hK K
  refine wpAnyH_take (i := 18) (v := ?_) rfl (by kernel_rfl) (by kernel_rfl) (by kernel_rfl) (fun _ _ _ h => h) (Or.inl ⟨by rfl, ?_⟩) hH26 ?_
  rotate_left
  · ((intro W hW; clear hW; go_simp) <;> with_reducible rfl)
  simp only [Act.put, List.getElem_toArray, List.getElem_cons_zero, List.getElem_cons_succ, List.setIfInBounds_toArray, List.set_cons_zero, List.set_cons_succ]
  refine wpAnyH_take (i := 19) (v := ?_) rfl (by kernel_rfl) (by kernel_rfl) (by kernel_rfl) (fun _ _ _ h => h) (Or.inl ⟨by rfl, ?_⟩) hH26 ?_
  rotate_left
  · ((intro W hW; clear hW; go_simp) <;> with_reducible rfl)
  simp only [Act.put, List.getElem_toArray, List.getElem_cons_zero, List.getElem_cons_succ, List.setIfInBounds_toArray, List.set_cons_zero, List.set_cons_succ]
  refine wpAnyH_take (i := 20) (v := ?_) rfl (by kernel_rfl) (by kernel_rfl) (by kernel_rfl) (fun _ _ _ h => h) (Or.inl ⟨by rfl, ?_⟩) hH26 ?_
  rotate_left
  · ((intro W hW; clear hW; go_simp) <;> with_reducible rfl)
  simp only [Act.put, List.getElem_toArray, List.getElem_cons_zero, List.getElem_cons_succ, List.setIfInBounds_toArray, List.set_cons_zero, List.set_cons_succ]
  refine wpAnyH_take (i := 21) (v := ?_) rfl (by kernel_rfl) (by kernel_rfl) (by kernel_rfl) (fun _ _ _ h => h) (Or.inl ⟨by rfl, ?_⟩) hH26 ?_
  rotate_left
  · ((intro W hW; clear hW; go_simp) <;> with_reducible rfl)
  simp only [Act.put, List.getElem_toArray, List.getElem_cons_zero, List.getElem_cons_succ, List.setIfInBounds_toArray, List.set_cons_zero, List.set_cons_succ]
  refine wpAnyH_take (i := 22) (v := ?_) rfl (by kernel_rfl) (by kernel_rfl) (by kernel_rfl) (fun _ _ _ h => h) (Or.inl ⟨by rfl, ?_⟩) hH26 ?_
  rotate_left
  · ((intro W hW; clear hW; go_simp) <;> with_reducible rfl)
  simp only [Act.put, List.getElem_toArray, List.getElem_cons_zero, List.getElem_cons_succ, List.setIfInBounds_toArray, List.set_cons_zero, List.set_cons_succ]
  refine wpAnyH_take (i := 23) (v := ?_) rfl (by kernel_rfl) (by kernel_rfl) (by kernel_rfl) (fun _ _ _ h => h) (Or.inl ⟨by rfl, ?_⟩) hH26 ?_
  rotate_left
  · ((intro W hW; clear hW; go_simp) <;> with_reducible rfl)
  simp only [Act.put, List.getElem_toArray, List.getElem_cons_zero, List.getElem_cons_succ, List.setIfInBounds_toArray, List.set_cons_zero, List.set_cons_succ]
  refine wpAnyH_take (i := 24) (v := ?_) rfl (by kernel_rfl) (by kernel_rfl) (by kernel_rfl) (fun _ _ _ h => h) (Or.inl ⟨by rfl, ?_⟩) hH26 ?_
  rotate_left
  · ((intro W hW; clear hW; go_simp) <;> with_reducible rfl)
  simp only [Act.put, List.getElem_toArray, List.getElem_cons_zero, List.getElem_cons_succ, List.setIfInBounds_toArray, List.set_cons_zero, List.set_cons_succ]
  refine wpAnyH_take (i := 25) (v := ?_) rfl (by kernel_rfl) (by kernel_rfl) (by kernel_rfl) (fun _ _ _ h => h) (Or.inl ⟨by rfl, ?_⟩) hH26 ?_
  rotate_left
  · ((intro W hW; clear hW; go_simp) <;> with_reducible rfl)
  simp only [Act.put, List.getElem_toArray, List.getElem_cons_zero, List.getElem_cons_succ, List.setIfInBounds_toArray, List.set_cons_zero, List.set_cons_succ]
  refine wpAnyH_take (i := 26) (v := ?_) rfl (by kernel_rfl) (by kernel_rfl) (by kernel_rfl) (fun _ _ _ h => h) (Or.inl ⟨by rfl, ?_⟩) hH26 ?_
  rotate_left
  · ((intro W hW; clear hW; go_simp) <;> with_reducible rfl)
  simp only [Act.put, List.getElem_toArray, List.getElem_cons_zero, List.getElem_cons_succ, List.setIfInBounds_toArray, List.set_cons_zero, List.set_cons_succ]
  refine wpAnyH_take (i := 27) (v := ?_) rfl (by kernel_rfl) (by kernel_rfl) (by kernel_rfl) (fun _ _ _ h => h) (Or.inl ⟨by rfl, ?_⟩) hH26 ?_
  rotate_left
  · ((intro W hW; clear hW; go_simp) <;> with_reducible rfl)
  simp only [Act.put, List.getElem_toArray, List.getElem_cons_zero, List.getElem_cons_succ, List.setIfInBounds_toArray, List.set_cons_zero, List.set_cons_succ]
  refine wpAnyH_take (i := 28) (v := .agg #[.int .u8 ((macM 1).a.toNat : Int), .int .u8 ((macM 1).b.toNat : Int), .int .u8 ((macM 1).c.toNat : Int), .int .u8 ((macM 1).d.toNat : Int), .int .u8 ((macM 1).e.toNat : Int), .int .u8 ((macM 1).f.toNat : Int), .int .u8 ((atA 100).a.toNat : Int), .int .u8 ((atA 100).b.toNat : Int), .int .u8 ((atA 100).c.toNat : Int), .int .u8 ((atA 100).d.toNat : Int), .int .i64 60]) rfl (by kernel_rfl) (by kernel_rfl) (by kernel_rfl) (fun _ _ _ h => h) (yieldsIf_load_mid (by kernel_rfl) 34 _ rfl gL (0 * 11) rfl [.int .u8 ((macM 1).a.toNat : Int), .int .u8 ((macM 1).b.toNat : Int), .int .u8 ((macM 1).c.toNat : Int), .int .u8 ((macM 1).d.toNat : Int), .int .u8 ((macM 1).e.toNat : Int), .int .u8 ((macM 1).f.toNat : Int), .int .u8 ((atA 100).a.toNat : Int), .int .u8 ((atA 100).b.toNat : Int), .int .u8 ((atA 100).c.toNat : Int), .int .u8 ((atA 100).d.toNat : Int), .int .i64 60] _ (fun W hW => Sle.zrange0 (hW.2.2.2) rfl 11 [.int .u8 ((macM 1).a.toNat : Int), .int .u8 ((macM 1).b.toNat : Int), .int .u8 ((macM 1).c.toNat : Int), .int .u8 ((macM 1).d.toNat : Int), .int .u8 ((macM 1).e.toNat : Int), .int .u8 ((macM 1).f.toNat : Int), .int .u8 ((atA 100).a.toNat : Int), .int .u8 ((atA 100).b.toNat : Int), .int .u8 ((atA 100).c.toNat : Int), .int .u8 ((atA 100).d.toNat : Int), .int .i64 60] rfl) Try.underlying34 rfl (by kernel_rfl)) hH26 ?_
  simp only [Act.put, List.getElem_toArray, List.getElem_cons_zero, List.getElem_cons_succ, List.setIfInBounds_toArray, List.set_cons_zero, List.set_cons_succ]
  refine wpAnyH_ready (rs := [29]) (by kernel_rfl) (by simp) ?_
  refine AllReadyH.cons (o := _) rfl (fun K hK => ?_) AllReadyH.nil
  simp only [List.getElem_toArray, List.getElem_cons_zero, List.getElem_cons_succ]
  go_simp
  with_reducible refine (mac_k 1 _).mono ?_
  rintro e w27 ⟨rfl, b27⟩
  dsimp only
  replace haB := blk_u haB b27
  replace hbB := blk_u hbB b27
  replace hcB := blk_u hcB b27
  replace ls := ls.below b27
  replace hT := hT.below b27
  replace lsw := owk_under lsw b27
  replace bel := bel.trans (b27.mono bel.size)
  clear b27
  refine hK.out _ _ ⟨haB, hbB, hcB, ls⟩ (fun hH28 => ?_)
  clear hK K
  refine wpAnyH_ready (rs := [30]) (by kernel_rfl) (by simp) ?_
  refine AllReadyH.cons (o := _) rfl (fun K hK => ?_) AllReadyH.nil
  simp only [List.getElem_toArray, List.getElem_cons_zero, List.getElem_cons_succ]
  go_simp
  with_reducible refine (at_k 100 _).mono ?_
  rintro e w29 ⟨rfl, b29⟩
  dsimp only
  replace haB := blk_u haB b29
  replace hbB := blk_u hbB b29
  replace hcB := blk_u hcB b29
  replace ls := ls.below b29
  replace hT := hT.below b29
  replace lsw := owk_under lsw b29
  replace bel := bel.trans (b29.mono bel.size)
  clear b29
  refine hK.out _ _ ⟨haB, hbB, hcB, ls⟩ (fun hH30 => ?_)
  clear hK K
  refine wpAnyH_take (i := 31) (v := ?_) rfl (by kernel_rfl) (by kernel_rfl) (by kernel_rfl) (fun _ _ _ h => h) (Or.inl ⟨by rfl, ?_⟩) hH30 ?_
  rotate_left
  · ((intro W hW; clear hW; go_simp) <;> with_reducible rfl)
  simp only [Act.put, List.getElem_toArray, List.getElem_cons_zero, List.getElem_cons_succ, List.setIfInBounds_toArray, List.set_cons_zero, List.set_cons_succ]
  refine wpAnyH_take (i := 32) (v := ?_) rfl (by kernel_rfl) (by kernel_rfl) (by kernel_rfl) (fun _ _ _ h => h) (Or.inl ⟨by rfl, ?_⟩) hH30 ?_
  rotate_left
  · ((intro W hW; clear hW; go_simp) <;> with_reducible rfl)
  simp only [Act.put, List.getElem_toArray, List.getElem_cons_zero, List.getElem_cons_succ, List.setIfInBounds_toArray, List.set_cons_zero, List.set_cons_succ]
  refine wpAnyH_take (i := 33) (v := ?_) rfl (by kernel_rfl) (by kernel_rfl) (by kernel_rfl) (fun _ _ _ h => h) (Or.inl ⟨by rfl, ?_⟩) hH30 ?_
  rotate_left
  · ((intro W hW; clear hW; go_simp) <;> with_reducible rfl)
  simp only [Act.put, List.getElem_toArray, List.getElem_cons_zero, List.getElem_cons_succ, List.setIfInBounds_toArray, List.set_cons_zero, List.set_cons_succ]
  refine wpAnyH_take (i := 34) (v := ?_) rfl (by kernel_rfl) (by kernel_rfl) (by kernel_rfl) (fun _ _ _ h => h) (Or.inl ⟨by rfl, ?_⟩) hH30 ?_
  rotate_left
  · ((intro W hW; clear hW; go_simp) <;> with_reducible rfl)
  simp only [Act.put, List.getElem_toArray, List.getElem_cons_zero, List.getElem_cons_succ, List.setIfInBounds_toArray, List.set_cons_zero, List.set_cons_succ]
  refine wpAnyH_take (i := 35) (v := ?_) rfl (by kernel_rfl) (by kernel_rfl) (by kernel_rfl) (fun _ _ _ h => h) (Or.inl ⟨by rfl, ?_⟩) hH30 ?_
  rotate_left
  · ((intro W hW; clear hW; go_simp) <;> with_reducible rfl)
  simp only [Act.put, List.getElem_toArray, List.getElem_cons_zero, List.getElem_cons_succ, List.setIfInBounds_toArray, List.set_cons_zero, List.set_cons_succ]
  refine wpAnyH_take (i := 36) (v := ?_) rfl (by kernel_rfl) (by kernel_rfl) (by kernel_rfl) (fun _ _ _ h => h) (Or.inl ⟨by rfl, ?_⟩) hH30 ?_
  rotate_left
  · ((intro W hW; clear hW; go_simp) <;> with_reducible rfl)
  simp only [Act.put, List.getElem_toArray, List.getElem_cons_zero, List.getElem_cons_succ, List.setIfInBounds_toArray, List.set_cons_zero, List.set_cons_succ]
  refine wpAnyH_take (i := 37) (v := ?_) rfl (by kernel_rfl) (by kernel_rfl) (by kernel_rfl) (fun _ _ _ h => h) (Or.inl ⟨by rfl, ?_⟩) hH30 ?_
  rotate_left
  · ((intro W hW; clear hW; go_simp) <;> with_reducible rfl)
  simp only [Act.put, List.getElem_toArray, List.getElem_cons_zero, List.getElem_cons_succ, List.setIfInBounds_toArray, List.set_cons_zero, List.set_cons_succ]
  refine wpAnyH_take (i := 38) (v := .agg #[.int .u8 ((atA 100).a.toNat : Int), .int .u8 ((atA 100).b.toNat : Int), .int .u8 ((atA 100).c.toNat : Int), .int .u8 ((atA 100).d.toNat : Int)]) rfl (by kernel_rfl) (by kernel_rfl) (by kernel_rfl) (fun _ _ _ h => h) (yieldsIf_load_part (by kernel_rfl) 28 _ rfl g9 0 4 rfl _ 28 (0, 0) (fun W hW => hW.2.2.1) _ rfl _ Try.underlying28 rfl (by kernel_rfl)) hH30 ?_
  simp only [Act.put, List.getElem_toArray, List.getElem_cons_zero, List.getElem_cons_succ, List.setIfInBounds_toArray, List.set_cons_zero, List.set_cons_succ]
  refine wpAnyH_ready (rs := [39]) (by kernel_rfl) (by simp) ?_
  refine AllReadyH.cons (o := _) rfl (fun K hK => ?_) AllReadyH.nil
  simp only [List.getElem_toArray, List.getElem_cons_zero, List.getElem_cons_succ]
  go_simp
  with_reducible refine (at_k 100 _).mono ?_
  rintro e w31 ⟨rfl, b31⟩
  dsimp only
  replace haB := blk_u haB b31
  replace hbB := blk_u hbB b31
  replace hcB := blk_u hcB b31
  replace ls := ls.below b31
  replace hT := hT.below b31
  replace lsw := owk_under lsw b31
  replace bel := bel.trans (b31.mono bel.size)
  clear b31
  refine hK.out _ _ ⟨haB, hbB, hcB, ls⟩ (fun hH32 => ?_)
  clear hK K
  refine wpAnyH_take (i := 40) (v := ?_) rfl (by kernel_rfl) (by kernel_rfl) (by kernel_rfl) (fun _ _ _ h => h) (Or.inl ⟨by rfl, ?_⟩) hH32 ?_
  rotate_left
  · ((intro W hW; clear hW; go_simp) <;> with_reducible rfl)
  simp only [Act.put, List.getElem_toArray, List.getElem_cons_zero, List.getElem_cons_succ, List.setIfInBounds_toArray, List.set_cons_zero, List.set_cons_succ]
  refine wpAnyH_take (i := 41) (v := ?_) rfl (by kernel_rfl) (by kernel_rfl) (by kernel_rfl) (fun _ _ _ h => h) (Or.inl ⟨by rfl, ?_⟩) hH32 ?_
  rotate_left
  · ((intro W hW; clear hW; go_simp) <;> with_reducible rfl)
  simp only [Act.put, List.getElem_toArray, List.getElem_cons_zero, List.getElem_cons_succ, List.setIfInBounds_toArray, List.set_cons_zero, List.set_cons_succ]
  refine wpAnyH_take (i := 42) (v := ?_) rfl (by kernel_rfl) (by kernel_rfl) (by kernel_rfl) (fun _ _ _ h => h) (Or.inl ⟨by rfl, ?_⟩) hH32 ?_
  rotate_left
  · ((intro W hW; clear hW; go_simp) <;> with_reducible rfl)
  simp only [Act.put, List.getElem_toArray, List.getElem_cons_zero, List.getElem_cons_succ, List.setIfInBounds_toArray, List.set_cons_zero]
  refine wpAnyH_done (by kernel_rfl) ?_ _
  go_wp2_with fail
  go_ret
  exact ⟨rfl, bel⟩
end Go.Proofs.Ythcjepafcemmnaa
