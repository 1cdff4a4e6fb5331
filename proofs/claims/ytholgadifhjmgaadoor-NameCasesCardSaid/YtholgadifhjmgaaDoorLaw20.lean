/- What chapter 20's statements share; NameBack, NameReads. -/
import Derived.Test.YtholgadifhjmgaaDoorDn6
import Derived.Test.YtholgadifhjmgaaDoorDn7
namespace Go.Proofs.YtholgadifhjmgaaDoor
open Go.RowKit

theorem nget_lit {A : Option Addr} {n c : Nat} {b : List UInt8} {a0 x y : Int} {l : List (List UInt8)} {nx er k : Nat} (w : World) (sb : Sl w A n c b) (hn : n ≤ 100000) (h : getN b a0 = (l, nx, er)) (hk : l.length = k) (hx : (nx : Int) = x) (hy : (er : Int) = y) :
    Calls Tryd.prog 11 #[.slice A n c, .int .i64 a0] w fun e w' => ∃ v, e = .returned (.tuple #[v, .int .i64 x, .int .i64 y]) ∧ w'.ownsRow w.heap.size 9 1 v k (l.flatMap stf) ∧ Below w.heap.size w w' := by
  have h1 := nget_any A n c b a0 w sb hn
  rw [h] at h1
  subst hk; subst hx; subst hy
  exact h1
theorem rget_lit {A : Option Addr} {n c : Nat} {b : List UInt8} {a0 x y : Int} {l : List (List UInt8)} {nx er k : Nat} (w : World) (sb : Sl w A n c b) (hn : n ≤ 100000) (h : getN b a0 = (l, nx, er)) (hk : l.length = k) (hx : (nx : Int) = x) (hy : (er : Int) = y) :
    Calls Tryd.prog 16 #[.slice A n c, .int .i64 a0] w fun e w' => ∃ v, e = .returned (.tuple #[v, .int .i64 x, .int .i64 y]) ∧ w'.ownsRow w.heap.size 9 1 v k (l.flatMap stf) ∧ Below w.heap.size w w' := by
  have h1 := rget_any A n c b a0 w sb hn
  rw [h] at h1
  subst hk; subst hx; subst hy
  exact h1
theorem nput_lit {A B : Option Addr} {n d m c k : Nat} {b r : List UInt8} {l : List (List UInt8)} (w : World) (lb : Sl w B n d b) (la : Sle stf 1 w A m c l) (hn : n ≤ 100000) (hg : goodN l = true) (hr : b ++ putN l = r) (hk : r.length = k) :
    Calls Tryd.prog 12 #[.slice B n d, .slice A m c] w fun e w' => ∃ v, e = .returned (.tuple #[v, .int .i64 0]) ∧ w'.ownsRow w.heap.size 5 1 v k (r.map u8v) ∧ Below w.heap.size w w' := by
  have h1 := nput_good A B n d m c b l w lb la hn hg
  rw [hr, hk] at h1
  exact h1
theorem rput_lit {A B : Option Addr} {n d m c k : Nat} {b r : List UInt8} {l : List (List UInt8)} (w : World) (lb : Sl w B n d b) (la : Sle stf 1 w A m c l) (hn : n ≤ 100000) (hg : goodN l = true) (hr : b ++ putN l = r) (hk : r.length = k) :
    Calls Tryd.prog 20 #[.slice B n d, .slice A m c] w fun e w' => ∃ v, e = .returned v ∧ w'.ownsRow w.heap.size 5 1 v k (r.map u8v) ∧ Below w.heap.size w w' := by
  have h1 := rput_good A B n d m c b l w lb la hn hg
  rw [hr, hk] at h1
  exact h1
theorem nparse_lit {s : List UInt8} {l : List (List UInt8)} {k : Nat} {y : Int} (w : World) (h : parseR s = (l, y)) (hk : l.length = k) :
    Calls Tryd.prog 13 #[.string ⟨s.toArray⟩] w fun e w' => ∃ v, e = .returned (.tuple #[v, .int .i64 y]) ∧ w'.ownsRow w.heap.size 9 1 v k (l.flatMap stf) ∧ Below w.heap.size w w' := by
  have h1 := nparseN_any s w
  rw [h] at h1
  subst hk
  exact h1
theorem rparse_lit {s : List UInt8} {l : List (List UInt8)} {k : Nat} {y : Int} {o : Bool} (w : World) (hs : s.length ≤ 99999) (h : parseR s = (l, y)) (ho : (parseS s).isSome = o) (hk : l.length = k) :
    Calls Tryd.prog 21 #[.string ⟨s.toArray⟩] w fun e w' => ∃ v, e = .returned (.tuple #[v, .bool o]) ∧ w'.ownsRow w.heap.size 9 1 v k (l.flatMap stf) ∧ Below w.heap.size w w' := by
  have h1 := rparse_any s w hs
  rw [h, ho] at h1
  subst hk
  exact h1
theorem ntext_lit {A : Option Addr} {n c : Nat} {l : List (List UInt8)} {s : List UInt8} (w : World) (la : Sle stf 1 w A n c l) (hs : sizeN l ≤ 100000) (h : textN l = s) : Calls Tryd.prog 15 #[.slice A n c] w fun e w' => e = .returned (.string ⟨s.toArray⟩) ∧ Below w.heap.size w w' := by
  subst h
  exact ntext_any A n c l w la hs
theorem getF_len : ∀ (k : Nat) (b : List UInt8) (a nx p : Nat) (ls : List (List UInt8)) (sz : Nat), ls.length ≤ sz → sz ≤ 255 → (getF k b a nx p ls sz).1.length ≤ 255
  | 0, b, a, nx, p, ls, sz, h1, h2 => by simp [getF]
  | k + 1, b, a, nx, p, ls, sz, h1, h2 => by
    rcases hc : b[a]? with _ | c
    · rw [getF, hc]; simp
    · rw [getF, hc]
      simp only
      split
      · simp only; omega
      · split
        · split
          · simp
          · split
            · simp
            · exact getF_len k b _ nx p _ _ (by rw [List.length_append, List.length_singleton]; omega) (by omega)
        · split
          · simp
          · split
            · simp
            · split
              · simp
              · exact getF_len k b _ _ _ ls sz h1 h2
theorem getN_len (b : List UInt8) (a : Int) : (getN b a).1.length ≤ 255 := by
  unfold getN
  split
  · simp
  · exact getF_len _ _ _ _ _ _ _ (by simp) (by omega)
theorem k_get1 : getN [1, 97, 0] 0 = ([[97]], 3, 0) := by decide +kernel
theorem k_put1 : ([] : List UInt8) ++ putN [[97]] = [1, 97, 0] := by decide +kernel
theorem k_par1 : parseR [97, 46, 98] = ([[97], [98]], 0) := by decide +kernel
theorem k_txt1 : textN [[97], [98]] = [97, 46, 98] := by decide +kernel
theorem k_good1 : goodN [[97], [98]] = true := by decide +kernel
theorem k_good2 : goodN [[97]] = true := by decide +kernel
theorem k_same1 : sameN [[65]] [[97]] = true := by decide +kernel
set_option linter.unusedVariables false in
set_option linter.unusedSimpArgs false in
set_option maxRecDepth 100000 in
set_option maxHeartbeats 16000000 in
theorem awake_any (w : World) : Calls Tryd.prog 10 #[] w fun e w' => e = .returned (.bool true) ∧ Below w.heap.size w w' := by
  have nl0 := Sl.nil w
  have bel := Below.refl w.heap.size w
  go_enter Tryd.func10, Tryd.ntmps10
  go_wp2_with (first | ((with_reducible show wpList _ _ _ (⟨some 9, _, _, _, _, _⟩ :: _) _ _); refine wpList_lit_n rfl 27 5 3 _ rfl #[.int .u8 1, .int .u8 97, .int .u8 0] (.int .u8 0) Tryd.underlying27 (by kernel_rfl) 1 (by kernel_rfl) (by decide) (by kernel_rfl) ?_; intro g9 w1 ge lt hh bb; have hl : w1.heap[g9]? = some (.cells (([1, 97, 0] : List UInt8).map u8v).toArray 5 (0, 0)) := (by simpa [u8v, byteOf_val] using hh); have s9w := own_lit (B := w.heap.size) ([1, 97, 0]) hl ge 3 rfl (by simp [maxLen]); have s9 := (own_sl s9w).1; have s9lo := bel.size; clear hl; have s9ge := ge; have lz_s9 := bb.size; have bl_nl0_s9 := nl0.bl_new; have av_nl0_b9 := nl0.av_new ge; have ob9 := Nat.le_trans bel.size ge; replace nl0 := nl0.below bb; replace bel := bel.trans (bb.mono bel.size); have hb9 := hh; clear hh lt ge bb))
  with_reducible refine (nget_lit (k := 1) (x := 3) (y := 0) _ s9 (by decide) k_get1 rfl rfl rfl).mono ?_
  rintro e w2 ⟨v_ga, rfl, gaw, b2⟩
  have y_ga_b9 := Lib.hid (hlt hb9)
  have bl_nl0_ga := nl0.bl_new
  have bl_s9_ga := s9.bl_new
  have galo := bel.size
  have lz_ga := b2.size
  replace hb9 := blk_u hb9 b2
  replace nl0 := nl0.below b2
  replace s9 := s9.below b2
  replace s9w := own_under s9w b2
  replace lz_s9 := Nat.le_trans lz_s9 b2.size
  replace bel := bel.trans (b2.mono bel.size)
  clear b2
  obtain ⟨Aga, cga, rfl⟩ := owk_val gaw
  have ga := (owk_sle (by decide) stf_len gaw).1
  have fr_ga := (owk_sle (by decide) stf_len gaw).2
  have av_ga_b9 := fr_ga.av y_ga_b9.out
  go_wp2_with (first | ((with_reducible show wpList _ _ _ (⟨some 15, _, _, _, _, _⟩ :: _) _ _); refine wpList_lit_n rfl 23 9 1 _ rfl #[.string ⟨#[97]⟩] (.string ⟨#[]⟩) Tryd.underlying23 (by kernel_rfl) 1 (by kernel_rfl) (by decide) (by kernel_rfl) ?_; intro g15 w3 ge lt hh bb; have d_b9_b15 := ne_new (hlt hb9) ge; have av_nl0_b15 := nl0.av_new ge; have av_s9_b15 := s9.av_new ge; have of_s9_b15 := own_new s9w ge; have av_ga_b15 := ga.av_new ge; have of_ga_b15 := owk_new gaw ge; have ob15 := Nat.le_trans bel.size ge; replace hb9 := blk_u hb9 bb; replace nl0 := nl0.below bb; replace s9 := s9.below bb; replace s9w := own_under s9w bb; replace ga := ga.below bb; replace gaw := owk_under gaw bb; replace lz_s9 := Nat.le_trans lz_s9 bb.size; replace lz_ga := Nat.le_trans lz_ga bb.size; replace bel := bel.trans (bb.mono bel.size); have hb15 := hh; clear hh lt ge bb; have sp : Sle stf 1 w3 (some ⟨g15, 0, none⟩) (1) (1) ([[97]]) := sle_lit ([[97]]) (by decide) stf_len hb15 rfl (by simp [maxLen])))
  with_reducible refine (nput_lit (k := 3) _ nl0 sp (by decide) k_good2 k_put1 rfl).mono ?_
  rintro e w4 ⟨v_pb, rfl, pbw, b4⟩
  have y_pb_b9 := Lib.hid (hlt hb9)
  have y_pb_b15 := Lib.hid (hlt hb15)
  have bl_nl0_pb := nl0.bl_new
  have bl_s9_pb := s9.bl_new
  have bl_ga_pb := ga.bl_new
  have bl_sp_pb := sp.bl_new
  have pblo := bel.size
  have lz_pb := b4.size
  replace hb9 := blk_u hb9 b4
  replace hb15 := blk_u hb15 b4
  replace nl0 := nl0.below b4
  replace s9 := s9.below b4
  replace s9w := own_under s9w b4
  replace ga := ga.below b4
  replace gaw := owk_under gaw b4
  replace sp := sp.below b4
  replace lz_s9 := Nat.le_trans lz_s9 b4.size
  replace lz_ga := Nat.le_trans lz_ga b4.size
  replace bel := bel.trans (b4.mono bel.size)
  clear b4
  obtain ⟨Apb, cpb, rfl⟩ := own_val pbw
  have pb := (own_sl pbw).1
  have fr_pb := (own_sl pbw).2
  have av_pb_b9 := fr_pb.av y_pb_b9.out
  have av_pb_b15 := fr_pb.av y_pb_b15.out
  go_wp2_with fail
  with_reducible refine (nparse_lit (s := [97, 46, 98]) (k := 2) _ k_par1 rfl).mono ?_
  rintro e w5 ⟨v_pa, rfl, paw, b5⟩
  have y_pa_b9 := Lib.hid (hlt hb9)
  have y_pa_b15 := Lib.hid (hlt hb15)
  have bl_nl0_pa := nl0.bl_new
  have bl_s9_pa := s9.bl_new
  have bl_ga_pa := ga.bl_new
  have bl_sp_pa := sp.bl_new
  have bl_pb_pa := pb.bl_new
  have palo := bel.size
  have lz_pa := b5.size
  replace hb9 := blk_u hb9 b5
  replace hb15 := blk_u hb15 b5
  replace nl0 := nl0.below b5
  replace s9 := s9.below b5
  replace s9w := own_under s9w b5
  replace ga := ga.below b5
  replace gaw := owk_under gaw b5
  replace sp := sp.below b5
  replace pb := pb.below b5
  replace pbw := own_under pbw b5
  replace lz_s9 := Nat.le_trans lz_s9 b5.size
  replace lz_ga := Nat.le_trans lz_ga b5.size
  replace lz_pb := Nat.le_trans lz_pb b5.size
  replace bel := bel.trans (b5.mono bel.size)
  clear b5
  obtain ⟨Apa, cpa, rfl⟩ := owk_val paw
  have pa := (owk_sle (by decide) stf_len paw).1
  have fr_pa := (owk_sle (by decide) stf_len paw).2
  have av_pa_b9 := fr_pa.av y_pa_b9.out
  have av_pa_b15 := fr_pa.av y_pa_b15.out
  go_wp2_with (first | ((with_reducible show wpList _ _ _ (⟨some 31, _, _, _, _, _⟩ :: _) _ _); refine wpList_wanted (by rfl) (fun K hK => ?_); refine wp_lit_n 23 9 1 _ rfl #[.string ⟨#[97]⟩] (.string ⟨#[]⟩) Tryd.underlying23 (by kernel_rfl) 1 (by kernel_rfl) (by decide) (by kernel_rfl) ?_; intro g31 w6 ge lt hh bb; have d_b9_b31 := ne_new (hlt hb9) ge; have d_b15_b31 := ne_new (hlt hb15) ge; have av_nl0_b31 := nl0.av_new ge; have av_s9_b31 := s9.av_new ge; have of_s9_b31 := own_new s9w ge; have av_ga_b31 := ga.av_new ge; have of_ga_b31 := owk_new gaw ge; have av_sp_b31 := sp.av_new ge; have av_pb_b31 := pb.av_new ge; have of_pb_b31 := own_new pbw ge; have av_pa_b31 := pa.av_new ge; have of_pa_b31 := owk_new paw ge; have ob31 := Nat.le_trans bel.size ge; replace hb9 := blk_u hb9 bb; replace hb15 := blk_u hb15 bb; replace nl0 := nl0.below bb; replace s9 := s9.below bb; replace s9w := own_under s9w bb; replace ga := ga.below bb; replace gaw := owk_under gaw bb; replace sp := sp.below bb; replace pb := pb.below bb; replace pbw := own_under pbw bb; replace pa := pa.below bb; replace paw := owk_under paw bb; replace lz_s9 := Nat.le_trans lz_s9 bb.size; replace lz_ga := Nat.le_trans lz_ga bb.size; replace lz_pb := Nat.le_trans lz_pb bb.size; replace lz_pa := Nat.le_trans lz_pa bb.size; replace bel := bel.trans (bb.mono bel.size); have hb31 := hh; clear hh lt ge bb; have x1 : Sle stf 1 w6 (some ⟨g31, 0, none⟩) (1) (1) ([[97]]) := sle_lit ([[97]]) (by decide) stf_len hb31 rfl (by simp [maxLen]); refine hK _ _ ?_; clear hK K))
  with_reducible refine (lexact_any _ _ _ _ _ _ _ _ ga x1 (by decide)).mono ?_
  rintro e w7 ⟨rfl, b7⟩
  replace hb9 := blk_u hb9 b7
  replace hb15 := blk_u hb15 b7
  replace hb31 := blk_u hb31 b7
  replace nl0 := nl0.below b7
  replace s9 := s9.below b7
  replace s9w := own_under s9w b7
  replace ga := ga.below b7
  replace gaw := owk_under gaw b7
  replace sp := sp.below b7
  replace pb := pb.below b7
  replace pbw := own_under pbw b7
  replace pa := pa.below b7
  replace paw := owk_under paw b7
  replace x1 := x1.below b7
  replace lz_s9 := Nat.le_trans lz_s9 b7.size
  replace lz_ga := Nat.le_trans lz_ga b7.size
  replace lz_pb := Nat.le_trans lz_pb b7.size
  replace lz_pa := Nat.le_trans lz_pa b7.size
  replace bel := bel.trans (b7.mono bel.size)
  clear b7
  have st40 := pb.str (P := Tryd.prog) 27 5 9 Tryd.underlying27 Tryd.underlying5 Tryd.underlying9
  go_wp2_with (first | ((with_reducible show wpList _ _ _ (⟨some 49, _, _, _, _, _⟩ :: _) _ _); refine wpList_wanted (by rfl) (fun K hK => ?_); refine wp_lit_n 23 9 2 _ rfl #[.string ⟨#[97]⟩, .string ⟨#[98]⟩] (.string ⟨#[]⟩) Tryd.underlying23 (by kernel_rfl) 1 (by kernel_rfl) (by decide) (by kernel_rfl) ?_; intro g49 w8 ge lt hh bb; have d_b9_b49 := ne_new (hlt hb9) ge; have d_b15_b49 := ne_new (hlt hb15) ge; have d_b31_b49 := ne_new (hlt hb31) ge; have av_nl0_b49 := nl0.av_new ge; have av_s9_b49 := s9.av_new ge; have of_s9_b49 := own_new s9w ge; have av_ga_b49 := ga.av_new ge; have of_ga_b49 := owk_new gaw ge; have av_sp_b49 := sp.av_new ge; have av_pb_b49 := pb.av_new ge; have of_pb_b49 := own_new pbw ge; have av_pa_b49 := pa.av_new ge; have of_pa_b49 := owk_new paw ge; have av_x1_b49 := x1.av_new ge; have ob49 := Nat.le_trans bel.size ge; replace hb9 := blk_u hb9 bb; replace hb15 := blk_u hb15 bb; replace hb31 := blk_u hb31 bb; replace nl0 := nl0.below bb; replace s9 := s9.below bb; replace s9w := own_under s9w bb; replace ga := ga.below bb; replace gaw := owk_under gaw bb; replace sp := sp.below bb; replace pb := pb.below bb; replace pbw := own_under pbw bb; replace pa := pa.below bb; replace paw := owk_under paw bb; replace x1 := x1.below bb; replace lz_s9 := Nat.le_trans lz_s9 bb.size; replace lz_ga := Nat.le_trans lz_ga bb.size; replace lz_pb := Nat.le_trans lz_pb bb.size; replace lz_pa := Nat.le_trans lz_pa bb.size; replace bel := bel.trans (bb.mono bel.size); have hb49 := hh; clear hh lt ge bb; have x2 : Sle stf 1 w8 (some ⟨g49, 0, none⟩) (2) (2) ([[97], [98]]) := sle_lit ([[97], [98]]) (by decide) stf_len hb49 rfl (by simp [maxLen]); refine hK _ _ ?_; clear hK K))
  try clear st40
  with_reducible refine (lexact_any _ _ _ _ _ _ _ _ pa x2 (by decide)).mono ?_
  rintro e w9 ⟨rfl, b9⟩
  replace hb9 := blk_u hb9 b9
  replace hb15 := blk_u hb15 b9
  replace hb31 := blk_u hb31 b9
  replace hb49 := blk_u hb49 b9
  replace nl0 := nl0.below b9
  replace s9 := s9.below b9
  replace s9w := own_under s9w b9
  replace ga := ga.below b9
  replace gaw := owk_under gaw b9
  replace sp := sp.below b9
  replace pb := pb.below b9
  replace pbw := own_under pbw b9
  replace pa := pa.below b9
  replace paw := owk_under paw b9
  replace x1 := x1.below b9
  replace x2 := x2.below b9
  replace lz_s9 := Nat.le_trans lz_s9 b9.size
  replace lz_ga := Nat.le_trans lz_ga b9.size
  replace lz_pb := Nat.le_trans lz_pb b9.size
  replace lz_pa := Nat.le_trans lz_pa b9.size
  replace bel := bel.trans (b9.mono bel.size)
  clear b9
  go_wp2_with fail
  with_reducible refine (ntext_lit _ pa (by decide) k_txt1).mono ?_
  rintro e w10 ⟨rfl, b10⟩
  replace hb9 := blk_u hb9 b10
  replace hb15 := blk_u hb15 b10
  replace hb31 := blk_u hb31 b10
  replace hb49 := blk_u hb49 b10
  replace nl0 := nl0.below b10
  replace s9 := s9.below b10
  replace s9w := own_under s9w b10
  replace ga := ga.below b10
  replace gaw := owk_under gaw b10
  replace sp := sp.below b10
  replace pb := pb.below b10
  replace pbw := own_under pbw b10
  replace pa := pa.below b10
  replace paw := owk_under paw b10
  replace x1 := x1.below b10
  replace x2 := x2.below b10
  replace lz_s9 := Nat.le_trans lz_s9 b10.size
  replace lz_ga := Nat.le_trans lz_ga b10.size
  replace lz_pb := Nat.le_trans lz_pb b10.size
  replace lz_pa := Nat.le_trans lz_pa b10.size
  replace bel := bel.trans (b10.mono bel.size)
  clear b10
  go_wp2_with fail
  with_reducible refine (ngood_any _ _ _ _ _ pa (by decide)).mono ?_
  rintro e _ ⟨rfl, rfl⟩
  rw [k_good1]
  go_wp2_with (first | ((with_reducible show wpList _ _ _ (⟨some 62, _, _, _, _, _⟩ :: _) _ _); refine wpList_wanted (by rfl) (fun K hK => ?_); refine wp_lit_n 23 9 1 _ rfl #[.string ⟨#[65]⟩] (.string ⟨#[]⟩) Tryd.underlying23 (by kernel_rfl) 1 (by kernel_rfl) (by decide) (by kernel_rfl) ?_; intro g62 w11 ge lt hh bb; have d_b9_b62 := ne_new (hlt hb9) ge; have d_b15_b62 := ne_new (hlt hb15) ge; have d_b31_b62 := ne_new (hlt hb31) ge; have d_b49_b62 := ne_new (hlt hb49) ge; have av_nl0_b62 := nl0.av_new ge; have av_s9_b62 := s9.av_new ge; have of_s9_b62 := own_new s9w ge; have av_ga_b62 := ga.av_new ge; have of_ga_b62 := owk_new gaw ge; have av_sp_b62 := sp.av_new ge; have av_pb_b62 := pb.av_new ge; have of_pb_b62 := own_new pbw ge; have av_pa_b62 := pa.av_new ge; have of_pa_b62 := owk_new paw ge; have av_x1_b62 := x1.av_new ge; have av_x2_b62 := x2.av_new ge; have ob62 := Nat.le_trans bel.size ge; replace hb9 := blk_u hb9 bb; replace hb15 := blk_u hb15 bb; replace hb31 := blk_u hb31 bb; replace hb49 := blk_u hb49 bb; replace nl0 := nl0.below bb; replace s9 := s9.below bb; replace s9w := own_under s9w bb; replace ga := ga.below bb; replace gaw := owk_under gaw bb; replace sp := sp.below bb; replace pb := pb.below bb; replace pbw := own_under pbw bb; replace pa := pa.below bb; replace paw := owk_under paw bb; replace x1 := x1.below bb; replace x2 := x2.below bb; replace lz_s9 := Nat.le_trans lz_s9 bb.size; replace lz_ga := Nat.le_trans lz_ga bb.size; replace lz_pb := Nat.le_trans lz_pb bb.size; replace lz_pa := Nat.le_trans lz_pa bb.size; replace bel := bel.trans (bb.mono bel.size); have hb62 := hh; clear hh lt ge bb; have y1 : Sle stf 1 w11 (some ⟨g62, 0, none⟩) (1) (1) ([[65]]) := sle_lit ([[65]]) (by decide) stf_len hb62 rfl (by simp [maxLen]); refine hK _ _ ?_; clear hK K) | ((with_reducible show wpList _ _ _ (⟨some 63, _, _, _, _, _⟩ :: _) _ _); refine wpList_wanted (by rfl) (fun K hK => ?_); refine wp_lit_n 23 9 1 _ rfl #[.string ⟨#[97]⟩] (.string ⟨#[]⟩) Tryd.underlying23 (by kernel_rfl) 1 (by kernel_rfl) (by decide) (by kernel_rfl) ?_; intro g63 w12 ge lt hh bb; have d_b9_b63 := ne_new (hlt hb9) ge; have d_b15_b63 := ne_new (hlt hb15) ge; have d_b31_b63 := ne_new (hlt hb31) ge; have d_b49_b63 := ne_new (hlt hb49) ge; have d_b62_b63 := ne_new (hlt hb62) ge; have av_nl0_b63 := nl0.av_new ge; have av_s9_b63 := s9.av_new ge; have of_s9_b63 := own_new s9w ge; have av_ga_b63 := ga.av_new ge; have of_ga_b63 := owk_new gaw ge; have av_sp_b63 := sp.av_new ge; have av_pb_b63 := pb.av_new ge; have of_pb_b63 := own_new pbw ge; have av_pa_b63 := pa.av_new ge; have of_pa_b63 := owk_new paw ge; have av_x1_b63 := x1.av_new ge; have av_x2_b63 := x2.av_new ge; have av_y1_b63 := y1.av_new ge; have ob63 := Nat.le_trans bel.size ge; replace hb9 := blk_u hb9 bb; replace hb15 := blk_u hb15 bb; replace hb31 := blk_u hb31 bb; replace hb49 := blk_u hb49 bb; replace hb62 := blk_u hb62 bb; replace nl0 := nl0.below bb; replace s9 := s9.below bb; replace s9w := own_under s9w bb; replace ga := ga.below bb; replace gaw := owk_under gaw bb; replace sp := sp.below bb; replace pb := pb.below bb; replace pbw := own_under pbw bb; replace pa := pa.below bb; replace paw := owk_under paw bb; replace x1 := x1.below bb; replace x2 := x2.below bb; replace y1 := y1.below bb; replace lz_s9 := Nat.le_trans lz_s9 bb.size; replace lz_ga := Nat.le_trans lz_ga bb.size; replace lz_pb := Nat.le_trans lz_pb bb.size; replace lz_pa := Nat.le_trans lz_pa bb.size; replace bel := bel.trans (bb.mono bel.size); have hb63 := hh; clear hh lt ge bb; have y2 : Sle stf 1 w12 (some ⟨g63, 0, none⟩) (1) (1) ([[97]]) := sle_lit ([[97]]) (by decide) stf_len hb63 rfl (by simp [maxLen]); refine hK _ _ ?_; clear hK K))
  with_reducible refine (nsames_any _ _ _ _ _ _ [[65]] [[97]] _ y1 y2 (by decide) (by decide)).mono ?_
  rintro e w13 ⟨rfl, b13⟩
  replace hb9 := blk_u hb9 b13
  replace hb15 := blk_u hb15 b13
  replace hb31 := blk_u hb31 b13
  replace hb49 := blk_u hb49 b13
  replace hb62 := blk_u hb62 b13
  replace hb63 := blk_u hb63 b13
  replace nl0 := nl0.below b13
  replace s9 := s9.below b13
  replace s9w := own_under s9w b13
  replace ga := ga.below b13
  replace gaw := owk_under gaw b13
  replace sp := sp.below b13
  replace pb := pb.below b13
  replace pbw := own_under pbw b13
  replace pa := pa.below b13
  replace paw := owk_under paw b13
  replace x1 := x1.below b13
  replace x2 := x2.below b13
  replace y1 := y1.below b13
  replace y2 := y2.below b13
  replace lz_s9 := Nat.le_trans lz_s9 b13.size
  replace lz_ga := Nat.le_trans lz_ga b13.size
  replace lz_pb := Nat.le_trans lz_pb b13.size
  replace lz_pa := Nat.le_trans lz_pa b13.size
  replace bel := bel.trans (b13.mono bel.size)
  clear b13
  rw [k_same1]
  go_wp2_with fail
  go_ret
  exact ⟨rfl, bel⟩
set_option linter.unusedVariables false in
set_option linter.unusedSimpArgs false in
set_option maxRecDepth 100000 in
set_option maxHeartbeats 16000000 in
theorem nameBack_walk (A : Option Addr) (n c : Nat) (l : List (List UInt8)) (w : World) (la : Sle stf 1 w A n c l) : Calls Tryd.prog 7 #[.slice A n c] w fun e w' => e = .returned (.bool true) ∧ Below w.heap.size w w' := by
  have HLN := Lib.hid la.1
  have bel := Below.refl w.heap.size w
  go_enter Tryd.func7, Tryd.ntmps7
  go_wp2_with fail
  with_reducible refine (awake_any _).mono ?_
  rintro e w1 ⟨rfl, b1⟩
  replace la := la.below b1
  replace bel := bel.trans (b1.mono bel.size)
  clear b1
  rcases hlg : longN l with _ | _
  rotate_left
  · have HLG := Lib.hid hlg
    clear hlg
    go_wp2_with fail
    with_reducible refine (llong_any _ _ _ _ _ la).mono ?_
    rintro e _ ⟨rfl, rfl⟩
    rw [HLG.out]
    go_wp2_with fail
    go_ret
    exact ⟨rfl, bel⟩
  have HLG := Lib.hid hlg
  have hln := (long_no hlg).1
  have HLB := Lib.hid (long_no hlg).2
  have hsz : sizeN l ≤ 60200 := by have h_ := size_le HLB.out; have h1_ : l.length * 301 ≤ 200 * 301 := Nat.mul_le_mul_right _ hln; omega
  have hn2 : n ≤ 200 := by have h_ := la.1; omega
  clear hlg
  go_wp2_with fail
  with_reducible refine (llong_any _ _ _ _ _ la).mono ?_
  rintro e _ ⟨rfl, rfl⟩
  rw [HLG.out]
  rcases hg : goodN l with _ | _
  · have HG := Lib.hid hg
    clear hg
    go_wp2_with fail
    with_reducible refine (ngood_any _ _ _ _ _ la (by omega)).mono ?_
    rintro e _ ⟨rfl, rfl⟩
    rw [HG.out]
    go_wp2_with fail
    go_ret
    exact ⟨rfl, bel⟩
  have HG := Lib.hid hg
  clear hg
  obtain ⟨T, HT_⟩ : ∃ u_, textN l = u_ := ⟨_, rfl⟩
  have HT := Lib.hid HT_
  clear HT_
  have HR : Hid (parseR T = (l, 0)) := Lib.hid (parseR_yes (by rw [← HT.out]; exact parseS_text HG.out))
  go_wp2_with fail
  with_reducible refine (ngood_any _ _ _ _ _ la (by omega)).mono ?_
  rintro e _ ⟨rfl, rfl⟩
  rw [HG.out]
  go_wp2_with fail
  with_reducible refine (ntext_lit _ la (by omega) HT.out).mono ?_
  rintro e w2 ⟨rfl, b2⟩
  replace la := la.below b2
  replace bel := bel.trans (b2.mono bel.size)
  clear b2
  go_wp2_with fail
  with_reducible refine (nparse_lit _ HR.out HLN.out).mono ?_
  rintro e w3 ⟨v_pa, rfl, paw, b3⟩
  have bl_la_pa := la.bl_new
  have palo := bel.size
  have lz_pa := b3.size
  replace la := la.below b3
  replace bel := bel.trans (b3.mono bel.size)
  clear b3
  obtain ⟨Apa, cpa, rfl⟩ := owk_val paw
  have pa := (owk_sle (by decide) stf_len paw).1
  have fr_pa := (owk_sle (by decide) stf_len paw).2
  go_wp2_with fail
  with_reducible refine (lexact_any _ _ _ _ _ _ _ _ pa la (by omega)).mono ?_
  rintro e w4 ⟨rfl, b4⟩
  replace la := la.below b4
  replace pa := pa.below b4
  replace paw := owk_under paw b4
  replace lz_pa := Nat.le_trans lz_pa b4.size
  replace bel := bel.trans (b4.mono bel.size)
  clear b4
  go_wp2_with fail
  with_reducible refine (nsames_any _ _ _ _ _ _ l l _ la pa (by omega) (fun x hx => by have h_ := HLB.out x hx; omega)).mono ?_
  rintro e w5 ⟨rfl, b5⟩
  replace la := la.below b5
  replace pa := pa.below b5
  replace paw := owk_under paw b5
  replace lz_pa := Nat.le_trans lz_pa b5.size
  replace bel := bel.trans (b5.mono bel.size)
  clear b5
  rw [same_self]
  go_wp2_with fail
  go_ret
  exact ⟨rfl, bel⟩
set_option linter.unusedVariables false in
set_option linter.unusedSimpArgs false in
set_option maxRecDepth 100000 in
set_option maxHeartbeats 16000000 in
theorem nameReads_walk (A : Option Addr) (n c : Nat) (b : List UInt8) (a0 : Int) (w : World) (sb : Sl w A n c b) : Calls Tryd.prog 4 #[.slice A n c, .int .i64 a0] w fun e w' => e = .returned (.bool true) ∧ Below w.heap.size w w' := by
  obtain ⟨ii, hii, hz0, hz1, hz2⟩ := info_parts Tryd.info5
  have bel := Below.refl w.heap.size w
  go_enter Tryd.func4, Tryd.ntmps4
  go_wp2_with fail
  with_reducible refine (awake_any _).mono ?_
  rintro e w1 ⟨rfl, b1⟩
  replace sb := sb.below b1
  replace bel := bel.trans (b1.mono bel.size)
  clear b1
  by_cases h : n ≤ 1500
  rotate_left
  · have h1 : (1500 : Int) < n := by omega
    clear h
    go_wp2_with fail
    go_ret
    exact ⟨rfl, bel⟩
  have h1 : decide ((1500 : Int) < n) = false := decide_eq_false (by omega)
  obtain ⟨l, nx, er, hG⟩ : ∃ l nx er, getN b a0 = (l, nx, er) := ⟨_, _, _, rfl⟩
  have hk0 : l.length ≤ 255 := by have h_ := getN_len b a0; rw [hG] at h_; exact h_
  have HG := Lib.hid hG
  obtain ⟨k, HK_⟩ : ∃ u_, l.length = u_ := ⟨_, rfl⟩
  have HK := Lib.hid HK_
  clear HK_
  have hk1 : k ≤ 255 := by have h_ := HK.out; omega
  clear hG hk0
  have hn5 : n ≤ 1500 := by omega
  go_wp2_with (first | ((with_reducible show wpList _ _ _ (⟨some 17, _, _, _, _, _⟩ :: _) _ _); refine wpList_lit_n rfl 27 5 0 _ rfl #[] (.int .u8 0) Tryd.underlying27 (by kernel_rfl) 1 (by kernel_rfl) (by decide) (by kernel_rfl) ?_; intro g17 w2 ge lt hh bb; have hl : w2.heap[g17]? = some (.cells (([] : List UInt8).map u8v).toArray 5 (0, 0)) := (by simpa [u8v, byteOf_val] using hh); have e0w := own_lit (B := w1.heap.size) ([]) hl ge 0 rfl (by simp [maxLen]); have e0 := (own_sl e0w).1; have e0lo := bel.size; clear hl; have e0ge := ge; have lz_e0 := bb.size; have bl_sb_e0 := sb.bl_new; replace sb := sb.below bb; replace bel := bel.trans (bb.mono bel.size); clear hh lt ge bb) | ((with_reducible show wpList _ _ _ (⟨some 19, _, _, _, _, _⟩ :: _) _ _); refine wpList_append_bb _ rfl (.tmp 17) (.tmp 18) 27 rfl (w1.heap.size) 5 ii (.int .u8 0) Tryd.underlying27 hii hz0 hz1 hz2 rfl _ (0) ([]) rfl e0w (A) (n) (c) (b) rfl sb (by omega) lz_e0 ?_; intro v19 w3 own_ bb; replace sb := sb.under bl_sb_e0 bb; replace bel := bel.trans (bb.mono e0lo); have lz_cp := Nat.le_trans lz_e0 bb.size; clear bb; clear e0 e0w lz_e0; replace own_ : w3.ownsRow (w1.heap.size) 5 1 v19 (n) ((b : List UInt8).map u8v) := (by simpa using own_); obtain ⟨A19, c19, rfl⟩ := own_val own_; have cpw := own_; have cp := (own_sl own_).1; have fr_cp := (own_sl own_).2; clear own_))
  with_reducible refine (nget_lit _ cp (by omega) HG.out HK.out rfl rfl).mono ?_
  rintro e w4 ⟨v_ga, rfl, gaw, b4⟩
  have bl_sb_ga := sb.bl_new
  have bl_cp_ga := cp.bl_new
  have galo := bel.size
  have lz_ga := b4.size
  replace sb := sb.below b4
  replace cp := cp.below b4
  replace cpw := own_under cpw b4
  replace lz_cp := Nat.le_trans lz_cp b4.size
  replace bel := bel.trans (b4.mono bel.size)
  clear b4
  obtain ⟨Aga, cga, rfl⟩ := owk_val gaw
  have ga := (owk_sle (by decide) stf_len gaw).1
  have fr_ga := (owk_sle (by decide) stf_len gaw).2
  go_wp2_with fail
  with_reducible refine (rget_lit _ sb (by omega) HG.out HK.out rfl rfl).mono ?_
  rintro e w5 ⟨v_gb, rfl, gbw, b5⟩
  have bl_sb_gb := sb.bl_new
  have bl_cp_gb := cp.bl_new
  have bl_ga_gb := ga.bl_new
  have gblo := bel.size
  have lz_gb := b5.size
  replace sb := sb.below b5
  replace cp := cp.below b5
  replace cpw := own_under cpw b5
  replace ga := ga.below b5
  replace gaw := owk_under gaw b5
  replace lz_cp := Nat.le_trans lz_cp b5.size
  replace lz_ga := Nat.le_trans lz_ga b5.size
  replace bel := bel.trans (b5.mono bel.size)
  clear b5
  obtain ⟨Agb, cgb, rfl⟩ := owk_val gbw
  have gb := (owk_sle (by decide) stf_len gbw).1
  have fr_gb := (owk_sle (by decide) stf_len gbw).2
  go_wp2_with fail
  with_reducible refine (lexact_any _ _ _ _ _ _ _ _ ga gb (by omega)).mono ?_
  rintro e w6 ⟨rfl, b6⟩
  replace sb := sb.below b6
  replace cp := cp.below b6
  replace cpw := own_under cpw b6
  replace ga := ga.below b6
  replace gaw := owk_under gaw b6
  replace gb := gb.below b6
  replace gbw := owk_under gbw b6
  replace lz_cp := Nat.le_trans lz_cp b6.size
  replace lz_ga := Nat.le_trans lz_ga b6.size
  replace lz_gb := Nat.le_trans lz_gb b6.size
  replace bel := bel.trans (b6.mono bel.size)
  clear b6
  go_wp2_with fail
  go_ret
  exact ⟨rfl, bel⟩
end Go.Proofs.YtholgadifhjmgaaDoor
