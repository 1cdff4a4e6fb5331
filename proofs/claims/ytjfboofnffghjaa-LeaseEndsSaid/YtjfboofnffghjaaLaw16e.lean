/- LeaseEnds. -/
import Derived.Test.YtjfboofnffghjaaLaw16
namespace Go.Proofs.Ytjfboofnffghjaa
open Go.RowKit

/-- The client has its lease: at most m is now. -/
def Ck (lo gc : Nat) (w : World) (m draw u1 t1 t2 : Int) : Prop := ∃ now st sent : Int, (st = 3 ∨ st = 4 ∨ st = 5) ∧ 0 ≤ sent ∧ sent ≤ now ∧ now ≤ m ∧ Cl lo gc w #[.int .u8 2, .int .u8 0, .int .u8 0, .int .u8 0, .int .u8 0, .int .u8 2, .int .i64 now, .int .i64 st, .int .u32 draw, .int .i64 sent, .int .i64 4, .int .i64 1, .int .u8 10, .int .u8 0, .int .u8 0, .int .u8 5, .int .u8 255, .int .u8 0, .int .u8 0, .int .u8 0, .int .u8 10, .int .u8 0, .int .u8 0, .int .u8 253, .int .u8 10, .int .u8 0, .int .u8 0, .int .u8 254, .int .i64 u1, .int .i64 t1, .int .i64 t2]
section
variable {lo gc : Nat} {w w' : World} {m draw u1 t1 t2 : Int}
theorem Ck.below (h : Ck lo gc w m draw u1 t1 t2) (b : Below w.heap.size w w') : Ck lo gc w' m draw u1 t1 t2 := by
  obtain ⟨a, s, e, h1, h2, h3, h4, h5⟩ := h
  exact ⟨a, s, e, h1, h2, h3, h4, h5.below b⟩
theorem ck_drew (h : Ck lo gc w m draw u1 t1 t2) : Ck lo gc w.drew m draw u1 t1 t2 := h
theorem Ck.grown {q : Nat} {d : Array Value} {T : TypeId} {fz : Nat × Nat} (h : Ck lo gc w m draw u1 t1 t2) (gr : w.grownBy w' (some q)) (hq : w.heap[q]? = some (.cells d T fz)) (hT : T ≠ 51) : Ck lo gc w' m draw u1 t1 t2 := by
  obtain ⟨a, s, e, h1, h2, h3, h4, h5⟩ := h
  exact ⟨a, s, e, h1, h2, h3, h4, h5.grown gr hq hT⟩
theorem Ck.mono {m' : Int} (h : Ck lo gc w m draw u1 t1 t2) (hm : m ≤ m') : Ck lo gc w m' draw u1 t1 t2 := by
  obtain ⟨a, s, e, h1, h2, h3, h4, h5⟩ := h
  exact ⟨a, s, e, h1, h2, h3, Int.le_trans h4 hm, h5⟩
end
theorem ck_tick {lo gc : Nat} {m draw u1 t1 t2 t : Int} (w : World) (h : Ck lo gc w m draw u1 t1 t2) (hm : m ≤ t) (ht : t ≤ 1099511627776) (hu : t < u1) : Calls Try.prog 12 #[.pointer (some ⟨gc, 0, none⟩), .int .i64 t, .int .u32 draw] w fun e w' => ∃ A n c, e = .returned (.slice A n c) ∧ Ck lo gc w' t draw u1 t1 t2 ∧ Kt [51] w w' ∧ Below lo w w' := by
  obtain ⟨now, st, sent, h0, h1, h2, h3, hT⟩ := h
  have hd : IntKind.i64.wrap (t - sent) = t - sent := IntWalk.i64_in _ (by omega)
  rcases h0 with rfl | rfl | rfl
  · by_cases hq : t < t1
    · refine (ltick_3no _ hT (by omega) ht (decide_eq_false (by omega)) hq).mono ?_
      rintro e w2 ⟨rfl, hT_, k_, bb⟩
      exact ⟨_, _, _, rfl, ⟨_, _, _, Or.inl rfl, h1, by omega, Int.le_refl _, hT_⟩, k_, bb⟩
    · replace hq : decide (t < t1) = false := decide_eq_false hq
      refine (ltick_3yes _ hT (by omega) ht (decide_eq_false (by omega)) hq).mono ?_
      rintro e w2 ⟨g_, rfl, _, hT_, k_, bb⟩
      exact ⟨_, _, _, rfl, ⟨_, _, _, Or.inr (Or.inl rfl), by omega, Int.le_refl _, Int.le_refl _, hT_⟩, k_, bb⟩
  · by_cases hq : t2 ≤ t
    · refine (ltick_4go _ hT (by omega) ht (decide_eq_false (by omega)) hq).mono ?_
      rintro e w2 ⟨g_, rfl, _, hT_, k_, bb⟩
      exact ⟨_, _, _, rfl, ⟨_, _, _, Or.inr (Or.inr rfl), by omega, Int.le_refl _, Int.le_refl _, hT_⟩, k_, bb⟩
    · replace hq : decide (t2 ≤ t) = false := decide_eq_false hq
      by_cases hb : 60 ≤ t - sent
      · refine (ltick_4again _ hT (by omega) ht (decide_eq_false (by omega)) hq hd (decide_eq_true hb)).mono ?_
        rintro e w2 ⟨g_, rfl, _, hT_, k_, bb⟩
        exact ⟨_, _, _, rfl, ⟨_, _, _, Or.inr (Or.inl rfl), by omega, Int.le_refl _, Int.le_refl _, hT_⟩, k_, bb⟩
      · refine (ltick_4no _ hT (by omega) ht (decide_eq_false (by omega)) hq hd (decide_eq_false hb)).mono ?_
        rintro e w2 ⟨rfl, hT_, k_, bb⟩
        exact ⟨_, _, _, rfl, ⟨_, _, _, Or.inr (Or.inl rfl), h1, by omega, Int.le_refl _, hT_⟩, k_, bb⟩
  · by_cases hb : 60 ≤ t - sent
    · refine (ltick_5again _ hT (by omega) ht (decide_eq_false (by omega)) hd (decide_eq_true hb)).mono ?_
      rintro e w2 ⟨g_, rfl, _, hT_, k_, bb⟩
      exact ⟨_, _, _, rfl, ⟨_, _, _, Or.inr (Or.inr rfl), by omega, Int.le_refl _, Int.le_refl _, hT_⟩, k_, bb⟩
    · refine (ltick_5no _ hT (by omega) ht (decide_eq_false (by omega)) hd (decide_eq_false hb)).mono ?_
      rintro e w2 ⟨rfl, hT_, k_, bb⟩
      exact ⟨_, _, _, rfl, ⟨_, _, _, Or.inr (Or.inr rfl), h1, by omega, Int.le_refl _, hT_⟩, k_, bb⟩
theorem ck_bound {lo gc : Nat} {m draw u1 t1 t2 : Int} (w : World) (h : Ck lo gc w m draw u1 t1 t2) : Calls Try.prog 16 #[.pointer (some ⟨gc, 0, none⟩)] w fun e w' => e = .returned (.tuple #[.agg #[.int .u8 10, .int .u8 0, .int .u8 0, .int .u8 5, .int .u8 255, .int .u8 0, .int .u8 0, .int .u8 0, .int .u8 10, .int .u8 0, .int .u8 0, .int .u8 253, .int .u8 10, .int .u8 0, .int .u8 0, .int .u8 254, .int .i64 u1], .bool true]) ∧ Below w.heap.size w w' := by
  obtain ⟨now, st, sent, h0, h1, h2, h3, hT⟩ := h
  exact lbound_yes _ hT (decide_eq_true (by omega))
theorem ck_end {lo gc : Nat} {m draw u1 t1 t2 t : Int} (w : World) (h : Ck lo gc w m draw u1 t1 t2) (hm : m ≤ t) (ht : t ≤ 1099511627776) (hu : u1 ≤ t) : Calls Try.prog 12 #[.pointer (some ⟨gc, 0, none⟩), .int .i64 t, .int .u32 draw] w fun e w' => ∃ g, e = .returned (.slice (some ⟨g, 0, none⟩) 1 1) ∧ Ms w' g [.int .i64 1, .int .i64 0, .int .u32 draw, .int .i64 0, .int .i64 32768, .int .u8 0, .int .u8 0, .int .u8 0, .int .u8 0, .int .u8 0, .int .u8 0, .int .u8 0, .int .u8 0, .int .u8 0, .int .u8 0, .int .u8 0, .int .u8 0, .int .u8 0, .int .u8 0, .int .u8 0, .int .u8 0, .int .u8 2, .int .u8 0, .int .u8 0, .int .u8 0, .int .u8 0, .int .u8 2] 1 ∧ Cl lo gc w' #[.int .u8 2, .int .u8 0, .int .u8 0, .int .u8 0, .int .u8 0, .int .u8 2, .int .i64 t, .int .i64 1, .int .u32 draw, .int .i64 t, .int .i64 4, .int .i64 1, .int .u8 0, .int .u8 0, .int .u8 0, .int .u8 0, .int .u8 0, .int .u8 0, .int .u8 0, .int .u8 0, .int .u8 0, .int .u8 0, .int .u8 0, .int .u8 0, .int .u8 0, .int .u8 0, .int .u8 0, .int .u8 0, .int .i64 0, .int .i64 t1, .int .i64 t2] ∧ Kt [51] w w' ∧ Below lo w w' := by
  obtain ⟨now, st, sent, h0, h1, h2, h3, hT⟩ := h
  exact ltick_end _ hT (by omega) ht (decide_eq_true (by omega)) hu
set_option linter.unusedVariables false in
set_option linter.unusedSimpArgs false in
set_option maxRecDepth 100000 in
set_option maxHeartbeats 16000000 in
theorem leaseEnds_walk (secs draw : Int) (w : World) : Calls Try.prog 4 #[.int .u32 secs, .int .u32 draw] w fun e w' => e = .returned (.bool true) ∧ Below w.heap.size w w' := by
  have bel := Below.refl w.heap.size w
  go_enter Try.func4, Try.ntmps4
  go_wp2_with fail
  with_reducible refine (lawake _).mono ?_
  rintro e w1 ⟨rfl, b1⟩
  replace bel := bel.trans (b1.mono bel.size)
  clear b1
  by_cases c0 : secs < 60
  · go_wp2_with fail
    go_ret
    exact ⟨rfl, bel⟩
  have Hc0 : Hid (60 ≤ secs) := Lib.hid (by omega)
  replace c0 : decide (secs < 60) = false := decide_eq_false c0
  by_cases c1 : 2000 < secs
  · go_wp2_with fail
    go_ret
    exact ⟨rfl, bel⟩
  have Hc1 : Hid (secs ≤ 2000) := Lib.hid (by omega)
  replace c1 : decide (2000 < secs) = false := decide_eq_false c1
  have := Hc0.out
  have := Hc1.out
  have HS6 : Hid (60 ≤ secs) := Lib.hid (by omega)
  have HS2 : Hid (secs ≤ 2000) := Lib.hid (by omega)
  obtain ⟨hf, hhf_⟩ : ∃ x, x = secs / 2 := ⟨_, rfl⟩
  obtain ⟨s8, hs8_⟩ : ∃ x, x = secs * 7 / 8 := ⟨_, rfl⟩
  obtain ⟨u1, hu1_⟩ : ∃ x, x = secs := ⟨_, rfl⟩
  have HHF := Lib.hid hhf_
  have HS8 := Lib.hid hs8_
  have HU1 := Lib.hid hu1_
  have hws : IntKind.i64.wrap secs = secs := IntWalk.i64_in _ (by omega)
  have WU1 : Hid (IntKind.i64.wrap (0 + secs) = u1) := Lib.hid (by rw [hu1_, Int.zero_add]; exact hws)
  have WHF : Hid (IntKind.i64.wrap (0 + secs / 2) = hf) := Lib.hid (by rw [Int.zero_add, hhf_]; exact IntWalk.i64_in _ (by omega))
  have WS8 : Hid (IntKind.i64.wrap (0 + secs * 7 / 8) = s8) := Lib.hid (by rw [Int.zero_add, hs8_]; exact IntWalk.i64_in _ (by omega))
  have s0_ : 0 ≤ secs := by omega
  clear hhf_ hs8_ hu1_
  try clear c0
  try clear c1
  go_wp2_with fail
  with_reducible refine (lmac _).mono ?_
  rintro e w2 ⟨rfl, b2⟩
  replace bel := bel.trans (b2.mono bel.size)
  clear b2
  go_wp2_with fail
  have HLO_ := bel.size
  with_reducible refine (lnew _).mono ?_
  rintro e w3 ⟨gc, rfl, hT, b3⟩
  replace bel := bel.trans (b3.mono bel.size)
  clear b3
  replace hT : Cl w.heap.size gc w3 #[.int .u8 2, .int .u8 0, .int .u8 0, .int .u8 0, .int .u8 0, .int .u8 2, .int .i64 0, .int .i64 0, .int .u32 0, .int .i64 0, .int .i64 0, .int .i64 0, .int .u8 0, .int .u8 0, .int .u8 0, .int .u8 0, .int .u8 0, .int .u8 0, .int .u8 0, .int .u8 0, .int .u8 0, .int .u8 0, .int .u8 0, .int .u8 0, .int .u8 0, .int .u8 0, .int .u8 0, .int .u8 0, .int .i64 0, .int .i64 0, .int .i64 0] := hT.lo_mono HLO_
  clear HLO_
  go_wp2_with fail
  go_wp2_with fail
  with_reducible refine (ltick_new _ hT (by decide) (by decide)).mono ?_
  rintro e w4 ⟨g_x, rfl, _, hT_, k_, bb⟩
  clear hT
  have hT := hT_
  replace bel := bel.trans bb
  clear bb k_ hT_
  go_wp2_with fail
  with_reducible refine (lword (kb := 2) _ rfl).mono ?_
  rintro e w5 ⟨Ao, co, rfl, hw_, b5⟩
  replace hT := hT.below b5
  replace bel := bel.trans (b5.mono bel.size)
  clear b5
  obtain ⟨hso, ho⟩ := hw_
  go_wp2_with fail
  go_wp2_with fail
  with_reducible refine (lget_off _ hT (by decide) (by decide) ho (fun W => by kernel_rfl) (wl_2 _) (wl_54 _ _) (fun W => by kernel_rfl) by_5).mono ?_
  rintro e w6 ⟨g_x, rfl, _, hT_, k_, bb⟩
  replace ho := ho.kt k_
  clear hT
  have hT := hT_
  replace bel := bel.trans bb
  clear bb k_ hT_
  clear ho
  go_wp2_with fail
  with_reducible refine (lword (kb := 5) _ rfl).mono ?_
  rintro e w7 ⟨Ao, co, rfl, hw_, b7⟩
  replace hT := hT.below b7
  replace bel := bel.trans (b7.mono bel.size)
  clear b7
  obtain ⟨hso, ho⟩ := hw_
  go_wp2_with fail
  go_wp2_with fail
  with_reducible refine (lget_ack_2 (nu := u1) (n1 := hf) (n2 := s8) _ hT (by decide) (by decide) ho (fun W => by kernel_rfl) (wl_5 _) (wl_54 _ _) (fun W => by kernel_rfl) (fun W => by kernel_rfl) (wl_51 _ (by have h0_ := HS6.out; have h1_ := HS2.out; have h2_ := HHF.out; have h3_ := HS8.out; have h4_ := HU1.out; omega) (by have h0_ := HS6.out; have h1_ := HS2.out; have h2_ := HHF.out; have h3_ := HS8.out; have h4_ := HU1.out; omega)) (by have h0_ := HS6.out; have h1_ := HS2.out; have h2_ := HHF.out; have h3_ := HS8.out; have h4_ := HU1.out; omega) (by have h0_ := HS6.out; have h1_ := HS2.out; have h2_ := HHF.out; have h3_ := HS8.out; have h4_ := HU1.out; omega) (wl_1 _ _) (wl_3 _ _) WU1.out WHF.out WS8.out).mono ?_
  rintro e w8 ⟨rfl, hT_, k_, bb⟩
  replace ho := ho.kt k_
  clear hT
  have hT := hT_
  replace bel := bel.trans bb
  clear bb k_ hT_
  replace hT : Ck w.heap.size gc w8 1 draw u1 hf s8 := ⟨0, 3, 0, Or.inl rfl, Int.le_refl _, Int.le_refl _, by omega, hT⟩
  clear ho
  go_wp2_with fail
  go_loopg [6] ((secs - 1).toNat) (fun gk s6 wr => ∃ k : Int, gk = (secs - k).toNat ∧ Hid (1 ≤ k) ∧ Hid (k ≤ secs) ∧ Ck w.heap.size gc wr k draw u1 hf s8 ∧ s6 = .int .i64 k ∧ Below w.heap.size w wr)
  case atStart => exact ⟨1, rfl, Lib.hid (by omega), Lib.hid (by have h0_ := HS6.out; have h1_ := HS2.out; have h2_ := HHF.out; have h3_ := HS8.out; have h4_ := HU1.out; omega), hT, rfl, bel⟩
  case round =>
    clear hT bel
    obtain ⟨k, HGK, hk1, hk2, hT, rfl, bel⟩ := hrel
    have HGK_ := Lib.hid HGK
    clear HGK
    by_cases hkk : k < secs
    · have HKK := Lib.hid hkk
      have k0_ : 0 ≤ k := by have := hk1.out; omega
      have k9_ : k < 2000 := by have := HS2.out; omega
      go_wp2_with fail
      go_wp2_with fail
      with_reducible refine (ck_tick _ hT (Int.le_refl _) (by have h9_ := hk1.out; have h8_ := hk2.out; have h0_ := HS6.out; have h1_ := HS2.out; have h2_ := HHF.out; have h3_ := HS8.out; have h4_ := HU1.out; omega) (by have h9_ := HKK.out; have h8_ := hk1.out; have h7_ := HU1.out; have h6_ := HS2.out; omega)).mono ?_
      rintro e w9 ⟨Ax, nx, cx, rfl, hT_, k_, bb⟩
      clear hT
      have hT := hT_
      replace bel := bel.trans bb
      clear bb k_ hT_
      go_wp2_with fail
      with_reducible refine (ck_bound _ hT).mono ?_
      rintro e w10 ⟨rfl, b10⟩
      replace hT := hT.below b10
      replace bel := bel.trans (b10.mono bel.size)
      clear b10
      go_wp2_with (first | ((with_reducible show wpList _ _ _ (⟨some 7, _, _, _, _, _⟩ :: _) _ _); refine wpList_new_a rfl 41 rfl #[.int .u8 0, .int .u8 0, .int .u8 0, .int .u8 0, .int .u8 0, .int .u8 0, .int .u8 0, .int .u8 0, .int .u8 0, .int .u8 0, .int .u8 0, .int .u8 0, .int .u8 0, .int .u8 0, .int .u8 0, .int .u8 0, .int .i64 0] (by kernel_rfl) ?_; intro g7 w11 ge hh bb; have ohl := Nat.le_trans bel.size ge; replace hT := hT.below bb; replace bel := bel.trans (bb.mono bel.size); have hhl := hh; clear hh ge bb) | ((with_reducible show wpList _ _ _ (⟨none, Op.store _ (.tmp 7) _, _, _, _, _⟩ :: _) _ _); refine wpList_store_blk rfl 41 (.tmp 7) (.tmp 50) rfl g7 rfl _ rfl _ 41 hhl (by rfl) (by kernel_rfl) (by kernel_rfl) ?_; intro w12 hq gr; replace hT := hT.grown gr hhl (by decide); replace bel := below_grown bel gr ohl bel.size; clear hhl; have hhl := hq; clear hq gr))
      go_roundg ((secs - (k + 1)).toNat)
      case measure => have := HGK_.out; have := HKK.out; omega
      case rel => exact ⟨k + 1, rfl, Lib.hid (by have := hk1.out; omega), Lib.hid (by have := HKK.out; omega), hT.mono (by omega), by go_num, bel⟩
    replace hkk : decide (k < secs) = false := decide_eq_false hkk
    go_wp2_with fail
    go_wp2_with fail
    with_reducible refine (ck_end _ hT (hk2.out) (by have h0_ := HS6.out; have h1_ := HS2.out; have h2_ := HHF.out; have h3_ := HS8.out; have h4_ := HU1.out; omega) (by have := HU1.out; omega)).mono ?_
    rintro e w9 ⟨g_lz, rfl, hm_, hT_, k_, bb⟩
    clear hT
    have hT := hT_
    replace bel := bel.trans bb
    clear bb k_ hT_
    obtain ⟨A_lz, n_lz, c_lz, hs_lz, L_lz, hlz, hPlz, ht_⟩ := hm_
    have HTlz := Lib.hid ht_
    clear ht_
    replace hlz : w9.heap[g_lz]? = some (.cells #[.int .i64 1, .int .i64 0, .int .u32 draw, .int .i64 0, .int .i64 32768, .int .u8 0, .int .u8 0, .int .u8 0, .int .u8 0, .int .u8 0, .int .u8 0, .int .u8 0, .int .u8 0, .int .u8 0, .int .u8 0, .int .u8 0, .int .u8 0, .int .u8 0, .int .u8 0, .int .u8 0, .int .u8 0, .int .u8 2, .int .u8 0, .int .u8 0, .int .u8 0, .int .u8 0, .int .u8 2, .slice A_lz n_lz c_lz] 37 (0, 0)) := hlz
    go_wp2_with fail
    with_reducible refine (lbound_no _ hT (by decide)).mono ?_
    rintro e w10 ⟨rfl, b10⟩
    replace hlz := blk_u hlz b10
    replace hT := hT.below b10
    replace hPlz := hPlz.below b10
    replace bel := bel.trans (b10.mono bel.size)
    clear b10
    go_wp2_with (first | ((with_reducible show wpList _ _ _ (⟨some 10, _, _, _, _, _⟩ :: _) _ _); refine wpList_new_a rfl 41 rfl #[.int .u8 0, .int .u8 0, .int .u8 0, .int .u8 0, .int .u8 0, .int .u8 0, .int .u8 0, .int .u8 0, .int .u8 0, .int .u8 0, .int .u8 0, .int .u8 0, .int .u8 0, .int .u8 0, .int .u8 0, .int .u8 0, .int .i64 0] (by kernel_rfl) ?_; intro g10 w11 ge hh bb; have d_lz_hb := ne_new (hlt hlz) ge; have ohb := Nat.le_trans bel.size ge; have oahPlz_hb := hPlz.oa ge; replace hlz := blk_u hlz bb; replace hT := hT.below bb; replace hPlz := hPlz.below bb; replace bel := bel.trans (bb.mono bel.size); have hhb := hh; clear hh ge bb) | ((with_reducible show wpList _ _ _ (⟨none, Op.store _ (.tmp 10) _, _, _, _, _⟩ :: _) _ _); refine wpList_store_blk rfl 41 (.tmp 10) (.tmp 62) rfl g10 rfl _ rfl _ 41 hhb (by rfl) (by kernel_rfl) (by kernel_rfl) ?_; intro w12 hq gr; replace hlz := blk_a hlz gr d_lz_hb; replace hT := hT.grown gr hhb (by decide); replace hPlz := hPlz.away oahPlz_hb gr; replace bel := below_grown bel gr ohb bel.size; clear hhb; have hhb := hq; clear hq gr; have R74 := Lib.hid (range_lit hlz 0 28 [.int .i64 1, .int .i64 0, .int .u32 draw, .int .i64 0, .int .i64 32768, .int .u8 0, .int .u8 0, .int .u8 0, .int .u8 0, .int .u8 0, .int .u8 0, .int .u8 0, .int .u8 0, .int .u8 0, .int .u8 0, .int .u8 0, .int .u8 0, .int .u8 0, .int .u8 0, .int .u8 0, .int .u8 0, .int .u8 2, .int .u8 0, .int .u8 0, .int .u8 0, .int .u8 0, .int .u8 2, .slice A_lz n_lz c_lz] rfl)) | ((with_reducible show wpList _ _ _ (⟨some 74, _, _, _, _, _⟩ :: _) _ _); refine wpList_load_rng 37 (.tmp 73) rfl (by kernel_rfl) _ _ rfl _ R74.out _ Try.underlying37 rfl (by kernel_rfl) ?_))
    try clear R74
    with_reducible refine (ltype_a (k := 1) _ hPlz (by rw [HTlz.out]; kernel_rfl)).mono ?_
    rintro e w13 ⟨rfl, b13⟩
    replace hlz := blk_u hlz b13
    replace hhb := blk_u hhb b13
    replace hT := hT.below b13
    replace hPlz := hPlz.below b13
    replace bel := bel.trans (b13.mono bel.size)
    clear b13
    go_wp2_with fail
    with_reducible refine (lstate _ hT).mono ?_
    rintro e _ ⟨rfl, rfl⟩
    go_wp2_with fail
    go_ret
    exact ⟨rfl, bel⟩
end Go.Proofs.Ytjfboofnffghjaa
