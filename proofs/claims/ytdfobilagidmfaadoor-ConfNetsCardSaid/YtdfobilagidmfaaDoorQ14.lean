/- Texts put together: Lawan. -/
import Derived.Test.YtdfobilagidmfaaDoorQ13
namespace Go.Proofs.YtdfobilagidmfaaDoor
open Go.RowKit

set_option linter.unusedVariables false in
set_option linter.unusedSimpArgs false in
set_option maxRecDepth 100000 in
set_option maxHeartbeats 16000000 in
theorem confNets_w (A : Ad4) (bt : Int) (w : World) (hT : Tab w) : Calls Tryd.prog 6 #[.agg #[.int .u8 (A.a.toNat : Int), .int .u8 (A.b.toNat : Int), .int .u8 (A.c.toNat : Int), .int .u8 (A.d.toNat : Int)], .int .i64 bt] w fun e w' => e = .returned (.bool true) ∧ Below w.heap.size w w' := by
  have gd2 := ad_guard2
  have bel := Below.refl w.heap.size w
  go_enter Tryd.func6, Tryd.ntmps6
  go_wp2_with (first | ((with_reducible show wpList _ _ _ (⟨some 2, _, _, _, _, _⟩ :: _) _ _); refine wpList_box_n rfl 24 (.tmp 0) rfl #[.int .u8 (A.a.toNat : Int), .int .u8 (A.b.toNat : Int), .int .u8 (A.c.toNat : Int), .int .u8 (A.d.toNat : Int)] rfl ?_; intro g2 w1 ge lt hh bb; have opa := Nat.le_trans bel.size ge; replace hT := hT.below bb; replace bel := bel.trans (bb.mono bel.size); have hpa := hh; clear hh lt ge bb))
  with_reducible refine (awake_any _).mono ?_
  rintro e w2 ⟨rfl, b2⟩
  replace hpa := blk_u hpa b2
  replace hT := hT.below b2
  replace bel := bel.trans (b2.mono bel.size)
  clear b2
  by_cases c0 : bt < 8
  · go_wp2_with fail
    go_ret
    exact ⟨rfl, bel⟩
  · have c0_ : decide (bt < 8) = false := decide_eq_false c0
    by_cases c1 : 28 < bt
    · go_wp2_with fail
      go_ret
      exact ⟨rfl, bel⟩
    · have c1_ : decide (28 < bt) = false := decide_eq_false c1
      obtain ⟨n, hn⟩ : ∃ n : Nat, bt = (n : Int) := ⟨bt.toNat, by omega⟩
      subst hn
      have h8 : 8 ≤ n := by omega
      have h28 : n ≤ 28 := by omega
      have n0 : (0 : Int) ≤ n := by omega
      have n1 : (n : Int) ≤ 28 := by omega
      have hn9 : n < 1000000000 := by omega
      obtain ⟨P1, P2, P3, P4, P5, P6, P7, P8⟩ := pool_nums A h8 h28
      clear P1 P2
      have PW := fun (h : 24 < n) => (rfl : loN A n = fN A n + (if n ≤ 24 then 100 else 2))
      have PV : hiN A n = fN A n + (if n ≤ 24 then 131 else min 33 (lN A n - fN A n - 1)) := rfl
      replace PW : loN A n = fN A n + (if n ≤ 24 then 100 else 2) := rfl
      have PF := fN_lt A (n : Int)
      have PZ := lN_lt A (n : Int)
      have PX := A.lt
      obtain ⟨f, hf_⟩ : ∃ k, fN A n = k := ⟨_, rfl⟩
      obtain ⟨z, hz_⟩ : ∃ k, lN A n = k := ⟨_, rfl⟩
      obtain ⟨lo, hlo_⟩ : ∃ k, loN A n = k := ⟨_, rfl⟩
      obtain ⟨hi, hhi_⟩ : ∃ k, hiN A n = k := ⟨_, rfl⟩
      obtain ⟨x, hx_⟩ : ∃ k, A.num = k := ⟨_, rfl⟩
      rw [hlo_] at P3 P5 P6 P8 PW
      rw [hhi_] at P4 P6 P7 P8 PV
      rw [hf_] at P5 PW PV PF
      rw [hz_] at P7 PV PZ
      rw [hx_] at PX
      have HF := Lib.hid hf_
      have HZ := Lib.hid hz_
      have HLO := Lib.hid hlo_
      have HHI := Lib.hid hhi_
      have HXX := Lib.hid hx_
      have HFL := Lib.hid PF
      have HZL := Lib.hid PZ
      clear hf_ hz_ hlo_ hhi_ hx_
      have f0 : (0 : Int) ≤ f := by omega
      have f1 : (f : Int) < 4294967296 := by omega
      have z0 : (0 : Int) ≤ z := by omega
      have z1 : (z : Int) < 4294967296 := by omega
      have x0 : (0 : Int) ≤ x := by omega
      have x1 : (x : Int) < 4294967296 := by omega
      have lo0 : (0 : Int) ≤ lo := by omega
      have lo1 : (lo : Int) < 4294967296 := by omega
      have hi0 : (0 : Int) ≤ hi := by omega
      have hi1 : (hi : Int) < 4294967296 := by omega
      obtain ⟨ta, hta⟩ : ∃ k, adT A.a A.b A.c A.d = k := ⟨_, rfl⟩
      have HTA := Lib.hid hta
      have htal : ta.length ≤ 15 := by rw [← hta]; exact adT_len _ _ _ _
      obtain ⟨dg, hdg⟩ : ∃ k, decT n = k := ⟨_, rfl⟩
      have HDG := Lib.hid hdg
      have hdgl : dg.length ≤ 9 := by rw [← hdg]; exact decT_len 8 n (by omega)
      obtain ⟨tx, htx⟩ : ∃ z, [108, 97, 110, 32, 61, 32] ++ ta = z := ⟨_, rfl⟩
      have HTX := Lib.hid htx
      have BTX : Hid ([108, 97, 110, 32, 61, 32].length + ta.length ≤ 8388608) := Lib.hid (by simp; omega)
      have htxl : tx.length ≤ 21 := by rw [← htx]; simp; omega
      obtain ⟨ty, hty⟩ : ∃ z, tx ++ [47] = z := ⟨_, rfl⟩
      have HTY := Lib.hid hty
      have BTY : Hid (tx.length + [47].length ≤ 8388608) := Lib.hid (by simp; omega)
      have htyl : ty.length ≤ 22 := by rw [← hty]; simp; omega
      obtain ⟨tc, htc⟩ : ∃ z, ty ++ dg = z := ⟨_, rfl⟩
      have HTC := Lib.hid htc
      have BTC : Hid (ty.length + dg.length ≤ 8388608) := Lib.hid (by omega)
      have HTC3 : Hid (tc = lanT A n) := Lib.hid (by rw [← htc, ← hty, ← htx, ← hta, ← hdg]; unfold lanT netX; simp)
      have HTL : Hid (tc.length ≤ 1000000) := Lib.hid (by rw [← htc]; simp; omega)
      clear hta hdg htx hty htc
      by_cases h24 : n ≤ 24
      · have h24i : decide ((24 : Int) < n) = false := decide_eq_false (by omega)
        have elo : (f : Int) + 100 = (lo : Int) := by rw [if_pos (by omega)] at PW; omega
        have ehi : (f : Int) + 131 = (hi : Int) := by rw [if_pos (by omega)] at PV; omega
        clear PW PV
        by_cases d1 : x = f
        · have exf : ((x : Int) == (f : Int)) = true := beq_iff_eq.2 (by omega)
          have kxf : ((x : Int) != (f : Int)) = false := by rw [bne, exf]; rfl
          have HPS : Hid (parseS tc = (zeroC, 0, 1)) := Lib.hid (by rw [HTC3.out]; exact (nets_law A h8 h28).2.1 (by rw [HXX.out, HF.out, HZ.out, HLO.out, HHI.out]; rw [show (x == f) = true from beq_iff_eq.2 (by omega)]; rfl))
          clear P3 P4 P5 P6 P7 P8 PF PZ PX
          clear d1
          have R23 := Lib.hid (range_lit hpa 0 4 [.int .u8 (A.a.toNat : Int), .int .u8 (A.b.toNat : Int), .int .u8 (A.c.toNat : Int), .int .u8 (A.d.toNat : Int)] rfl)
          go_wp2_with (first | ((with_reducible show wpList _ _ _ (⟨some 23, _, _, _, _, _⟩ :: _) _ _); refine wpList_load_rng 24 (.tmp 2) rfl (by kernel_rfl) _ _ rfl _ R23.out _ Tryd.underlying24 rfl (by kernel_rfl) ?_))
          try clear R23
          with_reducible refine (atext_any _ _ _ _ _ hT).mono ?_
          rintro e w3 ⟨rfl, b3⟩
          replace hpa := blk_u hpa b3
          replace hT := hT.below b3
          replace bel := bel.trans (b3.mono bel.size)
          clear b3
          rw [show adT A.a A.b A.c A.d = ta from HTA.out]
          clear hT
          have R25 := fun W => st_cat HTX.out BTX.out W
          have R26 := fun W => st_cat HTY.out BTY.out W
          go_wp2_with fail
          clear R25 R26
          with_reducible refine (rtext_v (v := (n : Int)) rfl hn9 _).mono ?_
          rintro e w4 ⟨rfl, b4⟩
          replace hpa := blk_u hpa b4
          replace bel := bel.trans (b4.mono bel.size)
          clear b4
          rw [show decT n = dg from HDG.out]
          have R29 := fun W => st_cat HTC.out BTC.out W
          go_wp2_with fail
          clear R29
          with_reducible refine (cparse_is HPS.out HTL.out _).mono ?_
          rintro e w5 ⟨Fx, nf, cf, Ox, nx, cx, rfl, hf, ho, frF, frO, b5⟩
          replace hpa := blk_u hpa b5
          replace bel := bel.trans (b5.mono bel.size)
          clear b5
          clear hf ho frF frO
          go_wp2_with (first | ((with_reducible show wpList _ _ _ (⟨some 5, _, _, _, _, _⟩ :: _) _ _); refine wpList_new_a rfl 32 rfl #[.int .u8 0, .int .u8 0, .int .u8 0, .int .u8 0, .int .u8 0, .int .u8 0, .int .u8 0, .int .u8 0, .int .i64 0, .int .u8 0, .int .u8 0, .int .u8 0, .int .u8 0, .int .u8 0, .int .u8 0, .int .u8 0, .int .u8 0, .int .u8 0, .int .u8 0, .int .u8 0, .int .u8 0, .int .u8 0, .int .u8 0, .int .u8 0, .int .u8 0, .int .u8 0, .int .u8 0, .int .u8 0, .int .u8 0, .int .i64 0, .int .u8 0, .int .u8 0, .int .u8 0, .int .u8 0, .int .i64 0, .int .i64 0, .int .i64 0, .int .i64 0, .slice none 0 0, .slice none 0 0] (by kernel_rfl) ?_; intro g5 w6 ge hh bb; have d_pa_ca := ne_new (hlt hpa) ge; have oca := Nat.le_trans bel.size ge; replace hpa := blk_u hpa bb; replace bel := bel.trans (bb.mono bel.size); have hca := hh; clear hh ge bb) | ((with_reducible show wpList _ _ _ (⟨none, Op.store _ (.tmp 5) _, _, _, _, _⟩ :: _) _ _); refine wpList_store_blk rfl 32 (.tmp 5) (.tmp 31) rfl g5 rfl _ rfl _ 32 hca (by rfl) (by kernel_rfl) (by kernel_rfl) ?_; intro w7 hq gr; replace hpa := blk_a hpa gr d_pa_ca; replace bel := below_grown bel gr oca bel.size; clear hca; have hca := hq; clear hq gr; have R34 := Lib.hid (range_lit hpa 0 4 [.int .u8 (A.a.toNat : Int), .int .u8 (A.b.toNat : Int), .int .u8 (A.c.toNat : Int), .int .u8 (A.d.toNat : Int)] rfl)) | ((with_reducible show wpList _ _ _ (⟨some 34, _, _, _, _, _⟩ :: _) _ _); refine wpList_load_rng 24 (.tmp 2) rfl (by kernel_rfl) _ _ rfl _ R34.out _ Tryd.underlying24 rfl (by kernel_rfl) ?_) | ((with_reducible show wpList _ _ _ (⟨some 8, _, _, _, _, _⟩ :: _) _ _); refine wpList_new_a rfl 26 rfl #[.int .u8 0, .int .u8 0, .int .u8 0, .int .u8 0, .int .i64 0] (by kernel_rfl) ?_; intro g8 w8 ge hh bb; have d_pa_na := ne_new (hlt hpa) ge; have d_ca_na := ne_new (hlt hca) ge; have ona := Nat.le_trans bel.size ge; replace hpa := blk_u hpa bb; replace hca := blk_u hca bb; replace bel := bel.trans (bb.mono bel.size); have hna := hh; clear hh ge bb) | ((with_reducible show wpList _ _ _ (⟨none, Op.store _ (.tmp 8) _, _, _, _, _⟩ :: _) _ _); refine wpList_store_blk rfl 26 (.tmp 8) (.tmp 36) rfl g8 rfl _ rfl _ 26 hna (by rfl) (by kernel_rfl) (by kernel_rfl) ?_; intro w9 hq gr; replace hpa := blk_a hpa gr d_pa_na; replace hca := blk_a hca gr d_ca_na; replace bel := below_grown bel gr ona bel.size; clear hna; have hna := hq; clear hq gr; have R37 := Lib.hid (range_lit hna 0 5 [.int .u8 (A.a.toNat : Int), .int .u8 (A.b.toNat : Int), .int .u8 (A.c.toNat : Int), .int .u8 (A.d.toNat : Int), .int .i64 (n : Int)] rfl)) | ((with_reducible show wpList _ _ _ (⟨some 37, _, _, _, _, _⟩ :: _) _ _); refine wpList_load_rng 26 (.tmp 8) rfl (by kernel_rfl) _ _ rfl _ R37.out _ Tryd.underlying26 rfl (by kernel_rfl) ?_))
          try clear R34
          try clear R37
          with_reducible refine (afirst_any _ _ _ _ _ _).mono ?_
          rintro e w10 ⟨rfl, b10⟩
          replace hpa := blk_u hpa b10
          replace hca := blk_u hca b10
          replace hna := blk_u hna b10
          replace bel := bel.trans (b10.mono bel.size)
          clear b10
          rw [show firstN (be [A.a, A.b, A.c, A.d]) (clamp (n : Int)) = f from HF.out]
          go_wp2_with fail
          with_reducible refine (anum_adr f _ HFL.out).mono ?_
          rintro e w11 ⟨rfl, b11⟩
          replace hpa := blk_u hpa b11
          replace hca := blk_u hca b11
          replace hna := blk_u hna b11
          replace bel := bel.trans (b11.mono bel.size)
          clear b11
          have R63 := Lib.hid (range_lit hpa 0 4 [.int .u8 (A.a.toNat : Int), .int .u8 (A.b.toNat : Int), .int .u8 (A.c.toNat : Int), .int .u8 (A.d.toNat : Int)] rfl)
          go_wp2_with (first | ((with_reducible show wpList _ _ _ (⟨some 63, _, _, _, _, _⟩ :: _) _ _); refine wpList_load_rng 24 (.tmp 2) rfl (by kernel_rfl) _ _ rfl _ R63.out _ Tryd.underlying24 rfl (by kernel_rfl) ?_))
          try clear R63
          with_reducible refine (anum_any _ _ _ _ _).mono ?_
          rintro e w12 ⟨rfl, b12⟩
          replace hpa := blk_u hpa b12
          replace hca := blk_u hca b12
          replace hna := blk_u hna b12
          replace bel := bel.trans (b12.mono bel.size)
          clear b12
          rw [show be [A.a, A.b, A.c, A.d] = x from HXX.out]
          go_wp2_with fail
          go_ret
          exact ⟨rfl, bel⟩
        · have exf : ((x : Int) == (f : Int)) = false := beq_eq_false_iff_ne.2 (by omega)
          have kxf : ((x : Int) != (f : Int)) = true := by rw [bne, exf]; rfl
          by_cases d2 : x = z
          · have exz : ((x : Int) == (z : Int)) = true := beq_iff_eq.2 (by omega)
            have kxz : ((x : Int) != (z : Int)) = false := by rw [bne, exz]; rfl
            have HPS : Hid (parseS tc = (zeroC, 0, 1)) := Lib.hid (by rw [HTC3.out]; exact (nets_law A h8 h28).2.1 (by rw [HXX.out, HF.out, HZ.out, HLO.out, HHI.out]; rw [show (x == f) = false from beq_eq_false_iff_ne.2 (by omega), show (x == z) = true from beq_iff_eq.2 (by omega)]; rfl))
            clear P3 P4 P5 P6 P7 P8 PF PZ PX
            clear d1 d2
            have R23 := Lib.hid (range_lit hpa 0 4 [.int .u8 (A.a.toNat : Int), .int .u8 (A.b.toNat : Int), .int .u8 (A.c.toNat : Int), .int .u8 (A.d.toNat : Int)] rfl)
            go_wp2_with (first | ((with_reducible show wpList _ _ _ (⟨some 23, _, _, _, _, _⟩ :: _) _ _); refine wpList_load_rng 24 (.tmp 2) rfl (by kernel_rfl) _ _ rfl _ R23.out _ Tryd.underlying24 rfl (by kernel_rfl) ?_))
            try clear R23
            with_reducible refine (atext_any _ _ _ _ _ hT).mono ?_
            rintro e w3 ⟨rfl, b3⟩
            replace hpa := blk_u hpa b3
            replace hT := hT.below b3
            replace bel := bel.trans (b3.mono bel.size)
            clear b3
            rw [show adT A.a A.b A.c A.d = ta from HTA.out]
            clear hT
            have R25 := fun W => st_cat HTX.out BTX.out W
            have R26 := fun W => st_cat HTY.out BTY.out W
            go_wp2_with fail
            clear R25 R26
            with_reducible refine (rtext_v (v := (n : Int)) rfl hn9 _).mono ?_
            rintro e w4 ⟨rfl, b4⟩
            replace hpa := blk_u hpa b4
            replace bel := bel.trans (b4.mono bel.size)
            clear b4
            rw [show decT n = dg from HDG.out]
            have R29 := fun W => st_cat HTC.out BTC.out W
            go_wp2_with fail
            clear R29
            with_reducible refine (cparse_is HPS.out HTL.out _).mono ?_
            rintro e w5 ⟨Fx, nf, cf, Ox, nx, cx, rfl, hf, ho, frF, frO, b5⟩
            replace hpa := blk_u hpa b5
            replace bel := bel.trans (b5.mono bel.size)
            clear b5
            clear hf ho frF frO
            go_wp2_with (first | ((with_reducible show wpList _ _ _ (⟨some 5, _, _, _, _, _⟩ :: _) _ _); refine wpList_new_a rfl 32 rfl #[.int .u8 0, .int .u8 0, .int .u8 0, .int .u8 0, .int .u8 0, .int .u8 0, .int .u8 0, .int .u8 0, .int .i64 0, .int .u8 0, .int .u8 0, .int .u8 0, .int .u8 0, .int .u8 0, .int .u8 0, .int .u8 0, .int .u8 0, .int .u8 0, .int .u8 0, .int .u8 0, .int .u8 0, .int .u8 0, .int .u8 0, .int .u8 0, .int .u8 0, .int .u8 0, .int .u8 0, .int .u8 0, .int .u8 0, .int .i64 0, .int .u8 0, .int .u8 0, .int .u8 0, .int .u8 0, .int .i64 0, .int .i64 0, .int .i64 0, .int .i64 0, .slice none 0 0, .slice none 0 0] (by kernel_rfl) ?_; intro g5 w6 ge hh bb; have d_pa_ca := ne_new (hlt hpa) ge; have oca := Nat.le_trans bel.size ge; replace hpa := blk_u hpa bb; replace bel := bel.trans (bb.mono bel.size); have hca := hh; clear hh ge bb) | ((with_reducible show wpList _ _ _ (⟨none, Op.store _ (.tmp 5) _, _, _, _, _⟩ :: _) _ _); refine wpList_store_blk rfl 32 (.tmp 5) (.tmp 31) rfl g5 rfl _ rfl _ 32 hca (by rfl) (by kernel_rfl) (by kernel_rfl) ?_; intro w7 hq gr; replace hpa := blk_a hpa gr d_pa_ca; replace bel := below_grown bel gr oca bel.size; clear hca; have hca := hq; clear hq gr; have R34 := Lib.hid (range_lit hpa 0 4 [.int .u8 (A.a.toNat : Int), .int .u8 (A.b.toNat : Int), .int .u8 (A.c.toNat : Int), .int .u8 (A.d.toNat : Int)] rfl)) | ((with_reducible show wpList _ _ _ (⟨some 34, _, _, _, _, _⟩ :: _) _ _); refine wpList_load_rng 24 (.tmp 2) rfl (by kernel_rfl) _ _ rfl _ R34.out _ Tryd.underlying24 rfl (by kernel_rfl) ?_) | ((with_reducible show wpList _ _ _ (⟨some 8, _, _, _, _, _⟩ :: _) _ _); refine wpList_new_a rfl 26 rfl #[.int .u8 0, .int .u8 0, .int .u8 0, .int .u8 0, .int .i64 0] (by kernel_rfl) ?_; intro g8 w8 ge hh bb; have d_pa_na := ne_new (hlt hpa) ge; have d_ca_na := ne_new (hlt hca) ge; have ona := Nat.le_trans bel.size ge; replace hpa := blk_u hpa bb; replace hca := blk_u hca bb; replace bel := bel.trans (bb.mono bel.size); have hna := hh; clear hh ge bb) | ((with_reducible show wpList _ _ _ (⟨none, Op.store _ (.tmp 8) _, _, _, _, _⟩ :: _) _ _); refine wpList_store_blk rfl 26 (.tmp 8) (.tmp 36) rfl g8 rfl _ rfl _ 26 hna (by rfl) (by kernel_rfl) (by kernel_rfl) ?_; intro w9 hq gr; replace hpa := blk_a hpa gr d_pa_na; replace hca := blk_a hca gr d_ca_na; replace bel := below_grown bel gr ona bel.size; clear hna; have hna := hq; clear hq gr; have R37 := Lib.hid (range_lit hna 0 5 [.int .u8 (A.a.toNat : Int), .int .u8 (A.b.toNat : Int), .int .u8 (A.c.toNat : Int), .int .u8 (A.d.toNat : Int), .int .i64 (n : Int)] rfl)) | ((with_reducible show wpList _ _ _ (⟨some 37, _, _, _, _, _⟩ :: _) _ _); refine wpList_load_rng 26 (.tmp 8) rfl (by kernel_rfl) _ _ rfl _ R37.out _ Tryd.underlying26 rfl (by kernel_rfl) ?_))
            try clear R34
            try clear R37
            with_reducible refine (afirst_any _ _ _ _ _ _).mono ?_
            rintro e w10 ⟨rfl, b10⟩
            replace hpa := blk_u hpa b10
            replace hca := blk_u hca b10
            replace hna := blk_u hna b10
            replace bel := bel.trans (b10.mono bel.size)
            clear b10
            rw [show firstN (be [A.a, A.b, A.c, A.d]) (clamp (n : Int)) = f from HF.out]
            go_wp2_with fail
            with_reducible refine (anum_adr f _ HFL.out).mono ?_
            rintro e w11 ⟨rfl, b11⟩
            replace hpa := blk_u hpa b11
            replace hca := blk_u hca b11
            replace hna := blk_u hna b11
            replace bel := bel.trans (b11.mono bel.size)
            clear b11
            have R63 := Lib.hid (range_lit hpa 0 4 [.int .u8 (A.a.toNat : Int), .int .u8 (A.b.toNat : Int), .int .u8 (A.c.toNat : Int), .int .u8 (A.d.toNat : Int)] rfl)
            go_wp2_with (first | ((with_reducible show wpList _ _ _ (⟨some 63, _, _, _, _, _⟩ :: _) _ _); refine wpList_load_rng 24 (.tmp 2) rfl (by kernel_rfl) _ _ rfl _ R63.out _ Tryd.underlying24 rfl (by kernel_rfl) ?_))
            try clear R63
            with_reducible refine (anum_any _ _ _ _ _).mono ?_
            rintro e w12 ⟨rfl, b12⟩
            replace hpa := blk_u hpa b12
            replace hca := blk_u hca b12
            replace hna := blk_u hna b12
            replace bel := bel.trans (b12.mono bel.size)
            clear b12
            rw [show be [A.a, A.b, A.c, A.d] = x from HXX.out]
            have R71 := Lib.hid (range_lit hna 0 5 [.int .u8 (A.a.toNat : Int), .int .u8 (A.b.toNat : Int), .int .u8 (A.c.toNat : Int), .int .u8 (A.d.toNat : Int), .int .i64 (n : Int)] rfl)
            go_wp2_with (first | ((with_reducible show wpList _ _ _ (⟨some 71, _, _, _, _, _⟩ :: _) _ _); refine wpList_load_rng 26 (.tmp 8) rfl (by kernel_rfl) _ _ rfl _ R71.out _ Tryd.underlying26 rfl (by kernel_rfl) ?_))
            try clear R71
            with_reducible refine (alast_any _ _ _ _ _ _).mono ?_
            rintro e w13 ⟨rfl, b13⟩
            replace hpa := blk_u hpa b13
            replace hca := blk_u hca b13
            replace hna := blk_u hna b13
            replace bel := bel.trans (b13.mono bel.size)
            clear b13
            rw [show lastN (be [A.a, A.b, A.c, A.d]) (clamp (n : Int)) = z from HZ.out]
            go_wp2_with fail
            with_reducible refine (anum_adr z _ HZL.out).mono ?_
            rintro e w14 ⟨rfl, b14⟩
            replace hpa := blk_u hpa b14
            replace hca := blk_u hca b14
            replace hna := blk_u hna b14
            replace bel := bel.trans (b14.mono bel.size)
            clear b14
            go_wp2_with fail
            go_ret
            exact ⟨rfl, bel⟩
          · have exz : ((x : Int) == (z : Int)) = false := beq_eq_false_iff_ne.2 (by omega)
            have kxz : ((x : Int) != (z : Int)) = true := by rw [bne, exz]; rfl
            by_cases d3 : x < lo
            · have HPS0 : parseS (lanT A n) = (netC A n, 0, 0) := (nets_law A h8 h28).1 (by rw [HXX.out, HF.out, HZ.out, HLO.out, HHI.out]; rw [show (x == f) = false from beq_eq_false_iff_ne.2 (by omega), show (x == z) = false from beq_eq_false_iff_ne.2 (by omega)]; rw [decide_eq_true d3]; rfl)
              obtain ⟨cc, hcc⟩ : ∃ c, netC A n = c := ⟨_, rfl⟩
              have HCO : Hid (cc.own = A) := Lib.hid (by rw [← hcc]; rfl)
              have HCF : Hid (cc.first.num = lo) := Lib.hid (by rw [← hcc, (pool_nums A h8 h28).1, HLO.out])
              have HCL : Hid (cc.last.num = hi) := Lib.hid (by rw [← hcc, (pool_nums A h8 h28).2.1, HHI.out])
              have HN1 : Hid ((fN A n == fN cc.first n) = true) := Lib.hid (beq_iff_eq.2 (in_net A _ (by rw [HCF.out, HF.out]; omega) (by rw [HCF.out, HZ.out]; omega)))
              have HN2 : Hid ((fN A n == fN cc.last n) = true) := Lib.hid (beq_iff_eq.2 (in_net A _ (by rw [HCL.out, HF.out]; omega) (by rw [HCL.out, HZ.out]; omega)))
              have qo : ∀ W, (binOp .eql 24 (.agg #[.int .u8 (cc.own.a.toNat : Int), .int .u8 (cc.own.b.toNat : Int), .int .u8 (cc.own.c.toNat : Int), .int .u8 (cc.own.d.toNat : Int)]) (.agg #[.int .u8 (A.a.toNat : Int), .int .u8 (A.b.toNat : Int), .int .u8 (A.c.toNat : Int), .int .u8 (A.d.toNat : Int)])).run Tryd.prog W = .ok (.bool true) W := fun W => by rw [ad_eq2, HCO.out, beq_self_eq_true]
              rw [hcc] at HPS0
              have HPS : Hid (parseS tc = (cc, 0, 0)) := Lib.hid (by rw [HTC3.out]; exact HPS0)
              clear hcc HPS0 P3 P4 P5 P6 P7 P8 PF PZ PX
              clear d1 d2
              have R23 := Lib.hid (range_lit hpa 0 4 [.int .u8 (A.a.toNat : Int), .int .u8 (A.b.toNat : Int), .int .u8 (A.c.toNat : Int), .int .u8 (A.d.toNat : Int)] rfl)
              go_wp2_with (first | ((with_reducible show wpList _ _ _ (⟨some 23, _, _, _, _, _⟩ :: _) _ _); refine wpList_load_rng 24 (.tmp 2) rfl (by kernel_rfl) _ _ rfl _ R23.out _ Tryd.underlying24 rfl (by kernel_rfl) ?_))
              try clear R23
              with_reducible refine (atext_any _ _ _ _ _ hT).mono ?_
              rintro e w3 ⟨rfl, b3⟩
              replace hpa := blk_u hpa b3
              replace hT := hT.below b3
              replace bel := bel.trans (b3.mono bel.size)
              clear b3
              rw [show adT A.a A.b A.c A.d = ta from HTA.out]
              clear hT
              have R25 := fun W => st_cat HTX.out BTX.out W
              have R26 := fun W => st_cat HTY.out BTY.out W
              go_wp2_with fail
              clear R25 R26
              with_reducible refine (rtext_v (v := (n : Int)) rfl hn9 _).mono ?_
              rintro e w4 ⟨rfl, b4⟩
              replace hpa := blk_u hpa b4
              replace bel := bel.trans (b4.mono bel.size)
              clear b4
              rw [show decT n = dg from HDG.out]
              have R29 := fun W => st_cat HTC.out BTC.out W
              go_wp2_with fail
              clear R29
              with_reducible refine (cparse_is HPS.out HTL.out _).mono ?_
              rintro e w5 ⟨Fx, nf, cf, Ox, nx, cx, rfl, hf, ho, frF, frO, b5⟩
              replace hpa := blk_u hpa b5
              replace bel := bel.trans (b5.mono bel.size)
              clear b5
              clear hf ho frF frO
              go_wp2_with (first | ((with_reducible show wpList _ _ _ (⟨some 5, _, _, _, _, _⟩ :: _) _ _); refine wpList_new_a rfl 32 rfl #[.int .u8 0, .int .u8 0, .int .u8 0, .int .u8 0, .int .u8 0, .int .u8 0, .int .u8 0, .int .u8 0, .int .i64 0, .int .u8 0, .int .u8 0, .int .u8 0, .int .u8 0, .int .u8 0, .int .u8 0, .int .u8 0, .int .u8 0, .int .u8 0, .int .u8 0, .int .u8 0, .int .u8 0, .int .u8 0, .int .u8 0, .int .u8 0, .int .u8 0, .int .u8 0, .int .u8 0, .int .u8 0, .int .u8 0, .int .i64 0, .int .u8 0, .int .u8 0, .int .u8 0, .int .u8 0, .int .i64 0, .int .i64 0, .int .i64 0, .int .i64 0, .slice none 0 0, .slice none 0 0] (by kernel_rfl) ?_; intro g5 w6 ge hh bb; have d_pa_ca := ne_new (hlt hpa) ge; have oca := Nat.le_trans bel.size ge; replace hpa := blk_u hpa bb; replace bel := bel.trans (bb.mono bel.size); have hca := hh; clear hh ge bb) | ((with_reducible show wpList _ _ _ (⟨none, Op.store _ (.tmp 5) _, _, _, _, _⟩ :: _) _ _); refine wpList_store_blk rfl 32 (.tmp 5) (.tmp 31) rfl g5 rfl _ rfl _ 32 hca (by rfl) (by kernel_rfl) (by kernel_rfl) ?_; intro w7 hq gr; replace hpa := blk_a hpa gr d_pa_ca; replace bel := below_grown bel gr oca bel.size; clear hca; have hca := hq; clear hq gr; have R34 := Lib.hid (range_lit hpa 0 4 [.int .u8 (A.a.toNat : Int), .int .u8 (A.b.toNat : Int), .int .u8 (A.c.toNat : Int), .int .u8 (A.d.toNat : Int)] rfl)) | ((with_reducible show wpList _ _ _ (⟨some 34, _, _, _, _, _⟩ :: _) _ _); refine wpList_load_rng 24 (.tmp 2) rfl (by kernel_rfl) _ _ rfl _ R34.out _ Tryd.underlying24 rfl (by kernel_rfl) ?_) | ((with_reducible show wpList _ _ _ (⟨some 8, _, _, _, _, _⟩ :: _) _ _); refine wpList_new_a rfl 26 rfl #[.int .u8 0, .int .u8 0, .int .u8 0, .int .u8 0, .int .i64 0] (by kernel_rfl) ?_; intro g8 w8 ge hh bb; have d_pa_na := ne_new (hlt hpa) ge; have d_ca_na := ne_new (hlt hca) ge; have ona := Nat.le_trans bel.size ge; replace hpa := blk_u hpa bb; replace hca := blk_u hca bb; replace bel := bel.trans (bb.mono bel.size); have hna := hh; clear hh ge bb) | ((with_reducible show wpList _ _ _ (⟨none, Op.store _ (.tmp 8) _, _, _, _, _⟩ :: _) _ _); refine wpList_store_blk rfl 26 (.tmp 8) (.tmp 36) rfl g8 rfl _ rfl _ 26 hna (by rfl) (by kernel_rfl) (by kernel_rfl) ?_; intro w9 hq gr; replace hpa := blk_a hpa gr d_pa_na; replace hca := blk_a hca gr d_ca_na; replace bel := below_grown bel gr ona bel.size; clear hna; have hna := hq; clear hq gr; have R37 := Lib.hid (range_lit hna 0 5 [.int .u8 (A.a.toNat : Int), .int .u8 (A.b.toNat : Int), .int .u8 (A.c.toNat : Int), .int .u8 (A.d.toNat : Int), .int .i64 (n : Int)] rfl)) | ((with_reducible show wpList _ _ _ (⟨some 37, _, _, _, _, _⟩ :: _) _ _); refine wpList_load_rng 26 (.tmp 8) rfl (by kernel_rfl) _ _ rfl _ R37.out _ Tryd.underlying26 rfl (by kernel_rfl) ?_))
              try clear R34
              try clear R37
              with_reducible refine (afirst_any _ _ _ _ _ _).mono ?_
              rintro e w10 ⟨rfl, b10⟩
              replace hpa := blk_u hpa b10
              replace hca := blk_u hca b10
              replace hna := blk_u hna b10
              replace bel := bel.trans (b10.mono bel.size)
              clear b10
              rw [show firstN (be [A.a, A.b, A.c, A.d]) (clamp (n : Int)) = f from HF.out]
              go_wp2_with fail
              with_reducible refine (anum_adr f _ HFL.out).mono ?_
              rintro e w11 ⟨rfl, b11⟩
              replace hpa := blk_u hpa b11
              replace hca := blk_u hca b11
              replace hna := blk_u hna b11
              replace bel := bel.trans (b11.mono bel.size)
              clear b11
              have R63 := Lib.hid (range_lit hpa 0 4 [.int .u8 (A.a.toNat : Int), .int .u8 (A.b.toNat : Int), .int .u8 (A.c.toNat : Int), .int .u8 (A.d.toNat : Int)] rfl)
              go_wp2_with (first | ((with_reducible show wpList _ _ _ (⟨some 63, _, _, _, _, _⟩ :: _) _ _); refine wpList_load_rng 24 (.tmp 2) rfl (by kernel_rfl) _ _ rfl _ R63.out _ Tryd.underlying24 rfl (by kernel_rfl) ?_))
              try clear R63
              with_reducible refine (anum_any _ _ _ _ _).mono ?_
              rintro e w12 ⟨rfl, b12⟩
              replace hpa := blk_u hpa b12
              replace hca := blk_u hca b12
              replace hna := blk_u hna b12
              replace bel := bel.trans (b12.mono bel.size)
              clear b12
              rw [show be [A.a, A.b, A.c, A.d] = x from HXX.out]
              have R71 := Lib.hid (range_lit hna 0 5 [.int .u8 (A.a.toNat : Int), .int .u8 (A.b.toNat : Int), .int .u8 (A.c.toNat : Int), .int .u8 (A.d.toNat : Int), .int .i64 (n : Int)] rfl)
              go_wp2_with (first | ((with_reducible show wpList _ _ _ (⟨some 71, _, _, _, _, _⟩ :: _) _ _); refine wpList_load_rng 26 (.tmp 8) rfl (by kernel_rfl) _ _ rfl _ R71.out _ Tryd.underlying26 rfl (by kernel_rfl) ?_))
              try clear R71
              with_reducible refine (alast_any _ _ _ _ _ _).mono ?_
              rintro e w13 ⟨rfl, b13⟩
              replace hpa := blk_u hpa b13
              replace hca := blk_u hca b13
              replace hna := blk_u hna b13
              replace bel := bel.trans (b13.mono bel.size)
              clear b13
              rw [show lastN (be [A.a, A.b, A.c, A.d]) (clamp (n : Int)) = z from HZ.out]
              go_wp2_with fail
              with_reducible refine (anum_adr z _ HZL.out).mono ?_
              rintro e w14 ⟨rfl, b14⟩
              replace hpa := blk_u hpa b14
              replace hca := blk_u hca b14
              replace hna := blk_u hna b14
              replace bel := bel.trans (b14.mono bel.size)
              clear b14
              have R104 := Lib.hid (range_lit hca 0 4 [.int .u8 (cc.own.a.toNat : Int), .int .u8 (cc.own.b.toNat : Int), .int .u8 (cc.own.c.toNat : Int), .int .u8 (cc.own.d.toNat : Int)] rfl)
              go_wp2_with (first | ((with_reducible show wpList _ _ _ (⟨some 104, _, _, _, _, _⟩ :: _) _ _); refine wpList_load_rng 24 (.tmp 103) rfl (by kernel_rfl) _ _ rfl _ R104.out _ Tryd.underlying24 rfl (by kernel_rfl) ?_; have R105 := Lib.hid (range_lit hpa 0 4 [.int .u8 (A.a.toNat : Int), .int .u8 (A.b.toNat : Int), .int .u8 (A.c.toNat : Int), .int .u8 (A.d.toNat : Int)] rfl)) | ((with_reducible show wpList _ _ _ (⟨some 105, _, _, _, _, _⟩ :: _) _ _); refine wpList_load_rng 24 (.tmp 2) rfl (by kernel_rfl) _ _ rfl _ R105.out _ Tryd.underlying24 rfl (by kernel_rfl) ?_; have R109 := Lib.hid (range_lit hca 21 4 [.int .u8 (cc.first.a.toNat : Int), .int .u8 (cc.first.b.toNat : Int), .int .u8 (cc.first.c.toNat : Int), .int .u8 (cc.first.d.toNat : Int)] rfl)) | ((with_reducible show wpList _ _ _ (⟨some 109, _, _, _, _, _⟩ :: _) _ _); refine wpList_load_rng 24 (.tmp 108) rfl (by kernel_rfl) _ _ rfl _ R109.out _ Tryd.underlying24 rfl (by kernel_rfl) ?_))
              try clear R104
              try clear R105
              try clear R109
              with_reducible refine (anum_any _ _ _ _ _).mono ?_
              rintro e w15 ⟨rfl, b15⟩
              replace hpa := blk_u hpa b15
              replace hca := blk_u hca b15
              replace hna := blk_u hna b15
              replace bel := bel.trans (b15.mono bel.size)
              clear b15
              rw [show be [cc.first.a, cc.first.b, cc.first.c, cc.first.d] = lo from HCF.out]
              have R117 := Lib.hid (range_lit hca 25 4 [.int .u8 (cc.last.a.toNat : Int), .int .u8 (cc.last.b.toNat : Int), .int .u8 (cc.last.c.toNat : Int), .int .u8 (cc.last.d.toNat : Int)] rfl)
              go_wp2_with (first | ((with_reducible show wpList _ _ _ (⟨some 117, _, _, _, _, _⟩ :: _) _ _); refine wpList_load_rng 24 (.tmp 116) rfl (by kernel_rfl) _ _ rfl _ R117.out _ Tryd.underlying24 rfl (by kernel_rfl) ?_))
              try clear R117
              with_reducible refine (anum_any _ _ _ _ _).mono ?_
              rintro e w16 ⟨rfl, b16⟩
              replace hpa := blk_u hpa b16
              replace hca := blk_u hca b16
              replace hna := blk_u hna b16
              replace bel := bel.trans (b16.mono bel.size)
              clear b16
              rw [show be [cc.last.a, cc.last.b, cc.last.c, cc.last.d] = hi from HCL.out]
              have R124 := Lib.hid (range_lit hna 0 5 [.int .u8 (A.a.toNat : Int), .int .u8 (A.b.toNat : Int), .int .u8 (A.c.toNat : Int), .int .u8 (A.d.toNat : Int), .int .i64 (n : Int)] rfl)
              go_wp2_with (first | ((with_reducible show wpList _ _ _ (⟨some 124, _, _, _, _, _⟩ :: _) _ _); refine wpList_load_rng 26 (.tmp 8) rfl (by kernel_rfl) _ _ rfl _ R124.out _ Tryd.underlying26 rfl (by kernel_rfl) ?_; have R126 := Lib.hid (range_lit hca 21 4 [.int .u8 (cc.first.a.toNat : Int), .int .u8 (cc.first.b.toNat : Int), .int .u8 (cc.first.c.toNat : Int), .int .u8 (cc.first.d.toNat : Int)] rfl)) | ((with_reducible show wpList _ _ _ (⟨some 126, _, _, _, _, _⟩ :: _) _ _); refine wpList_load_rng 24 (.tmp 125) rfl (by kernel_rfl) _ _ rfl _ R126.out _ Tryd.underlying24 rfl (by kernel_rfl) ?_))
              try clear R124
              try clear R126
              with_reducible refine (ahas_any _ _ _ _ _ _ _ _ _ _).mono ?_
              rintro e w17 ⟨rfl, b17⟩
              replace hpa := blk_u hpa b17
              replace hca := blk_u hca b17
              replace hna := blk_u hna b17
              replace bel := bel.trans (b17.mono bel.size)
              clear b17
              rw [show (firstN (be [A.a, A.b, A.c, A.d]) (clamp (n : Int)) == firstN (be [cc.first.a, cc.first.b, cc.first.c, cc.first.d]) (clamp (n : Int))) = true from HN1.out]
              have R130 := Lib.hid (range_lit hna 0 5 [.int .u8 (A.a.toNat : Int), .int .u8 (A.b.toNat : Int), .int .u8 (A.c.toNat : Int), .int .u8 (A.d.toNat : Int), .int .i64 (n : Int)] rfl)
              go_wp2_with (first | ((with_reducible show wpList _ _ _ (⟨some 130, _, _, _, _, _⟩ :: _) _ _); refine wpList_load_rng 26 (.tmp 8) rfl (by kernel_rfl) _ _ rfl _ R130.out _ Tryd.underlying26 rfl (by kernel_rfl) ?_; have R132 := Lib.hid (range_lit hca 25 4 [.int .u8 (cc.last.a.toNat : Int), .int .u8 (cc.last.b.toNat : Int), .int .u8 (cc.last.c.toNat : Int), .int .u8 (cc.last.d.toNat : Int)] rfl)) | ((with_reducible show wpList _ _ _ (⟨some 132, _, _, _, _, _⟩ :: _) _ _); refine wpList_load_rng 24 (.tmp 131) rfl (by kernel_rfl) _ _ rfl _ R132.out _ Tryd.underlying24 rfl (by kernel_rfl) ?_))
              try clear R130
              try clear R132
              with_reducible refine (ahas_any _ _ _ _ _ _ _ _ _ _).mono ?_
              rintro e w18 ⟨rfl, b18⟩
              replace hpa := blk_u hpa b18
              replace hca := blk_u hca b18
              replace hna := blk_u hna b18
              replace bel := bel.trans (b18.mono bel.size)
              clear b18
              rw [show (firstN (be [A.a, A.b, A.c, A.d]) (clamp (n : Int)) == firstN (be [cc.last.a, cc.last.b, cc.last.c, cc.last.d]) (clamp (n : Int))) = true from HN2.out]
              go_wp2_with fail
              go_ret
              exact ⟨rfl, bel⟩
            · have d3_ : decide (x < lo) = false := decide_eq_false d3
              by_cases d4 : hi < x
              · have HPS0 : parseS (lanT A n) = (netC A n, 0, 0) := (nets_law A h8 h28).1 (by rw [HXX.out, HF.out, HZ.out, HLO.out, HHI.out]; rw [show (x == f) = false from beq_eq_false_iff_ne.2 (by omega), show (x == z) = false from beq_eq_false_iff_ne.2 (by omega)]; rw [decide_eq_true d4, Bool.or_true]; rfl)
                obtain ⟨cc, hcc⟩ : ∃ c, netC A n = c := ⟨_, rfl⟩
                have HCO : Hid (cc.own = A) := Lib.hid (by rw [← hcc]; rfl)
                have HCF : Hid (cc.first.num = lo) := Lib.hid (by rw [← hcc, (pool_nums A h8 h28).1, HLO.out])
                have HCL : Hid (cc.last.num = hi) := Lib.hid (by rw [← hcc, (pool_nums A h8 h28).2.1, HHI.out])
                have HN1 : Hid ((fN A n == fN cc.first n) = true) := Lib.hid (beq_iff_eq.2 (in_net A _ (by rw [HCF.out, HF.out]; omega) (by rw [HCF.out, HZ.out]; omega)))
                have HN2 : Hid ((fN A n == fN cc.last n) = true) := Lib.hid (beq_iff_eq.2 (in_net A _ (by rw [HCL.out, HF.out]; omega) (by rw [HCL.out, HZ.out]; omega)))
                have qo : ∀ W, (binOp .eql 24 (.agg #[.int .u8 (cc.own.a.toNat : Int), .int .u8 (cc.own.b.toNat : Int), .int .u8 (cc.own.c.toNat : Int), .int .u8 (cc.own.d.toNat : Int)]) (.agg #[.int .u8 (A.a.toNat : Int), .int .u8 (A.b.toNat : Int), .int .u8 (A.c.toNat : Int), .int .u8 (A.d.toNat : Int)])).run Tryd.prog W = .ok (.bool true) W := fun W => by rw [ad_eq2, HCO.out, beq_self_eq_true]
                rw [hcc] at HPS0
                have HPS : Hid (parseS tc = (cc, 0, 0)) := Lib.hid (by rw [HTC3.out]; exact HPS0)
                clear hcc HPS0 P3 P4 P5 P6 P7 P8 PF PZ PX
                clear d1 d2 d3
                have R23 := Lib.hid (range_lit hpa 0 4 [.int .u8 (A.a.toNat : Int), .int .u8 (A.b.toNat : Int), .int .u8 (A.c.toNat : Int), .int .u8 (A.d.toNat : Int)] rfl)
                go_wp2_with (first | ((with_reducible show wpList _ _ _ (⟨some 23, _, _, _, _, _⟩ :: _) _ _); refine wpList_load_rng 24 (.tmp 2) rfl (by kernel_rfl) _ _ rfl _ R23.out _ Tryd.underlying24 rfl (by kernel_rfl) ?_))
                try clear R23
                with_reducible refine (atext_any _ _ _ _ _ hT).mono ?_
                rintro e w3 ⟨rfl, b3⟩
                replace hpa := blk_u hpa b3
                replace hT := hT.below b3
                replace bel := bel.trans (b3.mono bel.size)
                clear b3
                rw [show adT A.a A.b A.c A.d = ta from HTA.out]
                clear hT
                have R25 := fun W => st_cat HTX.out BTX.out W
                have R26 := fun W => st_cat HTY.out BTY.out W
                go_wp2_with fail
                clear R25 R26
                with_reducible refine (rtext_v (v := (n : Int)) rfl hn9 _).mono ?_
                rintro e w4 ⟨rfl, b4⟩
                replace hpa := blk_u hpa b4
                replace bel := bel.trans (b4.mono bel.size)
                clear b4
                rw [show decT n = dg from HDG.out]
                have R29 := fun W => st_cat HTC.out BTC.out W
                go_wp2_with fail
                clear R29
                with_reducible refine (cparse_is HPS.out HTL.out _).mono ?_
                rintro e w5 ⟨Fx, nf, cf, Ox, nx, cx, rfl, hf, ho, frF, frO, b5⟩
                replace hpa := blk_u hpa b5
                replace bel := bel.trans (b5.mono bel.size)
                clear b5
                clear hf ho frF frO
                go_wp2_with (first | ((with_reducible show wpList _ _ _ (⟨some 5, _, _, _, _, _⟩ :: _) _ _); refine wpList_new_a rfl 32 rfl #[.int .u8 0, .int .u8 0, .int .u8 0, .int .u8 0, .int .u8 0, .int .u8 0, .int .u8 0, .int .u8 0, .int .i64 0, .int .u8 0, .int .u8 0, .int .u8 0, .int .u8 0, .int .u8 0, .int .u8 0, .int .u8 0, .int .u8 0, .int .u8 0, .int .u8 0, .int .u8 0, .int .u8 0, .int .u8 0, .int .u8 0, .int .u8 0, .int .u8 0, .int .u8 0, .int .u8 0, .int .u8 0, .int .u8 0, .int .i64 0, .int .u8 0, .int .u8 0, .int .u8 0, .int .u8 0, .int .i64 0, .int .i64 0, .int .i64 0, .int .i64 0, .slice none 0 0, .slice none 0 0] (by kernel_rfl) ?_; intro g5 w6 ge hh bb; have d_pa_ca := ne_new (hlt hpa) ge; have oca := Nat.le_trans bel.size ge; replace hpa := blk_u hpa bb; replace bel := bel.trans (bb.mono bel.size); have hca := hh; clear hh ge bb) | ((with_reducible show wpList _ _ _ (⟨none, Op.store _ (.tmp 5) _, _, _, _, _⟩ :: _) _ _); refine wpList_store_blk rfl 32 (.tmp 5) (.tmp 31) rfl g5 rfl _ rfl _ 32 hca (by rfl) (by kernel_rfl) (by kernel_rfl) ?_; intro w7 hq gr; replace hpa := blk_a hpa gr d_pa_ca; replace bel := below_grown bel gr oca bel.size; clear hca; have hca := hq; clear hq gr; have R34 := Lib.hid (range_lit hpa 0 4 [.int .u8 (A.a.toNat : Int), .int .u8 (A.b.toNat : Int), .int .u8 (A.c.toNat : Int), .int .u8 (A.d.toNat : Int)] rfl)) | ((with_reducible show wpList _ _ _ (⟨some 34, _, _, _, _, _⟩ :: _) _ _); refine wpList_load_rng 24 (.tmp 2) rfl (by kernel_rfl) _ _ rfl _ R34.out _ Tryd.underlying24 rfl (by kernel_rfl) ?_) | ((with_reducible show wpList _ _ _ (⟨some 8, _, _, _, _, _⟩ :: _) _ _); refine wpList_new_a rfl 26 rfl #[.int .u8 0, .int .u8 0, .int .u8 0, .int .u8 0, .int .i64 0] (by kernel_rfl) ?_; intro g8 w8 ge hh bb; have d_pa_na := ne_new (hlt hpa) ge; have d_ca_na := ne_new (hlt hca) ge; have ona := Nat.le_trans bel.size ge; replace hpa := blk_u hpa bb; replace hca := blk_u hca bb; replace bel := bel.trans (bb.mono bel.size); have hna := hh; clear hh ge bb) | ((with_reducible show wpList _ _ _ (⟨none, Op.store _ (.tmp 8) _, _, _, _, _⟩ :: _) _ _); refine wpList_store_blk rfl 26 (.tmp 8) (.tmp 36) rfl g8 rfl _ rfl _ 26 hna (by rfl) (by kernel_rfl) (by kernel_rfl) ?_; intro w9 hq gr; replace hpa := blk_a hpa gr d_pa_na; replace hca := blk_a hca gr d_ca_na; replace bel := below_grown bel gr ona bel.size; clear hna; have hna := hq; clear hq gr; have R37 := Lib.hid (range_lit hna 0 5 [.int .u8 (A.a.toNat : Int), .int .u8 (A.b.toNat : Int), .int .u8 (A.c.toNat : Int), .int .u8 (A.d.toNat : Int), .int .i64 (n : Int)] rfl)) | ((with_reducible show wpList _ _ _ (⟨some 37, _, _, _, _, _⟩ :: _) _ _); refine wpList_load_rng 26 (.tmp 8) rfl (by kernel_rfl) _ _ rfl _ R37.out _ Tryd.underlying26 rfl (by kernel_rfl) ?_))
                try clear R34
                try clear R37
                with_reducible refine (afirst_any _ _ _ _ _ _).mono ?_
                rintro e w10 ⟨rfl, b10⟩
                replace hpa := blk_u hpa b10
                replace hca := blk_u hca b10
                replace hna := blk_u hna b10
                replace bel := bel.trans (b10.mono bel.size)
                clear b10
                rw [show firstN (be [A.a, A.b, A.c, A.d]) (clamp (n : Int)) = f from HF.out]
                go_wp2_with fail
                with_reducible refine (anum_adr f _ HFL.out).mono ?_
                rintro e w11 ⟨rfl, b11⟩
                replace hpa := blk_u hpa b11
                replace hca := blk_u hca b11
                replace hna := blk_u hna b11
                replace bel := bel.trans (b11.mono bel.size)
                clear b11
                have R63 := Lib.hid (range_lit hpa 0 4 [.int .u8 (A.a.toNat : Int), .int .u8 (A.b.toNat : Int), .int .u8 (A.c.toNat : Int), .int .u8 (A.d.toNat : Int)] rfl)
                go_wp2_with (first | ((with_reducible show wpList _ _ _ (⟨some 63, _, _, _, _, _⟩ :: _) _ _); refine wpList_load_rng 24 (.tmp 2) rfl (by kernel_rfl) _ _ rfl _ R63.out _ Tryd.underlying24 rfl (by kernel_rfl) ?_))
                try clear R63
                with_reducible refine (anum_any _ _ _ _ _).mono ?_
                rintro e w12 ⟨rfl, b12⟩
                replace hpa := blk_u hpa b12
                replace hca := blk_u hca b12
                replace hna := blk_u hna b12
                replace bel := bel.trans (b12.mono bel.size)
                clear b12
                rw [show be [A.a, A.b, A.c, A.d] = x from HXX.out]
                have R71 := Lib.hid (range_lit hna 0 5 [.int .u8 (A.a.toNat : Int), .int .u8 (A.b.toNat : Int), .int .u8 (A.c.toNat : Int), .int .u8 (A.d.toNat : Int), .int .i64 (n : Int)] rfl)
                go_wp2_with (first | ((with_reducible show wpList _ _ _ (⟨some 71, _, _, _, _, _⟩ :: _) _ _); refine wpList_load_rng 26 (.tmp 8) rfl (by kernel_rfl) _ _ rfl _ R71.out _ Tryd.underlying26 rfl (by kernel_rfl) ?_))
                try clear R71
                with_reducible refine (alast_any _ _ _ _ _ _).mono ?_
                rintro e w13 ⟨rfl, b13⟩
                replace hpa := blk_u hpa b13
                replace hca := blk_u hca b13
                replace hna := blk_u hna b13
                replace bel := bel.trans (b13.mono bel.size)
                clear b13
                rw [show lastN (be [A.a, A.b, A.c, A.d]) (clamp (n : Int)) = z from HZ.out]
                go_wp2_with fail
                with_reducible refine (anum_adr z _ HZL.out).mono ?_
                rintro e w14 ⟨rfl, b14⟩
                replace hpa := blk_u hpa b14
                replace hca := blk_u hca b14
                replace hna := blk_u hna b14
                replace bel := bel.trans (b14.mono bel.size)
                clear b14
                have R104 := Lib.hid (range_lit hca 0 4 [.int .u8 (cc.own.a.toNat : Int), .int .u8 (cc.own.b.toNat : Int), .int .u8 (cc.own.c.toNat : Int), .int .u8 (cc.own.d.toNat : Int)] rfl)
                go_wp2_with (first | ((with_reducible show wpList _ _ _ (⟨some 104, _, _, _, _, _⟩ :: _) _ _); refine wpList_load_rng 24 (.tmp 103) rfl (by kernel_rfl) _ _ rfl _ R104.out _ Tryd.underlying24 rfl (by kernel_rfl) ?_; have R105 := Lib.hid (range_lit hpa 0 4 [.int .u8 (A.a.toNat : Int), .int .u8 (A.b.toNat : Int), .int .u8 (A.c.toNat : Int), .int .u8 (A.d.toNat : Int)] rfl)) | ((with_reducible show wpList _ _ _ (⟨some 105, _, _, _, _, _⟩ :: _) _ _); refine wpList_load_rng 24 (.tmp 2) rfl (by kernel_rfl) _ _ rfl _ R105.out _ Tryd.underlying24 rfl (by kernel_rfl) ?_; have R109 := Lib.hid (range_lit hca 21 4 [.int .u8 (cc.first.a.toNat : Int), .int .u8 (cc.first.b.toNat : Int), .int .u8 (cc.first.c.toNat : Int), .int .u8 (cc.first.d.toNat : Int)] rfl)) | ((with_reducible show wpList _ _ _ (⟨some 109, _, _, _, _, _⟩ :: _) _ _); refine wpList_load_rng 24 (.tmp 108) rfl (by kernel_rfl) _ _ rfl _ R109.out _ Tryd.underlying24 rfl (by kernel_rfl) ?_))
                try clear R104
                try clear R105
                try clear R109
                with_reducible refine (anum_any _ _ _ _ _).mono ?_
                rintro e w15 ⟨rfl, b15⟩
                replace hpa := blk_u hpa b15
                replace hca := blk_u hca b15
                replace hna := blk_u hna b15
                replace bel := bel.trans (b15.mono bel.size)
                clear b15
                rw [show be [cc.first.a, cc.first.b, cc.first.c, cc.first.d] = lo from HCF.out]
                have R117 := Lib.hid (range_lit hca 25 4 [.int .u8 (cc.last.a.toNat : Int), .int .u8 (cc.last.b.toNat : Int), .int .u8 (cc.last.c.toNat : Int), .int .u8 (cc.last.d.toNat : Int)] rfl)
                go_wp2_with (first | ((with_reducible show wpList _ _ _ (⟨some 117, _, _, _, _, _⟩ :: _) _ _); refine wpList_load_rng 24 (.tmp 116) rfl (by kernel_rfl) _ _ rfl _ R117.out _ Tryd.underlying24 rfl (by kernel_rfl) ?_))
                try clear R117
                with_reducible refine (anum_any _ _ _ _ _).mono ?_
                rintro e w16 ⟨rfl, b16⟩
                replace hpa := blk_u hpa b16
                replace hca := blk_u hca b16
                replace hna := blk_u hna b16
                replace bel := bel.trans (b16.mono bel.size)
                clear b16
                rw [show be [cc.last.a, cc.last.b, cc.last.c, cc.last.d] = hi from HCL.out]
                have R124 := Lib.hid (range_lit hna 0 5 [.int .u8 (A.a.toNat : Int), .int .u8 (A.b.toNat : Int), .int .u8 (A.c.toNat : Int), .int .u8 (A.d.toNat : Int), .int .i64 (n : Int)] rfl)
                go_wp2_with (first | ((with_reducible show wpList _ _ _ (⟨some 124, _, _, _, _, _⟩ :: _) _ _); refine wpList_load_rng 26 (.tmp 8) rfl (by kernel_rfl) _ _ rfl _ R124.out _ Tryd.underlying26 rfl (by kernel_rfl) ?_; have R126 := Lib.hid (range_lit hca 21 4 [.int .u8 (cc.first.a.toNat : Int), .int .u8 (cc.first.b.toNat : Int), .int .u8 (cc.first.c.toNat : Int), .int .u8 (cc.first.d.toNat : Int)] rfl)) | ((with_reducible show wpList _ _ _ (⟨some 126, _, _, _, _, _⟩ :: _) _ _); refine wpList_load_rng 24 (.tmp 125) rfl (by kernel_rfl) _ _ rfl _ R126.out _ Tryd.underlying24 rfl (by kernel_rfl) ?_))
                try clear R124
                try clear R126
                with_reducible refine (ahas_any _ _ _ _ _ _ _ _ _ _).mono ?_
                rintro e w17 ⟨rfl, b17⟩
                replace hpa := blk_u hpa b17
                replace hca := blk_u hca b17
                replace hna := blk_u hna b17
                replace bel := bel.trans (b17.mono bel.size)
                clear b17
                rw [show (firstN (be [A.a, A.b, A.c, A.d]) (clamp (n : Int)) == firstN (be [cc.first.a, cc.first.b, cc.first.c, cc.first.d]) (clamp (n : Int))) = true from HN1.out]
                have R130 := Lib.hid (range_lit hna 0 5 [.int .u8 (A.a.toNat : Int), .int .u8 (A.b.toNat : Int), .int .u8 (A.c.toNat : Int), .int .u8 (A.d.toNat : Int), .int .i64 (n : Int)] rfl)
                go_wp2_with (first | ((with_reducible show wpList _ _ _ (⟨some 130, _, _, _, _, _⟩ :: _) _ _); refine wpList_load_rng 26 (.tmp 8) rfl (by kernel_rfl) _ _ rfl _ R130.out _ Tryd.underlying26 rfl (by kernel_rfl) ?_; have R132 := Lib.hid (range_lit hca 25 4 [.int .u8 (cc.last.a.toNat : Int), .int .u8 (cc.last.b.toNat : Int), .int .u8 (cc.last.c.toNat : Int), .int .u8 (cc.last.d.toNat : Int)] rfl)) | ((with_reducible show wpList _ _ _ (⟨some 132, _, _, _, _, _⟩ :: _) _ _); refine wpList_load_rng 24 (.tmp 131) rfl (by kernel_rfl) _ _ rfl _ R132.out _ Tryd.underlying24 rfl (by kernel_rfl) ?_))
                try clear R130
                try clear R132
                with_reducible refine (ahas_any _ _ _ _ _ _ _ _ _ _).mono ?_
                rintro e w18 ⟨rfl, b18⟩
                replace hpa := blk_u hpa b18
                replace hca := blk_u hca b18
                replace hna := blk_u hna b18
                replace bel := bel.trans (b18.mono bel.size)
                clear b18
                rw [show (firstN (be [A.a, A.b, A.c, A.d]) (clamp (n : Int)) == firstN (be [cc.last.a, cc.last.b, cc.last.c, cc.last.d]) (clamp (n : Int))) = true from HN2.out]
                go_wp2_with fail
                go_ret
                exact ⟨rfl, bel⟩
              · have d4_ : decide (hi < x) = false := decide_eq_false d4
                have HPS : Hid (parseS tc = (zeroC, 0, 1)) := Lib.hid (by rw [HTC3.out]; exact (nets_law A h8 h28).2.1 (by rw [HXX.out, HF.out, HZ.out, HLO.out, HHI.out]; rw [show (x == f) = false from beq_eq_false_iff_ne.2 (by omega), show (x == z) = false from beq_eq_false_iff_ne.2 (by omega)]; rw [d3_, d4_]; rfl))
                clear P3 P4 P5 P6 P7 P8 PF PZ PX
                clear d1 d2 d3 d4
                have R23 := Lib.hid (range_lit hpa 0 4 [.int .u8 (A.a.toNat : Int), .int .u8 (A.b.toNat : Int), .int .u8 (A.c.toNat : Int), .int .u8 (A.d.toNat : Int)] rfl)
                go_wp2_with (first | ((with_reducible show wpList _ _ _ (⟨some 23, _, _, _, _, _⟩ :: _) _ _); refine wpList_load_rng 24 (.tmp 2) rfl (by kernel_rfl) _ _ rfl _ R23.out _ Tryd.underlying24 rfl (by kernel_rfl) ?_))
                try clear R23
                with_reducible refine (atext_any _ _ _ _ _ hT).mono ?_
                rintro e w3 ⟨rfl, b3⟩
                replace hpa := blk_u hpa b3
                replace hT := hT.below b3
                replace bel := bel.trans (b3.mono bel.size)
                clear b3
                rw [show adT A.a A.b A.c A.d = ta from HTA.out]
                clear hT
                have R25 := fun W => st_cat HTX.out BTX.out W
                have R26 := fun W => st_cat HTY.out BTY.out W
                go_wp2_with fail
                clear R25 R26
                with_reducible refine (rtext_v (v := (n : Int)) rfl hn9 _).mono ?_
                rintro e w4 ⟨rfl, b4⟩
                replace hpa := blk_u hpa b4
                replace bel := bel.trans (b4.mono bel.size)
                clear b4
                rw [show decT n = dg from HDG.out]
                have R29 := fun W => st_cat HTC.out BTC.out W
                go_wp2_with fail
                clear R29
                with_reducible refine (cparse_is HPS.out HTL.out _).mono ?_
                rintro e w5 ⟨Fx, nf, cf, Ox, nx, cx, rfl, hf, ho, frF, frO, b5⟩
                replace hpa := blk_u hpa b5
                replace bel := bel.trans (b5.mono bel.size)
                clear b5
                clear hf ho frF frO
                go_wp2_with (first | ((with_reducible show wpList _ _ _ (⟨some 5, _, _, _, _, _⟩ :: _) _ _); refine wpList_new_a rfl 32 rfl #[.int .u8 0, .int .u8 0, .int .u8 0, .int .u8 0, .int .u8 0, .int .u8 0, .int .u8 0, .int .u8 0, .int .i64 0, .int .u8 0, .int .u8 0, .int .u8 0, .int .u8 0, .int .u8 0, .int .u8 0, .int .u8 0, .int .u8 0, .int .u8 0, .int .u8 0, .int .u8 0, .int .u8 0, .int .u8 0, .int .u8 0, .int .u8 0, .int .u8 0, .int .u8 0, .int .u8 0, .int .u8 0, .int .u8 0, .int .i64 0, .int .u8 0, .int .u8 0, .int .u8 0, .int .u8 0, .int .i64 0, .int .i64 0, .int .i64 0, .int .i64 0, .slice none 0 0, .slice none 0 0] (by kernel_rfl) ?_; intro g5 w6 ge hh bb; have d_pa_ca := ne_new (hlt hpa) ge; have oca := Nat.le_trans bel.size ge; replace hpa := blk_u hpa bb; replace bel := bel.trans (bb.mono bel.size); have hca := hh; clear hh ge bb) | ((with_reducible show wpList _ _ _ (⟨none, Op.store _ (.tmp 5) _, _, _, _, _⟩ :: _) _ _); refine wpList_store_blk rfl 32 (.tmp 5) (.tmp 31) rfl g5 rfl _ rfl _ 32 hca (by rfl) (by kernel_rfl) (by kernel_rfl) ?_; intro w7 hq gr; replace hpa := blk_a hpa gr d_pa_ca; replace bel := below_grown bel gr oca bel.size; clear hca; have hca := hq; clear hq gr; have R34 := Lib.hid (range_lit hpa 0 4 [.int .u8 (A.a.toNat : Int), .int .u8 (A.b.toNat : Int), .int .u8 (A.c.toNat : Int), .int .u8 (A.d.toNat : Int)] rfl)) | ((with_reducible show wpList _ _ _ (⟨some 34, _, _, _, _, _⟩ :: _) _ _); refine wpList_load_rng 24 (.tmp 2) rfl (by kernel_rfl) _ _ rfl _ R34.out _ Tryd.underlying24 rfl (by kernel_rfl) ?_) | ((with_reducible show wpList _ _ _ (⟨some 8, _, _, _, _, _⟩ :: _) _ _); refine wpList_new_a rfl 26 rfl #[.int .u8 0, .int .u8 0, .int .u8 0, .int .u8 0, .int .i64 0] (by kernel_rfl) ?_; intro g8 w8 ge hh bb; have d_pa_na := ne_new (hlt hpa) ge; have d_ca_na := ne_new (hlt hca) ge; have ona := Nat.le_trans bel.size ge; replace hpa := blk_u hpa bb; replace hca := blk_u hca bb; replace bel := bel.trans (bb.mono bel.size); have hna := hh; clear hh ge bb) | ((with_reducible show wpList _ _ _ (⟨none, Op.store _ (.tmp 8) _, _, _, _, _⟩ :: _) _ _); refine wpList_store_blk rfl 26 (.tmp 8) (.tmp 36) rfl g8 rfl _ rfl _ 26 hna (by rfl) (by kernel_rfl) (by kernel_rfl) ?_; intro w9 hq gr; replace hpa := blk_a hpa gr d_pa_na; replace hca := blk_a hca gr d_ca_na; replace bel := below_grown bel gr ona bel.size; clear hna; have hna := hq; clear hq gr; have R37 := Lib.hid (range_lit hna 0 5 [.int .u8 (A.a.toNat : Int), .int .u8 (A.b.toNat : Int), .int .u8 (A.c.toNat : Int), .int .u8 (A.d.toNat : Int), .int .i64 (n : Int)] rfl)) | ((with_reducible show wpList _ _ _ (⟨some 37, _, _, _, _, _⟩ :: _) _ _); refine wpList_load_rng 26 (.tmp 8) rfl (by kernel_rfl) _ _ rfl _ R37.out _ Tryd.underlying26 rfl (by kernel_rfl) ?_))
                try clear R34
                try clear R37
                with_reducible refine (afirst_any _ _ _ _ _ _).mono ?_
                rintro e w10 ⟨rfl, b10⟩
                replace hpa := blk_u hpa b10
                replace hca := blk_u hca b10
                replace hna := blk_u hna b10
                replace bel := bel.trans (b10.mono bel.size)
                clear b10
                rw [show firstN (be [A.a, A.b, A.c, A.d]) (clamp (n : Int)) = f from HF.out]
                go_wp2_with fail
                with_reducible refine (anum_adr f _ HFL.out).mono ?_
                rintro e w11 ⟨rfl, b11⟩
                replace hpa := blk_u hpa b11
                replace hca := blk_u hca b11
                replace hna := blk_u hna b11
                replace bel := bel.trans (b11.mono bel.size)
                clear b11
                have R63 := Lib.hid (range_lit hpa 0 4 [.int .u8 (A.a.toNat : Int), .int .u8 (A.b.toNat : Int), .int .u8 (A.c.toNat : Int), .int .u8 (A.d.toNat : Int)] rfl)
                go_wp2_with (first | ((with_reducible show wpList _ _ _ (⟨some 63, _, _, _, _, _⟩ :: _) _ _); refine wpList_load_rng 24 (.tmp 2) rfl (by kernel_rfl) _ _ rfl _ R63.out _ Tryd.underlying24 rfl (by kernel_rfl) ?_))
                try clear R63
                with_reducible refine (anum_any _ _ _ _ _).mono ?_
                rintro e w12 ⟨rfl, b12⟩
                replace hpa := blk_u hpa b12
                replace hca := blk_u hca b12
                replace hna := blk_u hna b12
                replace bel := bel.trans (b12.mono bel.size)
                clear b12
                rw [show be [A.a, A.b, A.c, A.d] = x from HXX.out]
                have R71 := Lib.hid (range_lit hna 0 5 [.int .u8 (A.a.toNat : Int), .int .u8 (A.b.toNat : Int), .int .u8 (A.c.toNat : Int), .int .u8 (A.d.toNat : Int), .int .i64 (n : Int)] rfl)
                go_wp2_with (first | ((with_reducible show wpList _ _ _ (⟨some 71, _, _, _, _, _⟩ :: _) _ _); refine wpList_load_rng 26 (.tmp 8) rfl (by kernel_rfl) _ _ rfl _ R71.out _ Tryd.underlying26 rfl (by kernel_rfl) ?_))
                try clear R71
                with_reducible refine (alast_any _ _ _ _ _ _).mono ?_
                rintro e w13 ⟨rfl, b13⟩
                replace hpa := blk_u hpa b13
                replace hca := blk_u hca b13
                replace hna := blk_u hna b13
                replace bel := bel.trans (b13.mono bel.size)
                clear b13
                rw [show lastN (be [A.a, A.b, A.c, A.d]) (clamp (n : Int)) = z from HZ.out]
                go_wp2_with fail
                with_reducible refine (anum_adr z _ HZL.out).mono ?_
                rintro e w14 ⟨rfl, b14⟩
                replace hpa := blk_u hpa b14
                replace hca := blk_u hca b14
                replace hna := blk_u hna b14
                replace bel := bel.trans (b14.mono bel.size)
                clear b14
                go_wp2_with fail
                go_ret
                exact ⟨rfl, bel⟩
      · have h24i : (24 : Int) < n := by omega
        have elo : (f : Int) + 2 = (lo : Int) := by rw [if_neg (by omega)] at PW; omega
        have PV2 : hi = f + min 33 (z - f - 1) := by rw [if_neg (by omega)] at PV; exact PV
        clear PW PV
        by_cases hm : (z : Int) - 1 < (f : Int) + 33
        · have ehi : (z : Int) - 1 = (hi : Int) := by omega
          have hm2 : (hi : Int) < (f : Int) + 33 := by omega
          clear PV2 hm
          by_cases d1 : x = f
          · have exf : ((x : Int) == (f : Int)) = true := beq_iff_eq.2 (by omega)
            have kxf : ((x : Int) != (f : Int)) = false := by rw [bne, exf]; rfl
            have HPS : Hid (parseS tc = (zeroC, 0, 1)) := Lib.hid (by rw [HTC3.out]; exact (nets_law A h8 h28).2.1 (by rw [HXX.out, HF.out, HZ.out, HLO.out, HHI.out]; rw [show (x == f) = true from beq_iff_eq.2 (by omega)]; rfl))
            clear P3 P4 P5 P6 P7 P8 PF PZ PX
            clear d1
            have R23 := Lib.hid (range_lit hpa 0 4 [.int .u8 (A.a.toNat : Int), .int .u8 (A.b.toNat : Int), .int .u8 (A.c.toNat : Int), .int .u8 (A.d.toNat : Int)] rfl)
            go_wp2_with (first | ((with_reducible show wpList _ _ _ (⟨some 23, _, _, _, _, _⟩ :: _) _ _); refine wpList_load_rng 24 (.tmp 2) rfl (by kernel_rfl) _ _ rfl _ R23.out _ Tryd.underlying24 rfl (by kernel_rfl) ?_))
            try clear R23
            with_reducible refine (atext_any _ _ _ _ _ hT).mono ?_
            rintro e w3 ⟨rfl, b3⟩
            replace hpa := blk_u hpa b3
            replace hT := hT.below b3
            replace bel := bel.trans (b3.mono bel.size)
            clear b3
            rw [show adT A.a A.b A.c A.d = ta from HTA.out]
            clear hT
            have R25 := fun W => st_cat HTX.out BTX.out W
            have R26 := fun W => st_cat HTY.out BTY.out W
            go_wp2_with fail
            clear R25 R26
            with_reducible refine (rtext_v (v := (n : Int)) rfl hn9 _).mono ?_
            rintro e w4 ⟨rfl, b4⟩
            replace hpa := blk_u hpa b4
            replace bel := bel.trans (b4.mono bel.size)
            clear b4
            rw [show decT n = dg from HDG.out]
            have R29 := fun W => st_cat HTC.out BTC.out W
            go_wp2_with fail
            clear R29
            with_reducible refine (cparse_is HPS.out HTL.out _).mono ?_
            rintro e w5 ⟨Fx, nf, cf, Ox, nx, cx, rfl, hf, ho, frF, frO, b5⟩
            replace hpa := blk_u hpa b5
            replace bel := bel.trans (b5.mono bel.size)
            clear b5
            clear hf ho frF frO
            go_wp2_with (first | ((with_reducible show wpList _ _ _ (⟨some 5, _, _, _, _, _⟩ :: _) _ _); refine wpList_new_a rfl 32 rfl #[.int .u8 0, .int .u8 0, .int .u8 0, .int .u8 0, .int .u8 0, .int .u8 0, .int .u8 0, .int .u8 0, .int .i64 0, .int .u8 0, .int .u8 0, .int .u8 0, .int .u8 0, .int .u8 0, .int .u8 0, .int .u8 0, .int .u8 0, .int .u8 0, .int .u8 0, .int .u8 0, .int .u8 0, .int .u8 0, .int .u8 0, .int .u8 0, .int .u8 0, .int .u8 0, .int .u8 0, .int .u8 0, .int .u8 0, .int .i64 0, .int .u8 0, .int .u8 0, .int .u8 0, .int .u8 0, .int .i64 0, .int .i64 0, .int .i64 0, .int .i64 0, .slice none 0 0, .slice none 0 0] (by kernel_rfl) ?_; intro g5 w6 ge hh bb; have d_pa_ca := ne_new (hlt hpa) ge; have oca := Nat.le_trans bel.size ge; replace hpa := blk_u hpa bb; replace bel := bel.trans (bb.mono bel.size); have hca := hh; clear hh ge bb) | ((with_reducible show wpList _ _ _ (⟨none, Op.store _ (.tmp 5) _, _, _, _, _⟩ :: _) _ _); refine wpList_store_blk rfl 32 (.tmp 5) (.tmp 31) rfl g5 rfl _ rfl _ 32 hca (by rfl) (by kernel_rfl) (by kernel_rfl) ?_; intro w7 hq gr; replace hpa := blk_a hpa gr d_pa_ca; replace bel := below_grown bel gr oca bel.size; clear hca; have hca := hq; clear hq gr; have R34 := Lib.hid (range_lit hpa 0 4 [.int .u8 (A.a.toNat : Int), .int .u8 (A.b.toNat : Int), .int .u8 (A.c.toNat : Int), .int .u8 (A.d.toNat : Int)] rfl)) | ((with_reducible show wpList _ _ _ (⟨some 34, _, _, _, _, _⟩ :: _) _ _); refine wpList_load_rng 24 (.tmp 2) rfl (by kernel_rfl) _ _ rfl _ R34.out _ Tryd.underlying24 rfl (by kernel_rfl) ?_) | ((with_reducible show wpList _ _ _ (⟨some 8, _, _, _, _, _⟩ :: _) _ _); refine wpList_new_a rfl 26 rfl #[.int .u8 0, .int .u8 0, .int .u8 0, .int .u8 0, .int .i64 0] (by kernel_rfl) ?_; intro g8 w8 ge hh bb; have d_pa_na := ne_new (hlt hpa) ge; have d_ca_na := ne_new (hlt hca) ge; have ona := Nat.le_trans bel.size ge; replace hpa := blk_u hpa bb; replace hca := blk_u hca bb; replace bel := bel.trans (bb.mono bel.size); have hna := hh; clear hh ge bb) | ((with_reducible show wpList _ _ _ (⟨none, Op.store _ (.tmp 8) _, _, _, _, _⟩ :: _) _ _); refine wpList_store_blk rfl 26 (.tmp 8) (.tmp 36) rfl g8 rfl _ rfl _ 26 hna (by rfl) (by kernel_rfl) (by kernel_rfl) ?_; intro w9 hq gr; replace hpa := blk_a hpa gr d_pa_na; replace hca := blk_a hca gr d_ca_na; replace bel := below_grown bel gr ona bel.size; clear hna; have hna := hq; clear hq gr; have R37 := Lib.hid (range_lit hna 0 5 [.int .u8 (A.a.toNat : Int), .int .u8 (A.b.toNat : Int), .int .u8 (A.c.toNat : Int), .int .u8 (A.d.toNat : Int), .int .i64 (n : Int)] rfl)) | ((with_reducible show wpList _ _ _ (⟨some 37, _, _, _, _, _⟩ :: _) _ _); refine wpList_load_rng 26 (.tmp 8) rfl (by kernel_rfl) _ _ rfl _ R37.out _ Tryd.underlying26 rfl (by kernel_rfl) ?_))
            try clear R34
            try clear R37
            with_reducible refine (afirst_any _ _ _ _ _ _).mono ?_
            rintro e w10 ⟨rfl, b10⟩
            replace hpa := blk_u hpa b10
            replace hca := blk_u hca b10
            replace hna := blk_u hna b10
            replace bel := bel.trans (b10.mono bel.size)
            clear b10
            rw [show firstN (be [A.a, A.b, A.c, A.d]) (clamp (n : Int)) = f from HF.out]
            go_wp2_with fail
            with_reducible refine (anum_adr f _ HFL.out).mono ?_
            rintro e w11 ⟨rfl, b11⟩
            replace hpa := blk_u hpa b11
            replace hca := blk_u hca b11
            replace hna := blk_u hna b11
            replace bel := bel.trans (b11.mono bel.size)
            clear b11
            have R51 := Lib.hid (range_lit hna 0 5 [.int .u8 (A.a.toNat : Int), .int .u8 (A.b.toNat : Int), .int .u8 (A.c.toNat : Int), .int .u8 (A.d.toNat : Int), .int .i64 (n : Int)] rfl)
            go_wp2_with (first | ((with_reducible show wpList _ _ _ (⟨some 51, _, _, _, _, _⟩ :: _) _ _); refine wpList_load_rng 26 (.tmp 8) rfl (by kernel_rfl) _ _ rfl _ R51.out _ Tryd.underlying26 rfl (by kernel_rfl) ?_))
            try clear R51
            with_reducible refine (alast_any _ _ _ _ _ _).mono ?_
            rintro e w12 ⟨rfl, b12⟩
            replace hpa := blk_u hpa b12
            replace hca := blk_u hca b12
            replace hna := blk_u hna b12
            replace bel := bel.trans (b12.mono bel.size)
            clear b12
            rw [show lastN (be [A.a, A.b, A.c, A.d]) (clamp (n : Int)) = z from HZ.out]
            go_wp2_with fail
            with_reducible refine (anum_adr z _ HZL.out).mono ?_
            rintro e w13 ⟨rfl, b13⟩
            replace hpa := blk_u hpa b13
            replace hca := blk_u hca b13
            replace hna := blk_u hna b13
            replace bel := bel.trans (b13.mono bel.size)
            clear b13
            have R58 := Lib.hid (range_lit hna 0 5 [.int .u8 (A.a.toNat : Int), .int .u8 (A.b.toNat : Int), .int .u8 (A.c.toNat : Int), .int .u8 (A.d.toNat : Int), .int .i64 (n : Int)] rfl)
            go_wp2_with (first | ((with_reducible show wpList _ _ _ (⟨some 58, _, _, _, _, _⟩ :: _) _ _); refine wpList_load_rng 26 (.tmp 8) rfl (by kernel_rfl) _ _ rfl _ R58.out _ Tryd.underlying26 rfl (by kernel_rfl) ?_))
            try clear R58
            with_reducible refine (alast_any _ _ _ _ _ _).mono ?_
            rintro e w14 ⟨rfl, b14⟩
            replace hpa := blk_u hpa b14
            replace hca := blk_u hca b14
            replace hna := blk_u hna b14
            replace bel := bel.trans (b14.mono bel.size)
            clear b14
            rw [show lastN (be [A.a, A.b, A.c, A.d]) (clamp (n : Int)) = z from HZ.out]
            go_wp2_with fail
            with_reducible refine (anum_adr z _ HZL.out).mono ?_
            rintro e w15 ⟨rfl, b15⟩
            replace hpa := blk_u hpa b15
            replace hca := blk_u hca b15
            replace hna := blk_u hna b15
            replace bel := bel.trans (b15.mono bel.size)
            clear b15
            have R63 := Lib.hid (range_lit hpa 0 4 [.int .u8 (A.a.toNat : Int), .int .u8 (A.b.toNat : Int), .int .u8 (A.c.toNat : Int), .int .u8 (A.d.toNat : Int)] rfl)
            go_wp2_with (first | ((with_reducible show wpList _ _ _ (⟨some 63, _, _, _, _, _⟩ :: _) _ _); refine wpList_load_rng 24 (.tmp 2) rfl (by kernel_rfl) _ _ rfl _ R63.out _ Tryd.underlying24 rfl (by kernel_rfl) ?_))
            try clear R63
            with_reducible refine (anum_any _ _ _ _ _).mono ?_
            rintro e w16 ⟨rfl, b16⟩
            replace hpa := blk_u hpa b16
            replace hca := blk_u hca b16
            replace hna := blk_u hna b16
            replace bel := bel.trans (b16.mono bel.size)
            clear b16
            rw [show be [A.a, A.b, A.c, A.d] = x from HXX.out]
            go_wp2_with fail
            go_ret
            exact ⟨rfl, bel⟩
          · have exf : ((x : Int) == (f : Int)) = false := beq_eq_false_iff_ne.2 (by omega)
            have kxf : ((x : Int) != (f : Int)) = true := by rw [bne, exf]; rfl
            by_cases d2 : x = z
            · have exz : ((x : Int) == (z : Int)) = true := beq_iff_eq.2 (by omega)
              have kxz : ((x : Int) != (z : Int)) = false := by rw [bne, exz]; rfl
              have HPS : Hid (parseS tc = (zeroC, 0, 1)) := Lib.hid (by rw [HTC3.out]; exact (nets_law A h8 h28).2.1 (by rw [HXX.out, HF.out, HZ.out, HLO.out, HHI.out]; rw [show (x == f) = false from beq_eq_false_iff_ne.2 (by omega), show (x == z) = true from beq_iff_eq.2 (by omega)]; rfl))
              clear P3 P4 P5 P6 P7 P8 PF PZ PX
              clear d1 d2
              have R23 := Lib.hid (range_lit hpa 0 4 [.int .u8 (A.a.toNat : Int), .int .u8 (A.b.toNat : Int), .int .u8 (A.c.toNat : Int), .int .u8 (A.d.toNat : Int)] rfl)
              go_wp2_with (first | ((with_reducible show wpList _ _ _ (⟨some 23, _, _, _, _, _⟩ :: _) _ _); refine wpList_load_rng 24 (.tmp 2) rfl (by kernel_rfl) _ _ rfl _ R23.out _ Tryd.underlying24 rfl (by kernel_rfl) ?_))
              try clear R23
              with_reducible refine (atext_any _ _ _ _ _ hT).mono ?_
              rintro e w3 ⟨rfl, b3⟩
              replace hpa := blk_u hpa b3
              replace hT := hT.below b3
              replace bel := bel.trans (b3.mono bel.size)
              clear b3
              rw [show adT A.a A.b A.c A.d = ta from HTA.out]
              clear hT
              have R25 := fun W => st_cat HTX.out BTX.out W
              have R26 := fun W => st_cat HTY.out BTY.out W
              go_wp2_with fail
              clear R25 R26
              with_reducible refine (rtext_v (v := (n : Int)) rfl hn9 _).mono ?_
              rintro e w4 ⟨rfl, b4⟩
              replace hpa := blk_u hpa b4
              replace bel := bel.trans (b4.mono bel.size)
              clear b4
              rw [show decT n = dg from HDG.out]
              have R29 := fun W => st_cat HTC.out BTC.out W
              go_wp2_with fail
              clear R29
              with_reducible refine (cparse_is HPS.out HTL.out _).mono ?_
              rintro e w5 ⟨Fx, nf, cf, Ox, nx, cx, rfl, hf, ho, frF, frO, b5⟩
              replace hpa := blk_u hpa b5
              replace bel := bel.trans (b5.mono bel.size)
              clear b5
              clear hf ho frF frO
              go_wp2_with (first | ((with_reducible show wpList _ _ _ (⟨some 5, _, _, _, _, _⟩ :: _) _ _); refine wpList_new_a rfl 32 rfl #[.int .u8 0, .int .u8 0, .int .u8 0, .int .u8 0, .int .u8 0, .int .u8 0, .int .u8 0, .int .u8 0, .int .i64 0, .int .u8 0, .int .u8 0, .int .u8 0, .int .u8 0, .int .u8 0, .int .u8 0, .int .u8 0, .int .u8 0, .int .u8 0, .int .u8 0, .int .u8 0, .int .u8 0, .int .u8 0, .int .u8 0, .int .u8 0, .int .u8 0, .int .u8 0, .int .u8 0, .int .u8 0, .int .u8 0, .int .i64 0, .int .u8 0, .int .u8 0, .int .u8 0, .int .u8 0, .int .i64 0, .int .i64 0, .int .i64 0, .int .i64 0, .slice none 0 0, .slice none 0 0] (by kernel_rfl) ?_; intro g5 w6 ge hh bb; have d_pa_ca := ne_new (hlt hpa) ge; have oca := Nat.le_trans bel.size ge; replace hpa := blk_u hpa bb; replace bel := bel.trans (bb.mono bel.size); have hca := hh; clear hh ge bb) | ((with_reducible show wpList _ _ _ (⟨none, Op.store _ (.tmp 5) _, _, _, _, _⟩ :: _) _ _); refine wpList_store_blk rfl 32 (.tmp 5) (.tmp 31) rfl g5 rfl _ rfl _ 32 hca (by rfl) (by kernel_rfl) (by kernel_rfl) ?_; intro w7 hq gr; replace hpa := blk_a hpa gr d_pa_ca; replace bel := below_grown bel gr oca bel.size; clear hca; have hca := hq; clear hq gr; have R34 := Lib.hid (range_lit hpa 0 4 [.int .u8 (A.a.toNat : Int), .int .u8 (A.b.toNat : Int), .int .u8 (A.c.toNat : Int), .int .u8 (A.d.toNat : Int)] rfl)) | ((with_reducible show wpList _ _ _ (⟨some 34, _, _, _, _, _⟩ :: _) _ _); refine wpList_load_rng 24 (.tmp 2) rfl (by kernel_rfl) _ _ rfl _ R34.out _ Tryd.underlying24 rfl (by kernel_rfl) ?_) | ((with_reducible show wpList _ _ _ (⟨some 8, _, _, _, _, _⟩ :: _) _ _); refine wpList_new_a rfl 26 rfl #[.int .u8 0, .int .u8 0, .int .u8 0, .int .u8 0, .int .i64 0] (by kernel_rfl) ?_; intro g8 w8 ge hh bb; have d_pa_na := ne_new (hlt hpa) ge; have d_ca_na := ne_new (hlt hca) ge; have ona := Nat.le_trans bel.size ge; replace hpa := blk_u hpa bb; replace hca := blk_u hca bb; replace bel := bel.trans (bb.mono bel.size); have hna := hh; clear hh ge bb) | ((with_reducible show wpList _ _ _ (⟨none, Op.store _ (.tmp 8) _, _, _, _, _⟩ :: _) _ _); refine wpList_store_blk rfl 26 (.tmp 8) (.tmp 36) rfl g8 rfl _ rfl _ 26 hna (by rfl) (by kernel_rfl) (by kernel_rfl) ?_; intro w9 hq gr; replace hpa := blk_a hpa gr d_pa_na; replace hca := blk_a hca gr d_ca_na; replace bel := below_grown bel gr ona bel.size; clear hna; have hna := hq; clear hq gr; have R37 := Lib.hid (range_lit hna 0 5 [.int .u8 (A.a.toNat : Int), .int .u8 (A.b.toNat : Int), .int .u8 (A.c.toNat : Int), .int .u8 (A.d.toNat : Int), .int .i64 (n : Int)] rfl)) | ((with_reducible show wpList _ _ _ (⟨some 37, _, _, _, _, _⟩ :: _) _ _); refine wpList_load_rng 26 (.tmp 8) rfl (by kernel_rfl) _ _ rfl _ R37.out _ Tryd.underlying26 rfl (by kernel_rfl) ?_))
              try clear R34
              try clear R37
              with_reducible refine (afirst_any _ _ _ _ _ _).mono ?_
              rintro e w10 ⟨rfl, b10⟩
              replace hpa := blk_u hpa b10
              replace hca := blk_u hca b10
              replace hna := blk_u hna b10
              replace bel := bel.trans (b10.mono bel.size)
              clear b10
              rw [show firstN (be [A.a, A.b, A.c, A.d]) (clamp (n : Int)) = f from HF.out]
              go_wp2_with fail
              with_reducible refine (anum_adr f _ HFL.out).mono ?_
              rintro e w11 ⟨rfl, b11⟩
              replace hpa := blk_u hpa b11
              replace hca := blk_u hca b11
              replace hna := blk_u hna b11
              replace bel := bel.trans (b11.mono bel.size)
              clear b11
              have R51 := Lib.hid (range_lit hna 0 5 [.int .u8 (A.a.toNat : Int), .int .u8 (A.b.toNat : Int), .int .u8 (A.c.toNat : Int), .int .u8 (A.d.toNat : Int), .int .i64 (n : Int)] rfl)
              go_wp2_with (first | ((with_reducible show wpList _ _ _ (⟨some 51, _, _, _, _, _⟩ :: _) _ _); refine wpList_load_rng 26 (.tmp 8) rfl (by kernel_rfl) _ _ rfl _ R51.out _ Tryd.underlying26 rfl (by kernel_rfl) ?_))
              try clear R51
              with_reducible refine (alast_any _ _ _ _ _ _).mono ?_
              rintro e w12 ⟨rfl, b12⟩
              replace hpa := blk_u hpa b12
              replace hca := blk_u hca b12
              replace hna := blk_u hna b12
              replace bel := bel.trans (b12.mono bel.size)
              clear b12
              rw [show lastN (be [A.a, A.b, A.c, A.d]) (clamp (n : Int)) = z from HZ.out]
              go_wp2_with fail
              with_reducible refine (anum_adr z _ HZL.out).mono ?_
              rintro e w13 ⟨rfl, b13⟩
              replace hpa := blk_u hpa b13
              replace hca := blk_u hca b13
              replace hna := blk_u hna b13
              replace bel := bel.trans (b13.mono bel.size)
              clear b13
              have R58 := Lib.hid (range_lit hna 0 5 [.int .u8 (A.a.toNat : Int), .int .u8 (A.b.toNat : Int), .int .u8 (A.c.toNat : Int), .int .u8 (A.d.toNat : Int), .int .i64 (n : Int)] rfl)
              go_wp2_with (first | ((with_reducible show wpList _ _ _ (⟨some 58, _, _, _, _, _⟩ :: _) _ _); refine wpList_load_rng 26 (.tmp 8) rfl (by kernel_rfl) _ _ rfl _ R58.out _ Tryd.underlying26 rfl (by kernel_rfl) ?_))
              try clear R58
              with_reducible refine (alast_any _ _ _ _ _ _).mono ?_
              rintro e w14 ⟨rfl, b14⟩
              replace hpa := blk_u hpa b14
              replace hca := blk_u hca b14
              replace hna := blk_u hna b14
              replace bel := bel.trans (b14.mono bel.size)
              clear b14
              rw [show lastN (be [A.a, A.b, A.c, A.d]) (clamp (n : Int)) = z from HZ.out]
              go_wp2_with fail
              with_reducible refine (anum_adr z _ HZL.out).mono ?_
              rintro e w15 ⟨rfl, b15⟩
              replace hpa := blk_u hpa b15
              replace hca := blk_u hca b15
              replace hna := blk_u hna b15
              replace bel := bel.trans (b15.mono bel.size)
              clear b15
              have R63 := Lib.hid (range_lit hpa 0 4 [.int .u8 (A.a.toNat : Int), .int .u8 (A.b.toNat : Int), .int .u8 (A.c.toNat : Int), .int .u8 (A.d.toNat : Int)] rfl)
              go_wp2_with (first | ((with_reducible show wpList _ _ _ (⟨some 63, _, _, _, _, _⟩ :: _) _ _); refine wpList_load_rng 24 (.tmp 2) rfl (by kernel_rfl) _ _ rfl _ R63.out _ Tryd.underlying24 rfl (by kernel_rfl) ?_))
              try clear R63
              with_reducible refine (anum_any _ _ _ _ _).mono ?_
              rintro e w16 ⟨rfl, b16⟩
              replace hpa := blk_u hpa b16
              replace hca := blk_u hca b16
              replace hna := blk_u hna b16
              replace bel := bel.trans (b16.mono bel.size)
              clear b16
              rw [show be [A.a, A.b, A.c, A.d] = x from HXX.out]
              have R71 := Lib.hid (range_lit hna 0 5 [.int .u8 (A.a.toNat : Int), .int .u8 (A.b.toNat : Int), .int .u8 (A.c.toNat : Int), .int .u8 (A.d.toNat : Int), .int .i64 (n : Int)] rfl)
              go_wp2_with (first | ((with_reducible show wpList _ _ _ (⟨some 71, _, _, _, _, _⟩ :: _) _ _); refine wpList_load_rng 26 (.tmp 8) rfl (by kernel_rfl) _ _ rfl _ R71.out _ Tryd.underlying26 rfl (by kernel_rfl) ?_))
              try clear R71
              with_reducible refine (alast_any _ _ _ _ _ _).mono ?_
              rintro e w17 ⟨rfl, b17⟩
              replace hpa := blk_u hpa b17
              replace hca := blk_u hca b17
              replace hna := blk_u hna b17
              replace bel := bel.trans (b17.mono bel.size)
              clear b17
              rw [show lastN (be [A.a, A.b, A.c, A.d]) (clamp (n : Int)) = z from HZ.out]
              go_wp2_with fail
              with_reducible refine (anum_adr z _ HZL.out).mono ?_
              rintro e w18 ⟨rfl, b18⟩
              replace hpa := blk_u hpa b18
              replace hca := blk_u hca b18
              replace hna := blk_u hna b18
              replace bel := bel.trans (b18.mono bel.size)
              clear b18
              go_wp2_with fail
              go_ret
              exact ⟨rfl, bel⟩
            · have exz : ((x : Int) == (z : Int)) = false := beq_eq_false_iff_ne.2 (by omega)
              have kxz : ((x : Int) != (z : Int)) = true := by rw [bne, exz]; rfl
              by_cases d3 : x < lo
              · have HPS0 : parseS (lanT A n) = (netC A n, 0, 0) := (nets_law A h8 h28).1 (by rw [HXX.out, HF.out, HZ.out, HLO.out, HHI.out]; rw [show (x == f) = false from beq_eq_false_iff_ne.2 (by omega), show (x == z) = false from beq_eq_false_iff_ne.2 (by omega)]; rw [decide_eq_true d3]; rfl)
                obtain ⟨cc, hcc⟩ : ∃ c, netC A n = c := ⟨_, rfl⟩
                have HCO : Hid (cc.own = A) := Lib.hid (by rw [← hcc]; rfl)
                have HCF : Hid (cc.first.num = lo) := Lib.hid (by rw [← hcc, (pool_nums A h8 h28).1, HLO.out])
                have HCL : Hid (cc.last.num = hi) := Lib.hid (by rw [← hcc, (pool_nums A h8 h28).2.1, HHI.out])
                have HN1 : Hid ((fN A n == fN cc.first n) = true) := Lib.hid (beq_iff_eq.2 (in_net A _ (by rw [HCF.out, HF.out]; omega) (by rw [HCF.out, HZ.out]; omega)))
                have HN2 : Hid ((fN A n == fN cc.last n) = true) := Lib.hid (beq_iff_eq.2 (in_net A _ (by rw [HCL.out, HF.out]; omega) (by rw [HCL.out, HZ.out]; omega)))
                have qo : ∀ W, (binOp .eql 24 (.agg #[.int .u8 (cc.own.a.toNat : Int), .int .u8 (cc.own.b.toNat : Int), .int .u8 (cc.own.c.toNat : Int), .int .u8 (cc.own.d.toNat : Int)]) (.agg #[.int .u8 (A.a.toNat : Int), .int .u8 (A.b.toNat : Int), .int .u8 (A.c.toNat : Int), .int .u8 (A.d.toNat : Int)])).run Tryd.prog W = .ok (.bool true) W := fun W => by rw [ad_eq2, HCO.out, beq_self_eq_true]
                rw [hcc] at HPS0
                have HPS : Hid (parseS tc = (cc, 0, 0)) := Lib.hid (by rw [HTC3.out]; exact HPS0)
                clear hcc HPS0 P3 P4 P5 P6 P7 P8 PF PZ PX
                clear d1 d2
                have R23 := Lib.hid (range_lit hpa 0 4 [.int .u8 (A.a.toNat : Int), .int .u8 (A.b.toNat : Int), .int .u8 (A.c.toNat : Int), .int .u8 (A.d.toNat : Int)] rfl)
                go_wp2_with (first | ((with_reducible show wpList _ _ _ (⟨some 23, _, _, _, _, _⟩ :: _) _ _); refine wpList_load_rng 24 (.tmp 2) rfl (by kernel_rfl) _ _ rfl _ R23.out _ Tryd.underlying24 rfl (by kernel_rfl) ?_))
                try clear R23
                with_reducible refine (atext_any _ _ _ _ _ hT).mono ?_
                rintro e w3 ⟨rfl, b3⟩
                replace hpa := blk_u hpa b3
                replace hT := hT.below b3
                replace bel := bel.trans (b3.mono bel.size)
                clear b3
                rw [show adT A.a A.b A.c A.d = ta from HTA.out]
                clear hT
                have R25 := fun W => st_cat HTX.out BTX.out W
                have R26 := fun W => st_cat HTY.out BTY.out W
                go_wp2_with fail
                clear R25 R26
                with_reducible refine (rtext_v (v := (n : Int)) rfl hn9 _).mono ?_
                rintro e w4 ⟨rfl, b4⟩
                replace hpa := blk_u hpa b4
                replace bel := bel.trans (b4.mono bel.size)
                clear b4
                rw [show decT n = dg from HDG.out]
                have R29 := fun W => st_cat HTC.out BTC.out W
                go_wp2_with fail
                clear R29
                with_reducible refine (cparse_is HPS.out HTL.out _).mono ?_
                rintro e w5 ⟨Fx, nf, cf, Ox, nx, cx, rfl, hf, ho, frF, frO, b5⟩
                replace hpa := blk_u hpa b5
                replace bel := bel.trans (b5.mono bel.size)
                clear b5
                clear hf ho frF frO
                go_wp2_with (first | ((with_reducible show wpList _ _ _ (⟨some 5, _, _, _, _, _⟩ :: _) _ _); refine wpList_new_a rfl 32 rfl #[.int .u8 0, .int .u8 0, .int .u8 0, .int .u8 0, .int .u8 0, .int .u8 0, .int .u8 0, .int .u8 0, .int .i64 0, .int .u8 0, .int .u8 0, .int .u8 0, .int .u8 0, .int .u8 0, .int .u8 0, .int .u8 0, .int .u8 0, .int .u8 0, .int .u8 0, .int .u8 0, .int .u8 0, .int .u8 0, .int .u8 0, .int .u8 0, .int .u8 0, .int .u8 0, .int .u8 0, .int .u8 0, .int .u8 0, .int .i64 0, .int .u8 0, .int .u8 0, .int .u8 0, .int .u8 0, .int .i64 0, .int .i64 0, .int .i64 0, .int .i64 0, .slice none 0 0, .slice none 0 0] (by kernel_rfl) ?_; intro g5 w6 ge hh bb; have d_pa_ca := ne_new (hlt hpa) ge; have oca := Nat.le_trans bel.size ge; replace hpa := blk_u hpa bb; replace bel := bel.trans (bb.mono bel.size); have hca := hh; clear hh ge bb) | ((with_reducible show wpList _ _ _ (⟨none, Op.store _ (.tmp 5) _, _, _, _, _⟩ :: _) _ _); refine wpList_store_blk rfl 32 (.tmp 5) (.tmp 31) rfl g5 rfl _ rfl _ 32 hca (by rfl) (by kernel_rfl) (by kernel_rfl) ?_; intro w7 hq gr; replace hpa := blk_a hpa gr d_pa_ca; replace bel := below_grown bel gr oca bel.size; clear hca; have hca := hq; clear hq gr; have R34 := Lib.hid (range_lit hpa 0 4 [.int .u8 (A.a.toNat : Int), .int .u8 (A.b.toNat : Int), .int .u8 (A.c.toNat : Int), .int .u8 (A.d.toNat : Int)] rfl)) | ((with_reducible show wpList _ _ _ (⟨some 34, _, _, _, _, _⟩ :: _) _ _); refine wpList_load_rng 24 (.tmp 2) rfl (by kernel_rfl) _ _ rfl _ R34.out _ Tryd.underlying24 rfl (by kernel_rfl) ?_) | ((with_reducible show wpList _ _ _ (⟨some 8, _, _, _, _, _⟩ :: _) _ _); refine wpList_new_a rfl 26 rfl #[.int .u8 0, .int .u8 0, .int .u8 0, .int .u8 0, .int .i64 0] (by kernel_rfl) ?_; intro g8 w8 ge hh bb; have d_pa_na := ne_new (hlt hpa) ge; have d_ca_na := ne_new (hlt hca) ge; have ona := Nat.le_trans bel.size ge; replace hpa := blk_u hpa bb; replace hca := blk_u hca bb; replace bel := bel.trans (bb.mono bel.size); have hna := hh; clear hh ge bb) | ((with_reducible show wpList _ _ _ (⟨none, Op.store _ (.tmp 8) _, _, _, _, _⟩ :: _) _ _); refine wpList_store_blk rfl 26 (.tmp 8) (.tmp 36) rfl g8 rfl _ rfl _ 26 hna (by rfl) (by kernel_rfl) (by kernel_rfl) ?_; intro w9 hq gr; replace hpa := blk_a hpa gr d_pa_na; replace hca := blk_a hca gr d_ca_na; replace bel := below_grown bel gr ona bel.size; clear hna; have hna := hq; clear hq gr; have R37 := Lib.hid (range_lit hna 0 5 [.int .u8 (A.a.toNat : Int), .int .u8 (A.b.toNat : Int), .int .u8 (A.c.toNat : Int), .int .u8 (A.d.toNat : Int), .int .i64 (n : Int)] rfl)) | ((with_reducible show wpList _ _ _ (⟨some 37, _, _, _, _, _⟩ :: _) _ _); refine wpList_load_rng 26 (.tmp 8) rfl (by kernel_rfl) _ _ rfl _ R37.out _ Tryd.underlying26 rfl (by kernel_rfl) ?_))
                try clear R34
                try clear R37
                with_reducible refine (afirst_any _ _ _ _ _ _).mono ?_
                rintro e w10 ⟨rfl, b10⟩
                replace hpa := blk_u hpa b10
                replace hca := blk_u hca b10
                replace hna := blk_u hna b10
                replace bel := bel.trans (b10.mono bel.size)
                clear b10
                rw [show firstN (be [A.a, A.b, A.c, A.d]) (clamp (n : Int)) = f from HF.out]
                go_wp2_with fail
                with_reducible refine (anum_adr f _ HFL.out).mono ?_
                rintro e w11 ⟨rfl, b11⟩
                replace hpa := blk_u hpa b11
                replace hca := blk_u hca b11
                replace hna := blk_u hna b11
                replace bel := bel.trans (b11.mono bel.size)
                clear b11
                have R51 := Lib.hid (range_lit hna 0 5 [.int .u8 (A.a.toNat : Int), .int .u8 (A.b.toNat : Int), .int .u8 (A.c.toNat : Int), .int .u8 (A.d.toNat : Int), .int .i64 (n : Int)] rfl)
                go_wp2_with (first | ((with_reducible show wpList _ _ _ (⟨some 51, _, _, _, _, _⟩ :: _) _ _); refine wpList_load_rng 26 (.tmp 8) rfl (by kernel_rfl) _ _ rfl _ R51.out _ Tryd.underlying26 rfl (by kernel_rfl) ?_))
                try clear R51
                with_reducible refine (alast_any _ _ _ _ _ _).mono ?_
                rintro e w12 ⟨rfl, b12⟩
                replace hpa := blk_u hpa b12
                replace hca := blk_u hca b12
                replace hna := blk_u hna b12
                replace bel := bel.trans (b12.mono bel.size)
                clear b12
                rw [show lastN (be [A.a, A.b, A.c, A.d]) (clamp (n : Int)) = z from HZ.out]
                go_wp2_with fail
                with_reducible refine (anum_adr z _ HZL.out).mono ?_
                rintro e w13 ⟨rfl, b13⟩
                replace hpa := blk_u hpa b13
                replace hca := blk_u hca b13
                replace hna := blk_u hna b13
                replace bel := bel.trans (b13.mono bel.size)
                clear b13
                have R58 := Lib.hid (range_lit hna 0 5 [.int .u8 (A.a.toNat : Int), .int .u8 (A.b.toNat : Int), .int .u8 (A.c.toNat : Int), .int .u8 (A.d.toNat : Int), .int .i64 (n : Int)] rfl)
                go_wp2_with (first | ((with_reducible show wpList _ _ _ (⟨some 58, _, _, _, _, _⟩ :: _) _ _); refine wpList_load_rng 26 (.tmp 8) rfl (by kernel_rfl) _ _ rfl _ R58.out _ Tryd.underlying26 rfl (by kernel_rfl) ?_))
                try clear R58
                with_reducible refine (alast_any _ _ _ _ _ _).mono ?_
                rintro e w14 ⟨rfl, b14⟩
                replace hpa := blk_u hpa b14
                replace hca := blk_u hca b14
                replace hna := blk_u hna b14
                replace bel := bel.trans (b14.mono bel.size)
                clear b14
                rw [show lastN (be [A.a, A.b, A.c, A.d]) (clamp (n : Int)) = z from HZ.out]
                go_wp2_with fail
                with_reducible refine (anum_adr z _ HZL.out).mono ?_
                rintro e w15 ⟨rfl, b15⟩
                replace hpa := blk_u hpa b15
                replace hca := blk_u hca b15
                replace hna := blk_u hna b15
                replace bel := bel.trans (b15.mono bel.size)
                clear b15
                have R63 := Lib.hid (range_lit hpa 0 4 [.int .u8 (A.a.toNat : Int), .int .u8 (A.b.toNat : Int), .int .u8 (A.c.toNat : Int), .int .u8 (A.d.toNat : Int)] rfl)
                go_wp2_with (first | ((with_reducible show wpList _ _ _ (⟨some 63, _, _, _, _, _⟩ :: _) _ _); refine wpList_load_rng 24 (.tmp 2) rfl (by kernel_rfl) _ _ rfl _ R63.out _ Tryd.underlying24 rfl (by kernel_rfl) ?_))
                try clear R63
                with_reducible refine (anum_any _ _ _ _ _).mono ?_
                rintro e w16 ⟨rfl, b16⟩
                replace hpa := blk_u hpa b16
                replace hca := blk_u hca b16
                replace hna := blk_u hna b16
                replace bel := bel.trans (b16.mono bel.size)
                clear b16
                rw [show be [A.a, A.b, A.c, A.d] = x from HXX.out]
                have R71 := Lib.hid (range_lit hna 0 5 [.int .u8 (A.a.toNat : Int), .int .u8 (A.b.toNat : Int), .int .u8 (A.c.toNat : Int), .int .u8 (A.d.toNat : Int), .int .i64 (n : Int)] rfl)
                go_wp2_with (first | ((with_reducible show wpList _ _ _ (⟨some 71, _, _, _, _, _⟩ :: _) _ _); refine wpList_load_rng 26 (.tmp 8) rfl (by kernel_rfl) _ _ rfl _ R71.out _ Tryd.underlying26 rfl (by kernel_rfl) ?_))
                try clear R71
                with_reducible refine (alast_any _ _ _ _ _ _).mono ?_
                rintro e w17 ⟨rfl, b17⟩
                replace hpa := blk_u hpa b17
                replace hca := blk_u hca b17
                replace hna := blk_u hna b17
                replace bel := bel.trans (b17.mono bel.size)
                clear b17
                rw [show lastN (be [A.a, A.b, A.c, A.d]) (clamp (n : Int)) = z from HZ.out]
                go_wp2_with fail
                with_reducible refine (anum_adr z _ HZL.out).mono ?_
                rintro e w18 ⟨rfl, b18⟩
                replace hpa := blk_u hpa b18
                replace hca := blk_u hca b18
                replace hna := blk_u hna b18
                replace bel := bel.trans (b18.mono bel.size)
                clear b18
                have R104 := Lib.hid (range_lit hca 0 4 [.int .u8 (cc.own.a.toNat : Int), .int .u8 (cc.own.b.toNat : Int), .int .u8 (cc.own.c.toNat : Int), .int .u8 (cc.own.d.toNat : Int)] rfl)
                go_wp2_with (first | ((with_reducible show wpList _ _ _ (⟨some 104, _, _, _, _, _⟩ :: _) _ _); refine wpList_load_rng 24 (.tmp 103) rfl (by kernel_rfl) _ _ rfl _ R104.out _ Tryd.underlying24 rfl (by kernel_rfl) ?_; have R105 := Lib.hid (range_lit hpa 0 4 [.int .u8 (A.a.toNat : Int), .int .u8 (A.b.toNat : Int), .int .u8 (A.c.toNat : Int), .int .u8 (A.d.toNat : Int)] rfl)) | ((with_reducible show wpList _ _ _ (⟨some 105, _, _, _, _, _⟩ :: _) _ _); refine wpList_load_rng 24 (.tmp 2) rfl (by kernel_rfl) _ _ rfl _ R105.out _ Tryd.underlying24 rfl (by kernel_rfl) ?_; have R109 := Lib.hid (range_lit hca 21 4 [.int .u8 (cc.first.a.toNat : Int), .int .u8 (cc.first.b.toNat : Int), .int .u8 (cc.first.c.toNat : Int), .int .u8 (cc.first.d.toNat : Int)] rfl)) | ((with_reducible show wpList _ _ _ (⟨some 109, _, _, _, _, _⟩ :: _) _ _); refine wpList_load_rng 24 (.tmp 108) rfl (by kernel_rfl) _ _ rfl _ R109.out _ Tryd.underlying24 rfl (by kernel_rfl) ?_))
                try clear R104
                try clear R105
                try clear R109
                with_reducible refine (anum_any _ _ _ _ _).mono ?_
                rintro e w19 ⟨rfl, b19⟩
                replace hpa := blk_u hpa b19
                replace hca := blk_u hca b19
                replace hna := blk_u hna b19
                replace bel := bel.trans (b19.mono bel.size)
                clear b19
                rw [show be [cc.first.a, cc.first.b, cc.first.c, cc.first.d] = lo from HCF.out]
                have R117 := Lib.hid (range_lit hca 25 4 [.int .u8 (cc.last.a.toNat : Int), .int .u8 (cc.last.b.toNat : Int), .int .u8 (cc.last.c.toNat : Int), .int .u8 (cc.last.d.toNat : Int)] rfl)
                go_wp2_with (first | ((with_reducible show wpList _ _ _ (⟨some 117, _, _, _, _, _⟩ :: _) _ _); refine wpList_load_rng 24 (.tmp 116) rfl (by kernel_rfl) _ _ rfl _ R117.out _ Tryd.underlying24 rfl (by kernel_rfl) ?_))
                try clear R117
                with_reducible refine (anum_any _ _ _ _ _).mono ?_
                rintro e w20 ⟨rfl, b20⟩
                replace hpa := blk_u hpa b20
                replace hca := blk_u hca b20
                replace hna := blk_u hna b20
                replace bel := bel.trans (b20.mono bel.size)
                clear b20
                rw [show be [cc.last.a, cc.last.b, cc.last.c, cc.last.d] = hi from HCL.out]
                have R124 := Lib.hid (range_lit hna 0 5 [.int .u8 (A.a.toNat : Int), .int .u8 (A.b.toNat : Int), .int .u8 (A.c.toNat : Int), .int .u8 (A.d.toNat : Int), .int .i64 (n : Int)] rfl)
                go_wp2_with (first | ((with_reducible show wpList _ _ _ (⟨some 124, _, _, _, _, _⟩ :: _) _ _); refine wpList_load_rng 26 (.tmp 8) rfl (by kernel_rfl) _ _ rfl _ R124.out _ Tryd.underlying26 rfl (by kernel_rfl) ?_; have R126 := Lib.hid (range_lit hca 21 4 [.int .u8 (cc.first.a.toNat : Int), .int .u8 (cc.first.b.toNat : Int), .int .u8 (cc.first.c.toNat : Int), .int .u8 (cc.first.d.toNat : Int)] rfl)) | ((with_reducible show wpList _ _ _ (⟨some 126, _, _, _, _, _⟩ :: _) _ _); refine wpList_load_rng 24 (.tmp 125) rfl (by kernel_rfl) _ _ rfl _ R126.out _ Tryd.underlying24 rfl (by kernel_rfl) ?_))
                try clear R124
                try clear R126
                with_reducible refine (ahas_any _ _ _ _ _ _ _ _ _ _).mono ?_
                rintro e w21 ⟨rfl, b21⟩
                replace hpa := blk_u hpa b21
                replace hca := blk_u hca b21
                replace hna := blk_u hna b21
                replace bel := bel.trans (b21.mono bel.size)
                clear b21
                rw [show (firstN (be [A.a, A.b, A.c, A.d]) (clamp (n : Int)) == firstN (be [cc.first.a, cc.first.b, cc.first.c, cc.first.d]) (clamp (n : Int))) = true from HN1.out]
                have R130 := Lib.hid (range_lit hna 0 5 [.int .u8 (A.a.toNat : Int), .int .u8 (A.b.toNat : Int), .int .u8 (A.c.toNat : Int), .int .u8 (A.d.toNat : Int), .int .i64 (n : Int)] rfl)
                go_wp2_with (first | ((with_reducible show wpList _ _ _ (⟨some 130, _, _, _, _, _⟩ :: _) _ _); refine wpList_load_rng 26 (.tmp 8) rfl (by kernel_rfl) _ _ rfl _ R130.out _ Tryd.underlying26 rfl (by kernel_rfl) ?_; have R132 := Lib.hid (range_lit hca 25 4 [.int .u8 (cc.last.a.toNat : Int), .int .u8 (cc.last.b.toNat : Int), .int .u8 (cc.last.c.toNat : Int), .int .u8 (cc.last.d.toNat : Int)] rfl)) | ((with_reducible show wpList _ _ _ (⟨some 132, _, _, _, _, _⟩ :: _) _ _); refine wpList_load_rng 24 (.tmp 131) rfl (by kernel_rfl) _ _ rfl _ R132.out _ Tryd.underlying24 rfl (by kernel_rfl) ?_))
                try clear R130
                try clear R132
                with_reducible refine (ahas_any _ _ _ _ _ _ _ _ _ _).mono ?_
                rintro e w22 ⟨rfl, b22⟩
                replace hpa := blk_u hpa b22
                replace hca := blk_u hca b22
                replace hna := blk_u hna b22
                replace bel := bel.trans (b22.mono bel.size)
                clear b22
                rw [show (firstN (be [A.a, A.b, A.c, A.d]) (clamp (n : Int)) == firstN (be [cc.last.a, cc.last.b, cc.last.c, cc.last.d]) (clamp (n : Int))) = true from HN2.out]
                go_wp2_with fail
                go_ret
                exact ⟨rfl, bel⟩
              · have d3_ : decide (x < lo) = false := decide_eq_false d3
                by_cases d4 : hi < x
                · have HPS0 : parseS (lanT A n) = (netC A n, 0, 0) := (nets_law A h8 h28).1 (by rw [HXX.out, HF.out, HZ.out, HLO.out, HHI.out]; rw [show (x == f) = false from beq_eq_false_iff_ne.2 (by omega), show (x == z) = false from beq_eq_false_iff_ne.2 (by omega)]; rw [decide_eq_true d4, Bool.or_true]; rfl)
                  obtain ⟨cc, hcc⟩ : ∃ c, netC A n = c := ⟨_, rfl⟩
                  have HCO : Hid (cc.own = A) := Lib.hid (by rw [← hcc]; rfl)
                  have HCF : Hid (cc.first.num = lo) := Lib.hid (by rw [← hcc, (pool_nums A h8 h28).1, HLO.out])
                  have HCL : Hid (cc.last.num = hi) := Lib.hid (by rw [← hcc, (pool_nums A h8 h28).2.1, HHI.out])
                  have HN1 : Hid ((fN A n == fN cc.first n) = true) := Lib.hid (beq_iff_eq.2 (in_net A _ (by rw [HCF.out, HF.out]; omega) (by rw [HCF.out, HZ.out]; omega)))
                  have HN2 : Hid ((fN A n == fN cc.last n) = true) := Lib.hid (beq_iff_eq.2 (in_net A _ (by rw [HCL.out, HF.out]; omega) (by rw [HCL.out, HZ.out]; omega)))
                  have qo : ∀ W, (binOp .eql 24 (.agg #[.int .u8 (cc.own.a.toNat : Int), .int .u8 (cc.own.b.toNat : Int), .int .u8 (cc.own.c.toNat : Int), .int .u8 (cc.own.d.toNat : Int)]) (.agg #[.int .u8 (A.a.toNat : Int), .int .u8 (A.b.toNat : Int), .int .u8 (A.c.toNat : Int), .int .u8 (A.d.toNat : Int)])).run Tryd.prog W = .ok (.bool true) W := fun W => by rw [ad_eq2, HCO.out, beq_self_eq_true]
                  rw [hcc] at HPS0
                  have HPS : Hid (parseS tc = (cc, 0, 0)) := Lib.hid (by rw [HTC3.out]; exact HPS0)
                  clear hcc HPS0 P3 P4 P5 P6 P7 P8 PF PZ PX
                  clear d1 d2 d3
                  have R23 := Lib.hid (range_lit hpa 0 4 [.int .u8 (A.a.toNat : Int), .int .u8 (A.b.toNat : Int), .int .u8 (A.c.toNat : Int), .int .u8 (A.d.toNat : Int)] rfl)
                  go_wp2_with (first | ((with_reducible show wpList _ _ _ (⟨some 23, _, _, _, _, _⟩ :: _) _ _); refine wpList_load_rng 24 (.tmp 2) rfl (by kernel_rfl) _ _ rfl _ R23.out _ Tryd.underlying24 rfl (by kernel_rfl) ?_))
                  try clear R23
                  with_reducible refine (atext_any _ _ _ _ _ hT).mono ?_
                  rintro e w3 ⟨rfl, b3⟩
                  replace hpa := blk_u hpa b3
                  replace hT := hT.below b3
                  replace bel := bel.trans (b3.mono bel.size)
                  clear b3
                  rw [show adT A.a A.b A.c A.d = ta from HTA.out]
                  clear hT
                  have R25 := fun W => st_cat HTX.out BTX.out W
                  have R26 := fun W => st_cat HTY.out BTY.out W
                  go_wp2_with fail
                  clear R25 R26
                  with_reducible refine (rtext_v (v := (n : Int)) rfl hn9 _).mono ?_
                  rintro e w4 ⟨rfl, b4⟩
                  replace hpa := blk_u hpa b4
                  replace bel := bel.trans (b4.mono bel.size)
                  clear b4
                  rw [show decT n = dg from HDG.out]
                  have R29 := fun W => st_cat HTC.out BTC.out W
                  go_wp2_with fail
                  clear R29
                  with_reducible refine (cparse_is HPS.out HTL.out _).mono ?_
                  rintro e w5 ⟨Fx, nf, cf, Ox, nx, cx, rfl, hf, ho, frF, frO, b5⟩
                  replace hpa := blk_u hpa b5
                  replace bel := bel.trans (b5.mono bel.size)
                  clear b5
                  clear hf ho frF frO
                  go_wp2_with (first | ((with_reducible show wpList _ _ _ (⟨some 5, _, _, _, _, _⟩ :: _) _ _); refine wpList_new_a rfl 32 rfl #[.int .u8 0, .int .u8 0, .int .u8 0, .int .u8 0, .int .u8 0, .int .u8 0, .int .u8 0, .int .u8 0, .int .i64 0, .int .u8 0, .int .u8 0, .int .u8 0, .int .u8 0, .int .u8 0, .int .u8 0, .int .u8 0, .int .u8 0, .int .u8 0, .int .u8 0, .int .u8 0, .int .u8 0, .int .u8 0, .int .u8 0, .int .u8 0, .int .u8 0, .int .u8 0, .int .u8 0, .int .u8 0, .int .u8 0, .int .i64 0, .int .u8 0, .int .u8 0, .int .u8 0, .int .u8 0, .int .i64 0, .int .i64 0, .int .i64 0, .int .i64 0, .slice none 0 0, .slice none 0 0] (by kernel_rfl) ?_; intro g5 w6 ge hh bb; have d_pa_ca := ne_new (hlt hpa) ge; have oca := Nat.le_trans bel.size ge; replace hpa := blk_u hpa bb; replace bel := bel.trans (bb.mono bel.size); have hca := hh; clear hh ge bb) | ((with_reducible show wpList _ _ _ (⟨none, Op.store _ (.tmp 5) _, _, _, _, _⟩ :: _) _ _); refine wpList_store_blk rfl 32 (.tmp 5) (.tmp 31) rfl g5 rfl _ rfl _ 32 hca (by rfl) (by kernel_rfl) (by kernel_rfl) ?_; intro w7 hq gr; replace hpa := blk_a hpa gr d_pa_ca; replace bel := below_grown bel gr oca bel.size; clear hca; have hca := hq; clear hq gr; have R34 := Lib.hid (range_lit hpa 0 4 [.int .u8 (A.a.toNat : Int), .int .u8 (A.b.toNat : Int), .int .u8 (A.c.toNat : Int), .int .u8 (A.d.toNat : Int)] rfl)) | ((with_reducible show wpList _ _ _ (⟨some 34, _, _, _, _, _⟩ :: _) _ _); refine wpList_load_rng 24 (.tmp 2) rfl (by kernel_rfl) _ _ rfl _ R34.out _ Tryd.underlying24 rfl (by kernel_rfl) ?_) | ((with_reducible show wpList _ _ _ (⟨some 8, _, _, _, _, _⟩ :: _) _ _); refine wpList_new_a rfl 26 rfl #[.int .u8 0, .int .u8 0, .int .u8 0, .int .u8 0, .int .i64 0] (by kernel_rfl) ?_; intro g8 w8 ge hh bb; have d_pa_na := ne_new (hlt hpa) ge; have d_ca_na := ne_new (hlt hca) ge; have ona := Nat.le_trans bel.size ge; replace hpa := blk_u hpa bb; replace hca := blk_u hca bb; replace bel := bel.trans (bb.mono bel.size); have hna := hh; clear hh ge bb) | ((with_reducible show wpList _ _ _ (⟨none, Op.store _ (.tmp 8) _, _, _, _, _⟩ :: _) _ _); refine wpList_store_blk rfl 26 (.tmp 8) (.tmp 36) rfl g8 rfl _ rfl _ 26 hna (by rfl) (by kernel_rfl) (by kernel_rfl) ?_; intro w9 hq gr; replace hpa := blk_a hpa gr d_pa_na; replace hca := blk_a hca gr d_ca_na; replace bel := below_grown bel gr ona bel.size; clear hna; have hna := hq; clear hq gr; have R37 := Lib.hid (range_lit hna 0 5 [.int .u8 (A.a.toNat : Int), .int .u8 (A.b.toNat : Int), .int .u8 (A.c.toNat : Int), .int .u8 (A.d.toNat : Int), .int .i64 (n : Int)] rfl)) | ((with_reducible show wpList _ _ _ (⟨some 37, _, _, _, _, _⟩ :: _) _ _); refine wpList_load_rng 26 (.tmp 8) rfl (by kernel_rfl) _ _ rfl _ R37.out _ Tryd.underlying26 rfl (by kernel_rfl) ?_))
                  try clear R34
                  try clear R37
                  with_reducible refine (afirst_any _ _ _ _ _ _).mono ?_
                  rintro e w10 ⟨rfl, b10⟩
                  replace hpa := blk_u hpa b10
                  replace hca := blk_u hca b10
                  replace hna := blk_u hna b10
                  replace bel := bel.trans (b10.mono bel.size)
                  clear b10
                  rw [show firstN (be [A.a, A.b, A.c, A.d]) (clamp (n : Int)) = f from HF.out]
                  go_wp2_with fail
                  with_reducible refine (anum_adr f _ HFL.out).mono ?_
                  rintro e w11 ⟨rfl, b11⟩
                  replace hpa := blk_u hpa b11
                  replace hca := blk_u hca b11
                  replace hna := blk_u hna b11
                  replace bel := bel.trans (b11.mono bel.size)
                  clear b11
                  have R51 := Lib.hid (range_lit hna 0 5 [.int .u8 (A.a.toNat : Int), .int .u8 (A.b.toNat : Int), .int .u8 (A.c.toNat : Int), .int .u8 (A.d.toNat : Int), .int .i64 (n : Int)] rfl)
                  go_wp2_with (first | ((with_reducible show wpList _ _ _ (⟨some 51, _, _, _, _, _⟩ :: _) _ _); refine wpList_load_rng 26 (.tmp 8) rfl (by kernel_rfl) _ _ rfl _ R51.out _ Tryd.underlying26 rfl (by kernel_rfl) ?_))
                  try clear R51
                  with_reducible refine (alast_any _ _ _ _ _ _).mono ?_
                  rintro e w12 ⟨rfl, b12⟩
                  replace hpa := blk_u hpa b12
                  replace hca := blk_u hca b12
                  replace hna := blk_u hna b12
                  replace bel := bel.trans (b12.mono bel.size)
                  clear b12
                  rw [show lastN (be [A.a, A.b, A.c, A.d]) (clamp (n : Int)) = z from HZ.out]
                  go_wp2_with fail
                  with_reducible refine (anum_adr z _ HZL.out).mono ?_
                  rintro e w13 ⟨rfl, b13⟩
                  replace hpa := blk_u hpa b13
                  replace hca := blk_u hca b13
                  replace hna := blk_u hna b13
                  replace bel := bel.trans (b13.mono bel.size)
                  clear b13
                  have R58 := Lib.hid (range_lit hna 0 5 [.int .u8 (A.a.toNat : Int), .int .u8 (A.b.toNat : Int), .int .u8 (A.c.toNat : Int), .int .u8 (A.d.toNat : Int), .int .i64 (n : Int)] rfl)
                  go_wp2_with (first | ((with_reducible show wpList _ _ _ (⟨some 58, _, _, _, _, _⟩ :: _) _ _); refine wpList_load_rng 26 (.tmp 8) rfl (by kernel_rfl) _ _ rfl _ R58.out _ Tryd.underlying26 rfl (by kernel_rfl) ?_))
                  try clear R58
                  with_reducible refine (alast_any _ _ _ _ _ _).mono ?_
                  rintro e w14 ⟨rfl, b14⟩
                  replace hpa := blk_u hpa b14
                  replace hca := blk_u hca b14
                  replace hna := blk_u hna b14
                  replace bel := bel.trans (b14.mono bel.size)
                  clear b14
                  rw [show lastN (be [A.a, A.b, A.c, A.d]) (clamp (n : Int)) = z from HZ.out]
                  go_wp2_with fail
                  with_reducible refine (anum_adr z _ HZL.out).mono ?_
                  rintro e w15 ⟨rfl, b15⟩
                  replace hpa := blk_u hpa b15
                  replace hca := blk_u hca b15
                  replace hna := blk_u hna b15
                  replace bel := bel.trans (b15.mono bel.size)
                  clear b15
                  have R63 := Lib.hid (range_lit hpa 0 4 [.int .u8 (A.a.toNat : Int), .int .u8 (A.b.toNat : Int), .int .u8 (A.c.toNat : Int), .int .u8 (A.d.toNat : Int)] rfl)
                  go_wp2_with (first | ((with_reducible show wpList _ _ _ (⟨some 63, _, _, _, _, _⟩ :: _) _ _); refine wpList_load_rng 24 (.tmp 2) rfl (by kernel_rfl) _ _ rfl _ R63.out _ Tryd.underlying24 rfl (by kernel_rfl) ?_))
                  try clear R63
                  with_reducible refine (anum_any _ _ _ _ _).mono ?_
                  rintro e w16 ⟨rfl, b16⟩
                  replace hpa := blk_u hpa b16
                  replace hca := blk_u hca b16
                  replace hna := blk_u hna b16
                  replace bel := bel.trans (b16.mono bel.size)
                  clear b16
                  rw [show be [A.a, A.b, A.c, A.d] = x from HXX.out]
                  have R71 := Lib.hid (range_lit hna 0 5 [.int .u8 (A.a.toNat : Int), .int .u8 (A.b.toNat : Int), .int .u8 (A.c.toNat : Int), .int .u8 (A.d.toNat : Int), .int .i64 (n : Int)] rfl)
                  go_wp2_with (first | ((with_reducible show wpList _ _ _ (⟨some 71, _, _, _, _, _⟩ :: _) _ _); refine wpList_load_rng 26 (.tmp 8) rfl (by kernel_rfl) _ _ rfl _ R71.out _ Tryd.underlying26 rfl (by kernel_rfl) ?_))
                  try clear R71
                  with_reducible refine (alast_any _ _ _ _ _ _).mono ?_
                  rintro e w17 ⟨rfl, b17⟩
                  replace hpa := blk_u hpa b17
                  replace hca := blk_u hca b17
                  replace hna := blk_u hna b17
                  replace bel := bel.trans (b17.mono bel.size)
                  clear b17
                  rw [show lastN (be [A.a, A.b, A.c, A.d]) (clamp (n : Int)) = z from HZ.out]
                  go_wp2_with fail
                  with_reducible refine (anum_adr z _ HZL.out).mono ?_
                  rintro e w18 ⟨rfl, b18⟩
                  replace hpa := blk_u hpa b18
                  replace hca := blk_u hca b18
                  replace hna := blk_u hna b18
                  replace bel := bel.trans (b18.mono bel.size)
                  clear b18
                  have R104 := Lib.hid (range_lit hca 0 4 [.int .u8 (cc.own.a.toNat : Int), .int .u8 (cc.own.b.toNat : Int), .int .u8 (cc.own.c.toNat : Int), .int .u8 (cc.own.d.toNat : Int)] rfl)
                  go_wp2_with (first | ((with_reducible show wpList _ _ _ (⟨some 104, _, _, _, _, _⟩ :: _) _ _); refine wpList_load_rng 24 (.tmp 103) rfl (by kernel_rfl) _ _ rfl _ R104.out _ Tryd.underlying24 rfl (by kernel_rfl) ?_; have R105 := Lib.hid (range_lit hpa 0 4 [.int .u8 (A.a.toNat : Int), .int .u8 (A.b.toNat : Int), .int .u8 (A.c.toNat : Int), .int .u8 (A.d.toNat : Int)] rfl)) | ((with_reducible show wpList _ _ _ (⟨some 105, _, _, _, _, _⟩ :: _) _ _); refine wpList_load_rng 24 (.tmp 2) rfl (by kernel_rfl) _ _ rfl _ R105.out _ Tryd.underlying24 rfl (by kernel_rfl) ?_; have R109 := Lib.hid (range_lit hca 21 4 [.int .u8 (cc.first.a.toNat : Int), .int .u8 (cc.first.b.toNat : Int), .int .u8 (cc.first.c.toNat : Int), .int .u8 (cc.first.d.toNat : Int)] rfl)) | ((with_reducible show wpList _ _ _ (⟨some 109, _, _, _, _, _⟩ :: _) _ _); refine wpList_load_rng 24 (.tmp 108) rfl (by kernel_rfl) _ _ rfl _ R109.out _ Tryd.underlying24 rfl (by kernel_rfl) ?_))
                  try clear R104
                  try clear R105
                  try clear R109
                  with_reducible refine (anum_any _ _ _ _ _).mono ?_
                  rintro e w19 ⟨rfl, b19⟩
                  replace hpa := blk_u hpa b19
                  replace hca := blk_u hca b19
                  replace hna := blk_u hna b19
                  replace bel := bel.trans (b19.mono bel.size)
                  clear b19
                  rw [show be [cc.first.a, cc.first.b, cc.first.c, cc.first.d] = lo from HCF.out]
                  have R117 := Lib.hid (range_lit hca 25 4 [.int .u8 (cc.last.a.toNat : Int), .int .u8 (cc.last.b.toNat : Int), .int .u8 (cc.last.c.toNat : Int), .int .u8 (cc.last.d.toNat : Int)] rfl)
                  go_wp2_with (first | ((with_reducible show wpList _ _ _ (⟨some 117, _, _, _, _, _⟩ :: _) _ _); refine wpList_load_rng 24 (.tmp 116) rfl (by kernel_rfl) _ _ rfl _ R117.out _ Tryd.underlying24 rfl (by kernel_rfl) ?_))
                  try clear R117
                  with_reducible refine (anum_any _ _ _ _ _).mono ?_
                  rintro e w20 ⟨rfl, b20⟩
                  replace hpa := blk_u hpa b20
                  replace hca := blk_u hca b20
                  replace hna := blk_u hna b20
                  replace bel := bel.trans (b20.mono bel.size)
                  clear b20
                  rw [show be [cc.last.a, cc.last.b, cc.last.c, cc.last.d] = hi from HCL.out]
                  have R124 := Lib.hid (range_lit hna 0 5 [.int .u8 (A.a.toNat : Int), .int .u8 (A.b.toNat : Int), .int .u8 (A.c.toNat : Int), .int .u8 (A.d.toNat : Int), .int .i64 (n : Int)] rfl)
                  go_wp2_with (first | ((with_reducible show wpList _ _ _ (⟨some 124, _, _, _, _, _⟩ :: _) _ _); refine wpList_load_rng 26 (.tmp 8) rfl (by kernel_rfl) _ _ rfl _ R124.out _ Tryd.underlying26 rfl (by kernel_rfl) ?_; have R126 := Lib.hid (range_lit hca 21 4 [.int .u8 (cc.first.a.toNat : Int), .int .u8 (cc.first.b.toNat : Int), .int .u8 (cc.first.c.toNat : Int), .int .u8 (cc.first.d.toNat : Int)] rfl)) | ((with_reducible show wpList _ _ _ (⟨some 126, _, _, _, _, _⟩ :: _) _ _); refine wpList_load_rng 24 (.tmp 125) rfl (by kernel_rfl) _ _ rfl _ R126.out _ Tryd.underlying24 rfl (by kernel_rfl) ?_))
                  try clear R124
                  try clear R126
                  with_reducible refine (ahas_any _ _ _ _ _ _ _ _ _ _).mono ?_
                  rintro e w21 ⟨rfl, b21⟩
                  replace hpa := blk_u hpa b21
                  replace hca := blk_u hca b21
                  replace hna := blk_u hna b21
                  replace bel := bel.trans (b21.mono bel.size)
                  clear b21
                  rw [show (firstN (be [A.a, A.b, A.c, A.d]) (clamp (n : Int)) == firstN (be [cc.first.a, cc.first.b, cc.first.c, cc.first.d]) (clamp (n : Int))) = true from HN1.out]
                  have R130 := Lib.hid (range_lit hna 0 5 [.int .u8 (A.a.toNat : Int), .int .u8 (A.b.toNat : Int), .int .u8 (A.c.toNat : Int), .int .u8 (A.d.toNat : Int), .int .i64 (n : Int)] rfl)
                  go_wp2_with (first | ((with_reducible show wpList _ _ _ (⟨some 130, _, _, _, _, _⟩ :: _) _ _); refine wpList_load_rng 26 (.tmp 8) rfl (by kernel_rfl) _ _ rfl _ R130.out _ Tryd.underlying26 rfl (by kernel_rfl) ?_; have R132 := Lib.hid (range_lit hca 25 4 [.int .u8 (cc.last.a.toNat : Int), .int .u8 (cc.last.b.toNat : Int), .int .u8 (cc.last.c.toNat : Int), .int .u8 (cc.last.d.toNat : Int)] rfl)) | ((with_reducible show wpList _ _ _ (⟨some 132, _, _, _, _, _⟩ :: _) _ _); refine wpList_load_rng 24 (.tmp 131) rfl (by kernel_rfl) _ _ rfl _ R132.out _ Tryd.underlying24 rfl (by kernel_rfl) ?_))
                  try clear R130
                  try clear R132
                  with_reducible refine (ahas_any _ _ _ _ _ _ _ _ _ _).mono ?_
                  rintro e w22 ⟨rfl, b22⟩
                  replace hpa := blk_u hpa b22
                  replace hca := blk_u hca b22
                  replace hna := blk_u hna b22
                  replace bel := bel.trans (b22.mono bel.size)
                  clear b22
                  rw [show (firstN (be [A.a, A.b, A.c, A.d]) (clamp (n : Int)) == firstN (be [cc.last.a, cc.last.b, cc.last.c, cc.last.d]) (clamp (n : Int))) = true from HN2.out]
                  go_wp2_with fail
                  go_ret
                  exact ⟨rfl, bel⟩
                · have d4_ : decide (hi < x) = false := decide_eq_false d4
                  have HPS : Hid (parseS tc = (zeroC, 0, 1)) := Lib.hid (by rw [HTC3.out]; exact (nets_law A h8 h28).2.1 (by rw [HXX.out, HF.out, HZ.out, HLO.out, HHI.out]; rw [show (x == f) = false from beq_eq_false_iff_ne.2 (by omega), show (x == z) = false from beq_eq_false_iff_ne.2 (by omega)]; rw [d3_, d4_]; rfl))
                  clear P3 P4 P5 P6 P7 P8 PF PZ PX
                  clear d1 d2 d3 d4
                  have R23 := Lib.hid (range_lit hpa 0 4 [.int .u8 (A.a.toNat : Int), .int .u8 (A.b.toNat : Int), .int .u8 (A.c.toNat : Int), .int .u8 (A.d.toNat : Int)] rfl)
                  go_wp2_with (first | ((with_reducible show wpList _ _ _ (⟨some 23, _, _, _, _, _⟩ :: _) _ _); refine wpList_load_rng 24 (.tmp 2) rfl (by kernel_rfl) _ _ rfl _ R23.out _ Tryd.underlying24 rfl (by kernel_rfl) ?_))
                  try clear R23
                  with_reducible refine (atext_any _ _ _ _ _ hT).mono ?_
                  rintro e w3 ⟨rfl, b3⟩
                  replace hpa := blk_u hpa b3
                  replace hT := hT.below b3
                  replace bel := bel.trans (b3.mono bel.size)
                  clear b3
                  rw [show adT A.a A.b A.c A.d = ta from HTA.out]
                  clear hT
                  have R25 := fun W => st_cat HTX.out BTX.out W
                  have R26 := fun W => st_cat HTY.out BTY.out W
                  go_wp2_with fail
                  clear R25 R26
                  with_reducible refine (rtext_v (v := (n : Int)) rfl hn9 _).mono ?_
                  rintro e w4 ⟨rfl, b4⟩
                  replace hpa := blk_u hpa b4
                  replace bel := bel.trans (b4.mono bel.size)
                  clear b4
                  rw [show decT n = dg from HDG.out]
                  have R29 := fun W => st_cat HTC.out BTC.out W
                  go_wp2_with fail
                  clear R29
                  with_reducible refine (cparse_is HPS.out HTL.out _).mono ?_
                  rintro e w5 ⟨Fx, nf, cf, Ox, nx, cx, rfl, hf, ho, frF, frO, b5⟩
                  replace hpa := blk_u hpa b5
                  replace bel := bel.trans (b5.mono bel.size)
                  clear b5
                  clear hf ho frF frO
                  go_wp2_with (first | ((with_reducible show wpList _ _ _ (⟨some 5, _, _, _, _, _⟩ :: _) _ _); refine wpList_new_a rfl 32 rfl #[.int .u8 0, .int .u8 0, .int .u8 0, .int .u8 0, .int .u8 0, .int .u8 0, .int .u8 0, .int .u8 0, .int .i64 0, .int .u8 0, .int .u8 0, .int .u8 0, .int .u8 0, .int .u8 0, .int .u8 0, .int .u8 0, .int .u8 0, .int .u8 0, .int .u8 0, .int .u8 0, .int .u8 0, .int .u8 0, .int .u8 0, .int .u8 0, .int .u8 0, .int .u8 0, .int .u8 0, .int .u8 0, .int .u8 0, .int .i64 0, .int .u8 0, .int .u8 0, .int .u8 0, .int .u8 0, .int .i64 0, .int .i64 0, .int .i64 0, .int .i64 0, .slice none 0 0, .slice none 0 0] (by kernel_rfl) ?_; intro g5 w6 ge hh bb; have d_pa_ca := ne_new (hlt hpa) ge; have oca := Nat.le_trans bel.size ge; replace hpa := blk_u hpa bb; replace bel := bel.trans (bb.mono bel.size); have hca := hh; clear hh ge bb) | ((with_reducible show wpList _ _ _ (⟨none, Op.store _ (.tmp 5) _, _, _, _, _⟩ :: _) _ _); refine wpList_store_blk rfl 32 (.tmp 5) (.tmp 31) rfl g5 rfl _ rfl _ 32 hca (by rfl) (by kernel_rfl) (by kernel_rfl) ?_; intro w7 hq gr; replace hpa := blk_a hpa gr d_pa_ca; replace bel := below_grown bel gr oca bel.size; clear hca; have hca := hq; clear hq gr; have R34 := Lib.hid (range_lit hpa 0 4 [.int .u8 (A.a.toNat : Int), .int .u8 (A.b.toNat : Int), .int .u8 (A.c.toNat : Int), .int .u8 (A.d.toNat : Int)] rfl)) | ((with_reducible show wpList _ _ _ (⟨some 34, _, _, _, _, _⟩ :: _) _ _); refine wpList_load_rng 24 (.tmp 2) rfl (by kernel_rfl) _ _ rfl _ R34.out _ Tryd.underlying24 rfl (by kernel_rfl) ?_) | ((with_reducible show wpList _ _ _ (⟨some 8, _, _, _, _, _⟩ :: _) _ _); refine wpList_new_a rfl 26 rfl #[.int .u8 0, .int .u8 0, .int .u8 0, .int .u8 0, .int .i64 0] (by kernel_rfl) ?_; intro g8 w8 ge hh bb; have d_pa_na := ne_new (hlt hpa) ge; have d_ca_na := ne_new (hlt hca) ge; have ona := Nat.le_trans bel.size ge; replace hpa := blk_u hpa bb; replace hca := blk_u hca bb; replace bel := bel.trans (bb.mono bel.size); have hna := hh; clear hh ge bb) | ((with_reducible show wpList _ _ _ (⟨none, Op.store _ (.tmp 8) _, _, _, _, _⟩ :: _) _ _); refine wpList_store_blk rfl 26 (.tmp 8) (.tmp 36) rfl g8 rfl _ rfl _ 26 hna (by rfl) (by kernel_rfl) (by kernel_rfl) ?_; intro w9 hq gr; replace hpa := blk_a hpa gr d_pa_na; replace hca := blk_a hca gr d_ca_na; replace bel := below_grown bel gr ona bel.size; clear hna; have hna := hq; clear hq gr; have R37 := Lib.hid (range_lit hna 0 5 [.int .u8 (A.a.toNat : Int), .int .u8 (A.b.toNat : Int), .int .u8 (A.c.toNat : Int), .int .u8 (A.d.toNat : Int), .int .i64 (n : Int)] rfl)) | ((with_reducible show wpList _ _ _ (⟨some 37, _, _, _, _, _⟩ :: _) _ _); refine wpList_load_rng 26 (.tmp 8) rfl (by kernel_rfl) _ _ rfl _ R37.out _ Tryd.underlying26 rfl (by kernel_rfl) ?_))
                  try clear R34
                  try clear R37
                  with_reducible refine (afirst_any _ _ _ _ _ _).mono ?_
                  rintro e w10 ⟨rfl, b10⟩
                  replace hpa := blk_u hpa b10
                  replace hca := blk_u hca b10
                  replace hna := blk_u hna b10
                  replace bel := bel.trans (b10.mono bel.size)
                  clear b10
                  rw [show firstN (be [A.a, A.b, A.c, A.d]) (clamp (n : Int)) = f from HF.out]
                  go_wp2_with fail
                  with_reducible refine (anum_adr f _ HFL.out).mono ?_
                  rintro e w11 ⟨rfl, b11⟩
                  replace hpa := blk_u hpa b11
                  replace hca := blk_u hca b11
                  replace hna := blk_u hna b11
                  replace bel := bel.trans (b11.mono bel.size)
                  clear b11
                  have R51 := Lib.hid (range_lit hna 0 5 [.int .u8 (A.a.toNat : Int), .int .u8 (A.b.toNat : Int), .int .u8 (A.c.toNat : Int), .int .u8 (A.d.toNat : Int), .int .i64 (n : Int)] rfl)
                  go_wp2_with (first | ((with_reducible show wpList _ _ _ (⟨some 51, _, _, _, _, _⟩ :: _) _ _); refine wpList_load_rng 26 (.tmp 8) rfl (by kernel_rfl) _ _ rfl _ R51.out _ Tryd.underlying26 rfl (by kernel_rfl) ?_))
                  try clear R51
                  with_reducible refine (alast_any _ _ _ _ _ _).mono ?_
                  rintro e w12 ⟨rfl, b12⟩
                  replace hpa := blk_u hpa b12
                  replace hca := blk_u hca b12
                  replace hna := blk_u hna b12
                  replace bel := bel.trans (b12.mono bel.size)
                  clear b12
                  rw [show lastN (be [A.a, A.b, A.c, A.d]) (clamp (n : Int)) = z from HZ.out]
                  go_wp2_with fail
                  with_reducible refine (anum_adr z _ HZL.out).mono ?_
                  rintro e w13 ⟨rfl, b13⟩
                  replace hpa := blk_u hpa b13
                  replace hca := blk_u hca b13
                  replace hna := blk_u hna b13
                  replace bel := bel.trans (b13.mono bel.size)
                  clear b13
                  have R58 := Lib.hid (range_lit hna 0 5 [.int .u8 (A.a.toNat : Int), .int .u8 (A.b.toNat : Int), .int .u8 (A.c.toNat : Int), .int .u8 (A.d.toNat : Int), .int .i64 (n : Int)] rfl)
                  go_wp2_with (first | ((with_reducible show wpList _ _ _ (⟨some 58, _, _, _, _, _⟩ :: _) _ _); refine wpList_load_rng 26 (.tmp 8) rfl (by kernel_rfl) _ _ rfl _ R58.out _ Tryd.underlying26 rfl (by kernel_rfl) ?_))
                  try clear R58
                  with_reducible refine (alast_any _ _ _ _ _ _).mono ?_
                  rintro e w14 ⟨rfl, b14⟩
                  replace hpa := blk_u hpa b14
                  replace hca := blk_u hca b14
                  replace hna := blk_u hna b14
                  replace bel := bel.trans (b14.mono bel.size)
                  clear b14
                  rw [show lastN (be [A.a, A.b, A.c, A.d]) (clamp (n : Int)) = z from HZ.out]
                  go_wp2_with fail
                  with_reducible refine (anum_adr z _ HZL.out).mono ?_
                  rintro e w15 ⟨rfl, b15⟩
                  replace hpa := blk_u hpa b15
                  replace hca := blk_u hca b15
                  replace hna := blk_u hna b15
                  replace bel := bel.trans (b15.mono bel.size)
                  clear b15
                  have R63 := Lib.hid (range_lit hpa 0 4 [.int .u8 (A.a.toNat : Int), .int .u8 (A.b.toNat : Int), .int .u8 (A.c.toNat : Int), .int .u8 (A.d.toNat : Int)] rfl)
                  go_wp2_with (first | ((with_reducible show wpList _ _ _ (⟨some 63, _, _, _, _, _⟩ :: _) _ _); refine wpList_load_rng 24 (.tmp 2) rfl (by kernel_rfl) _ _ rfl _ R63.out _ Tryd.underlying24 rfl (by kernel_rfl) ?_))
                  try clear R63
                  with_reducible refine (anum_any _ _ _ _ _).mono ?_
                  rintro e w16 ⟨rfl, b16⟩
                  replace hpa := blk_u hpa b16
                  replace hca := blk_u hca b16
                  replace hna := blk_u hna b16
                  replace bel := bel.trans (b16.mono bel.size)
                  clear b16
                  rw [show be [A.a, A.b, A.c, A.d] = x from HXX.out]
                  have R71 := Lib.hid (range_lit hna 0 5 [.int .u8 (A.a.toNat : Int), .int .u8 (A.b.toNat : Int), .int .u8 (A.c.toNat : Int), .int .u8 (A.d.toNat : Int), .int .i64 (n : Int)] rfl)
                  go_wp2_with (first | ((with_reducible show wpList _ _ _ (⟨some 71, _, _, _, _, _⟩ :: _) _ _); refine wpList_load_rng 26 (.tmp 8) rfl (by kernel_rfl) _ _ rfl _ R71.out _ Tryd.underlying26 rfl (by kernel_rfl) ?_))
                  try clear R71
                  with_reducible refine (alast_any _ _ _ _ _ _).mono ?_
                  rintro e w17 ⟨rfl, b17⟩
                  replace hpa := blk_u hpa b17
                  replace hca := blk_u hca b17
                  replace hna := blk_u hna b17
                  replace bel := bel.trans (b17.mono bel.size)
                  clear b17
                  rw [show lastN (be [A.a, A.b, A.c, A.d]) (clamp (n : Int)) = z from HZ.out]
                  go_wp2_with fail
                  with_reducible refine (anum_adr z _ HZL.out).mono ?_
                  rintro e w18 ⟨rfl, b18⟩
                  replace hpa := blk_u hpa b18
                  replace hca := blk_u hca b18
                  replace hna := blk_u hna b18
                  replace bel := bel.trans (b18.mono bel.size)
                  clear b18
                  go_wp2_with fail
                  go_ret
                  exact ⟨rfl, bel⟩
        · have ehi : (f : Int) + 33 = (hi : Int) := by omega
          have hm2 : decide ((z : Int) - 1 < (hi : Int)) = false := decide_eq_false (by omega)
          clear PV2 hm
          by_cases d1 : x = f
          · have exf : ((x : Int) == (f : Int)) = true := beq_iff_eq.2 (by omega)
            have kxf : ((x : Int) != (f : Int)) = false := by rw [bne, exf]; rfl
            have HPS : Hid (parseS tc = (zeroC, 0, 1)) := Lib.hid (by rw [HTC3.out]; exact (nets_law A h8 h28).2.1 (by rw [HXX.out, HF.out, HZ.out, HLO.out, HHI.out]; rw [show (x == f) = true from beq_iff_eq.2 (by omega)]; rfl))
            clear P3 P4 P5 P6 P7 P8 PF PZ PX
            clear d1
            have R23 := Lib.hid (range_lit hpa 0 4 [.int .u8 (A.a.toNat : Int), .int .u8 (A.b.toNat : Int), .int .u8 (A.c.toNat : Int), .int .u8 (A.d.toNat : Int)] rfl)
            go_wp2_with (first | ((with_reducible show wpList _ _ _ (⟨some 23, _, _, _, _, _⟩ :: _) _ _); refine wpList_load_rng 24 (.tmp 2) rfl (by kernel_rfl) _ _ rfl _ R23.out _ Tryd.underlying24 rfl (by kernel_rfl) ?_))
            try clear R23
            with_reducible refine (atext_any _ _ _ _ _ hT).mono ?_
            rintro e w3 ⟨rfl, b3⟩
            replace hpa := blk_u hpa b3
            replace hT := hT.below b3
            replace bel := bel.trans (b3.mono bel.size)
            clear b3
            rw [show adT A.a A.b A.c A.d = ta from HTA.out]
            clear hT
            have R25 := fun W => st_cat HTX.out BTX.out W
            have R26 := fun W => st_cat HTY.out BTY.out W
            go_wp2_with fail
            clear R25 R26
            with_reducible refine (rtext_v (v := (n : Int)) rfl hn9 _).mono ?_
            rintro e w4 ⟨rfl, b4⟩
            replace hpa := blk_u hpa b4
            replace bel := bel.trans (b4.mono bel.size)
            clear b4
            rw [show decT n = dg from HDG.out]
            have R29 := fun W => st_cat HTC.out BTC.out W
            go_wp2_with fail
            clear R29
            with_reducible refine (cparse_is HPS.out HTL.out _).mono ?_
            rintro e w5 ⟨Fx, nf, cf, Ox, nx, cx, rfl, hf, ho, frF, frO, b5⟩
            replace hpa := blk_u hpa b5
            replace bel := bel.trans (b5.mono bel.size)
            clear b5
            clear hf ho frF frO
            go_wp2_with (first | ((with_reducible show wpList _ _ _ (⟨some 5, _, _, _, _, _⟩ :: _) _ _); refine wpList_new_a rfl 32 rfl #[.int .u8 0, .int .u8 0, .int .u8 0, .int .u8 0, .int .u8 0, .int .u8 0, .int .u8 0, .int .u8 0, .int .i64 0, .int .u8 0, .int .u8 0, .int .u8 0, .int .u8 0, .int .u8 0, .int .u8 0, .int .u8 0, .int .u8 0, .int .u8 0, .int .u8 0, .int .u8 0, .int .u8 0, .int .u8 0, .int .u8 0, .int .u8 0, .int .u8 0, .int .u8 0, .int .u8 0, .int .u8 0, .int .u8 0, .int .i64 0, .int .u8 0, .int .u8 0, .int .u8 0, .int .u8 0, .int .i64 0, .int .i64 0, .int .i64 0, .int .i64 0, .slice none 0 0, .slice none 0 0] (by kernel_rfl) ?_; intro g5 w6 ge hh bb; have d_pa_ca := ne_new (hlt hpa) ge; have oca := Nat.le_trans bel.size ge; replace hpa := blk_u hpa bb; replace bel := bel.trans (bb.mono bel.size); have hca := hh; clear hh ge bb) | ((with_reducible show wpList _ _ _ (⟨none, Op.store _ (.tmp 5) _, _, _, _, _⟩ :: _) _ _); refine wpList_store_blk rfl 32 (.tmp 5) (.tmp 31) rfl g5 rfl _ rfl _ 32 hca (by rfl) (by kernel_rfl) (by kernel_rfl) ?_; intro w7 hq gr; replace hpa := blk_a hpa gr d_pa_ca; replace bel := below_grown bel gr oca bel.size; clear hca; have hca := hq; clear hq gr; have R34 := Lib.hid (range_lit hpa 0 4 [.int .u8 (A.a.toNat : Int), .int .u8 (A.b.toNat : Int), .int .u8 (A.c.toNat : Int), .int .u8 (A.d.toNat : Int)] rfl)) | ((with_reducible show wpList _ _ _ (⟨some 34, _, _, _, _, _⟩ :: _) _ _); refine wpList_load_rng 24 (.tmp 2) rfl (by kernel_rfl) _ _ rfl _ R34.out _ Tryd.underlying24 rfl (by kernel_rfl) ?_) | ((with_reducible show wpList _ _ _ (⟨some 8, _, _, _, _, _⟩ :: _) _ _); refine wpList_new_a rfl 26 rfl #[.int .u8 0, .int .u8 0, .int .u8 0, .int .u8 0, .int .i64 0] (by kernel_rfl) ?_; intro g8 w8 ge hh bb; have d_pa_na := ne_new (hlt hpa) ge; have d_ca_na := ne_new (hlt hca) ge; have ona := Nat.le_trans bel.size ge; replace hpa := blk_u hpa bb; replace hca := blk_u hca bb; replace bel := bel.trans (bb.mono bel.size); have hna := hh; clear hh ge bb) | ((with_reducible show wpList _ _ _ (⟨none, Op.store _ (.tmp 8) _, _, _, _, _⟩ :: _) _ _); refine wpList_store_blk rfl 26 (.tmp 8) (.tmp 36) rfl g8 rfl _ rfl _ 26 hna (by rfl) (by kernel_rfl) (by kernel_rfl) ?_; intro w9 hq gr; replace hpa := blk_a hpa gr d_pa_na; replace hca := blk_a hca gr d_ca_na; replace bel := below_grown bel gr ona bel.size; clear hna; have hna := hq; clear hq gr; have R37 := Lib.hid (range_lit hna 0 5 [.int .u8 (A.a.toNat : Int), .int .u8 (A.b.toNat : Int), .int .u8 (A.c.toNat : Int), .int .u8 (A.d.toNat : Int), .int .i64 (n : Int)] rfl)) | ((with_reducible show wpList _ _ _ (⟨some 37, _, _, _, _, _⟩ :: _) _ _); refine wpList_load_rng 26 (.tmp 8) rfl (by kernel_rfl) _ _ rfl _ R37.out _ Tryd.underlying26 rfl (by kernel_rfl) ?_))
            try clear R34
            try clear R37
            with_reducible refine (afirst_any _ _ _ _ _ _).mono ?_
            rintro e w10 ⟨rfl, b10⟩
            replace hpa := blk_u hpa b10
            replace hca := blk_u hca b10
            replace hna := blk_u hna b10
            replace bel := bel.trans (b10.mono bel.size)
            clear b10
            rw [show firstN (be [A.a, A.b, A.c, A.d]) (clamp (n : Int)) = f from HF.out]
            go_wp2_with fail
            with_reducible refine (anum_adr f _ HFL.out).mono ?_
            rintro e w11 ⟨rfl, b11⟩
            replace hpa := blk_u hpa b11
            replace hca := blk_u hca b11
            replace hna := blk_u hna b11
            replace bel := bel.trans (b11.mono bel.size)
            clear b11
            have R51 := Lib.hid (range_lit hna 0 5 [.int .u8 (A.a.toNat : Int), .int .u8 (A.b.toNat : Int), .int .u8 (A.c.toNat : Int), .int .u8 (A.d.toNat : Int), .int .i64 (n : Int)] rfl)
            go_wp2_with (first | ((with_reducible show wpList _ _ _ (⟨some 51, _, _, _, _, _⟩ :: _) _ _); refine wpList_load_rng 26 (.tmp 8) rfl (by kernel_rfl) _ _ rfl _ R51.out _ Tryd.underlying26 rfl (by kernel_rfl) ?_))
            try clear R51
            with_reducible refine (alast_any _ _ _ _ _ _).mono ?_
            rintro e w12 ⟨rfl, b12⟩
            replace hpa := blk_u hpa b12
            replace hca := blk_u hca b12
            replace hna := blk_u hna b12
            replace bel := bel.trans (b12.mono bel.size)
            clear b12
            rw [show lastN (be [A.a, A.b, A.c, A.d]) (clamp (n : Int)) = z from HZ.out]
            go_wp2_with fail
            with_reducible refine (anum_adr z _ HZL.out).mono ?_
            rintro e w13 ⟨rfl, b13⟩
            replace hpa := blk_u hpa b13
            replace hca := blk_u hca b13
            replace hna := blk_u hna b13
            replace bel := bel.trans (b13.mono bel.size)
            clear b13
            have R63 := Lib.hid (range_lit hpa 0 4 [.int .u8 (A.a.toNat : Int), .int .u8 (A.b.toNat : Int), .int .u8 (A.c.toNat : Int), .int .u8 (A.d.toNat : Int)] rfl)
            go_wp2_with (first | ((with_reducible show wpList _ _ _ (⟨some 63, _, _, _, _, _⟩ :: _) _ _); refine wpList_load_rng 24 (.tmp 2) rfl (by kernel_rfl) _ _ rfl _ R63.out _ Tryd.underlying24 rfl (by kernel_rfl) ?_))
            try clear R63
            with_reducible refine (anum_any _ _ _ _ _).mono ?_
            rintro e w14 ⟨rfl, b14⟩
            replace hpa := blk_u hpa b14
            replace hca := blk_u hca b14
            replace hna := blk_u hna b14
            replace bel := bel.trans (b14.mono bel.size)
            clear b14
            rw [show be [A.a, A.b, A.c, A.d] = x from HXX.out]
            go_wp2_with fail
            go_ret
            exact ⟨rfl, bel⟩
          · have exf : ((x : Int) == (f : Int)) = false := beq_eq_false_iff_ne.2 (by omega)
            have kxf : ((x : Int) != (f : Int)) = true := by rw [bne, exf]; rfl
            by_cases d2 : x = z
            · have exz : ((x : Int) == (z : Int)) = true := beq_iff_eq.2 (by omega)
              have kxz : ((x : Int) != (z : Int)) = false := by rw [bne, exz]; rfl
              have HPS : Hid (parseS tc = (zeroC, 0, 1)) := Lib.hid (by rw [HTC3.out]; exact (nets_law A h8 h28).2.1 (by rw [HXX.out, HF.out, HZ.out, HLO.out, HHI.out]; rw [show (x == f) = false from beq_eq_false_iff_ne.2 (by omega), show (x == z) = true from beq_iff_eq.2 (by omega)]; rfl))
              clear P3 P4 P5 P6 P7 P8 PF PZ PX
              clear d1 d2
              have R23 := Lib.hid (range_lit hpa 0 4 [.int .u8 (A.a.toNat : Int), .int .u8 (A.b.toNat : Int), .int .u8 (A.c.toNat : Int), .int .u8 (A.d.toNat : Int)] rfl)
              go_wp2_with (first | ((with_reducible show wpList _ _ _ (⟨some 23, _, _, _, _, _⟩ :: _) _ _); refine wpList_load_rng 24 (.tmp 2) rfl (by kernel_rfl) _ _ rfl _ R23.out _ Tryd.underlying24 rfl (by kernel_rfl) ?_))
              try clear R23
              with_reducible refine (atext_any _ _ _ _ _ hT).mono ?_
              rintro e w3 ⟨rfl, b3⟩
              replace hpa := blk_u hpa b3
              replace hT := hT.below b3
              replace bel := bel.trans (b3.mono bel.size)
              clear b3
              rw [show adT A.a A.b A.c A.d = ta from HTA.out]
              clear hT
              have R25 := fun W => st_cat HTX.out BTX.out W
              have R26 := fun W => st_cat HTY.out BTY.out W
              go_wp2_with fail
              clear R25 R26
              with_reducible refine (rtext_v (v := (n : Int)) rfl hn9 _).mono ?_
              rintro e w4 ⟨rfl, b4⟩
              replace hpa := blk_u hpa b4
              replace bel := bel.trans (b4.mono bel.size)
              clear b4
              rw [show decT n = dg from HDG.out]
              have R29 := fun W => st_cat HTC.out BTC.out W
              go_wp2_with fail
              clear R29
              with_reducible refine (cparse_is HPS.out HTL.out _).mono ?_
              rintro e w5 ⟨Fx, nf, cf, Ox, nx, cx, rfl, hf, ho, frF, frO, b5⟩
              replace hpa := blk_u hpa b5
              replace bel := bel.trans (b5.mono bel.size)
              clear b5
              clear hf ho frF frO
              go_wp2_with (first | ((with_reducible show wpList _ _ _ (⟨some 5, _, _, _, _, _⟩ :: _) _ _); refine wpList_new_a rfl 32 rfl #[.int .u8 0, .int .u8 0, .int .u8 0, .int .u8 0, .int .u8 0, .int .u8 0, .int .u8 0, .int .u8 0, .int .i64 0, .int .u8 0, .int .u8 0, .int .u8 0, .int .u8 0, .int .u8 0, .int .u8 0, .int .u8 0, .int .u8 0, .int .u8 0, .int .u8 0, .int .u8 0, .int .u8 0, .int .u8 0, .int .u8 0, .int .u8 0, .int .u8 0, .int .u8 0, .int .u8 0, .int .u8 0, .int .u8 0, .int .i64 0, .int .u8 0, .int .u8 0, .int .u8 0, .int .u8 0, .int .i64 0, .int .i64 0, .int .i64 0, .int .i64 0, .slice none 0 0, .slice none 0 0] (by kernel_rfl) ?_; intro g5 w6 ge hh bb; have d_pa_ca := ne_new (hlt hpa) ge; have oca := Nat.le_trans bel.size ge; replace hpa := blk_u hpa bb; replace bel := bel.trans (bb.mono bel.size); have hca := hh; clear hh ge bb) | ((with_reducible show wpList _ _ _ (⟨none, Op.store _ (.tmp 5) _, _, _, _, _⟩ :: _) _ _); refine wpList_store_blk rfl 32 (.tmp 5) (.tmp 31) rfl g5 rfl _ rfl _ 32 hca (by rfl) (by kernel_rfl) (by kernel_rfl) ?_; intro w7 hq gr; replace hpa := blk_a hpa gr d_pa_ca; replace bel := below_grown bel gr oca bel.size; clear hca; have hca := hq; clear hq gr; have R34 := Lib.hid (range_lit hpa 0 4 [.int .u8 (A.a.toNat : Int), .int .u8 (A.b.toNat : Int), .int .u8 (A.c.toNat : Int), .int .u8 (A.d.toNat : Int)] rfl)) | ((with_reducible show wpList _ _ _ (⟨some 34, _, _, _, _, _⟩ :: _) _ _); refine wpList_load_rng 24 (.tmp 2) rfl (by kernel_rfl) _ _ rfl _ R34.out _ Tryd.underlying24 rfl (by kernel_rfl) ?_) | ((with_reducible show wpList _ _ _ (⟨some 8, _, _, _, _, _⟩ :: _) _ _); refine wpList_new_a rfl 26 rfl #[.int .u8 0, .int .u8 0, .int .u8 0, .int .u8 0, .int .i64 0] (by kernel_rfl) ?_; intro g8 w8 ge hh bb; have d_pa_na := ne_new (hlt hpa) ge; have d_ca_na := ne_new (hlt hca) ge; have ona := Nat.le_trans bel.size ge; replace hpa := blk_u hpa bb; replace hca := blk_u hca bb; replace bel := bel.trans (bb.mono bel.size); have hna := hh; clear hh ge bb) | ((with_reducible show wpList _ _ _ (⟨none, Op.store _ (.tmp 8) _, _, _, _, _⟩ :: _) _ _); refine wpList_store_blk rfl 26 (.tmp 8) (.tmp 36) rfl g8 rfl _ rfl _ 26 hna (by rfl) (by kernel_rfl) (by kernel_rfl) ?_; intro w9 hq gr; replace hpa := blk_a hpa gr d_pa_na; replace hca := blk_a hca gr d_ca_na; replace bel := below_grown bel gr ona bel.size; clear hna; have hna := hq; clear hq gr; have R37 := Lib.hid (range_lit hna 0 5 [.int .u8 (A.a.toNat : Int), .int .u8 (A.b.toNat : Int), .int .u8 (A.c.toNat : Int), .int .u8 (A.d.toNat : Int), .int .i64 (n : Int)] rfl)) | ((with_reducible show wpList _ _ _ (⟨some 37, _, _, _, _, _⟩ :: _) _ _); refine wpList_load_rng 26 (.tmp 8) rfl (by kernel_rfl) _ _ rfl _ R37.out _ Tryd.underlying26 rfl (by kernel_rfl) ?_))
              try clear R34
              try clear R37
              with_reducible refine (afirst_any _ _ _ _ _ _).mono ?_
              rintro e w10 ⟨rfl, b10⟩
              replace hpa := blk_u hpa b10
              replace hca := blk_u hca b10
              replace hna := blk_u hna b10
              replace bel := bel.trans (b10.mono bel.size)
              clear b10
              rw [show firstN (be [A.a, A.b, A.c, A.d]) (clamp (n : Int)) = f from HF.out]
              go_wp2_with fail
              with_reducible refine (anum_adr f _ HFL.out).mono ?_
              rintro e w11 ⟨rfl, b11⟩
              replace hpa := blk_u hpa b11
              replace hca := blk_u hca b11
              replace hna := blk_u hna b11
              replace bel := bel.trans (b11.mono bel.size)
              clear b11
              have R51 := Lib.hid (range_lit hna 0 5 [.int .u8 (A.a.toNat : Int), .int .u8 (A.b.toNat : Int), .int .u8 (A.c.toNat : Int), .int .u8 (A.d.toNat : Int), .int .i64 (n : Int)] rfl)
              go_wp2_with (first | ((with_reducible show wpList _ _ _ (⟨some 51, _, _, _, _, _⟩ :: _) _ _); refine wpList_load_rng 26 (.tmp 8) rfl (by kernel_rfl) _ _ rfl _ R51.out _ Tryd.underlying26 rfl (by kernel_rfl) ?_))
              try clear R51
              with_reducible refine (alast_any _ _ _ _ _ _).mono ?_
              rintro e w12 ⟨rfl, b12⟩
              replace hpa := blk_u hpa b12
              replace hca := blk_u hca b12
              replace hna := blk_u hna b12
              replace bel := bel.trans (b12.mono bel.size)
              clear b12
              rw [show lastN (be [A.a, A.b, A.c, A.d]) (clamp (n : Int)) = z from HZ.out]
              go_wp2_with fail
              with_reducible refine (anum_adr z _ HZL.out).mono ?_
              rintro e w13 ⟨rfl, b13⟩
              replace hpa := blk_u hpa b13
              replace hca := blk_u hca b13
              replace hna := blk_u hna b13
              replace bel := bel.trans (b13.mono bel.size)
              clear b13
              have R63 := Lib.hid (range_lit hpa 0 4 [.int .u8 (A.a.toNat : Int), .int .u8 (A.b.toNat : Int), .int .u8 (A.c.toNat : Int), .int .u8 (A.d.toNat : Int)] rfl)
              go_wp2_with (first | ((with_reducible show wpList _ _ _ (⟨some 63, _, _, _, _, _⟩ :: _) _ _); refine wpList_load_rng 24 (.tmp 2) rfl (by kernel_rfl) _ _ rfl _ R63.out _ Tryd.underlying24 rfl (by kernel_rfl) ?_))
              try clear R63
              with_reducible refine (anum_any _ _ _ _ _).mono ?_
              rintro e w14 ⟨rfl, b14⟩
              replace hpa := blk_u hpa b14
              replace hca := blk_u hca b14
              replace hna := blk_u hna b14
              replace bel := bel.trans (b14.mono bel.size)
              clear b14
              rw [show be [A.a, A.b, A.c, A.d] = x from HXX.out]
              have R71 := Lib.hid (range_lit hna 0 5 [.int .u8 (A.a.toNat : Int), .int .u8 (A.b.toNat : Int), .int .u8 (A.c.toNat : Int), .int .u8 (A.d.toNat : Int), .int .i64 (n : Int)] rfl)
              go_wp2_with (first | ((with_reducible show wpList _ _ _ (⟨some 71, _, _, _, _, _⟩ :: _) _ _); refine wpList_load_rng 26 (.tmp 8) rfl (by kernel_rfl) _ _ rfl _ R71.out _ Tryd.underlying26 rfl (by kernel_rfl) ?_))
              try clear R71
              with_reducible refine (alast_any _ _ _ _ _ _).mono ?_
              rintro e w15 ⟨rfl, b15⟩
              replace hpa := blk_u hpa b15
              replace hca := blk_u hca b15
              replace hna := blk_u hna b15
              replace bel := bel.trans (b15.mono bel.size)
              clear b15
              rw [show lastN (be [A.a, A.b, A.c, A.d]) (clamp (n : Int)) = z from HZ.out]
              go_wp2_with fail
              with_reducible refine (anum_adr z _ HZL.out).mono ?_
              rintro e w16 ⟨rfl, b16⟩
              replace hpa := blk_u hpa b16
              replace hca := blk_u hca b16
              replace hna := blk_u hna b16
              replace bel := bel.trans (b16.mono bel.size)
              clear b16
              go_wp2_with fail
              go_ret
              exact ⟨rfl, bel⟩
            · have exz : ((x : Int) == (z : Int)) = false := beq_eq_false_iff_ne.2 (by omega)
              have kxz : ((x : Int) != (z : Int)) = true := by rw [bne, exz]; rfl
              by_cases d3 : x < lo
              · have HPS0 : parseS (lanT A n) = (netC A n, 0, 0) := (nets_law A h8 h28).1 (by rw [HXX.out, HF.out, HZ.out, HLO.out, HHI.out]; rw [show (x == f) = false from beq_eq_false_iff_ne.2 (by omega), show (x == z) = false from beq_eq_false_iff_ne.2 (by omega)]; rw [decide_eq_true d3]; rfl)
                obtain ⟨cc, hcc⟩ : ∃ c, netC A n = c := ⟨_, rfl⟩
                have HCO : Hid (cc.own = A) := Lib.hid (by rw [← hcc]; rfl)
                have HCF : Hid (cc.first.num = lo) := Lib.hid (by rw [← hcc, (pool_nums A h8 h28).1, HLO.out])
                have HCL : Hid (cc.last.num = hi) := Lib.hid (by rw [← hcc, (pool_nums A h8 h28).2.1, HHI.out])
                have HN1 : Hid ((fN A n == fN cc.first n) = true) := Lib.hid (beq_iff_eq.2 (in_net A _ (by rw [HCF.out, HF.out]; omega) (by rw [HCF.out, HZ.out]; omega)))
                have HN2 : Hid ((fN A n == fN cc.last n) = true) := Lib.hid (beq_iff_eq.2 (in_net A _ (by rw [HCL.out, HF.out]; omega) (by rw [HCL.out, HZ.out]; omega)))
                have qo : ∀ W, (binOp .eql 24 (.agg #[.int .u8 (cc.own.a.toNat : Int), .int .u8 (cc.own.b.toNat : Int), .int .u8 (cc.own.c.toNat : Int), .int .u8 (cc.own.d.toNat : Int)]) (.agg #[.int .u8 (A.a.toNat : Int), .int .u8 (A.b.toNat : Int), .int .u8 (A.c.toNat : Int), .int .u8 (A.d.toNat : Int)])).run Tryd.prog W = .ok (.bool true) W := fun W => by rw [ad_eq2, HCO.out, beq_self_eq_true]
                rw [hcc] at HPS0
                have HPS : Hid (parseS tc = (cc, 0, 0)) := Lib.hid (by rw [HTC3.out]; exact HPS0)
                clear hcc HPS0 P3 P4 P5 P6 P7 P8 PF PZ PX
                clear d1 d2
                have R23 := Lib.hid (range_lit hpa 0 4 [.int .u8 (A.a.toNat : Int), .int .u8 (A.b.toNat : Int), .int .u8 (A.c.toNat : Int), .int .u8 (A.d.toNat : Int)] rfl)
                go_wp2_with (first | ((with_reducible show wpList _ _ _ (⟨some 23, _, _, _, _, _⟩ :: _) _ _); refine wpList_load_rng 24 (.tmp 2) rfl (by kernel_rfl) _ _ rfl _ R23.out _ Tryd.underlying24 rfl (by kernel_rfl) ?_))
                try clear R23
                with_reducible refine (atext_any _ _ _ _ _ hT).mono ?_
                rintro e w3 ⟨rfl, b3⟩
                replace hpa := blk_u hpa b3
                replace hT := hT.below b3
                replace bel := bel.trans (b3.mono bel.size)
                clear b3
                rw [show adT A.a A.b A.c A.d = ta from HTA.out]
                clear hT
                have R25 := fun W => st_cat HTX.out BTX.out W
                have R26 := fun W => st_cat HTY.out BTY.out W
                go_wp2_with fail
                clear R25 R26
                with_reducible refine (rtext_v (v := (n : Int)) rfl hn9 _).mono ?_
                rintro e w4 ⟨rfl, b4⟩
                replace hpa := blk_u hpa b4
                replace bel := bel.trans (b4.mono bel.size)
                clear b4
                rw [show decT n = dg from HDG.out]
                have R29 := fun W => st_cat HTC.out BTC.out W
                go_wp2_with fail
                clear R29
                with_reducible refine (cparse_is HPS.out HTL.out _).mono ?_
                rintro e w5 ⟨Fx, nf, cf, Ox, nx, cx, rfl, hf, ho, frF, frO, b5⟩
                replace hpa := blk_u hpa b5
                replace bel := bel.trans (b5.mono bel.size)
                clear b5
                clear hf ho frF frO
                go_wp2_with (first | ((with_reducible show wpList _ _ _ (⟨some 5, _, _, _, _, _⟩ :: _) _ _); refine wpList_new_a rfl 32 rfl #[.int .u8 0, .int .u8 0, .int .u8 0, .int .u8 0, .int .u8 0, .int .u8 0, .int .u8 0, .int .u8 0, .int .i64 0, .int .u8 0, .int .u8 0, .int .u8 0, .int .u8 0, .int .u8 0, .int .u8 0, .int .u8 0, .int .u8 0, .int .u8 0, .int .u8 0, .int .u8 0, .int .u8 0, .int .u8 0, .int .u8 0, .int .u8 0, .int .u8 0, .int .u8 0, .int .u8 0, .int .u8 0, .int .u8 0, .int .i64 0, .int .u8 0, .int .u8 0, .int .u8 0, .int .u8 0, .int .i64 0, .int .i64 0, .int .i64 0, .int .i64 0, .slice none 0 0, .slice none 0 0] (by kernel_rfl) ?_; intro g5 w6 ge hh bb; have d_pa_ca := ne_new (hlt hpa) ge; have oca := Nat.le_trans bel.size ge; replace hpa := blk_u hpa bb; replace bel := bel.trans (bb.mono bel.size); have hca := hh; clear hh ge bb) | ((with_reducible show wpList _ _ _ (⟨none, Op.store _ (.tmp 5) _, _, _, _, _⟩ :: _) _ _); refine wpList_store_blk rfl 32 (.tmp 5) (.tmp 31) rfl g5 rfl _ rfl _ 32 hca (by rfl) (by kernel_rfl) (by kernel_rfl) ?_; intro w7 hq gr; replace hpa := blk_a hpa gr d_pa_ca; replace bel := below_grown bel gr oca bel.size; clear hca; have hca := hq; clear hq gr; have R34 := Lib.hid (range_lit hpa 0 4 [.int .u8 (A.a.toNat : Int), .int .u8 (A.b.toNat : Int), .int .u8 (A.c.toNat : Int), .int .u8 (A.d.toNat : Int)] rfl)) | ((with_reducible show wpList _ _ _ (⟨some 34, _, _, _, _, _⟩ :: _) _ _); refine wpList_load_rng 24 (.tmp 2) rfl (by kernel_rfl) _ _ rfl _ R34.out _ Tryd.underlying24 rfl (by kernel_rfl) ?_) | ((with_reducible show wpList _ _ _ (⟨some 8, _, _, _, _, _⟩ :: _) _ _); refine wpList_new_a rfl 26 rfl #[.int .u8 0, .int .u8 0, .int .u8 0, .int .u8 0, .int .i64 0] (by kernel_rfl) ?_; intro g8 w8 ge hh bb; have d_pa_na := ne_new (hlt hpa) ge; have d_ca_na := ne_new (hlt hca) ge; have ona := Nat.le_trans bel.size ge; replace hpa := blk_u hpa bb; replace hca := blk_u hca bb; replace bel := bel.trans (bb.mono bel.size); have hna := hh; clear hh ge bb) | ((with_reducible show wpList _ _ _ (⟨none, Op.store _ (.tmp 8) _, _, _, _, _⟩ :: _) _ _); refine wpList_store_blk rfl 26 (.tmp 8) (.tmp 36) rfl g8 rfl _ rfl _ 26 hna (by rfl) (by kernel_rfl) (by kernel_rfl) ?_; intro w9 hq gr; replace hpa := blk_a hpa gr d_pa_na; replace hca := blk_a hca gr d_ca_na; replace bel := below_grown bel gr ona bel.size; clear hna; have hna := hq; clear hq gr; have R37 := Lib.hid (range_lit hna 0 5 [.int .u8 (A.a.toNat : Int), .int .u8 (A.b.toNat : Int), .int .u8 (A.c.toNat : Int), .int .u8 (A.d.toNat : Int), .int .i64 (n : Int)] rfl)) | ((with_reducible show wpList _ _ _ (⟨some 37, _, _, _, _, _⟩ :: _) _ _); refine wpList_load_rng 26 (.tmp 8) rfl (by kernel_rfl) _ _ rfl _ R37.out _ Tryd.underlying26 rfl (by kernel_rfl) ?_))
                try clear R34
                try clear R37
                with_reducible refine (afirst_any _ _ _ _ _ _).mono ?_
                rintro e w10 ⟨rfl, b10⟩
                replace hpa := blk_u hpa b10
                replace hca := blk_u hca b10
                replace hna := blk_u hna b10
                replace bel := bel.trans (b10.mono bel.size)
                clear b10
                rw [show firstN (be [A.a, A.b, A.c, A.d]) (clamp (n : Int)) = f from HF.out]
                go_wp2_with fail
                with_reducible refine (anum_adr f _ HFL.out).mono ?_
                rintro e w11 ⟨rfl, b11⟩
                replace hpa := blk_u hpa b11
                replace hca := blk_u hca b11
                replace hna := blk_u hna b11
                replace bel := bel.trans (b11.mono bel.size)
                clear b11
                have R51 := Lib.hid (range_lit hna 0 5 [.int .u8 (A.a.toNat : Int), .int .u8 (A.b.toNat : Int), .int .u8 (A.c.toNat : Int), .int .u8 (A.d.toNat : Int), .int .i64 (n : Int)] rfl)
                go_wp2_with (first | ((with_reducible show wpList _ _ _ (⟨some 51, _, _, _, _, _⟩ :: _) _ _); refine wpList_load_rng 26 (.tmp 8) rfl (by kernel_rfl) _ _ rfl _ R51.out _ Tryd.underlying26 rfl (by kernel_rfl) ?_))
                try clear R51
                with_reducible refine (alast_any _ _ _ _ _ _).mono ?_
                rintro e w12 ⟨rfl, b12⟩
                replace hpa := blk_u hpa b12
                replace hca := blk_u hca b12
                replace hna := blk_u hna b12
                replace bel := bel.trans (b12.mono bel.size)
                clear b12
                rw [show lastN (be [A.a, A.b, A.c, A.d]) (clamp (n : Int)) = z from HZ.out]
                go_wp2_with fail
                with_reducible refine (anum_adr z _ HZL.out).mono ?_
                rintro e w13 ⟨rfl, b13⟩
                replace hpa := blk_u hpa b13
                replace hca := blk_u hca b13
                replace hna := blk_u hna b13
                replace bel := bel.trans (b13.mono bel.size)
                clear b13
                have R63 := Lib.hid (range_lit hpa 0 4 [.int .u8 (A.a.toNat : Int), .int .u8 (A.b.toNat : Int), .int .u8 (A.c.toNat : Int), .int .u8 (A.d.toNat : Int)] rfl)
                go_wp2_with (first | ((with_reducible show wpList _ _ _ (⟨some 63, _, _, _, _, _⟩ :: _) _ _); refine wpList_load_rng 24 (.tmp 2) rfl (by kernel_rfl) _ _ rfl _ R63.out _ Tryd.underlying24 rfl (by kernel_rfl) ?_))
                try clear R63
                with_reducible refine (anum_any _ _ _ _ _).mono ?_
                rintro e w14 ⟨rfl, b14⟩
                replace hpa := blk_u hpa b14
                replace hca := blk_u hca b14
                replace hna := blk_u hna b14
                replace bel := bel.trans (b14.mono bel.size)
                clear b14
                rw [show be [A.a, A.b, A.c, A.d] = x from HXX.out]
                have R71 := Lib.hid (range_lit hna 0 5 [.int .u8 (A.a.toNat : Int), .int .u8 (A.b.toNat : Int), .int .u8 (A.c.toNat : Int), .int .u8 (A.d.toNat : Int), .int .i64 (n : Int)] rfl)
                go_wp2_with (first | ((with_reducible show wpList _ _ _ (⟨some 71, _, _, _, _, _⟩ :: _) _ _); refine wpList_load_rng 26 (.tmp 8) rfl (by kernel_rfl) _ _ rfl _ R71.out _ Tryd.underlying26 rfl (by kernel_rfl) ?_))
                try clear R71
                with_reducible refine (alast_any _ _ _ _ _ _).mono ?_
                rintro e w15 ⟨rfl, b15⟩
                replace hpa := blk_u hpa b15
                replace hca := blk_u hca b15
                replace hna := blk_u hna b15
                replace bel := bel.trans (b15.mono bel.size)
                clear b15
                rw [show lastN (be [A.a, A.b, A.c, A.d]) (clamp (n : Int)) = z from HZ.out]
                go_wp2_with fail
                with_reducible refine (anum_adr z _ HZL.out).mono ?_
                rintro e w16 ⟨rfl, b16⟩
                replace hpa := blk_u hpa b16
                replace hca := blk_u hca b16
                replace hna := blk_u hna b16
                replace bel := bel.trans (b16.mono bel.size)
                clear b16
                have R104 := Lib.hid (range_lit hca 0 4 [.int .u8 (cc.own.a.toNat : Int), .int .u8 (cc.own.b.toNat : Int), .int .u8 (cc.own.c.toNat : Int), .int .u8 (cc.own.d.toNat : Int)] rfl)
                go_wp2_with (first | ((with_reducible show wpList _ _ _ (⟨some 104, _, _, _, _, _⟩ :: _) _ _); refine wpList_load_rng 24 (.tmp 103) rfl (by kernel_rfl) _ _ rfl _ R104.out _ Tryd.underlying24 rfl (by kernel_rfl) ?_; have R105 := Lib.hid (range_lit hpa 0 4 [.int .u8 (A.a.toNat : Int), .int .u8 (A.b.toNat : Int), .int .u8 (A.c.toNat : Int), .int .u8 (A.d.toNat : Int)] rfl)) | ((with_reducible show wpList _ _ _ (⟨some 105, _, _, _, _, _⟩ :: _) _ _); refine wpList_load_rng 24 (.tmp 2) rfl (by kernel_rfl) _ _ rfl _ R105.out _ Tryd.underlying24 rfl (by kernel_rfl) ?_; have R109 := Lib.hid (range_lit hca 21 4 [.int .u8 (cc.first.a.toNat : Int), .int .u8 (cc.first.b.toNat : Int), .int .u8 (cc.first.c.toNat : Int), .int .u8 (cc.first.d.toNat : Int)] rfl)) | ((with_reducible show wpList _ _ _ (⟨some 109, _, _, _, _, _⟩ :: _) _ _); refine wpList_load_rng 24 (.tmp 108) rfl (by kernel_rfl) _ _ rfl _ R109.out _ Tryd.underlying24 rfl (by kernel_rfl) ?_))
                try clear R104
                try clear R105
                try clear R109
                with_reducible refine (anum_any _ _ _ _ _).mono ?_
                rintro e w17 ⟨rfl, b17⟩
                replace hpa := blk_u hpa b17
                replace hca := blk_u hca b17
                replace hna := blk_u hna b17
                replace bel := bel.trans (b17.mono bel.size)
                clear b17
                rw [show be [cc.first.a, cc.first.b, cc.first.c, cc.first.d] = lo from HCF.out]
                have R117 := Lib.hid (range_lit hca 25 4 [.int .u8 (cc.last.a.toNat : Int), .int .u8 (cc.last.b.toNat : Int), .int .u8 (cc.last.c.toNat : Int), .int .u8 (cc.last.d.toNat : Int)] rfl)
                go_wp2_with (first | ((with_reducible show wpList _ _ _ (⟨some 117, _, _, _, _, _⟩ :: _) _ _); refine wpList_load_rng 24 (.tmp 116) rfl (by kernel_rfl) _ _ rfl _ R117.out _ Tryd.underlying24 rfl (by kernel_rfl) ?_))
                try clear R117
                with_reducible refine (anum_any _ _ _ _ _).mono ?_
                rintro e w18 ⟨rfl, b18⟩
                replace hpa := blk_u hpa b18
                replace hca := blk_u hca b18
                replace hna := blk_u hna b18
                replace bel := bel.trans (b18.mono bel.size)
                clear b18
                rw [show be [cc.last.a, cc.last.b, cc.last.c, cc.last.d] = hi from HCL.out]
                have R124 := Lib.hid (range_lit hna 0 5 [.int .u8 (A.a.toNat : Int), .int .u8 (A.b.toNat : Int), .int .u8 (A.c.toNat : Int), .int .u8 (A.d.toNat : Int), .int .i64 (n : Int)] rfl)
                go_wp2_with (first | ((with_reducible show wpList _ _ _ (⟨some 124, _, _, _, _, _⟩ :: _) _ _); refine wpList_load_rng 26 (.tmp 8) rfl (by kernel_rfl) _ _ rfl _ R124.out _ Tryd.underlying26 rfl (by kernel_rfl) ?_; have R126 := Lib.hid (range_lit hca 21 4 [.int .u8 (cc.first.a.toNat : Int), .int .u8 (cc.first.b.toNat : Int), .int .u8 (cc.first.c.toNat : Int), .int .u8 (cc.first.d.toNat : Int)] rfl)) | ((with_reducible show wpList _ _ _ (⟨some 126, _, _, _, _, _⟩ :: _) _ _); refine wpList_load_rng 24 (.tmp 125) rfl (by kernel_rfl) _ _ rfl _ R126.out _ Tryd.underlying24 rfl (by kernel_rfl) ?_))
                try clear R124
                try clear R126
                with_reducible refine (ahas_any _ _ _ _ _ _ _ _ _ _).mono ?_
                rintro e w19 ⟨rfl, b19⟩
                replace hpa := blk_u hpa b19
                replace hca := blk_u hca b19
                replace hna := blk_u hna b19
                replace bel := bel.trans (b19.mono bel.size)
                clear b19
                rw [show (firstN (be [A.a, A.b, A.c, A.d]) (clamp (n : Int)) == firstN (be [cc.first.a, cc.first.b, cc.first.c, cc.first.d]) (clamp (n : Int))) = true from HN1.out]
                have R130 := Lib.hid (range_lit hna 0 5 [.int .u8 (A.a.toNat : Int), .int .u8 (A.b.toNat : Int), .int .u8 (A.c.toNat : Int), .int .u8 (A.d.toNat : Int), .int .i64 (n : Int)] rfl)
                go_wp2_with (first | ((with_reducible show wpList _ _ _ (⟨some 130, _, _, _, _, _⟩ :: _) _ _); refine wpList_load_rng 26 (.tmp 8) rfl (by kernel_rfl) _ _ rfl _ R130.out _ Tryd.underlying26 rfl (by kernel_rfl) ?_; have R132 := Lib.hid (range_lit hca 25 4 [.int .u8 (cc.last.a.toNat : Int), .int .u8 (cc.last.b.toNat : Int), .int .u8 (cc.last.c.toNat : Int), .int .u8 (cc.last.d.toNat : Int)] rfl)) | ((with_reducible show wpList _ _ _ (⟨some 132, _, _, _, _, _⟩ :: _) _ _); refine wpList_load_rng 24 (.tmp 131) rfl (by kernel_rfl) _ _ rfl _ R132.out _ Tryd.underlying24 rfl (by kernel_rfl) ?_))
                try clear R130
                try clear R132
                with_reducible refine (ahas_any _ _ _ _ _ _ _ _ _ _).mono ?_
                rintro e w20 ⟨rfl, b20⟩
                replace hpa := blk_u hpa b20
                replace hca := blk_u hca b20
                replace hna := blk_u hna b20
                replace bel := bel.trans (b20.mono bel.size)
                clear b20
                rw [show (firstN (be [A.a, A.b, A.c, A.d]) (clamp (n : Int)) == firstN (be [cc.last.a, cc.last.b, cc.last.c, cc.last.d]) (clamp (n : Int))) = true from HN2.out]
                go_wp2_with fail
                go_ret
                exact ⟨rfl, bel⟩
              · have d3_ : decide (x < lo) = false := decide_eq_false d3
                by_cases d4 : hi < x
                · have HPS0 : parseS (lanT A n) = (netC A n, 0, 0) := (nets_law A h8 h28).1 (by rw [HXX.out, HF.out, HZ.out, HLO.out, HHI.out]; rw [show (x == f) = false from beq_eq_false_iff_ne.2 (by omega), show (x == z) = false from beq_eq_false_iff_ne.2 (by omega)]; rw [decide_eq_true d4, Bool.or_true]; rfl)
                  obtain ⟨cc, hcc⟩ : ∃ c, netC A n = c := ⟨_, rfl⟩
                  have HCO : Hid (cc.own = A) := Lib.hid (by rw [← hcc]; rfl)
                  have HCF : Hid (cc.first.num = lo) := Lib.hid (by rw [← hcc, (pool_nums A h8 h28).1, HLO.out])
                  have HCL : Hid (cc.last.num = hi) := Lib.hid (by rw [← hcc, (pool_nums A h8 h28).2.1, HHI.out])
                  have HN1 : Hid ((fN A n == fN cc.first n) = true) := Lib.hid (beq_iff_eq.2 (in_net A _ (by rw [HCF.out, HF.out]; omega) (by rw [HCF.out, HZ.out]; omega)))
                  have HN2 : Hid ((fN A n == fN cc.last n) = true) := Lib.hid (beq_iff_eq.2 (in_net A _ (by rw [HCL.out, HF.out]; omega) (by rw [HCL.out, HZ.out]; omega)))
                  have qo : ∀ W, (binOp .eql 24 (.agg #[.int .u8 (cc.own.a.toNat : Int), .int .u8 (cc.own.b.toNat : Int), .int .u8 (cc.own.c.toNat : Int), .int .u8 (cc.own.d.toNat : Int)]) (.agg #[.int .u8 (A.a.toNat : Int), .int .u8 (A.b.toNat : Int), .int .u8 (A.c.toNat : Int), .int .u8 (A.d.toNat : Int)])).run Tryd.prog W = .ok (.bool true) W := fun W => by rw [ad_eq2, HCO.out, beq_self_eq_true]
                  rw [hcc] at HPS0
                  have HPS : Hid (parseS tc = (cc, 0, 0)) := Lib.hid (by rw [HTC3.out]; exact HPS0)
                  clear hcc HPS0 P3 P4 P5 P6 P7 P8 PF PZ PX
                  clear d1 d2 d3
                  have R23 := Lib.hid (range_lit hpa 0 4 [.int .u8 (A.a.toNat : Int), .int .u8 (A.b.toNat : Int), .int .u8 (A.c.toNat : Int), .int .u8 (A.d.toNat : Int)] rfl)
                  go_wp2_with (first | ((with_reducible show wpList _ _ _ (⟨some 23, _, _, _, _, _⟩ :: _) _ _); refine wpList_load_rng 24 (.tmp 2) rfl (by kernel_rfl) _ _ rfl _ R23.out _ Tryd.underlying24 rfl (by kernel_rfl) ?_))
                  try clear R23
                  with_reducible refine (atext_any _ _ _ _ _ hT).mono ?_
                  rintro e w3 ⟨rfl, b3⟩
                  replace hpa := blk_u hpa b3
                  replace hT := hT.below b3
                  replace bel := bel.trans (b3.mono bel.size)
                  clear b3
                  rw [show adT A.a A.b A.c A.d = ta from HTA.out]
                  clear hT
                  have R25 := fun W => st_cat HTX.out BTX.out W
                  have R26 := fun W => st_cat HTY.out BTY.out W
                  go_wp2_with fail
                  clear R25 R26
                  with_reducible refine (rtext_v (v := (n : Int)) rfl hn9 _).mono ?_
                  rintro e w4 ⟨rfl, b4⟩
                  replace hpa := blk_u hpa b4
                  replace bel := bel.trans (b4.mono bel.size)
                  clear b4
                  rw [show decT n = dg from HDG.out]
                  have R29 := fun W => st_cat HTC.out BTC.out W
                  go_wp2_with fail
                  clear R29
                  with_reducible refine (cparse_is HPS.out HTL.out _).mono ?_
                  rintro e w5 ⟨Fx, nf, cf, Ox, nx, cx, rfl, hf, ho, frF, frO, b5⟩
                  replace hpa := blk_u hpa b5
                  replace bel := bel.trans (b5.mono bel.size)
                  clear b5
                  clear hf ho frF frO
                  go_wp2_with (first | ((with_reducible show wpList _ _ _ (⟨some 5, _, _, _, _, _⟩ :: _) _ _); refine wpList_new_a rfl 32 rfl #[.int .u8 0, .int .u8 0, .int .u8 0, .int .u8 0, .int .u8 0, .int .u8 0, .int .u8 0, .int .u8 0, .int .i64 0, .int .u8 0, .int .u8 0, .int .u8 0, .int .u8 0, .int .u8 0, .int .u8 0, .int .u8 0, .int .u8 0, .int .u8 0, .int .u8 0, .int .u8 0, .int .u8 0, .int .u8 0, .int .u8 0, .int .u8 0, .int .u8 0, .int .u8 0, .int .u8 0, .int .u8 0, .int .u8 0, .int .i64 0, .int .u8 0, .int .u8 0, .int .u8 0, .int .u8 0, .int .i64 0, .int .i64 0, .int .i64 0, .int .i64 0, .slice none 0 0, .slice none 0 0] (by kernel_rfl) ?_; intro g5 w6 ge hh bb; have d_pa_ca := ne_new (hlt hpa) ge; have oca := Nat.le_trans bel.size ge; replace hpa := blk_u hpa bb; replace bel := bel.trans (bb.mono bel.size); have hca := hh; clear hh ge bb) | ((with_reducible show wpList _ _ _ (⟨none, Op.store _ (.tmp 5) _, _, _, _, _⟩ :: _) _ _); refine wpList_store_blk rfl 32 (.tmp 5) (.tmp 31) rfl g5 rfl _ rfl _ 32 hca (by rfl) (by kernel_rfl) (by kernel_rfl) ?_; intro w7 hq gr; replace hpa := blk_a hpa gr d_pa_ca; replace bel := below_grown bel gr oca bel.size; clear hca; have hca := hq; clear hq gr; have R34 := Lib.hid (range_lit hpa 0 4 [.int .u8 (A.a.toNat : Int), .int .u8 (A.b.toNat : Int), .int .u8 (A.c.toNat : Int), .int .u8 (A.d.toNat : Int)] rfl)) | ((with_reducible show wpList _ _ _ (⟨some 34, _, _, _, _, _⟩ :: _) _ _); refine wpList_load_rng 24 (.tmp 2) rfl (by kernel_rfl) _ _ rfl _ R34.out _ Tryd.underlying24 rfl (by kernel_rfl) ?_) | ((with_reducible show wpList _ _ _ (⟨some 8, _, _, _, _, _⟩ :: _) _ _); refine wpList_new_a rfl 26 rfl #[.int .u8 0, .int .u8 0, .int .u8 0, .int .u8 0, .int .i64 0] (by kernel_rfl) ?_; intro g8 w8 ge hh bb; have d_pa_na := ne_new (hlt hpa) ge; have d_ca_na := ne_new (hlt hca) ge; have ona := Nat.le_trans bel.size ge; replace hpa := blk_u hpa bb; replace hca := blk_u hca bb; replace bel := bel.trans (bb.mono bel.size); have hna := hh; clear hh ge bb) | ((with_reducible show wpList _ _ _ (⟨none, Op.store _ (.tmp 8) _, _, _, _, _⟩ :: _) _ _); refine wpList_store_blk rfl 26 (.tmp 8) (.tmp 36) rfl g8 rfl _ rfl _ 26 hna (by rfl) (by kernel_rfl) (by kernel_rfl) ?_; intro w9 hq gr; replace hpa := blk_a hpa gr d_pa_na; replace hca := blk_a hca gr d_ca_na; replace bel := below_grown bel gr ona bel.size; clear hna; have hna := hq; clear hq gr; have R37 := Lib.hid (range_lit hna 0 5 [.int .u8 (A.a.toNat : Int), .int .u8 (A.b.toNat : Int), .int .u8 (A.c.toNat : Int), .int .u8 (A.d.toNat : Int), .int .i64 (n : Int)] rfl)) | ((with_reducible show wpList _ _ _ (⟨some 37, _, _, _, _, _⟩ :: _) _ _); refine wpList_load_rng 26 (.tmp 8) rfl (by kernel_rfl) _ _ rfl _ R37.out _ Tryd.underlying26 rfl (by kernel_rfl) ?_))
                  try clear R34
                  try clear R37
                  with_reducible refine (afirst_any _ _ _ _ _ _).mono ?_
                  rintro e w10 ⟨rfl, b10⟩
                  replace hpa := blk_u hpa b10
                  replace hca := blk_u hca b10
                  replace hna := blk_u hna b10
                  replace bel := bel.trans (b10.mono bel.size)
                  clear b10
                  rw [show firstN (be [A.a, A.b, A.c, A.d]) (clamp (n : Int)) = f from HF.out]
                  go_wp2_with fail
                  with_reducible refine (anum_adr f _ HFL.out).mono ?_
                  rintro e w11 ⟨rfl, b11⟩
                  replace hpa := blk_u hpa b11
                  replace hca := blk_u hca b11
                  replace hna := blk_u hna b11
                  replace bel := bel.trans (b11.mono bel.size)
                  clear b11
                  have R51 := Lib.hid (range_lit hna 0 5 [.int .u8 (A.a.toNat : Int), .int .u8 (A.b.toNat : Int), .int .u8 (A.c.toNat : Int), .int .u8 (A.d.toNat : Int), .int .i64 (n : Int)] rfl)
                  go_wp2_with (first | ((with_reducible show wpList _ _ _ (⟨some 51, _, _, _, _, _⟩ :: _) _ _); refine wpList_load_rng 26 (.tmp 8) rfl (by kernel_rfl) _ _ rfl _ R51.out _ Tryd.underlying26 rfl (by kernel_rfl) ?_))
                  try clear R51
                  with_reducible refine (alast_any _ _ _ _ _ _).mono ?_
                  rintro e w12 ⟨rfl, b12⟩
                  replace hpa := blk_u hpa b12
                  replace hca := blk_u hca b12
                  replace hna := blk_u hna b12
                  replace bel := bel.trans (b12.mono bel.size)
                  clear b12
                  rw [show lastN (be [A.a, A.b, A.c, A.d]) (clamp (n : Int)) = z from HZ.out]
                  go_wp2_with fail
                  with_reducible refine (anum_adr z _ HZL.out).mono ?_
                  rintro e w13 ⟨rfl, b13⟩
                  replace hpa := blk_u hpa b13
                  replace hca := blk_u hca b13
                  replace hna := blk_u hna b13
                  replace bel := bel.trans (b13.mono bel.size)
                  clear b13
                  have R63 := Lib.hid (range_lit hpa 0 4 [.int .u8 (A.a.toNat : Int), .int .u8 (A.b.toNat : Int), .int .u8 (A.c.toNat : Int), .int .u8 (A.d.toNat : Int)] rfl)
                  go_wp2_with (first | ((with_reducible show wpList _ _ _ (⟨some 63, _, _, _, _, _⟩ :: _) _ _); refine wpList_load_rng 24 (.tmp 2) rfl (by kernel_rfl) _ _ rfl _ R63.out _ Tryd.underlying24 rfl (by kernel_rfl) ?_))
                  try clear R63
                  with_reducible refine (anum_any _ _ _ _ _).mono ?_
                  rintro e w14 ⟨rfl, b14⟩
                  replace hpa := blk_u hpa b14
                  replace hca := blk_u hca b14
                  replace hna := blk_u hna b14
                  replace bel := bel.trans (b14.mono bel.size)
                  clear b14
                  rw [show be [A.a, A.b, A.c, A.d] = x from HXX.out]
                  have R71 := Lib.hid (range_lit hna 0 5 [.int .u8 (A.a.toNat : Int), .int .u8 (A.b.toNat : Int), .int .u8 (A.c.toNat : Int), .int .u8 (A.d.toNat : Int), .int .i64 (n : Int)] rfl)
                  go_wp2_with (first | ((with_reducible show wpList _ _ _ (⟨some 71, _, _, _, _, _⟩ :: _) _ _); refine wpList_load_rng 26 (.tmp 8) rfl (by kernel_rfl) _ _ rfl _ R71.out _ Tryd.underlying26 rfl (by kernel_rfl) ?_))
                  try clear R71
                  with_reducible refine (alast_any _ _ _ _ _ _).mono ?_
                  rintro e w15 ⟨rfl, b15⟩
                  replace hpa := blk_u hpa b15
                  replace hca := blk_u hca b15
                  replace hna := blk_u hna b15
                  replace bel := bel.trans (b15.mono bel.size)
                  clear b15
                  rw [show lastN (be [A.a, A.b, A.c, A.d]) (clamp (n : Int)) = z from HZ.out]
                  go_wp2_with fail
                  with_reducible refine (anum_adr z _ HZL.out).mono ?_
                  rintro e w16 ⟨rfl, b16⟩
                  replace hpa := blk_u hpa b16
                  replace hca := blk_u hca b16
                  replace hna := blk_u hna b16
                  replace bel := bel.trans (b16.mono bel.size)
                  clear b16
                  have R104 := Lib.hid (range_lit hca 0 4 [.int .u8 (cc.own.a.toNat : Int), .int .u8 (cc.own.b.toNat : Int), .int .u8 (cc.own.c.toNat : Int), .int .u8 (cc.own.d.toNat : Int)] rfl)
                  go_wp2_with (first | ((with_reducible show wpList _ _ _ (⟨some 104, _, _, _, _, _⟩ :: _) _ _); refine wpList_load_rng 24 (.tmp 103) rfl (by kernel_rfl) _ _ rfl _ R104.out _ Tryd.underlying24 rfl (by kernel_rfl) ?_; have R105 := Lib.hid (range_lit hpa 0 4 [.int .u8 (A.a.toNat : Int), .int .u8 (A.b.toNat : Int), .int .u8 (A.c.toNat : Int), .int .u8 (A.d.toNat : Int)] rfl)) | ((with_reducible show wpList _ _ _ (⟨some 105, _, _, _, _, _⟩ :: _) _ _); refine wpList_load_rng 24 (.tmp 2) rfl (by kernel_rfl) _ _ rfl _ R105.out _ Tryd.underlying24 rfl (by kernel_rfl) ?_; have R109 := Lib.hid (range_lit hca 21 4 [.int .u8 (cc.first.a.toNat : Int), .int .u8 (cc.first.b.toNat : Int), .int .u8 (cc.first.c.toNat : Int), .int .u8 (cc.first.d.toNat : Int)] rfl)) | ((with_reducible show wpList _ _ _ (⟨some 109, _, _, _, _, _⟩ :: _) _ _); refine wpList_load_rng 24 (.tmp 108) rfl (by kernel_rfl) _ _ rfl _ R109.out _ Tryd.underlying24 rfl (by kernel_rfl) ?_))
                  try clear R104
                  try clear R105
                  try clear R109
                  with_reducible refine (anum_any _ _ _ _ _).mono ?_
                  rintro e w17 ⟨rfl, b17⟩
                  replace hpa := blk_u hpa b17
                  replace hca := blk_u hca b17
                  replace hna := blk_u hna b17
                  replace bel := bel.trans (b17.mono bel.size)
                  clear b17
                  rw [show be [cc.first.a, cc.first.b, cc.first.c, cc.first.d] = lo from HCF.out]
                  have R117 := Lib.hid (range_lit hca 25 4 [.int .u8 (cc.last.a.toNat : Int), .int .u8 (cc.last.b.toNat : Int), .int .u8 (cc.last.c.toNat : Int), .int .u8 (cc.last.d.toNat : Int)] rfl)
                  go_wp2_with (first | ((with_reducible show wpList _ _ _ (⟨some 117, _, _, _, _, _⟩ :: _) _ _); refine wpList_load_rng 24 (.tmp 116) rfl (by kernel_rfl) _ _ rfl _ R117.out _ Tryd.underlying24 rfl (by kernel_rfl) ?_))
                  try clear R117
                  with_reducible refine (anum_any _ _ _ _ _).mono ?_
                  rintro e w18 ⟨rfl, b18⟩
                  replace hpa := blk_u hpa b18
                  replace hca := blk_u hca b18
                  replace hna := blk_u hna b18
                  replace bel := bel.trans (b18.mono bel.size)
                  clear b18
                  rw [show be [cc.last.a, cc.last.b, cc.last.c, cc.last.d] = hi from HCL.out]
                  have R124 := Lib.hid (range_lit hna 0 5 [.int .u8 (A.a.toNat : Int), .int .u8 (A.b.toNat : Int), .int .u8 (A.c.toNat : Int), .int .u8 (A.d.toNat : Int), .int .i64 (n : Int)] rfl)
                  go_wp2_with (first | ((with_reducible show wpList _ _ _ (⟨some 124, _, _, _, _, _⟩ :: _) _ _); refine wpList_load_rng 26 (.tmp 8) rfl (by kernel_rfl) _ _ rfl _ R124.out _ Tryd.underlying26 rfl (by kernel_rfl) ?_; have R126 := Lib.hid (range_lit hca 21 4 [.int .u8 (cc.first.a.toNat : Int), .int .u8 (cc.first.b.toNat : Int), .int .u8 (cc.first.c.toNat : Int), .int .u8 (cc.first.d.toNat : Int)] rfl)) | ((with_reducible show wpList _ _ _ (⟨some 126, _, _, _, _, _⟩ :: _) _ _); refine wpList_load_rng 24 (.tmp 125) rfl (by kernel_rfl) _ _ rfl _ R126.out _ Tryd.underlying24 rfl (by kernel_rfl) ?_))
                  try clear R124
                  try clear R126
                  with_reducible refine (ahas_any _ _ _ _ _ _ _ _ _ _).mono ?_
                  rintro e w19 ⟨rfl, b19⟩
                  replace hpa := blk_u hpa b19
                  replace hca := blk_u hca b19
                  replace hna := blk_u hna b19
                  replace bel := bel.trans (b19.mono bel.size)
                  clear b19
                  rw [show (firstN (be [A.a, A.b, A.c, A.d]) (clamp (n : Int)) == firstN (be [cc.first.a, cc.first.b, cc.first.c, cc.first.d]) (clamp (n : Int))) = true from HN1.out]
                  have R130 := Lib.hid (range_lit hna 0 5 [.int .u8 (A.a.toNat : Int), .int .u8 (A.b.toNat : Int), .int .u8 (A.c.toNat : Int), .int .u8 (A.d.toNat : Int), .int .i64 (n : Int)] rfl)
                  go_wp2_with (first | ((with_reducible show wpList _ _ _ (⟨some 130, _, _, _, _, _⟩ :: _) _ _); refine wpList_load_rng 26 (.tmp 8) rfl (by kernel_rfl) _ _ rfl _ R130.out _ Tryd.underlying26 rfl (by kernel_rfl) ?_; have R132 := Lib.hid (range_lit hca 25 4 [.int .u8 (cc.last.a.toNat : Int), .int .u8 (cc.last.b.toNat : Int), .int .u8 (cc.last.c.toNat : Int), .int .u8 (cc.last.d.toNat : Int)] rfl)) | ((with_reducible show wpList _ _ _ (⟨some 132, _, _, _, _, _⟩ :: _) _ _); refine wpList_load_rng 24 (.tmp 131) rfl (by kernel_rfl) _ _ rfl _ R132.out _ Tryd.underlying24 rfl (by kernel_rfl) ?_))
                  try clear R130
                  try clear R132
                  with_reducible refine (ahas_any _ _ _ _ _ _ _ _ _ _).mono ?_
                  rintro e w20 ⟨rfl, b20⟩
                  replace hpa := blk_u hpa b20
                  replace hca := blk_u hca b20
                  replace hna := blk_u hna b20
                  replace bel := bel.trans (b20.mono bel.size)
                  clear b20
                  rw [show (firstN (be [A.a, A.b, A.c, A.d]) (clamp (n : Int)) == firstN (be [cc.last.a, cc.last.b, cc.last.c, cc.last.d]) (clamp (n : Int))) = true from HN2.out]
                  go_wp2_with fail
                  go_ret
                  exact ⟨rfl, bel⟩
                · have d4_ : decide (hi < x) = false := decide_eq_false d4
                  have HPS : Hid (parseS tc = (zeroC, 0, 1)) := Lib.hid (by rw [HTC3.out]; exact (nets_law A h8 h28).2.1 (by rw [HXX.out, HF.out, HZ.out, HLO.out, HHI.out]; rw [show (x == f) = false from beq_eq_false_iff_ne.2 (by omega), show (x == z) = false from beq_eq_false_iff_ne.2 (by omega)]; rw [d3_, d4_]; rfl))
                  clear P3 P4 P5 P6 P7 P8 PF PZ PX
                  clear d1 d2 d3 d4
                  have R23 := Lib.hid (range_lit hpa 0 4 [.int .u8 (A.a.toNat : Int), .int .u8 (A.b.toNat : Int), .int .u8 (A.c.toNat : Int), .int .u8 (A.d.toNat : Int)] rfl)
                  go_wp2_with (first | ((with_reducible show wpList _ _ _ (⟨some 23, _, _, _, _, _⟩ :: _) _ _); refine wpList_load_rng 24 (.tmp 2) rfl (by kernel_rfl) _ _ rfl _ R23.out _ Tryd.underlying24 rfl (by kernel_rfl) ?_))
                  try clear R23
                  with_reducible refine (atext_any _ _ _ _ _ hT).mono ?_
                  rintro e w3 ⟨rfl, b3⟩
                  replace hpa := blk_u hpa b3
                  replace hT := hT.below b3
                  replace bel := bel.trans (b3.mono bel.size)
                  clear b3
                  rw [show adT A.a A.b A.c A.d = ta from HTA.out]
                  clear hT
                  have R25 := fun W => st_cat HTX.out BTX.out W
                  have R26 := fun W => st_cat HTY.out BTY.out W
                  go_wp2_with fail
                  clear R25 R26
                  with_reducible refine (rtext_v (v := (n : Int)) rfl hn9 _).mono ?_
                  rintro e w4 ⟨rfl, b4⟩
                  replace hpa := blk_u hpa b4
                  replace bel := bel.trans (b4.mono bel.size)
                  clear b4
                  rw [show decT n = dg from HDG.out]
                  have R29 := fun W => st_cat HTC.out BTC.out W
                  go_wp2_with fail
                  clear R29
                  with_reducible refine (cparse_is HPS.out HTL.out _).mono ?_
                  rintro e w5 ⟨Fx, nf, cf, Ox, nx, cx, rfl, hf, ho, frF, frO, b5⟩
                  replace hpa := blk_u hpa b5
                  replace bel := bel.trans (b5.mono bel.size)
                  clear b5
                  clear hf ho frF frO
                  go_wp2_with (first | ((with_reducible show wpList _ _ _ (⟨some 5, _, _, _, _, _⟩ :: _) _ _); refine wpList_new_a rfl 32 rfl #[.int .u8 0, .int .u8 0, .int .u8 0, .int .u8 0, .int .u8 0, .int .u8 0, .int .u8 0, .int .u8 0, .int .i64 0, .int .u8 0, .int .u8 0, .int .u8 0, .int .u8 0, .int .u8 0, .int .u8 0, .int .u8 0, .int .u8 0, .int .u8 0, .int .u8 0, .int .u8 0, .int .u8 0, .int .u8 0, .int .u8 0, .int .u8 0, .int .u8 0, .int .u8 0, .int .u8 0, .int .u8 0, .int .u8 0, .int .i64 0, .int .u8 0, .int .u8 0, .int .u8 0, .int .u8 0, .int .i64 0, .int .i64 0, .int .i64 0, .int .i64 0, .slice none 0 0, .slice none 0 0] (by kernel_rfl) ?_; intro g5 w6 ge hh bb; have d_pa_ca := ne_new (hlt hpa) ge; have oca := Nat.le_trans bel.size ge; replace hpa := blk_u hpa bb; replace bel := bel.trans (bb.mono bel.size); have hca := hh; clear hh ge bb) | ((with_reducible show wpList _ _ _ (⟨none, Op.store _ (.tmp 5) _, _, _, _, _⟩ :: _) _ _); refine wpList_store_blk rfl 32 (.tmp 5) (.tmp 31) rfl g5 rfl _ rfl _ 32 hca (by rfl) (by kernel_rfl) (by kernel_rfl) ?_; intro w7 hq gr; replace hpa := blk_a hpa gr d_pa_ca; replace bel := below_grown bel gr oca bel.size; clear hca; have hca := hq; clear hq gr; have R34 := Lib.hid (range_lit hpa 0 4 [.int .u8 (A.a.toNat : Int), .int .u8 (A.b.toNat : Int), .int .u8 (A.c.toNat : Int), .int .u8 (A.d.toNat : Int)] rfl)) | ((with_reducible show wpList _ _ _ (⟨some 34, _, _, _, _, _⟩ :: _) _ _); refine wpList_load_rng 24 (.tmp 2) rfl (by kernel_rfl) _ _ rfl _ R34.out _ Tryd.underlying24 rfl (by kernel_rfl) ?_) | ((with_reducible show wpList _ _ _ (⟨some 8, _, _, _, _, _⟩ :: _) _ _); refine wpList_new_a rfl 26 rfl #[.int .u8 0, .int .u8 0, .int .u8 0, .int .u8 0, .int .i64 0] (by kernel_rfl) ?_; intro g8 w8 ge hh bb; have d_pa_na := ne_new (hlt hpa) ge; have d_ca_na := ne_new (hlt hca) ge; have ona := Nat.le_trans bel.size ge; replace hpa := blk_u hpa bb; replace hca := blk_u hca bb; replace bel := bel.trans (bb.mono bel.size); have hna := hh; clear hh ge bb) | ((with_reducible show wpList _ _ _ (⟨none, Op.store _ (.tmp 8) _, _, _, _, _⟩ :: _) _ _); refine wpList_store_blk rfl 26 (.tmp 8) (.tmp 36) rfl g8 rfl _ rfl _ 26 hna (by rfl) (by kernel_rfl) (by kernel_rfl) ?_; intro w9 hq gr; replace hpa := blk_a hpa gr d_pa_na; replace hca := blk_a hca gr d_ca_na; replace bel := below_grown bel gr ona bel.size; clear hna; have hna := hq; clear hq gr; have R37 := Lib.hid (range_lit hna 0 5 [.int .u8 (A.a.toNat : Int), .int .u8 (A.b.toNat : Int), .int .u8 (A.c.toNat : Int), .int .u8 (A.d.toNat : Int), .int .i64 (n : Int)] rfl)) | ((with_reducible show wpList _ _ _ (⟨some 37, _, _, _, _, _⟩ :: _) _ _); refine wpList_load_rng 26 (.tmp 8) rfl (by kernel_rfl) _ _ rfl _ R37.out _ Tryd.underlying26 rfl (by kernel_rfl) ?_))
                  try clear R34
                  try clear R37
                  with_reducible refine (afirst_any _ _ _ _ _ _).mono ?_
                  rintro e w10 ⟨rfl, b10⟩
                  replace hpa := blk_u hpa b10
                  replace hca := blk_u hca b10
                  replace hna := blk_u hna b10
                  replace bel := bel.trans (b10.mono bel.size)
                  clear b10
                  rw [show firstN (be [A.a, A.b, A.c, A.d]) (clamp (n : Int)) = f from HF.out]
                  go_wp2_with fail
                  with_reducible refine (anum_adr f _ HFL.out).mono ?_
                  rintro e w11 ⟨rfl, b11⟩
                  replace hpa := blk_u hpa b11
                  replace hca := blk_u hca b11
                  replace hna := blk_u hna b11
                  replace bel := bel.trans (b11.mono bel.size)
                  clear b11
                  have R51 := Lib.hid (range_lit hna 0 5 [.int .u8 (A.a.toNat : Int), .int .u8 (A.b.toNat : Int), .int .u8 (A.c.toNat : Int), .int .u8 (A.d.toNat : Int), .int .i64 (n : Int)] rfl)
                  go_wp2_with (first | ((with_reducible show wpList _ _ _ (⟨some 51, _, _, _, _, _⟩ :: _) _ _); refine wpList_load_rng 26 (.tmp 8) rfl (by kernel_rfl) _ _ rfl _ R51.out _ Tryd.underlying26 rfl (by kernel_rfl) ?_))
                  try clear R51
                  with_reducible refine (alast_any _ _ _ _ _ _).mono ?_
                  rintro e w12 ⟨rfl, b12⟩
                  replace hpa := blk_u hpa b12
                  replace hca := blk_u hca b12
                  replace hna := blk_u hna b12
                  replace bel := bel.trans (b12.mono bel.size)
                  clear b12
                  rw [show lastN (be [A.a, A.b, A.c, A.d]) (clamp (n : Int)) = z from HZ.out]
                  go_wp2_with fail
                  with_reducible refine (anum_adr z _ HZL.out).mono ?_
                  rintro e w13 ⟨rfl, b13⟩
                  replace hpa := blk_u hpa b13
                  replace hca := blk_u hca b13
                  replace hna := blk_u hna b13
                  replace bel := bel.trans (b13.mono bel.size)
                  clear b13
                  have R63 := Lib.hid (range_lit hpa 0 4 [.int .u8 (A.a.toNat : Int), .int .u8 (A.b.toNat : Int), .int .u8 (A.c.toNat : Int), .int .u8 (A.d.toNat : Int)] rfl)
                  go_wp2_with (first | ((with_reducible show wpList _ _ _ (⟨some 63, _, _, _, _, _⟩ :: _) _ _); refine wpList_load_rng 24 (.tmp 2) rfl (by kernel_rfl) _ _ rfl _ R63.out _ Tryd.underlying24 rfl (by kernel_rfl) ?_))
                  try clear R63
                  with_reducible refine (anum_any _ _ _ _ _).mono ?_
                  rintro e w14 ⟨rfl, b14⟩
                  replace hpa := blk_u hpa b14
                  replace hca := blk_u hca b14
                  replace hna := blk_u hna b14
                  replace bel := bel.trans (b14.mono bel.size)
                  clear b14
                  rw [show be [A.a, A.b, A.c, A.d] = x from HXX.out]
                  have R71 := Lib.hid (range_lit hna 0 5 [.int .u8 (A.a.toNat : Int), .int .u8 (A.b.toNat : Int), .int .u8 (A.c.toNat : Int), .int .u8 (A.d.toNat : Int), .int .i64 (n : Int)] rfl)
                  go_wp2_with (first | ((with_reducible show wpList _ _ _ (⟨some 71, _, _, _, _, _⟩ :: _) _ _); refine wpList_load_rng 26 (.tmp 8) rfl (by kernel_rfl) _ _ rfl _ R71.out _ Tryd.underlying26 rfl (by kernel_rfl) ?_))
                  try clear R71
                  with_reducible refine (alast_any _ _ _ _ _ _).mono ?_
                  rintro e w15 ⟨rfl, b15⟩
                  replace hpa := blk_u hpa b15
                  replace hca := blk_u hca b15
                  replace hna := blk_u hna b15
                  replace bel := bel.trans (b15.mono bel.size)
                  clear b15
                  rw [show lastN (be [A.a, A.b, A.c, A.d]) (clamp (n : Int)) = z from HZ.out]
                  go_wp2_with fail
                  with_reducible refine (anum_adr z _ HZL.out).mono ?_
                  rintro e w16 ⟨rfl, b16⟩
                  replace hpa := blk_u hpa b16
                  replace hca := blk_u hca b16
                  replace hna := blk_u hna b16
                  replace bel := bel.trans (b16.mono bel.size)
                  clear b16
                  go_wp2_with fail
                  go_ret
                  exact ⟨rfl, bel⟩
theorem confNets_walk (a b c d : UInt8) (bt : Int) (w : World) (hT : Tab w) : Calls Tryd.prog 6 #[.agg #[.int .u8 (a.toNat : Int), .int .u8 (b.toNat : Int), .int .u8 (c.toNat : Int), .int .u8 (d.toNat : Int)], .int .i64 bt] w fun e w' => e = .returned (.bool true) ∧ Below w.heap.size w w' := confNets_w ⟨a, b, c, d⟩ bt w hT
end Go.Proofs.YtdfobilagidmfaaDoor
