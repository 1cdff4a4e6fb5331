/- opt's Get. -/
import Derived.Test.YtmljgpefbbifmaaOpg
namespace Go.Proofs.Ytmljgpefbbifmaa
open Go.RowKit

theorem Try.info_opt : (Try.prog.info? 38).map (fun i => (i.zero, i.size, i.bytes)) = some (some (.agg #[.int .i64 0, .slice none 0 0]), 2, 32) := by kernel_rfl
theorem bn_push {hs : List Oh} {N n8 a : Nat} {c : Int} {A : Option Addr} {c8 : Nat} {x : UInt8} {r : List UInt8} (h : ∀ y ∈ hs, y.n + (x :: r).length ≤ N) (h2 : a + n8 ≤ r.length) (h3 : r.length + 1 ≤ N) : ∀ y ∈ hs ++ [⟨c, A, n8, c8⟩], y.n + a ≤ N := by
  intro y hy
  rcases List.mem_append.1 hy with h1 | h1
  · have := h y h1; rw [List.length_cons] at this; omega
  · simp only [List.mem_singleton] at h1
    subst h1
    show n8 + a ≤ N
    omega
theorem bn_set {hs : List Oh} {N n8 a i : Nat} {y : Oh} {c : Int} {A : Option Addr} {c8 : Nat} {x : UInt8} {r : List UInt8} (h : ∀ y ∈ hs, y.n + (x :: r).length ≤ N) (h2 : a + n8 ≤ r.length) (hy : hs[i]? = some y) : ∀ z ∈ hs.set i ⟨c, A, y.n + n8, c8⟩, z.n + a ≤ N := by
  intro z hz
  have h3 := h y (List.mem_of_getElem? hy)
  rw [List.length_cons] at h3
  rcases List.mem_or_eq_of_mem_set hz with h1 | h1
  · have := h z h1; rw [List.length_cons] at this; omega
  · subst h1
    show y.n + n8 + a ≤ N
    omega
set_option linter.unusedVariables false in
set_option linter.unusedSimpArgs false in
set_option maxRecDepth 100000 in
set_option maxHeartbeats 16000000 in
theorem oget_any {A : Option Addr} {n c : Nat} {l : List UInt8} (w : World) (bs : Sl w A n c l) (hn : n ≤ 100000) : Calls Try.prog 19 #[.slice A n c] w fun e w' => ∃ A' n' c' hs, e = .returned (.tuple #[.slice A' n' c', .int .i64 (getS l).2]) ∧ (Sle opE 2 w' A' n' c' hs ∧ Bd w' hs (getS l).1) ∧ n' ≤ 100000 ∧ (∀ x ∈ hs, x.n ≤ 100000) ∧ Below w.heap.size w w' := by
  have hn2 : l.length ≤ 100000 := by have := bs.1; omega
  obtain ⟨io, hio, hio0, hio1, hio2⟩ := info_parts Try.info_opt
  obtain ⟨ii, hii, hz0, hz1, hz2⟩ := info_parts Try.info_u8
  have bel := Below.refl w.heap.size w
  go_enter Try.func19, Try.ntmps19
  go_wp2_with fail
  with_reducible refine (rs_read _ _ _ _ _ bs (by omega)).mono ?_
  rintro e w1 ⟨gr, rfl, org, hr, b1⟩
  replace bs := bs.below b1
  replace bel := bel.trans (b1.mono bel.size)
  clear b1
  obtain ⟨lo, hlo2⟩ : ∃ x, w1.heap.size = x := ⟨_, rfl⟩
  rw [hlo2] at hr
  go_wp2_with (first | ((with_reducible show wpList _ _ _ (⟨some 6, _, _, _, _, _⟩ :: _) _ _); refine wpList_new_a rfl 80 rfl (placesL []).toArray (by kernel_rfl) ?_; intro g6 w2 ge hh bb; have hgl : lo ≤ g6 := hlo2 ▸ ge; have av_bs_pl := bs.av_new ge; have opl := Nat.le_trans bel.size ge; replace bs := bs.below bb; replace hr := hr.below bb; replace bel := bel.trans (bb.mono bel.size); have hpl := hh; clear hh ge bb))
  simp only [Act.put, List.setIfInBounds_toArray, List.set_cons_zero, List.set_cons_succ]
  obtain ⟨B, hB⟩ : ∃ x, w2.heap.size = x := ⟨_, rfl⟩
  have hgB : g6 < B := hB ▸ hlt hpl
  have hloB : lo ≤ B := Nat.le_of_lt (Nat.lt_of_le_of_lt hgl hgB)
  have hbB : w.heap.size ≤ B := Nat.le_trans (Nat.le_trans bel.size (Nat.le_of_eq hB)) (Nat.le_refl _)
  have hBW : B ≤ w2.heap.size := Nat.le_of_eq hB.symm
  have own : w2.ownsRow B 38 2 (.slice none 0 0) 0 (([] : List Oh).flatMap opE) := World.ownsRow_nil _ _ _ _
  have bo : Bo w2 B [] [] := Bo.nil _ _
  clear hB hlo2
  clear bs
  go_wp2_with fail
  go_loopg [5] (l.length) (fun gk s5 wr => ∃ rest : List UInt8, ∃ sh : Bool, ∃ A1 : Option Addr, ∃ n1 : Nat, ∃ c1 : Nat, ∃ hs : List Oh, ∃ L : OptL, gk = rest.length ∧ Hid (getL l [] = if sh = true then none else getL rest L) ∧ Hid (sh = true → rest = []) ∧ Hid ((L.map (·.1)).Nodup) ∧ Hid (n1 + rest.length ≤ l.length) ∧ Hid (∀ x ∈ hs, x.n + rest.length ≤ l.length) ∧ Rs lo gr wr rest sh ∧ wr.ownsRow B 38 2 (.slice A1 n1 c1) n1 (hs.flatMap opE) ∧ Bo wr B hs L ∧ B ≤ wr.heap.size ∧ s5 = .slice A1 n1 c1 ∧ wr.heap[g6]? = some (.cells (placesL L).toArray 80 (0, 0)) ∧ Below w.heap.size w wr)
  case atStart => exact ⟨l, false, none, 0, 0, [], [], rfl, Lib.hid rfl, Lib.hid (fun h => by cases h), Lib.hid List.nodup_nil, Lib.hid (by omega), Lib.hid (fun x h => by cases h), hr, own, bo, hBW, rfl, hpl, bel⟩
  case round =>
    clear hr own bo hBW hpl bel
    obtain ⟨rest, sh, A1, n1, c1, hs, L, HGK, HG, HSH, HND, HLN, HBN, hr, own, bo, hBW, rfl, hpl, bel⟩ := hrel
    have HGK_ := Lib.hid HGK
    clear HGK
    rcases rest with _ | ⟨x, r⟩
    · have HP : Hid (getL l [] = none) := Lib.hid (by rw [HG.out]; split; rfl; exact get_none _)
      go_wp2_with fail
      with_reducible refine (rs_u8e _ hr).mono ?_
      rintro e w3 ⟨rfl, hr_, gg, k_⟩
      replace hpl := Kt.blk k_ hpl (by decide)
      replace own := k_.own own (by decide)
      replace bo := bo.kt k_ (by decide)
      replace hBW := Nat.le_trans hBW gg.size
      replace bel := below_grown bel gg org bel.size
      clear hr gg k_
      have hr := hr_
      clear hr_
      go_wp2_with fail
      with_reducible refine (rs_short _ hr).mono ?_
      rintro e _ ⟨rfl, rfl⟩
      go_wp2_with fail
      exact bodyPost_ret (v := .tuple #[.slice none 0 0, .int .i64 3]) (by simp [results, Try.results19, go_sem]) rfl ⟨none, 0, 0, [], by rw [gets_no HP.out], by rw [gets_no HP.out]; exact ⟨Sle.nil (by decide) opE_len _, Bd.nil _⟩, Nat.zero_le _, (fun x h => by cases h), bel⟩
    obtain rfl : sh = false := by rcases sh with _ | _; rfl; exact absurd (HSH.out rfl) (by simp)
    go_wp2_with fail
    with_reducible refine (rs_u8 _ hr).mono ?_
    rintro e w3 ⟨rfl, hr_, gg, k_⟩
    replace hpl := Kt.blk k_ hpl (by decide)
    replace own := k_.own own (by decide)
    replace bo := bo.kt k_ (by decide)
    replace hBW := Nat.le_trans hBW gg.size
    replace bel := below_grown bel gg org bel.size
    clear hr gg k_
    have hr := hr_
    clear hr_
    go_wp2_with fail
    with_reducible refine (rs_short _ hr).mono ?_
    rintro e _ ⟨rfl, rfl⟩
    by_cases h1 : x = 255
    · have HP : Hid (getL l [] = some L) := Lib.hid (by rw [HG.out, h1]; exact get_end _ _)
      have e5 : ((x.toNat : Int) == 255) = true := by rw [h1]; rfl
      have HB := Lib.hid (fun (y : Oh) (hy : y ∈ hs) => (show y.n ≤ 100000 by have h1 := HBN.out y hy; omega))
      have HN1 : Hid (n1 ≤ 100000) := Lib.hid (by have := HLN.out; omega)
      clear h1
      go_wp2_with fail
      exact bodyPost_ret (v := .tuple #[.slice A1 n1 c1, .int .i64 0]) (by simp [results, Try.results19, go_sem]) rfl ⟨A1, n1, c1, hs, by rw [gets_ok HP.out], by rw [gets_ok HP.out]; exact ⟨(owk_sle (by decide) opE_len own).1, bo.bd⟩, HN1.out, HB.out, bel⟩
    have HX5 : Hid (¬ x = 255) := Lib.hid h1
    have e5 : ((x.toNat : Int) == 255) = false := beq_eq_false_iff_ne.2 (fun h_ => h1 (UInt8.toNat_inj.1 (by show x.toNat = 255; omega)))
    clear h1
    by_cases h2 : x = 0
    · have HG2 : Hid (getL l [] = if false = true then none else getL r L) := Lib.hid (by rw [HG.out, h2]; exact get_pad _ _)
      have e0 : ((x.toNat : Int) == 0) = true := by rw [h2]; rfl
      clear h2
      go_wp2_with fail
      go_roundg (r.length)
      case measure => have h2_ := HGK_.out; rw [List.length_cons] at h2_; omega
      case rel => exact ⟨r, false, A1, n1, c1, hs, L, rfl, HG2, Lib.hid (fun h => by cases h), HND, Lib.hid (by have h2 := HLN.out; rw [List.length_cons] at h2; omega), Lib.hid (fun y hy => by have h2 := HBN.out y hy; rw [List.length_cons] at h2; omega), hr, own, bo, hBW, by go_num, hpl, bel⟩
    have HX0 : Hid (¬ x = 0) := Lib.hid h2
    have e0 : ((x.toNat : Int) == 0) = false := beq_eq_false_iff_ne.2 (fun h_ => h2 (UInt8.toNat_inj.1 (by show x.toNat = 0; omega)))
    clear h2
    replace HG : Hid (getL l [] = getL (x :: r) L) := Lib.hid HG.out
    go_upto_region 10 with fail
    go_cut [8] from 9999 (fun s8 W => ∃ rest2 : List UInt8, ∃ sh2 : Bool, ∃ A8 : Option Addr, ∃ n8 : Nat, ∃ c8 : Nat, ∃ bb : List UInt8, s8 = .slice A8 n8 c8 ∧ Rs lo gr W rest2 sh2 ∧ W.ownsRow B 5 1 (.slice A8 n8 c8) n8 (bb.map u8v) ∧ Hid (∀ (j : Nat) (y : Oh) (g : Nat), hs[j]? = some y → (ohV y).ownBlock = some g → Ofs (.slice A8 n8 c8) g) ∧ Hid (getL l [] = if sh2 = true then none else getL rest2 (joinL L (x.toNat : Int) bb)) ∧ Hid (sh2 = true → rest2 = []) ∧ Hid (rest2.length + n8 ≤ r.length) ∧ W.heap[g6]? = some (.cells (placesL L).toArray 80 (0, 0)) ∧ W.ownsRow B 38 2 (.slice A1 n1 c1) n1 (hs.flatMap opE) ∧ Bo W B hs L ∧ B ≤ W.heap.size ∧ Below w.heap.size w W)
    case first =>
      rcases r with _ | ⟨y, r2⟩
      · have HG3 : Hid (getL l [] = none) := Lib.hid (by rw [HG.out, get_cut HX5.out HX0.out])
        go_wp2_with fail
        with_reducible refine (rs_u8e _ hr).mono ?_
        rintro e w4 ⟨rfl, hr_, gg, k_⟩
        replace hpl := Kt.blk k_ hpl (by decide)
        replace own := k_.own own (by decide)
        replace bo := bo.kt k_ (by decide)
        replace hBW := Nat.le_trans hBW gg.size
        replace bel := below_grown bel gg org bel.size
        clear hr gg k_
        have hr := hr_
        clear hr_
        go_wp2_with fail
        with_reducible refine (rs_bytes0 _ hr).mono ?_
        rintro e w5 ⟨A8, c8, rfl, own8, hr_, gg, k_⟩
        replace hpl := Kt.blk k_ hpl (by decide)
        have HNEW := Lib.hid (bo.fresh (Nat.le_refl _) own8)
        replace own8 := ownsRow_mono own8 hBW
        replace own := k_.own own (by decide)
        replace bo := bo.kt k_ (by decide)
        replace hBW := Nat.le_trans hBW gg.size
        replace bel := below_grown bel gg org bel.size
        clear hr gg k_
        have hr := hr_
        clear hr_
        go_wp2_with fail
        go_meet
        case rel => exact ⟨[], true, A8, 0, c8, [], rfl, hr, own8, HNEW, Lib.hid (by rw [HG3.out]; rfl), Lib.hid (fun h => rfl), Lib.hid (Nat.zero_le _), hpl, own, bo, hBW, bel⟩
      go_wp2_with fail
      with_reducible refine (rs_u8 _ hr).mono ?_
      rintro e w4 ⟨rfl, hr_, gg, k_⟩
      replace hpl := Kt.blk k_ hpl (by decide)
      replace own := k_.own own (by decide)
      replace bo := bo.kt k_ (by decide)
      replace hBW := Nat.le_trans hBW gg.size
      replace bel := below_grown bel gg org bel.size
      clear hr gg k_
      have hr := hr_
      clear hr_
      by_cases hk : y.toNat ≤ r2.length
      rotate_left
      · have HK := Lib.hid hk
        clear hk
        have HG3 : Hid (getL l [] = none) := Lib.hid (by rw [HG.out, get_short HX5.out HX0.out HK.out])
        go_wp2_with fail
        with_reducible refine (rs_bytesn (k := y.toNat) _ hr (Nat.lt_of_not_le HK.out)).mono ?_
        rintro e w5 ⟨A8, c8, rfl, own8, hr_, gg, k_⟩
        replace hpl := Kt.blk k_ hpl (by decide)
        have HNEW := Lib.hid (bo.fresh (Nat.le_refl _) own8)
        replace own8 := ownsRow_mono own8 hBW
        replace own := k_.own own (by decide)
        replace bo := bo.kt k_ (by decide)
        replace hBW := Nat.le_trans hBW gg.size
        replace bel := below_grown bel gg org bel.size
        clear hr gg k_
        have hr := hr_
        clear hr_
        go_wp2_with fail
        go_meet
        case rel => exact ⟨[], true, A8, 0, c8, [], rfl, hr, own8, HNEW, Lib.hid (by rw [HG3.out]; rfl), Lib.hid (fun h => rfl), Lib.hid (Nat.zero_le _), hpl, own, bo, hBW, bel⟩
      have HK := Lib.hid hk
      clear hk
      have HG3 : Hid (getL l [] = getL (r2.drop y.toNat) (joinL L (x.toNat : Int) (r2.take y.toNat))) := Lib.hid (by rw [HG.out, get_one HX5.out HX0.out HK.out])
      go_wp2_with fail
      with_reducible refine (rs_bytes (k := y.toNat) _ hr HK.out (by have := y.toNat_lt; omega)).mono ?_
      rintro e w5 ⟨A8, c8, rfl, own8, hr_, gg, k_⟩
      replace hpl := Kt.blk k_ hpl (by decide)
      have HNEW := Lib.hid (bo.fresh (Nat.le_refl _) own8)
      replace own8 := ownsRow_mono own8 hBW
      replace own := k_.own own (by decide)
      replace bo := bo.kt k_ (by decide)
      replace hBW := Nat.le_trans hBW gg.size
      replace bel := below_grown bel gg org bel.size
      clear hr gg k_
      have hr := hr_
      clear hr_
      go_wp2_with fail
      go_meet
      case rel => exact ⟨r2.drop y.toNat, false, A8, y.toNat, c8, r2.take y.toNat, rfl, hr, own8, HNEW, Lib.hid (by rw [HG3.out]; rfl), Lib.hid (fun h => by cases h), Lib.hid (by have := HK.out; simp; omega), hpl, own, bo, hBW, bel⟩
    clear hpl own bo hBW bel
    obtain ⟨w55, hw_⟩ : ∃ x, x = wc := ⟨_, rfl⟩
    subst hw_
    obtain ⟨rest2, sh2, A8, n8, c8, bb, rfl, hr2, bdw, HNEW, HG2, HSH2, HL2, hpl, own, bo, hBW, bel⟩ := hcut
    clear hr
    have hr := hr2
    clear hr2
    have HX2 : Hid (x.toNat < 255) := Lib.hid (by have h1 := x.toNat_lt; have h2 := HX5.out; have h3 : ¬ x.toNat = 255 := (fun h_ => h2 (UInt8.toNat_inj.1 h_)); omega)
    have r30 : ∀ W, (Instr.indexAt 80 (.pointer (some ⟨g6, 0, none⟩)) (.int .i64 (x.toNat : Int))).run Try.prog W = .ok (.pointer (some ⟨g6, x.toNat, none⟩)) W := fun W => run_index_arr W _ _ 255 x.toNat g6 _ Try.underlying80 (by kernel_rfl) HX2.out (by decide) rfl
    rcases hix : L.findIdx? (fun p => p.1 == (x.toNat : Int)) with _ | i
    rotate_left
    · have HIX := Lib.hid hix
      clear hix
      obtain ⟨lb, hlb⟩ := idx_some' HIX.out
      have HLB := Lib.hid hlb
      obtain ⟨y, hy, hyc, hyo⟩ := bo.at hlb
      have HY := Lib.hid hy
      have HPO : Hid ((placesL L)[x.toNat]? = some (.int .i64 ((i : Int) + 1))) := Lib.hid (by rw [places_at _ HX2.out]; unfold posN; rw [HIX.out]; rfl)
      have HJ : Hid (joinL L (x.toNat : Int) bb = L.set i ((x.toNat : Int), lb ++ bb)) := Lib.hid (join_at hlb HND.out)
      have HPS : Hid (placesL (L.set i ((x.toNat : Int), lb ++ bb)) = placesL L) := Lib.hid (places_set hlb)
      have HIN : Hid (i < n1) := Lib.hid (by have h1 := (List.getElem?_eq_some_iff.1 hy).1; have h2 := row_len (by decide) opE_len own; omega)
      have k0 : (0 : Int) ≤ i := by omega
      have k1 : (i : Int) < n1 := by have := HIN.out; omega
      have k2 : (n1 : Int) ≤ 100000 := by have := HLN.out; omega
      have HYB : Hid (y.n + n8 ≤ 140737488355328) := Lib.hid (by have h1 := HBN.out y (List.mem_of_getElem? hy); have h2 := HL2.out; rw [List.length_cons] at h1; omega)
      have bd := (own_sl bdw).1
      obtain ⟨gE, hgE, _⟩ := row_at own (by have := HIN.out; omega)
      subst hgE
      have en := (owk_sle (by decide) opE_len own).1
      have off_pl := ofs_type own hpl (by decide)
      have hbo := hyo
      clear hy hyo hyc hlb bdw
      have R30 := r30
      have R31 := cell_lit hpl x.toNat _ (arr_at HPO.out)
      have R42 := Sle.zcell en HY.out 1 _ rfl
      go_wp2_with (first | ((with_reducible show wpList _ _ _ (⟨some 44, _, _, _, _, _⟩ :: _) _ _); refine wpList_append_bytes _ rfl (.tmp 42) (.tmp 43) 34 rfl B 5 ii (.int .u8 0) Try.underlying34 hii hz0 hz1 hz2 rfl (ohV y) y.n lb rfl hbo A8 n8 c8 bb rfl bd HYB.out hBW ?_; intro v44 w56 own_ gw hat; obtain ⟨A44, c44, rfl⟩ := own_val own_; have k9 := kt_row (S := [5]) gw hbo (by simp); replace hpl := k9.blk hpl (by decide); replace bo := bo.app HY.out HLB.out gw own_ (ofs_of hat); replace own := k9.own own (by decide); replace en := (owk_sle (by decide) opE_len own).1; replace hr := hr.row gw hbo hloB; replace bel := bel.trans ((row_bel gw hbo hBW).mono hbB); replace hBW := Nat.le_trans hBW gw.size; clear own_ gw hat k9 hbo bd) | ((with_reducible show wpList _ _ _ (⟨none, Op.store _ (.tmp 46) _, _, _, _, _⟩ :: _) _ _); refine wpList_store_el rfl 34 (.tmp 46) (.tmp 44) rfl gE i 1 y (⟨y.c, A44, y.n + n8, c44⟩) rfl [.slice A44 (y.n + n8) c44] rfl (by decide) opE_len own HY.out (Nat.le_of_ble_eq_true rfl) rfl (by kernel_rfl) (by rfl) ?_; intro w57 own_ gw; replace bel := bel.trans ((row_bel gw own hBW).mono hbB); replace hpl := blk_own (v := .slice (some ⟨gE, 0, none⟩) n1 c1) hpl gw off_pl; replace hr := hr.row gw own hloB; replace bo := bo.kt (kt_row gw own (by simp) : Kt [38] _ _) (by decide); replace hBW := Nat.le_trans hBW gw.size; clear own; have own := own_; clear own_ gw; replace en := (owk_sle (by decide) opE_len own).1))
      try clear R30
      try clear R31
      try clear R42
      rw [← HPS.out] at hpl
      go_roundg (rest2.length)
      case measure => have h1_ := HL2.out; have h2_ := HGK_.out; rw [List.length_cons] at h2_; omega
      case rel => exact ⟨rest2, sh2, some ⟨gE, 0, none⟩, n1, c1, hs.set i ⟨y.c, A44, y.n + n8, c44⟩, L.set i ((x.toNat : Int), lb ++ bb), rfl, Lib.hid (by rw [← HJ.out]; exact HG2.out), HSH2, Lib.hid (nodup_set HLB.out HND.out), Lib.hid (by have h1 := HL2.out; have h2 := HLN.out; rw [List.length_cons] at h2; omega), Lib.hid (bn_set HBN.out HL2.out HY.out), hr, own, bo, hBW, by go_num, hpl, bel⟩
    have HIX := Lib.hid hix
    clear hix
    have HPO : Hid ((placesL L)[x.toNat]? = some (.int .i64 0)) := Lib.hid (by rw [places_at _ HX2.out]; unfold posN; rw [HIX.out]; rfl)
    have HJ : Hid (joinL L (x.toNat : Int) bb = L ++ [((x.toNat : Int), bb)]) := Lib.hid (join_new (idx_none' HIX.out))
    have HLL : Hid (L.length = n1) := Lib.hid (by rw [← bo.1]; exact row_len (by decide) opE_len own)
    have HPS : Hid ((placesL L).set x.toNat (.int .i64 ((n1 : Int) + 1)) = placesL (L ++ [((x.toNat : Int), bb)])) := Lib.hid (by rw [← places_push HIX.out, HLL.out]; rfl)
    have HB1 : Hid (n1 + 1 ≤ maxLen) := Lib.hid (by have := HLN.out; unfold maxLen; omega)
    have HB2 : Hid ((n1 + 1) * 32 ≤ 140737488355328) := Lib.hid (by have := HLN.out; omega)
    have k0 : (0 : Int) ≤ n1 := by omega
    have k1 : (n1 : Int) ≤ 100000 := by have := HLN.out; omega
    have R30 := r30
    have R31 := cell_lit hpl x.toNat _ (arr_at HPO.out)
    go_wp2_with (first | ((with_reducible show wpList _ _ _ (⟨some 51, _, _, _, _, _⟩ :: _) _ _); refine wpList_lit_n rfl 28 38 1 _ rfl #[.int .i64 (x.toNat : Int), .slice A8 n8 c8] (.agg #[.int .i64 0, .slice none 0 0]) Try.underlying28 (by kernel_rfl) 2 (by kernel_rfl) (by decide) (by kernel_rfl) ?_; intro g51 w56 ge lt hh bb; have d_pl_b51 := ne_new (hlt hpl) ge; have ob51 := Nat.le_trans bel.size ge; replace hpl := blk_u hpl bb; replace hr := hr.below bb; replace own := owk_under own bb; replace bo := bo.below bb; replace hBW := Nat.le_trans hBW bb.size; replace bdw := owk_under bdw bb; replace bel := bel.trans (bb.mono bel.size); have hb51 := hh; clear hh lt ge bb; have lt : Sle opE 2 w56 (some ⟨g51, 0, none⟩) (1) (1) ([⟨(x.toNat : Int), A8, n8, c8⟩]) := sle_lit ([⟨(x.toNat : Int), A8, n8, c8⟩]) (by decide) opE_len hb51 rfl (by simp [maxLen])) | ((with_reducible show wpList _ _ _ (⟨some 52, _, _, _, _, _⟩ :: _) _ _); refine wpList_append_sle rfl (.tmp 47) (.tmp 51) 28 rfl B 38 io (.agg #[.int .i64 0, .slice none 0 0]) 32 Try.underlying28 hio hio0 hio1 hio2 rfl opE_one _ n1 hs rfl own (some ⟨g51, 0, none⟩) 1 1 [⟨(x.toNat : Int), A8, n8, c8⟩] rfl lt HB1.out HB2.out hBW ?_; intro v52 w57 own_ bb gw ofw; have k9 := kt_row (S := [38]) gw own (by simp); replace hpl := k9.blk hpl (by decide); replace bo := bo.kt k9 (by decide); replace bdw := k9.own bdw (by decide); replace hr := hr.row gw own hloB; replace hBW := Nat.le_trans hBW gw.size; replace bel := bel.trans (bb.mono hbB); clear own k9 bb gw ofw lt hb51; obtain ⟨A52, c52, rfl⟩ := owk_val own_; have own := own_; clear own_; have R56 := r30) | ((with_reducible show wpList _ _ _ (⟨none, Op.store _ (.tmp 56) _, _, _, _, _⟩ :: _) _ _); refine wpList_store_one rfl 3 (.tmp 56) (.tmp 55) rfl g6 x.toNat rfl (.int .i64 ((n1 : Int) + 1)) rfl (placesL L) 80 hpl (by rw [places_len]; exact HX2.out) (by kernel_rfl) rfl ?_; intro w58 hq gr; replace own := owk_away own hgB gr; replace bdw := owk_away bdw hgB gr; replace bo := bo.kt (kt_grown gr hpl (by simp) : Kt [80] _ _) (by decide); replace hr := hr.away gr hgl; replace hBW := Nat.le_trans hBW gr.size; replace bel := below_grown bel gr opl bel.size; clear hpl; have hpl := hq; clear hq gr; rw [HPS.out] at hpl))
    try clear R30
    try clear R31
    try clear R56
    go_roundg (rest2.length)
    case measure => have h1_ := HL2.out; have h2_ := HGK_.out; rw [List.length_cons] at h2_; omega
    case rel => exact ⟨rest2, sh2, A52, n1 + 1, c52, hs ++ [⟨(x.toNat : Int), A8, n8, c8⟩], L ++ [((x.toNat : Int), bb)], rfl, Lib.hid (by rw [← HJ.out]; exact HG2.out), HSH2, Lib.hid (nodup_push (idx_none' HIX.out) HND.out), Lib.hid (by have h1 := HL2.out; have h2 := HLN.out; rw [List.length_cons] at h2; omega), Lib.hid (bn_push HBN.out HL2.out (by have h2 := HLN.out; rw [List.length_cons] at h2; omega)), hr, own, bo.push bdw HNEW.out, hBW, by go_num, hpl, bel⟩
end Go.Proofs.Ytmljgpefbbifmaa
