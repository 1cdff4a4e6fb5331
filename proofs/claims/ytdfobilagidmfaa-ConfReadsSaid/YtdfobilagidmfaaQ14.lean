/- Texts put together: Apo, Crp, Lawar. -/
import Derived.Test.YtdfobilagidmfaaQ1
import Derived.Test.YtdfobilagidmfaaQ8
import Derived.Test.YtdfobilagidmfaaQ12
import Derived.Test.YtdfobilagidmfaaQ13
namespace Go.Proofs.Ytdfobilagidmfaa
open Go.RowKit

/-- A slice lies apart from the block of 'v'. -/
def Apo (v : Value) (A : Option Addr) (n : Nat) : Prop := ∀ g, v.ownBlock = some g → Av A n g
theorem apo_nil (A : Option Addr) (n : Nat) : Apo (.slice none 0 0) A n := fun g h => by simp [Value.ownBlock] at h
theorem Sle.apart {α : Type} {f : α → List Value} {k n c : Nat} {w w' : World} {A : Option Addr} {l : List α} {v : Value} (h : Sle f k w A n c l) (hv : Apo v A n) (gw : w.grownBy w' v.ownBlock) : Sle f k w' A n c l := by
  refine ⟨h.1, h.2.1, h.2.2.1, fun hn => ?_, h.2.2.2.2⟩
  obtain ⟨a, o, e, hc⟩ := h.2.2.2.1 hn
  exact ⟨a, o, e, fun j b hj => (World.cell?_of_block (w := w) (gw.block a (cell_lt (hc j b hj)) (fun e2 => hv a e2.symm hn a o none e rfl))).trans (hc j b hj)⟩
theorem apo_new {α : Type} {f : α → List Value} {k n c : Nat} {w : World} {A : Option Addr} {l : List α} {v v' : Value} (h : Sle f k w A n c l) (hv : Apo v A n) (ofw : ∀ g, g < w.heap.size → Ofs v g → Ofs v' g) : Apo v' A n := fun g hg hn a o p e ha => by
  subst ha
  have hl := h.at0 hn e
  exact ofw a hl (fun q hq hqa => hv q hq hn a o p e hqa.symm) a hg rfl
theorem own_lt {w : World} {B k n g : Nat} {e : TypeId} {v : Value} {xs : List Value} (h : w.ownsRow B e k v n xs) (hg : v.ownBlock = some g) : g < w.heap.size := by
  rcases h.2 with ⟨h, _⟩ | ⟨g', cap, cur, e, hb, hh, h⟩
  · rw [h] at hg; simp [Value.ownBlock] at hg
  · have hl := (Array.getElem?_eq_some_iff.1 hh).1
    rw [e] at hg
    simp only [Value.ownBlock, Option.some.injEq] at hg
    omega
open Go.RowKit

theorem fill_b {c d : Cf} {nr ns : List (List UInt8)} (hR : seenR nr ns) (hI : inv c nr) (hd : rfill c nr = d) : (d.check = false → (c.fill ns).check = false) ∧ (d.check = true → c.fill ns = d) := by
  subst hd
  obtain ⟨h1, h2⟩ := fill_ref hR hI
  by_cases hb : c.bits ≤ 30
  · rw [h1 hb]; exact ⟨id, fun _ => rfl⟩
  · obtain ⟨h3, h4⟩ := h2 hb
    exact ⟨fun _ => h4, fun h => by rw [h3] at h; cases h⟩
def PL (c d : Cf) : Prop := d.fixed.length ≤ c.fixed.length + 1 ∧ d.opens.length ≤ c.opens.length + 1
theorem pl_same {c d : Cf} (h1 : d.fixed = c.fixed) (h2 : d.opens = c.opens) : PL c d := by unfold PL; rw [h1, h2]; omega
theorem valC_pl (c : Cf) (s v : List UInt8) : PL c (valC c s v) := by
  unfold valC
  refine ite_both (fun _ => ?_) (fun _ => ite_both (fun _ => ?_) (fun _ => ?_))
  · unfold Cf.addF; split
    · unfold PL; simp
    · exact pl_same rfl rfl
  · unfold Cf.addO; split
    · unfold PL; simp
    · exact pl_same rfl rfl
  unfold Cf.put
  iterate 10 refine ite_both (fun _ => pl_same rfl rfl) (fun _ => ?_)
  exact ite_both (fun _ => pl_same rfl rfl) (fun _ => pl_same rfl rfl)
theorem valC_len (c : Cf) (s v : List UInt8) : (valC c s v).fixed.length ≤ c.fixed.length + 1 ∧ (valC c s v).opens.length ≤ c.opens.length + 1 := valC_pl c s v
theorem rnum_l (n : Nat) (w : World) (hn : n < 4294967296) : Calls Try.prog 25 #[.agg #[.int .u8 ((Ad4.ofN n).a.toNat : Int), .int .u8 ((Ad4.ofN n).b.toNat : Int), .int .u8 ((Ad4.ofN n).c.toNat : Int), .int .u8 ((Ad4.ofN n).d.toNat : Int)]] w fun e w' => e = .returned (.int .u32 (n : Int)) ∧ Below w.heap.size w w' := by
  refine (rnum_any _ _ _ _ w).mono ?_
  rintro e w' ⟨rfl, bel⟩
  refine ⟨?_, bel⟩
  have h := Ad4.ofN_num hn
  unfold Ad4.num at h
  rw [h]
theorem rlast_l (n : Ad4) (bt : Int) (w : World) : Calls Try.prog 27 #[.agg #[.int .u8 (n.a.toNat : Int), .int .u8 (n.b.toNat : Int), .int .u8 (n.c.toNat : Int), .int .u8 (n.d.toNat : Int), .int .i64 bt]] w fun e w' => e = .returned (.agg #[.int .u8 ((Ad4.ofN (lN n bt)).a.toNat : Int), .int .u8 ((Ad4.ofN (lN n bt)).b.toNat : Int), .int .u8 ((Ad4.ofN (lN n bt)).c.toNat : Int), .int .u8 ((Ad4.ofN (lN n bt)).d.toNat : Int)]) ∧ Below w.heap.size w w' := by
  refine (rlast_any _ _ _ _ _ w).mono ?_
  rintro e w' ⟨rfl, bel⟩
  refine ⟨?_, bel⟩
  rw [show lastN (be [n.a, n.b, n.c, n.d]) (clamp bt) = lN n bt from rfl, adr_ofN (lN_lt n bt)]
theorem rof4_l (n : Nat) (w : World) (hn : n < 4294967296) : Calls Try.prog 28 #[.int .u32 (n : Int)] w fun e w' => e = .returned (.agg #[.int .u8 ((Ad4.ofN n).a.toNat : Int), .int .u8 ((Ad4.ofN n).b.toNat : Int), .int .u8 ((Ad4.ofN n).c.toNat : Int), .int .u8 ((Ad4.ofN n).d.toNat : Int)]) ∧ Below w.heap.size w w' := by
  refine (rof4_any n w hn).mono ?_
  rintro e w' ⟨rfl, bel⟩
  exact ⟨by rw [adr_ofN hn], bel⟩
theorem take_free {s : List UInt8} {k : Nat} {x : UInt8} (h : ∀ c ∈ s.take k, c ≠ 61) (hx : s[k]? = some x) (hb : (x == 61) = false) : ∀ c ∈ s.take (k + 1), c ≠ 61 := by
  rw [take_snoc hx]
  intro c hc
  rcases List.mem_append.1 hc with hc | hc
  · exact h c hc
  · rw [List.mem_singleton.1 hc]; intro e; rw [e] at hb; cases hb
theorem cut_here {s : List UInt8} {k : Nat} {x : UInt8} (h : ∀ c ∈ s.take k, c ≠ 61) (hx : s[k]? = some x) (hb : (x == 61) = true) : cut1 61 s = some (s.take k, s.drop (k + 1)) := by
  obtain ⟨hj, e⟩ := List.getElem?_eq_some_iff.1 hx
  have e1 : s = s.take k ++ 61 :: s.drop (k + 1) := by
    rw [← eq_of_beq hb, ← e, ← List.drop_eq_getElem_cons hj, List.take_append_drop]
  have e2 := cut1_of (y := s.drop (k + 1)) h
  rw [← e1] at e2
  exact e2
theorem av_none (g : Nat) : Av none 0 g := fun h => absurd h (by omega)
set_option linter.unusedVariables false in
set_option linter.unusedSimpArgs false in
set_option maxRecDepth 100000 in
set_option maxHeartbeats 16000000 in
theorem rparse_any (t : List UInt8) (w : World) (htl : t.length ≤ 1000000) : Calls Try.prog 10 #[.string ⟨t.toArray⟩] w fun e w' => ∃ Fx nf cf Ox nx cx, e = .returned (.tuple #[.agg (cfl (parseS t).1 Fx nf cf Ox nx cx).toArray, .int .i64 (parseS t).2.1, .int .i64 (parseS t).2.2]) ∧ Sle fxf 10 w' Fx nf cf (parseS t).1.fixed ∧ Sle opf 7 w' Ox nx cx (parseS t).1.opens ∧ Below w.heap.size w w' := by
  obtain ⟨is, his, his0, his1, his2⟩ := info_parts Try.info_str
  have bel := Below.refl w.heap.size w
  go_enter Try.func10, Try.ntmps10
  by_cases h16 : 16384 < t.length
  · have h16k : (16384 : Int) < t.length := by omega
    have HP : Hid (parseS t = (zeroC, 0, 2)) := Lib.hid (by unfold parseS; rw [if_pos h16])
    go_wp2_with (first | ((with_reducible show wpList _ _ _ (⟨some 2, _, _, _, _, _⟩ :: _) _ _); refine wpList_new_a rfl 40 rfl #[.int .u8 0, .int .u8 0, .int .u8 0, .int .u8 0, .int .u8 0, .int .u8 0, .int .u8 0, .int .u8 0, .int .i64 0, .int .u8 0, .int .u8 0, .int .u8 0, .int .u8 0, .int .u8 0, .int .u8 0, .int .u8 0, .int .u8 0, .int .u8 0, .int .u8 0, .int .u8 0, .int .u8 0, .int .u8 0, .int .u8 0, .int .u8 0, .int .u8 0, .int .u8 0, .int .u8 0, .int .u8 0, .int .u8 0, .int .i64 0, .int .u8 0, .int .u8 0, .int .u8 0, .int .u8 0, .int .i64 0, .int .i64 0, .int .i64 0, .int .i64 0, .slice none 0 0, .slice none 0 0] (by kernel_rfl) ?_; intro g2 w1 ge hh bb; have ores := Nat.le_trans bel.size ge; replace bel := bel.trans (bb.mono bel.size); have hres := hh; clear hh ge bb; have R18 := fun W => st_len t 3 W) | ((with_reducible show wpList _ _ _ (⟨none, Op.store _ (.tmp 2) _, _, _, _, _⟩ :: _) _ _); refine wpList_store_blk rfl 40 (.tmp 2) (.tmp 20) rfl g2 rfl _ rfl _ 40 hres (by rfl) (by kernel_rfl) (by kernel_rfl) ?_; intro w2 hq gr; replace bel := below_grown bel gr ores bel.size; clear hres; have hres := hq; clear hq gr))
    try clear R18
    exact bodyPost_ret (results_cell_tt_row rfl _ _ _ _ _ _ _ rfl hres Try.underlying40 rfl (by kernel_rfl) _ _ rfl rfl) rfl ⟨none, 0, 0, none, 0, 0, by rw [HP.out]; rfl, by rw [HP.out]; exact Sle.nil (by decide) fxf_len _, by rw [HP.out]; exact Sle.nil (by decide) opf_len _, bel⟩
  have h16k : decide ((16384 : Int) < t.length) = false := decide_eq_false (by omega)
  go_wp2_with (first | ((with_reducible show wpList _ _ _ (⟨some 2, _, _, _, _, _⟩ :: _) _ _); refine wpList_new_a rfl 40 rfl #[.int .u8 0, .int .u8 0, .int .u8 0, .int .u8 0, .int .u8 0, .int .u8 0, .int .u8 0, .int .u8 0, .int .i64 0, .int .u8 0, .int .u8 0, .int .u8 0, .int .u8 0, .int .u8 0, .int .u8 0, .int .u8 0, .int .u8 0, .int .u8 0, .int .u8 0, .int .u8 0, .int .u8 0, .int .u8 0, .int .u8 0, .int .u8 0, .int .u8 0, .int .u8 0, .int .u8 0, .int .u8 0, .int .u8 0, .int .i64 0, .int .u8 0, .int .u8 0, .int .u8 0, .int .u8 0, .int .i64 0, .int .i64 0, .int .i64 0, .int .i64 0, .slice none 0 0, .slice none 0 0] (by kernel_rfl) ?_; intro g2 w1 ge hh bb; have ores := Nat.le_trans bel.size ge; replace bel := bel.trans (bb.mono bel.size); have hres := hh; clear hh ge bb; have R18 := fun W => st_len t 3 W))
  try clear R18
  with_reducible refine (lines_any t _ (by omega)).mono ?_
  rintro e w2 ⟨Aw, cw, rfl, wt, frw, b2⟩
  have av_wt_res := frw.av (hlt hres)
  replace hres := blk_u hres b2
  replace bel := bel.trans (b2.mono bel.size)
  clear b2
  replace wt : Sle stf 1 w2 (Aw) ((linesL t).length) (cw) ((linesL t)) := wt
  obtain ⟨ls, hls⟩ : ∃ ls, linesL t = ls := ⟨_, rfl⟩
  obtain ⟨n, hn⟩ : ∃ n, ls.length = n := ⟨_, rfl⟩
  rw [hls, hn] at wt frw av_wt_res
  rw [hls, hn]
  have HLS := Lib.hid hls
  have HNN := Lib.hid hn
  have n0 : (0 : Int) ≤ n := by omega
  clear hls hn
  by_cases h4 : 400 < n
  · have h4k : (400 : Int) < n := by omega
    have HP : Hid (parseS t = (zeroC, 0, 2)) := Lib.hid (by unfold parseS; rw [if_neg h16, if_pos (by rw [HLS.out, HNN.out]; exact h4)])
    go_wp2_with (first | ((with_reducible show wpList _ _ _ (⟨none, Op.store _ (.tmp 2) _, _, _, _, _⟩ :: _) _ _); refine wpList_store_blk rfl 40 (.tmp 2) (.tmp 26) rfl g2 rfl _ rfl _ 40 hres (by rfl) (by kernel_rfl) (by kernel_rfl) ?_; intro w3 hq gr; replace wt := wt.away av_wt_res gr; replace bel := below_grown bel gr ores bel.size; clear hres; have hres := hq; clear hq gr))
    exact bodyPost_ret (results_cell_tt_row rfl _ _ _ _ _ _ _ rfl hres Try.underlying40 rfl (by kernel_rfl) _ _ rfl rfl) rfl ⟨none, 0, 0, none, 0, 0, by rw [HP.out]; rfl, by rw [HP.out]; exact Sle.nil (by decide) fxf_len _, by rw [HP.out]; exact Sle.nil (by decide) opf_len _, bel⟩
  have h4k : decide ((400 : Int) < n) = false := decide_eq_false (by omega)
  go_wp2_with fail
  with_reducible refine (rusual_any _).mono ?_
  rintro e w3 ⟨rfl, b3⟩
  replace hres := blk_u hres b3
  replace wt := wt.below b3
  replace bel := bel.trans (b3.mono bel.size)
  clear b3
  go_wp2_with (first | ((with_reducible show wpList _ _ _ (⟨some 6, _, _, _, _, _⟩ :: _) _ _); refine wpList_new_a rfl 40 rfl #[.int .u8 0, .int .u8 0, .int .u8 0, .int .u8 0, .int .u8 0, .int .u8 0, .int .u8 0, .int .u8 0, .int .i64 0, .int .u8 0, .int .u8 0, .int .u8 0, .int .u8 0, .int .u8 0, .int .u8 0, .int .u8 0, .int .u8 0, .int .u8 0, .int .u8 0, .int .u8 0, .int .u8 0, .int .u8 0, .int .u8 0, .int .u8 0, .int .u8 0, .int .u8 0, .int .u8 0, .int .u8 0, .int .u8 0, .int .i64 0, .int .u8 0, .int .u8 0, .int .u8 0, .int .u8 0, .int .i64 0, .int .i64 0, .int .i64 0, .int .i64 0, .slice none 0 0, .slice none 0 0] (by kernel_rfl) ?_; intro g6 w4 ge hh bb; have d_res_rd := ne_new (hlt hres) ge; have av_wt_rd := wt.av_new ge; have ord := Nat.le_trans bel.size ge; replace hres := blk_u hres bb; replace wt := wt.below bb; replace bel := bel.trans (bb.mono bel.size); have hrd := hh; clear hh ge bb) | ((with_reducible show wpList _ _ _ (⟨none, Op.store _ (.tmp 6) _, _, _, _, _⟩ :: _) _ _); refine wpList_store_blk rfl 40 (.tmp 6) (.tmp 27) rfl g6 rfl _ rfl _ 40 hrd (by rfl) (by kernel_rfl) (by kernel_rfl) ?_; intro w5 hq gr; replace wt := wt.away av_wt_rd gr; replace hres := blk_a hres gr d_res_rd; replace bel := below_grown bel gr ord bel.size; clear hrd; have hrd := hq; clear hq gr))
  have sF : Sle fxf 10 w5 none 0 0 usualC.fixed := Sle.nil (by decide) fxf_len _
  have av_sF_res := av_none g2
  have av_sF_rd := av_none g6
  have sO : Sle opf 7 w5 none 0 0 usualC.opens := Sle.nil (by decide) opf_len _
  have av_sO_res := av_none g2
  have av_sO_rd := av_none g6
  go_wp2_with fail
  go_loopg [7, 8] (n + 1) (fun gk s7 s8 wr => ∃ j : Nat, ∃ c : Cf, ∃ ns : List (List UInt8), ∃ nr : List (List UInt8), ∃ nn : Nat, ∃ Fx : Option Addr, ∃ nf : Nat, ∃ cf : Nat, ∃ Ox : Option Addr, ∃ nx : Nat, ∃ cx : Nat, ∃ (AsN : Option Addr) (csN : Nat), gk = n + 1 - j ∧ j ≤ n ∧ Hid (runL usualC [] ls 0 = runL c ns (ls.drop j) j) ∧ Hid (seenR nr ns) ∧ Hid (inv c nr) ∧ nn ≤ j ∧ nf ≤ j ∧ nx ≤ j ∧ Apo (.slice AsN nn csN) Aw n ∧ Apo (.slice AsN nn csN) Fx nf ∧ Apo (.slice AsN nn csN) Ox nx ∧ s7 = .slice AsN nn csN ∧ s8 = .int .i64 (j : Int) ∧ wr.ownsRow (w.heap.size) 9 1 (.slice AsN (nn) csN) (nn) ((nr : List (List UInt8)).flatMap stf) ∧ Ofs (.slice AsN (nn) csN) g2 ∧ Ofs (.slice AsN (nn) csN) g6 ∧ wr.heap[g2]? = some (.cells #[.int .u8 0, .int .u8 0, .int .u8 0, .int .u8 0, .int .u8 0, .int .u8 0, .int .u8 0, .int .u8 0, .int .i64 0, .int .u8 0, .int .u8 0, .int .u8 0, .int .u8 0, .int .u8 0, .int .u8 0, .int .u8 0, .int .u8 0, .int .u8 0, .int .u8 0, .int .u8 0, .int .u8 0, .int .u8 0, .int .u8 0, .int .u8 0, .int .u8 0, .int .u8 0, .int .u8 0, .int .u8 0, .int .u8 0, .int .i64 0, .int .u8 0, .int .u8 0, .int .u8 0, .int .u8 0, .int .i64 0, .int .i64 0, .int .i64 0, .int .i64 0, .slice none 0 0, .slice none 0 0] 40 (0, 0)) ∧ wr.heap[g6]? = some (.cells (cfl c Fx nf cf Ox nx cx).toArray 40 (0, 0)) ∧ Sle stf 1 wr (Aw) (n) (cw) (ls) ∧ Sle fxf 10 wr (Fx) (nf) (cf) (c.fixed) ∧ Av (Fx) (nf) g2 ∧ Av (Fx) (nf) g6 ∧ Sle opf 7 wr (Ox) (nx) (cx) (c.opens) ∧ Av (Ox) (nx) g2 ∧ Av (Ox) (nx) g6 ∧ Below w.heap.size w wr)
  case atStart => exact ⟨0, usualC, [], [], 0, none, 0, 0, none, 0, 0, none, 0, rfl, Nat.zero_le _, Lib.hid rfl, Lib.hid seen_nil, Lib.hid inv_nil, Nat.le_refl _, Nat.le_refl _, Nat.le_refl _, apo_nil _ _, apo_nil _ _, apo_nil _ _, rfl, rfl, owk_nil _ _ _, (fun g h => by simp [Value.ownBlock] at h), (fun g h => by simp [Value.ownBlock] at h), hres, hrd, wt, sF, av_sF_res, av_sF_rd, sO, av_sO_res, av_sO_rd, bel⟩
  case round =>
    clear hres hrd wt sF sO bel av_sF_res av_sF_rd av_sO_res av_sO_rd
    obtain ⟨j, c, ns, nr, nn, Fx, nf, cf, Ox, nx, cx, AsN, csN, HGK, hj, HRUN, HSE, HIN, hnn, hnf, hnx, apW, apF, apO, rfl, rfl, sNw, of_sN_res, of_sN_rd, hres, hrd, wt, sF, av_sF_res, av_sF_rd, sO, av_sO_res, av_sO_rd, bel⟩ := hrel
    have HGK_ := Lib.hid HGK
    clear HGK
    have sN := (owk_sle (by decide) stf_len sNw).1
    have fr_sN := (owk_sle (by decide) stf_len sNw).2
    have lz_sN := bel.size
    have sNlo := Nat.le_refl (w.heap.size)
    have av_sN_res := owk_av sNw of_sN_res
    have av_sN_rd := owk_av sNw of_sN_rd
    have HGKJ := HGK_
    have j0 : (0 : Int) ≤ j := by omega
    have j1 : (j : Int) ≤ 400 := by omega
    have nn0 : (0 : Int) ≤ nn := by omega
    by_cases hjn : j < n
    rotate_left
    · have hjk : decide (j < n) = false := decide_eq_false hjn
      have HOK : Hid (runL usualC [] ls 0 = .ok (c, ns)) := Lib.hid (by rw [HRUN.out, List.drop_eq_nil_of_le (by rw [HNN.out]; omega)]; rfl)
      obtain ⟨d, h_⟩ : ∃ z, rfill c nr = z := ⟨_, rfl⟩
      have HD := Lib.hid h_
      clear h_
      obtain ⟨lo, h_⟩ : ∃ z, rLo c = z := ⟨_, rfl⟩
      have HLO := Lib.hid h_
      clear h_
      obtain ⟨hi, h_⟩ : ∃ z, rHi c = z := ⟨_, rfl⟩
      have HHI := Lib.hid h_
      clear h_
      obtain ⟨la, h_⟩ : ∃ z, nr.contains [108, 97, 110] = z := ⟨_, rfl⟩
      have HLA := Lib.hid h_
      clear h_
      obtain ⟨fb, h_⟩ : ∃ z, nr.contains [102, 105, 114, 115, 116] = z := ⟨_, rfl⟩
      have HFB := Lib.hid h_
      clear h_
      obtain ⟨lb, h_⟩ : ∃ z, nr.contains [108, 97, 115, 116] = z := ⟨_, rfl⟩
      have HLB := Lib.hid h_
      clear h_
      have HLOB : -4294967296 ≤ lo ∧ lo ≤ 8589934592 := by rw [← HLO.out]; have := fN_lt c.lan c.bits; have := lN_lt c.lan c.bits; unfold rLo; split <;> omega
      have HHIB : -4294967296 ≤ hi ∧ hi ≤ 8589934592 := by rw [← HHI.out]; have := fN_lt c.lan c.bits; have := lN_lt c.lan c.bits; unfold rHi; (repeat' split) <;> omega
      obtain ⟨lo0, lo1⟩ := HLOB
      obtain ⟨hi0, hi1⟩ := HHIB
      clear hjn hj
      clear wt
      clear sNw lz_sN
      go_wp2_with fail
      with_reducible refine (has_any _ _ _ nr [108, 97, 110] _ sN (by omega)).mono ?_
      rintro e _ ⟨rfl, rfl⟩
      rw [HLA.out]
      go_upto_if 105 with fail
      go_cut [] from 105 to 105 (fun W => W.heap[g2]? = some (.cells #[.int .u8 0, .int .u8 0, .int .u8 0, .int .u8 0, .int .u8 0, .int .u8 0, .int .u8 0, .int .u8 0, .int .i64 0, .int .u8 0, .int .u8 0, .int .u8 0, .int .u8 0, .int .u8 0, .int .u8 0, .int .u8 0, .int .u8 0, .int .u8 0, .int .u8 0, .int .u8 0, .int .u8 0, .int .u8 0, .int .u8 0, .int .u8 0, .int .u8 0, .int .u8 0, .int .u8 0, .int .u8 0, .int .u8 0, .int .i64 0, .int .u8 0, .int .u8 0, .int .u8 0, .int .u8 0, .int .i64 0, .int .i64 0, .int .i64 0, .int .i64 0, .slice none 0 0, .slice none 0 0] 40 (0, 0)) ∧ W.heap[g6]? = some (.cells (cfl d Fx nf cf Ox nx cx).toArray 40 (0, 0)) ∧ Sle fxf 10 W (Fx) (nf) (cf) (d.fixed) ∧ Sle opf 7 W (Ox) (nx) (cx) (d.opens) ∧ Sle stf 1 W (AsN) (nn) (csN) (nr) ∧ Below w.heap.size w W)
      case first =>
        rcases la with _ | _
        · have HDW : Hid (d = c) := Lib.hid (by rw [← HD.out]; unfold rfill; rw [if_neg (by rw [HLA.out]; decide)])
          go_wp2_with fail
          have e_ := HDW.out
          clear HDW
          subst e_
          go_meet
          case rel => exact ⟨hres, hrd, sF, sO, sN, bel⟩
        have R107 := Lib.hid (range_lit hrd 4 5 [.int .u8 (c.lan.a.toNat : Int), .int .u8 (c.lan.b.toNat : Int), .int .u8 (c.lan.c.toNat : Int), .int .u8 (c.lan.d.toNat : Int), .int .i64 c.bits] rfl)
        go_wp2_with (first | ((with_reducible show wpList _ _ _ (⟨some 107, _, _, _, _, _⟩ :: _) _ _); refine wpList_load_rng 36 (.tmp 106) rfl (by kernel_rfl) _ _ rfl _ R107.out _ Try.underlying36 rfl (by kernel_rfl) ?_))
        try clear R107
        with_reducible refine (rfirst_l _ _ _).mono ?_
        rintro e w6 ⟨rfl, b6⟩
        replace hres := blk_u hres b6
        replace hrd := blk_u hrd b6
        replace sF := sF.below b6
        replace sO := sO.below b6
        replace sN := sN.below b6
        replace bel := bel.trans (b6.mono bel.size)
        clear b6
        go_wp2_with fail
        with_reducible refine (rnum_l _ _ (fN_lt _ _)).mono ?_
        rintro e w7 ⟨rfl, b7⟩
        replace hres := blk_u hres b7
        replace hrd := blk_u hrd b7
        replace sF := sF.below b7
        replace sO := sO.below b7
        replace sN := sN.below b7
        replace bel := bel.trans (b7.mono bel.size)
        clear b7
        obtain ⟨F, hF⟩ : ∃ z : Int, ((fN c.lan c.bits : Nat) : Int) = z := ⟨_, rfl⟩
        have F1_ := fN_lt c.lan c.bits
        rw [hF]
        have HF := Lib.hid hF
        have F0 : (0 : Int) ≤ F := by omega
        have F1 : F < 4294967296 := by omega
        clear hF F1_
        have R117 := cell_lit hrd 8 _ rfl
        go_upto_if 118 with fail
        clear R117
        go_cut [14, 15] from 118 to 118 (fun s14 s15 W => s14 = .int .i64 lo ∧ s15 = .int .i64 hi ∧ W.heap[g2]? = some (.cells #[.int .u8 0, .int .u8 0, .int .u8 0, .int .u8 0, .int .u8 0, .int .u8 0, .int .u8 0, .int .u8 0, .int .i64 0, .int .u8 0, .int .u8 0, .int .u8 0, .int .u8 0, .int .u8 0, .int .u8 0, .int .u8 0, .int .u8 0, .int .u8 0, .int .u8 0, .int .u8 0, .int .u8 0, .int .u8 0, .int .u8 0, .int .u8 0, .int .u8 0, .int .u8 0, .int .u8 0, .int .u8 0, .int .u8 0, .int .i64 0, .int .u8 0, .int .u8 0, .int .u8 0, .int .u8 0, .int .i64 0, .int .i64 0, .int .i64 0, .int .i64 0, .slice none 0 0, .slice none 0 0] 40 (0, 0)) ∧ W.heap[g6]? = some (.cells (cfl c Fx nf cf Ox nx cx).toArray 40 (0, 0)) ∧ Sle fxf 10 W (Fx) (nf) (cf) (c.fixed) ∧ Sle opf 7 W (Ox) (nx) (cx) (c.opens) ∧ Sle stf 1 W (AsN) (nn) (csN) (nr) ∧ Below w.heap.size w W)
        case first =>
          by_cases hb24 : 24 < c.bits
          rotate_left
          · have hb25 : decide (24 < c.bits) = false := decide_eq_false hb24
            have E14 : Hid (F + 100 = lo) := Lib.hid (by rw [← HLO.out]; unfold rLo; rw [if_neg hb24, HF.out])
            have E15 : Hid (F + 131 = hi) := Lib.hid (by rw [← HHI.out]; unfold rHi; rw [if_neg hb24, HF.out])
            go_wp2_with fail
            go_meet
            case rel => exact ⟨by rw [E14.out], by rw [E15.out], hres, hrd, sF, sO, sN, bel⟩
          have E14 : Hid (F + 2 = lo) := Lib.hid (by rw [← HLO.out]; unfold rLo; rw [if_pos hb24, HF.out])
          have R124 := Lib.hid (range_lit hrd 4 5 [.int .u8 (c.lan.a.toNat : Int), .int .u8 (c.lan.b.toNat : Int), .int .u8 (c.lan.c.toNat : Int), .int .u8 (c.lan.d.toNat : Int), .int .i64 c.bits] rfl)
          go_wp2_with (first | ((with_reducible show wpList _ _ _ (⟨some 124, _, _, _, _, _⟩ :: _) _ _); refine wpList_load_rng 36 (.tmp 123) rfl (by kernel_rfl) _ _ rfl _ R124.out _ Try.underlying36 rfl (by kernel_rfl) ?_))
          try clear R124
          with_reducible refine (rlast_l _ _ _).mono ?_
          rintro e w8 ⟨rfl, b8⟩
          replace hres := blk_u hres b8
          replace hrd := blk_u hrd b8
          replace sF := sF.below b8
          replace sO := sO.below b8
          replace sN := sN.below b8
          replace bel := bel.trans (b8.mono bel.size)
          clear b8
          go_wp2_with fail
          with_reducible refine (rnum_l _ _ (lN_lt _ _)).mono ?_
          rintro e w9 ⟨rfl, b9⟩
          replace hres := blk_u hres b9
          replace hrd := blk_u hrd b9
          replace sF := sF.below b9
          replace sO := sO.below b9
          replace sN := sN.below b9
          replace bel := bel.trans (b9.mono bel.size)
          clear b9
          obtain ⟨L, hL⟩ : ∃ z : Int, ((lN c.lan c.bits : Nat) : Int) = z := ⟨_, rfl⟩
          have L1_ := lN_lt c.lan c.bits
          rw [hL]
          have HL := Lib.hid hL
          have L0 : (0 : Int) ≤ L := by omega
          have L1 : L < 4294967296 := by omega
          clear hL L1_
          obtain ⟨M, e16⟩ : ∃ z, L - 1 = z := ⟨_, rfl⟩
          obtain ⟨V, e33⟩ : ∃ z, F + 33 = z := ⟨_, rfl⟩
          have M0 : -1 ≤ M := by omega
          have M1 : M < 4294967296 := by omega
          have V0 : 33 ≤ V := by omega
          have V1 : V < 4294967329 := by omega
          have HM := Lib.hid e16
          have HV3 := Lib.hid e33
          by_cases hgt : M < V
          · have E15 : Hid (M = hi) := Lib.hid (by rw [← HHI.out]; unfold rHi; rw [if_pos hb24, HF.out, HL.out, HM.out, HV3.out, if_pos hgt])
            go_wp2_with fail
            go_meet
            case rel => exact ⟨by rw [E14.out], by rw [E15.out], hres, hrd, sF, sO, sN, bel⟩
          have hgt_ : decide (M < V) = false := decide_eq_false hgt
          have E15 : Hid (V = hi) := Lib.hid (by rw [← HHI.out]; unfold rHi; rw [if_pos hb24, HF.out, HL.out, HM.out, HV3.out, if_neg hgt])
          go_wp2_with fail
          go_meet
          case rel => exact ⟨by rw [E14.out], by rw [E15.out], hres, hrd, sF, sO, sN, bel⟩
        clear hres hrd sF sO sN bel
        obtain ⟨w58, hw_⟩ : ∃ x, x = wc := ⟨_, rfl⟩
        subst hw_
        obtain ⟨rfl, rfl, hres, hrd, sF, sO, sN, bel⟩ := hcut
        go_wp2_with fail
        with_reducible refine (has_any _ _ _ nr [102, 105, 114, 115, 116] _ sN (by omega)).mono ?_
        rintro e _ ⟨rfl, rfl⟩
        rw [HFB.out]
        rcases fb with _ | _
        rotate_left
        · go_wp2_with fail
          with_reducible refine (has_any _ _ _ nr [108, 97, 115, 116] _ sN (by omega)).mono ?_
          rintro e _ ⟨rfl, rfl⟩
          rw [HLB.out]
          rcases lb with _ | _
          rotate_left
          · have HDW : Hid (d = { c with first := c.first, last := c.last }) := Lib.hid (by rw [← HD.out]; unfold rfill; rw [if_pos HLA.out]; unfold rFi rLa; rw [if_pos HFB.out, if_pos HLB.out])
            go_wp2_with fail
            have e_ := HDW.out
            clear HDW
            subst e_
            go_meet
            case rel => exact ⟨hres, hrd, sF, sO, sN, bel⟩
          obtain ⟨nz, hnz⟩ : ∃ z, (hi % 4294967296).toNat = z := ⟨_, rfl⟩
          have wnz : IntKind.u32.wrap hi = (nz : Int) := by rw [u32_wrap]; omega
          have nzl : nz < 4294967296 := by omega
          have HNZ := Lib.hid hnz
          clear hnz
          have HDW : Hid (d = { c with first := c.first, last := Ad4.ofN nz }) := Lib.hid (by rw [← HD.out]; unfold rfill; rw [if_pos HLA.out]; unfold rFi rLa; rw [if_pos HFB.out, if_neg (by rw [HLB.out]; decide), HHI.out, HNZ.out])
          go_wp2_with fail
          with_reducible refine (rof4_l nz _ nzl).mono ?_
          rintro e w59 ⟨rfl, b59⟩
          replace hres := blk_u hres b59
          replace hrd := blk_u hrd b59
          replace sF := sF.below b59
          replace sO := sO.below b59
          replace sN := sN.below b59
          replace bel := bel.trans (b59.mono bel.size)
          clear b59
          go_wp2_with (first | ((with_reducible show wpList _ _ _ (⟨none, Op.store _ (.tmp 146) _, _, _, _, _⟩ :: _) _ _); refine wpList_store_part rfl 24 (.tmp 146) (.tmp 145) rfl g6 25 rfl [.int .u8 ((Ad4.ofN nz).a.toNat : Int), .int .u8 ((Ad4.ofN nz).b.toNat : Int), .int .u8 ((Ad4.ofN nz).c.toNat : Int), .int .u8 ((Ad4.ofN nz).d.toNat : Int)] rfl (cfl c Fx nf cf Ox nx cx) 40 hrd (by simp) [.int .u8 (c.own.a.toNat : Int), .int .u8 (c.own.b.toNat : Int), .int .u8 (c.own.c.toNat : Int), .int .u8 (c.own.d.toNat : Int), .int .u8 (c.lan.a.toNat : Int), .int .u8 (c.lan.b.toNat : Int), .int .u8 (c.lan.c.toNat : Int), .int .u8 (c.lan.d.toNat : Int), .int .i64 c.bits, .int .u8 (c.lanmac.a.toNat : Int), .int .u8 (c.lanmac.b.toNat : Int), .int .u8 (c.lanmac.c.toNat : Int), .int .u8 (c.lanmac.d.toNat : Int), .int .u8 (c.lanmac.e.toNat : Int), .int .u8 (c.lanmac.f.toNat : Int), .int .u8 (c.wanmac.a.toNat : Int), .int .u8 (c.wanmac.b.toNat : Int), .int .u8 (c.wanmac.c.toNat : Int), .int .u8 (c.wanmac.d.toNat : Int), .int .u8 (c.wanmac.e.toNat : Int), .int .u8 (c.wanmac.f.toNat : Int), .int .u8 (c.first.a.toNat : Int), .int .u8 (c.first.b.toNat : Int), .int .u8 (c.first.c.toNat : Int), .int .u8 (c.first.d.toNat : Int), .int .u8 ((Ad4.ofN nz).a.toNat : Int), .int .u8 ((Ad4.ofN nz).b.toNat : Int), .int .u8 ((Ad4.ofN nz).c.toNat : Int), .int .u8 ((Ad4.ofN nz).d.toNat : Int), .int .i64 c.time, .int .u8 (c.dns.a.toNat : Int), .int .u8 (c.dns.b.toNat : Int), .int .u8 (c.dns.c.toNat : Int), .int .u8 (c.dns.d.toNat : Int), .int .i64 c.udp, .int .i64 c.tcp, .int .i64 c.icmp, .int .i64 c.low, .slice Fx nf cf, .slice Ox nx cx] rfl (by kernel_rfl) (by rfl) ?_; intro w60 hq gr; replace sF := sF.away av_sF_rd gr; replace sO := sO.away av_sO_rd gr; replace sN := sN.away av_sN_rd gr; replace hres := blk_a hres gr d_res_rd; replace bel := below_grown bel gr ord bel.size; clear hrd; have hrd := hq; clear hq gr))
          have e_ := HDW.out
          clear HDW
          subst e_
          go_meet
          case rel => exact ⟨hres, hrd, sF, sO, sN, bel⟩
        obtain ⟨nl, hnl⟩ : ∃ z, (lo % 4294967296).toNat = z := ⟨_, rfl⟩
        have wnl : IntKind.u32.wrap lo = (nl : Int) := by rw [u32_wrap]; omega
        have nll : nl < 4294967296 := by omega
        have HNL := Lib.hid hnl
        clear hnl
        go_wp2_with fail
        with_reducible refine (rof4_l nl _ nll).mono ?_
        rintro e w59 ⟨rfl, b59⟩
        replace hres := blk_u hres b59
        replace hrd := blk_u hrd b59
        replace sF := sF.below b59
        replace sO := sO.below b59
        replace sN := sN.below b59
        replace bel := bel.trans (b59.mono bel.size)
        clear b59
        go_wp2_with (first | ((with_reducible show wpList _ _ _ (⟨none, Op.store _ (.tmp 139) _, _, _, _, _⟩ :: _) _ _); refine wpList_store_part rfl 24 (.tmp 139) (.tmp 138) rfl g6 21 rfl [.int .u8 ((Ad4.ofN nl).a.toNat : Int), .int .u8 ((Ad4.ofN nl).b.toNat : Int), .int .u8 ((Ad4.ofN nl).c.toNat : Int), .int .u8 ((Ad4.ofN nl).d.toNat : Int)] rfl (cfl c Fx nf cf Ox nx cx) 40 hrd (by simp) [.int .u8 (c.own.a.toNat : Int), .int .u8 (c.own.b.toNat : Int), .int .u8 (c.own.c.toNat : Int), .int .u8 (c.own.d.toNat : Int), .int .u8 (c.lan.a.toNat : Int), .int .u8 (c.lan.b.toNat : Int), .int .u8 (c.lan.c.toNat : Int), .int .u8 (c.lan.d.toNat : Int), .int .i64 c.bits, .int .u8 (c.lanmac.a.toNat : Int), .int .u8 (c.lanmac.b.toNat : Int), .int .u8 (c.lanmac.c.toNat : Int), .int .u8 (c.lanmac.d.toNat : Int), .int .u8 (c.lanmac.e.toNat : Int), .int .u8 (c.lanmac.f.toNat : Int), .int .u8 (c.wanmac.a.toNat : Int), .int .u8 (c.wanmac.b.toNat : Int), .int .u8 (c.wanmac.c.toNat : Int), .int .u8 (c.wanmac.d.toNat : Int), .int .u8 (c.wanmac.e.toNat : Int), .int .u8 (c.wanmac.f.toNat : Int), .int .u8 ((Ad4.ofN nl).a.toNat : Int), .int .u8 ((Ad4.ofN nl).b.toNat : Int), .int .u8 ((Ad4.ofN nl).c.toNat : Int), .int .u8 ((Ad4.ofN nl).d.toNat : Int), .int .u8 (c.last.a.toNat : Int), .int .u8 (c.last.b.toNat : Int), .int .u8 (c.last.c.toNat : Int), .int .u8 (c.last.d.toNat : Int), .int .i64 c.time, .int .u8 (c.dns.a.toNat : Int), .int .u8 (c.dns.b.toNat : Int), .int .u8 (c.dns.c.toNat : Int), .int .u8 (c.dns.d.toNat : Int), .int .i64 c.udp, .int .i64 c.tcp, .int .i64 c.icmp, .int .i64 c.low, .slice Fx nf cf, .slice Ox nx cx] rfl (by kernel_rfl) (by rfl) ?_; intro w60 hq gr; replace sF := sF.away av_sF_rd gr; replace sO := sO.away av_sO_rd gr; replace sN := sN.away av_sN_rd gr; replace hres := blk_a hres gr d_res_rd; replace bel := below_grown bel gr ord bel.size; clear hrd; have hrd := hq; clear hq gr))
        with_reducible refine (has_any _ _ _ nr [108, 97, 115, 116] _ sN (by omega)).mono ?_
        rintro e _ ⟨rfl, rfl⟩
        rw [HLB.out]
        rcases lb with _ | _
        rotate_left
        · have HDW : Hid (d = { c with first := Ad4.ofN nl, last := c.last }) := Lib.hid (by rw [← HD.out]; unfold rfill; rw [if_pos HLA.out]; unfold rFi rLa; rw [if_neg (by rw [HFB.out]; decide), HLO.out, HNL.out, if_pos HLB.out])
          go_wp2_with fail
          have e_ := HDW.out
          clear HDW
          subst e_
          go_meet
          case rel => exact ⟨hres, hrd, sF, sO, sN, bel⟩
        obtain ⟨nz, hnz⟩ : ∃ z, (hi % 4294967296).toNat = z := ⟨_, rfl⟩
        have wnz : IntKind.u32.wrap hi = (nz : Int) := by rw [u32_wrap]; omega
        have nzl : nz < 4294967296 := by omega
        have HNZ := Lib.hid hnz
        clear hnz
        have HDW : Hid (d = { c with first := Ad4.ofN nl, last := Ad4.ofN nz }) := Lib.hid (by rw [← HD.out]; unfold rfill; rw [if_pos HLA.out]; unfold rFi rLa; rw [if_neg (by rw [HFB.out]; decide), HLO.out, HNL.out, if_neg (by rw [HLB.out]; decide), HHI.out, HNZ.out])
        go_wp2_with fail
        with_reducible refine (rof4_l nz _ nzl).mono ?_
        rintro e w61 ⟨rfl, b61⟩
        replace hres := blk_u hres b61
        replace hrd := blk_u hrd b61
        replace sF := sF.below b61
        replace sO := sO.below b61
        replace sN := sN.below b61
        replace bel := bel.trans (b61.mono bel.size)
        clear b61
        go_wp2_with (first | ((with_reducible show wpList _ _ _ (⟨none, Op.store _ (.tmp 146) _, _, _, _, _⟩ :: _) _ _); refine wpList_store_part rfl 24 (.tmp 146) (.tmp 145) rfl g6 25 rfl [.int .u8 ((Ad4.ofN nz).a.toNat : Int), .int .u8 ((Ad4.ofN nz).b.toNat : Int), .int .u8 ((Ad4.ofN nz).c.toNat : Int), .int .u8 ((Ad4.ofN nz).d.toNat : Int)] rfl [.int .u8 (c.own.a.toNat : Int), .int .u8 (c.own.b.toNat : Int), .int .u8 (c.own.c.toNat : Int), .int .u8 (c.own.d.toNat : Int), .int .u8 (c.lan.a.toNat : Int), .int .u8 (c.lan.b.toNat : Int), .int .u8 (c.lan.c.toNat : Int), .int .u8 (c.lan.d.toNat : Int), .int .i64 c.bits, .int .u8 (c.lanmac.a.toNat : Int), .int .u8 (c.lanmac.b.toNat : Int), .int .u8 (c.lanmac.c.toNat : Int), .int .u8 (c.lanmac.d.toNat : Int), .int .u8 (c.lanmac.e.toNat : Int), .int .u8 (c.lanmac.f.toNat : Int), .int .u8 (c.wanmac.a.toNat : Int), .int .u8 (c.wanmac.b.toNat : Int), .int .u8 (c.wanmac.c.toNat : Int), .int .u8 (c.wanmac.d.toNat : Int), .int .u8 (c.wanmac.e.toNat : Int), .int .u8 (c.wanmac.f.toNat : Int), .int .u8 ((Ad4.ofN nl).a.toNat : Int), .int .u8 ((Ad4.ofN nl).b.toNat : Int), .int .u8 ((Ad4.ofN nl).c.toNat : Int), .int .u8 ((Ad4.ofN nl).d.toNat : Int), .int .u8 (c.last.a.toNat : Int), .int .u8 (c.last.b.toNat : Int), .int .u8 (c.last.c.toNat : Int), .int .u8 (c.last.d.toNat : Int), .int .i64 c.time, .int .u8 (c.dns.a.toNat : Int), .int .u8 (c.dns.b.toNat : Int), .int .u8 (c.dns.c.toNat : Int), .int .u8 (c.dns.d.toNat : Int), .int .i64 c.udp, .int .i64 c.tcp, .int .i64 c.icmp, .int .i64 c.low, .slice Fx nf cf, .slice Ox nx cx] 40 hrd (by simp) [.int .u8 (c.own.a.toNat : Int), .int .u8 (c.own.b.toNat : Int), .int .u8 (c.own.c.toNat : Int), .int .u8 (c.own.d.toNat : Int), .int .u8 (c.lan.a.toNat : Int), .int .u8 (c.lan.b.toNat : Int), .int .u8 (c.lan.c.toNat : Int), .int .u8 (c.lan.d.toNat : Int), .int .i64 c.bits, .int .u8 (c.lanmac.a.toNat : Int), .int .u8 (c.lanmac.b.toNat : Int), .int .u8 (c.lanmac.c.toNat : Int), .int .u8 (c.lanmac.d.toNat : Int), .int .u8 (c.lanmac.e.toNat : Int), .int .u8 (c.lanmac.f.toNat : Int), .int .u8 (c.wanmac.a.toNat : Int), .int .u8 (c.wanmac.b.toNat : Int), .int .u8 (c.wanmac.c.toNat : Int), .int .u8 (c.wanmac.d.toNat : Int), .int .u8 (c.wanmac.e.toNat : Int), .int .u8 (c.wanmac.f.toNat : Int), .int .u8 ((Ad4.ofN nl).a.toNat : Int), .int .u8 ((Ad4.ofN nl).b.toNat : Int), .int .u8 ((Ad4.ofN nl).c.toNat : Int), .int .u8 ((Ad4.ofN nl).d.toNat : Int), .int .u8 ((Ad4.ofN nz).a.toNat : Int), .int .u8 ((Ad4.ofN nz).b.toNat : Int), .int .u8 ((Ad4.ofN nz).c.toNat : Int), .int .u8 ((Ad4.ofN nz).d.toNat : Int), .int .i64 c.time, .int .u8 (c.dns.a.toNat : Int), .int .u8 (c.dns.b.toNat : Int), .int .u8 (c.dns.c.toNat : Int), .int .u8 (c.dns.d.toNat : Int), .int .i64 c.udp, .int .i64 c.tcp, .int .i64 c.icmp, .int .i64 c.low, .slice Fx nf cf, .slice Ox nx cx] rfl (by kernel_rfl) (by rfl) ?_; intro w62 hq gr; replace sF := sF.away av_sF_rd gr; replace sO := sO.away av_sO_rd gr; replace sN := sN.away av_sN_rd gr; replace hres := blk_a hres gr d_res_rd; replace bel := below_grown bel gr ord bel.size; clear hrd; have hrd := hq; clear hq gr))
        have e_ := HDW.out
        clear HDW
        subst e_
        go_meet
        case rel => exact ⟨hres, hrd, sF, sO, sN, bel⟩
      clear hres hrd sF sO sN bel
      obtain ⟨w56, hw_⟩ : ∃ x, x = wc := ⟨_, rfl⟩
      subst hw_
      obtain ⟨hres, hrd, sF, sO, sN, bel⟩ := hcut
      have R147 := Lib.hid (range_lit hrd 0 40 (cfl d Fx nf cf Ox nx cx) rfl)
      go_wp2_with (first | ((with_reducible show wpList _ _ _ (⟨some 147, _, _, _, _, _⟩ :: _) _ _); refine wpList_load_rng 40 (.tmp 6) rfl (by kernel_rfl) _ _ rfl _ R147.out _ Try.underlying40 rfl (by kernel_rfl) ?_))
      try clear R147
      with_reducible refine (check_any d _ _ _ _ _ _ _ sF sO).mono ?_
      rintro e w57 ⟨rfl, b57⟩
      replace hres := blk_u hres b57
      replace hrd := blk_u hrd b57
      replace sF := sF.below b57
      replace sO := sO.below b57
      replace sN := sN.below b57
      replace bel := bel.trans (b57.mono bel.size)
      clear b57
      obtain ⟨b, hb⟩ : ∃ b, d.check = b := ⟨_, rfl⟩
      rw [hb]
      have HB := Lib.hid hb
      clear hb
      rcases b with _ | _
      · have HP : Hid (parseS t = (zeroC, 0, 1)) := Lib.hid (by unfold parseS; rw [if_neg h16, if_neg (by rw [HLS.out, HNN.out]; exact h4), HLS.out, HOK.out]; simp only [(fill_b HSE.out HIN.out HD.out).1 HB.out]; rfl)
        go_wp2_with (first | ((with_reducible show wpList _ _ _ (⟨none, Op.store _ (.tmp 2) _, _, _, _, _⟩ :: _) _ _); refine wpList_store_blk rfl 40 (.tmp 2) (.tmp 150) rfl g2 rfl _ rfl _ 40 hres (by rfl) (by kernel_rfl) (by kernel_rfl) ?_; intro w58 hq gr; replace sF := sF.away av_sF_res gr; replace sO := sO.away av_sO_res gr; replace sN := sN.away av_sN_res gr; replace hrd := blk_a hrd gr (ne_symm d_res_rd); replace bel := below_grown bel gr ores bel.size; clear hres; have hres := hq; clear hq gr))
        exact bodyPost_ret (results_cell_tt_row rfl _ _ _ _ _ _ _ rfl hres Try.underlying40 rfl (by kernel_rfl) _ _ rfl rfl) rfl ⟨none, 0, 0, none, 0, 0, by rw [HP.out]; rfl, by rw [HP.out]; exact Sle.nil (by decide) fxf_len _, by rw [HP.out]; exact Sle.nil (by decide) opf_len _, bel⟩
      have HP : Hid (parseS t = (d, 0, 0)) := Lib.hid (by unfold parseS; rw [if_neg h16, if_neg (by rw [HLS.out, HNN.out]; exact h4), HLS.out, HOK.out]; simp only [(fill_b HSE.out HIN.out HD.out).2 HB.out, HB.out]; rfl)
      have R151 := Lib.hid (range_lit hrd 0 40 (cfl d Fx nf cf Ox nx cx) rfl)
      go_wp2_with (first | ((with_reducible show wpList _ _ _ (⟨some 151, _, _, _, _, _⟩ :: _) _ _); refine wpList_load_rng 40 (.tmp 6) rfl (by kernel_rfl) _ _ rfl _ R151.out _ Try.underlying40 rfl (by kernel_rfl) ?_) | ((with_reducible show wpList _ _ _ (⟨none, Op.store _ (.tmp 2) _, _, _, _, _⟩ :: _) _ _); refine wpList_store_blk rfl 40 (.tmp 2) (.tmp 151) rfl g2 rfl _ rfl _ 40 hres (by rfl) (by kernel_rfl) (by kernel_rfl) ?_; intro w58 hq gr; replace sF := sF.away av_sF_res gr; replace sO := sO.away av_sO_res gr; replace sN := sN.away av_sN_res gr; replace hrd := blk_a hrd gr (ne_symm d_res_rd); replace bel := below_grown bel gr ores bel.size; clear hres; have hres := hq; clear hq gr))
      try clear R151
      exact bodyPost_ret (results_cell_tt_row rfl _ _ _ _ _ _ _ rfl hres Try.underlying40 rfl (by kernel_rfl) _ _ rfl rfl) rfl ⟨Fx, nf, cf, Ox, nx, cx, by rw [HP.out]; rfl, by rw [HP.out]; exact sF, by rw [HP.out]; exact sO, bel⟩
    obtain ⟨gW, oW, hWp⟩ := wt.place (by omega)
    subst hWp
    obtain ⟨x, hx⟩ : ∃ x, ls[j]? = some x := ⟨_, List.getElem?_eq_getElem (by rw [HNN.out]; exact hjn)⟩
    have HX := Lib.hid hx
    have HXL := Lib.hid (line_len (t := t) (n := 100000) (by omega) (by rw [HLS.out]; exact hx))
    have hxl := HXL.out
    clear hx
    have R37 := Sle.st (i := j) wt HX.out
    go_wp2_with fail
    clear R37
    with_reducible refine (trim_any x _ HXL.out).mono ?_
    rintro e _ ⟨rfl, rfl⟩
    obtain ⟨a, ha_⟩ : ∃ z, trimL x = z := ⟨_, rfl⟩
    rw [ha_]
    have HTR := Lib.hid ha_
    have al := trim_len x
    rw [ha_] at al
    clear ha_
    rcases cons_cases a with ha | ⟨y0, r0, ha⟩
    · have ea : (a == []) = true := by rw [ha]; rfl
      have HSK : Hid (skipL x = true) := Lib.hid (by rw [skip_trim, HTR.out, ha])
      clear ha
      obtain ⟨k1_, k2_, k3_⟩ := line_skip HSK.out c ns
      have HRN : Hid (runL usualC [] ls 0 = runL c ns (ls.drop (j + 1)) (j + 1)) := Lib.hid (by rw [HRUN.out, run_ok HX.out k1_, k2_, k3_])
      clear k1_ k2_ k3_
      go_wp2_with fail
      go_roundg (n + 1 - (j + 1))
      case measure => have := HGKJ.out; omega
      case rel => exact ⟨j + 1, c, ns, nr, nn, Fx, nf, cf, Ox, nx, cx, AsN, csN, rfl, by omega, HRN, HSE, HIN, by omega, by omega, by omega, apW, apF, apO, rfl, by go_num, sNw, of_sN_res, of_sN_rd, hres, hrd, wt, sF, av_sF_res, av_sF_rd, sO, av_sO_res, av_sO_rd, bel⟩
    have ea : (a == []) = false := by rw [ha]; rfl
    have HA0 : Hid (a[0]? = some y0) := Lib.hid (by rw [ha]; rfl)
    have HAC := Lib.hid ha
    have al0 : 0 < a.length := by rw [ha]; simp
    clear ha
    rcases (by decide : ∀ b : Bool, b = true ∨ b = false) (y0 == 35) with b35 | b35
    · have e35 : ((y0.toNat : Int) == 35) = true := u8_eq (n := 35) (by decide) b35
      have HSK : Hid (skipL x = true) := Lib.hid (by rw [skip_trim, HTR.out, HAC.out]; exact b35)
      obtain ⟨k1_, k2_, k3_⟩ := line_skip HSK.out c ns
      have HRN : Hid (runL usualC [] ls 0 = runL c ns (ls.drop (j + 1)) (j + 1)) := Lib.hid (by rw [HRUN.out, run_ok HX.out k1_, k2_, k3_])
      clear k1_ k2_ k3_
      have R43 := fun W => st_index0 HA0.out W
      go_wp2_with fail
      clear R43
      go_roundg (n + 1 - (j + 1))
      case measure => have := HGKJ.out; omega
      case rel => exact ⟨j + 1, c, ns, nr, nn, Fx, nf, cf, Ox, nx, cx, AsN, csN, rfl, by omega, HRN, HSE, HIN, by omega, by omega, by omega, apW, apF, apO, rfl, by go_num, sNw, of_sN_res, of_sN_rd, hres, hrd, wt, sF, av_sF_res, av_sF_rd, sO, av_sO_res, av_sO_rd, bel⟩
    obtain ⟨e35, e36⟩ := u8_ne (n := 35) (by decide) b35
    replace e35 : ((y0.toNat : Int) == 35) = false := e35
    replace e36 : ((y0.toNat : Int) != 35) = true := e36
    have HSK : Hid (skipL x = false) := Lib.hid (by rw [skip_trim, HTR.out, HAC.out]; exact b35)
    clear HAC
    have R43 := fun W => st_index0 HA0.out W
    go_wp2_with fail
    clear R43
    obtain ⟨w6, hw_⟩ : ∃ x, x = wr := ⟨_, rfl⟩
    subst hw_
    go_loopg [10] (a.length + 1) (fun gk s10 wr => ∃ k : Nat, gk = a.length + 1 - k ∧ k ≤ a.length ∧ Hid (∀ c ∈ a.take k, c ≠ 61) ∧ s10 = .int .i64 (k : Int) ∧ w6 = wr)
    case atStart => exact ⟨0, rfl, Nat.zero_le _, Lib.hid (by simp), rfl, rfl⟩
    case round =>
      obtain ⟨k, HGK, hk, HK, rfl, rfl⟩ := hrel
      have HGK_ := Lib.hid HGK
      clear HGK
      have k0 : (0 : Int) ≤ k := by omega
      have k1 : (k : Int) ≤ 100000 := by omega
      by_cases hka : k < a.length
      rotate_left
      · have hka_ : decide (k < a.length) = false := decide_eq_false hka
        have kne : ((k : Int) == (a.length : Int)) = true := beq_iff_eq.2 (by omega)
        have HCN : Hid (cut1 61 (trimL x) = none) := Lib.hid (by rw [HTR.out]; refine cut1_free ?_; have h_ := HK.out; rwa [List.take_of_length_le (by omega)] at h_)
        have HLE : Hid (lineE ns x = 9) := Lib.hid (line_none HSK.out HCN.out ns)
        have HP : Hid (parseS t = (zeroC, ((j + 1 : Nat) : Int), 9)) := Lib.hid (by unfold parseS; rw [if_neg h16, if_neg (by rw [HLS.out, HNN.out]; exact h4), HLS.out, HRUN.out, run_no HX.out (by rw [HLE.out]; decide), HLE.out])
        rw [show ((j + 1 : Nat) : Int) = (j : Int) + 1 by omega] at HP
        go_wp2_with (first | ((with_reducible show wpList _ _ _ (⟨none, Op.store _ (.tmp 2) _, _, _, _, _⟩ :: _) _ _); refine wpList_store_blk rfl 40 (.tmp 2) (.tmp 62) rfl g2 rfl _ rfl _ 40 hres (by rfl) (by kernel_rfl) (by kernel_rfl) ?_; intro w7 hq gr; replace wt := wt.away av_wt_res gr; replace sF := sF.away av_sF_res gr; replace sO := sO.away av_sO_res gr; replace sN := sN.away av_sN_res gr; replace sNw := owk_off sNw of_sN_res gr; replace lz_sN := Nat.le_trans lz_sN gr.size; replace hrd := blk_a hrd gr (ne_symm d_res_rd); replace bel := below_grown bel gr ores bel.size; clear hres; have hres := hq; clear hq gr))
        exact bodyPost_ret (results_cell_tt_row rfl _ _ _ _ _ _ _ rfl hres Try.underlying40 rfl (by kernel_rfl) _ _ rfl rfl) rfl ⟨none, 0, 0, none, 0, 0, by rw [HP.out]; rfl, by rw [HP.out]; exact Sle.nil (by decide) fxf_len _, by rw [HP.out]; exact Sle.nil (by decide) opf_len _, bel⟩
      obtain ⟨y, hy⟩ : ∃ y, a[k]? = some y := ⟨_, List.getElem?_eq_getElem hka⟩
      have HY := Lib.hid hy
      clear hy
      obtain ⟨px, hpx⟩ : ∃ z, a.take k = z := ⟨_, rfl⟩
      have HPX := Lib.hid hpx
      obtain ⟨py, hpy⟩ : ∃ z, a.drop (k + 1) = z := ⟨_, rfl⟩
      have HPL : Hid (px.length ≤ 100000) := Lib.hid (by rw [← hpx, List.length_take]; omega)
      have HQL : Hid (py.length ≤ 100000) := Lib.hid (by rw [← hpy, List.length_drop]; omega)
      obtain ⟨k2, hk2⟩ : ∃ z, k + 1 = z := ⟨_, rfl⟩
      have HKN := Lib.hid hk2
      rw [hk2] at hpy
      have HPY := Lib.hid hpy
      clear hpx hk2 hpy
      rcases (by decide : ∀ b : Bool, b = true ∨ b = false) (y == 61) with b61 | b61
      rotate_left
      · obtain ⟨e61, e62⟩ := u8_ne (n := 61) (by decide) b61
        replace e61 : ((y.toNat : Int) == 61) = false := e61
        replace e62 : ((y.toNat : Int) != 61) = true := e62
        have HK2 := Lib.hid (take_free HK.out HY.out b61)
        have R53 := fun W => st_index HY.out W
        go_wp2_with fail
        clear R53
        go_roundg (a.length + 1 - (k + 1))
        case measure => have := HGK_.out; omega
        case rel => exact ⟨k + 1, rfl, by omega, HK2, by go_num, rfl⟩
      have hk2l : k2 ≤ a.length := by have := HKN.out; omega
      have F67 := fun W => st_to (l := a) (j := k) (by omega) W
      have F72 := fun W => st_from (l := a) (i := k2) (by omega) W
      have W71 : IntKind.i64.wrap ((k : Int) + 1) = (k2 : Int) := by rw [IntWalk.i64_in _ (by omega)]; have := HKN.out; omega
      rw [HPX.out] at F67
      rw [HPY.out] at F72
      have HCUT : Hid (cut1 61 (trimL x) = some (px, py)) := Lib.hid (by rw [HTR.out, ← HPX.out, ← HPY.out, ← HKN.out]; exact cut_here HK.out HY.out b61)
      have e61 : ((y.toNat : Int) == 61) = true := u8_eq (n := 61) (by decide) b61
      have e62 : ((y.toNat : Int) != 61) = false := by rw [bne, e61]; rfl
      have kne : ((k : Int) == (a.length : Int)) = false := beq_eq_false_iff_ne.2 (by omega)
      have R53 := fun W => st_index HY.out W
      go_wp2_with fail
      clear R53
      replace bel := bel.drew
      replace hres : w6.drew.heap[g2]? = _ := hres
      replace hrd : w6.drew.heap[g6]? = _ := hrd
      replace wt := wt.drew
      replace sF := sF.drew
      replace sO := sO.drew
      replace sN := sN.drew
      replace sNw : w6.drew.ownsRow _ _ _ _ _ _ := sNw
      replace lz_sN : _ ≤ w6.drew.heap.size := lz_sN
      refine wp_region_held_drew (S := fun _ => True) (by kernel_rfl) trivial (fun hH => ?_)
      generalize w6.drew = w7 at bel hres hrd wt sF sO sN sNw lz_sN hH ⊢
      refine wpAnyH_take (i := 0) (v := ?_) rfl (by kernel_rfl) (by kernel_rfl) (by kernel_rfl) (fun _ _ _ h => h) (Or.inl ⟨by rfl, ?_⟩) hH ?_
      rotate_left
      · ((intro W hW; clear hW; go_simp) <;> with_reducible rfl)
      simp only [Act.put, List.getElem_toArray, List.getElem_cons_zero, List.setIfInBounds_toArray, List.set_cons_zero, List.set_cons_succ]
      refine wpAnyH_take (i := 1) (v := ?_) rfl (by kernel_rfl) (by kernel_rfl) (by kernel_rfl) (fun _ _ _ h => h) (Or.inl ⟨by rfl, ?_⟩) hH ?_
      rotate_left
      · ((intro W hW; clear hW; go_simp) <;> with_reducible rfl)
      simp only [sq3, sq4]
      refine wpAnyH_take (i := 2) (v := ?_) rfl (by kernel_rfl) (by kernel_rfl) (by kernel_rfl) (fun _ _ _ h => h) (Or.inl ⟨by rfl, ?_⟩) hH ?_
      rotate_left
      · ((intro W hW; clear hW; go_simp) <;> with_reducible rfl)
      simp only [sq3, sq4]
      refine wpAnyH_take (i := 4) (v := ?_) rfl (by kernel_rfl) (by kernel_rfl) (by kernel_rfl) (fun _ _ _ h => h) (Or.inl ⟨by rfl, ?_⟩) hH ?_
      rotate_left
      · ((intro W hW; clear hW; go_simp) <;> with_reducible rfl)
      simp only [sq3, sq4]
      refine wpAnyH_take (i := 5) (v := ?_) rfl (by kernel_rfl) (by kernel_rfl) (by kernel_rfl) (fun _ _ _ h => h) (Or.inl ⟨by rfl, ?_⟩) hH ?_
      rotate_left
      · ((intro W hW; clear hW; go_simp) <;> with_reducible rfl)
      simp only [sq3, sq4]
      refine wpAnyH_take (i := 6) (v := ?_) rfl (by kernel_rfl) (by kernel_rfl) (by kernel_rfl) (fun _ _ _ h => h) (Or.inl ⟨by rfl, ?_⟩) hH ?_
      rotate_left
      · ((intro W hW; clear hW; go_simp) <;> with_reducible rfl)
      simp only [sq3, sq4]
      refine wpAnyH_take (i := 7) (v := ?_) rfl (by kernel_rfl) (by kernel_rfl) (by kernel_rfl) (fun _ _ _ h => h) (Or.inl ⟨by rfl, ?_⟩) hH ?_
      rotate_left
      · ((intro W hW; clear hW; go_simp) <;> with_reducible rfl)
      simp only [sq3, sq4]
      refine wpAnyH_ready (rs := [3]) (by kernel_rfl) (by simp) ?_
      refine AllReadyH.cons (o := _) rfl (fun K hK => ?_) AllReadyH.nil
      simp only [sq3]
      go_simp
      with_reducible refine (trim_any px _ HPL.out).mono ?_
      rintro e _ ⟨rfl, rfl⟩
      dsimp only
      obtain ⟨s, hs_⟩ : ∃ z, trimL px = z := ⟨_, rfl⟩
      rw [hs_]
      have HNM := Lib.hid hs_
      have sl := trim_len px
      rw [hs_] at sl
      clear hs_
      refine hK.out _ _ trivial (fun hH8 => ?_)
      clear hK K
      refine wpAnyH_ready (rs := [8]) (by kernel_rfl) (by simp) ?_
      refine AllReadyH.cons (o := _) rfl (fun K hK => ?_) AllReadyH.nil
      simp only [sq3]
      go_simp
      with_reducible refine (trim_any py _ HQL.out).mono ?_
      rintro e _ ⟨rfl, rfl⟩
      dsimp only
      obtain ⟨v, hv_⟩ : ∃ z, trimL py = z := ⟨_, rfl⟩
      rw [hv_]
      have HVV := Lib.hid hv_
      have vl := trim_len py
      rw [hv_] at vl
      clear hv_
      refine hK.out _ _ trivial (fun hH9 => ?_)
      clear hK K
      refine wpAnyH_take (i := 9) (v := ?_) rfl (by kernel_rfl) (by kernel_rfl) (by kernel_rfl) (fun _ _ _ h => h) (Or.inl ⟨by rfl, ?_⟩) hH9 ?_
      rotate_left
      · ((intro W hW; clear hW; go_simp) <;> with_reducible rfl)
      simp only [sq3, sq4]
      refine wpAnyH_take (i := 10) (v := ?_) rfl (by kernel_rfl) (by kernel_rfl) (by kernel_rfl) (fun _ _ _ h => h) (Or.inl ⟨by rfl, ?_⟩) hH9 ?_
      rotate_left
      · ((intro W hW; clear hW; go_simp) <;> with_reducible rfl)
      simp only [sq3, sq4]
      refine wpAnyH_done (by kernel_rfl) ?_ _
      have HVL : Hid (v.length ≤ 100000) := Lib.hid (by have := HQL.out; omega)
      clear F67 F72 W71
      go_wp2_with fail
      with_reducible refine (known_any s _).mono ?_
      rintro e w10 ⟨rfl, b10⟩
      replace hres := blk_u hres b10
      replace hrd := blk_u hrd b10
      replace wt := wt.below b10
      replace sF := sF.below b10
      replace sO := sO.below b10
      replace sN := sN.below b10
      replace sNw := owk_under sNw b10
      replace lz_sN := Nat.le_trans lz_sN b10.size
      replace bel := bel.trans (b10.mono bel.size)
      clear b10
      obtain ⟨kb, hkb⟩ : ∃ b, knownB s = b := ⟨_, rfl⟩
      rw [hkb]
      have HKB := Lib.hid hkb
      clear hkb
      rcases kb with _ | _
      · have hl_ := line_ref c HSE.out HSK.out HCUT.out
        rw [HNM.out, HVV.out] at hl_
        have HLE : Hid (lineE ns x = 9) := Lib.hid (hl_.1 HKB.out)
        have HP : Hid (parseS t = (zeroC, ((j + 1 : Nat) : Int), 9)) := Lib.hid (by unfold parseS; rw [if_neg h16, if_neg (by rw [HLS.out, HNN.out]; exact h4), HLS.out, HRUN.out, run_no HX.out (by rw [HLE.out]; decide), HLE.out])
        rw [show ((j + 1 : Nat) : Int) = (j : Int) + 1 by omega] at HP
        clear hl_
        go_wp2_with (first | ((with_reducible show wpList _ _ _ (⟨none, Op.store _ (.tmp 2) _, _, _, _, _⟩ :: _) _ _); refine wpList_store_blk rfl 40 (.tmp 2) (.tmp 83) rfl g2 rfl _ rfl _ 40 hres (by rfl) (by kernel_rfl) (by kernel_rfl) ?_; intro w11 hq gr; replace wt := wt.away av_wt_res gr; replace sF := sF.away av_sF_res gr; replace sO := sO.away av_sO_res gr; replace sN := sN.away av_sN_res gr; replace sNw := owk_off sNw of_sN_res gr; replace lz_sN := Nat.le_trans lz_sN gr.size; replace hrd := blk_a hrd gr (ne_symm d_res_rd); replace bel := below_grown bel gr ores bel.size; clear hres; have hres := hq; clear hq gr))
        exact bodyPost_ret (results_cell_tt_row rfl _ _ _ _ _ _ _ rfl hres Try.underlying40 rfl (by kernel_rfl) _ _ rfl rfl) rfl ⟨none, 0, 0, none, 0, 0, by rw [HP.out]; rfl, by rw [HP.out]; exact Sle.nil (by decide) fxf_len _, by rw [HP.out]; exact Sle.nil (by decide) opf_len _, bel⟩
      go_wp2_with fail
      have LRD := Lib.hid (hlt hrd)
      have LRS := Lib.hid (hlt hres)
      have LSN : Hid (∀ g, (Value.slice AsN nn csN).ownBlock = some g → g < w10.heap.size) := Lib.hid (fun g hg => own_lt sNw hg)
      with_reducible refine (rvalue_any c _ _ _ _ _ _ s v _ HKB.out hrd sF sO av_sF_rd av_sO_rd (by omega) (by omega) HVL.out).mono ?_
      rintro e w11 ⟨rfl, HV, b11⟩
      replace wt := wt.away av_wt_rd b11
      replace sF := sF.away av_sF_rd b11
      replace sO := sO.away av_sO_rd b11
      replace sN := sN.away av_sN_rd b11
      replace sNw := owk_off sNw of_sN_rd b11
      replace lz_sN := Nat.le_trans lz_sN b11.size
      replace hres := blk_a hres b11 d_res_rd
      replace bel := below_grown bel b11 ord bel.size
      clear b11
      obtain ⟨vb, hvb⟩ : ∃ b, valOk s v = b := ⟨_, rfl⟩
      rw [hvb] at HV
      rw [hvb]
      have HVB := Lib.hid hvb
      clear hvb hrd
      rcases vb with _ | _
      · have hl_ := line_ref c HSE.out HSK.out HCUT.out
        rw [HNM.out, HVV.out] at hl_
        have HLE : Hid (lineE ns x = 9) := Lib.hid (hl_.2.1 HKB.out HVB.out)
        have HP : Hid (parseS t = (zeroC, ((j + 1 : Nat) : Int), 9)) := Lib.hid (by unfold parseS; rw [if_neg h16, if_neg (by rw [HLS.out, HNN.out]; exact h4), HLS.out, HRUN.out, run_no HX.out (by rw [HLE.out]; decide), HLE.out])
        rw [show ((j + 1 : Nat) : Int) = (j : Int) + 1 by omega] at HP
        clear hl_ HV
        go_wp2_with (first | ((with_reducible show wpList _ _ _ (⟨none, Op.store _ (.tmp 2) _, _, _, _, _⟩ :: _) _ _); refine wpList_store_blk rfl 40 (.tmp 2) (.tmp 83) rfl g2 rfl _ rfl _ 40 hres (by rfl) (by kernel_rfl) (by kernel_rfl) ?_; intro w12 hq gr; replace wt := wt.away av_wt_res gr; replace sF := sF.away av_sF_res gr; replace sO := sO.away av_sO_res gr; replace sN := sN.away av_sN_res gr; replace sNw := owk_off sNw of_sN_res gr; replace lz_sN := Nat.le_trans lz_sN gr.size; replace bel := below_grown bel gr ores bel.size; clear hres; have hres := hq; clear hq gr))
        exact bodyPost_ret (results_cell_tt_row rfl _ _ _ _ _ _ _ rfl hres Try.underlying40 rfl (by kernel_rfl) _ _ rfl rfl) rfl ⟨none, 0, 0, none, 0, 0, by rw [HP.out]; rfl, by rw [HP.out]; exact Sle.nil (by decide) fxf_len _, by rw [HP.out]; exact Sle.nil (by decide) opf_len _, bel⟩
      obtain ⟨Gx, ng, cg, Hx, nh, ch, hrd, sF2, sO2, HF_, HO_⟩ := HV rfl
      have hng : ng ≤ j + 1 := by rw [← sF2.1]; have h1_ := (valC_len c s v).1; have h2_ := sF.1; omega
      have hnh : nh ≤ j + 1 := by rw [← sO2.1]; have h1_ := (valC_len c s v).2; have h2_ := sO.1; omega
      replace av_sF_rd := HF_ _ LRD.out av_sF_rd
      replace av_sF_res := HF_ _ LRS.out av_sF_res
      replace av_sO_rd := HO_ _ LRD.out av_sO_rd
      replace av_sO_res := HO_ _ LRS.out av_sO_res
      replace apF : Apo (.slice AsN nn csN) Gx ng := fun g hg => HF_ g (LSN.out g hg) (apF g hg)
      replace apO : Apo (.slice AsN nn csN) Hx nh := fun g hg => HO_ g (LSN.out g hg) (apO g hg)
      clear HF_ HO_ LSN HV sF sO
      have sF := sF2
      have sO := sO2
      clear sF2 sO2
      obtain ⟨hb, hhb⟩ : ∃ b, nr.contains s = b := ⟨_, rfl⟩
      have HHB := Lib.hid hhb
      clear hhb
      go_wp2_with fail
      with_reducible refine (has_any _ _ _ nr s _ sN (by omega)).mono ?_
      rintro e _ ⟨rfl, rfl⟩
      rw [HHB.out]
      rcases hb with _ | _
      · have hl_ := line_ref c HSE.out HSK.out HCUT.out
        rw [HNM.out, HVV.out] at hl_
        obtain ⟨k1_, k2_, k3_⟩ := hl_.2.2.2 HKB.out HVB.out (.inl HHB.out)
        have HSE2 := Lib.hid k3_
        have HIN2 := Lib.hid (inv_step HIN.out s v)
        have HRN : Hid (runL usualC [] ls 0 = runL (valC c s v) (lineN ns x) (ls.drop (j + 1)) (j + 1)) := Lib.hid (by rw [HRUN.out, run_ok HX.out k1_, k2_])
        clear k1_ k2_ k3_ hl_
        go_wp2_with (first | ((with_reducible show wpList _ _ _ (⟨some 102, _, _, _, _, _⟩ :: _) _ _); refine wpList_lit_n rfl 47 9 1 _ rfl #[.string ⟨(s).toArray⟩] (.string ⟨#[]⟩) Try.underlying47 (by kernel_rfl) 1 (by kernel_rfl) (by decide) (by kernel_rfl) ?_; intro g102 w12 ge lt hh bb; have d_res_b102 := ne_new (hlt hres) ge; have d_rd_b102 := ne_new (hlt hrd) ge; have av_wt_b102 := wt.av_new ge; have av_sN_b102 := sN.av_new ge; have of_sN_b102 := owk_new sNw ge; have av_sF_b102 := sF.av_new ge; have av_sO_b102 := sO.av_new ge; have ob102 := Nat.le_trans bel.size ge; replace hres := blk_u hres bb; replace hrd := blk_u hrd bb; replace wt := wt.below bb; replace sN := sN.below bb; replace sNw := owk_under sNw bb; replace sF := sF.below bb; replace sO := sO.below bb; replace lz_sN := Nat.le_trans lz_sN bb.size; replace bel := bel.trans (bb.mono bel.size); have hb102 := hh; clear hh lt ge bb; have lt : Sle stf 1 w12 (some ⟨g102, 0, none⟩) (1) (1) ([s]) := sle_lit ([s]) (by decide) stf_len hb102 rfl (by simp [maxLen])) | ((with_reducible show wpList _ _ _ (⟨some 103, _, _, _, _, _⟩ :: _) _ _); refine wpList_append_sle rfl (.tmp 100) (.tmp 102) 47 rfl (w.heap.size) 9 is (.string ⟨#[]⟩) 16 Try.underlying47 his his0 his1 his2 rfl stf_one _ (nn) (nr) rfl sNw (some ⟨g102, 0, none⟩) (1) (1) ([s]) rfl lt (by unfold maxLen; omega) (by omega) lz_sN ?_; intro v103 w13 own_ bb gw ofw; have of103_res := ofw _ (hlt hres) of_sN_res; have of103_rd := ofw _ (hlt hrd) of_sN_rd; have of103_b102 := ofw _ (hlt hb102) of_sN_b102; have apW_ := apo_new wt apW ofw; replace wt := wt.apart apW gw; clear apW; have apW := apW_; clear apW_; have apF_ := apo_new sF apF ofw; replace sF := sF.apart apF gw; clear apF; have apF := apF_; clear apF_; have apO_ := apo_new sO apO ofw; replace sO := sO.apart apO gw; clear apO; have apO := apO_; clear apO_; clear ofw; replace lt := Sle.off lt of_sN_b102 gw; replace hres := blk_own hres gw of_sN_res; replace hrd := blk_own hrd gw of_sN_rd; replace hb102 := blk_own hb102 gw of_sN_b102; clear gw; replace bel := bel.trans (bb.mono sNlo); have lz_sN2 := Nat.le_trans lz_sN bb.size; clear bb; clear sN sNw lz_sN; replace own_ : w13.ownsRow (w.heap.size) 9 1 v103 (nn + 1) ((nr ++ [s] : List (List UInt8)).flatMap stf) := own_; obtain ⟨A103, c103, rfl⟩ := owk_val own_; have sN2w := own_; have sN2 := (owk_sle (by decide) stf_len own_).1; have fr_sN2 := (owk_sle (by decide) stf_len own_).2; clear own_; have av_sN2_res := owk_av sN2w of103_res; have av_sN2_rd := owk_av sN2w of103_rd; have av_sN2_b102 := owk_av sN2w of103_b102))
        go_roundg (n + 1 - (j + 1))
        case measure => have := HGKJ.out; omega
        case rel => exact ⟨j + 1, valC c s v, lineN ns x, nr ++ [s], nn + 1, Gx, ng, cg, Hx, nh, ch, A103, c103, rfl, by omega, HRN, HSE2, HIN2, by omega, by omega, by omega, apW, apF, apO, rfl, by go_num, sN2w, of103_res, of103_rd, hres, hrd, wt, sF, av_sF_res, av_sF_rd, sO, av_sO_res, av_sO_rd, bel⟩
      rcases (by decide : ∀ b : Bool, b = true ∨ b = false) (s == [102, 105, 120, 101, 100]) with bf | bf
      · have bf_ : (s != [102, 105, 120, 101, 100]) = false := by rw [bne, bf]; rfl
        have hl_ := line_ref c HSE.out HSK.out HCUT.out
        rw [HNM.out, HVV.out] at hl_
        obtain ⟨k1_, k2_, k3_⟩ := hl_.2.2.2 HKB.out HVB.out (.inr (.inl (eq_of_beq bf)))
        have HSE2 := Lib.hid k3_
        have HIN2 := Lib.hid (inv_step HIN.out s v)
        have HRN : Hid (runL usualC [] ls 0 = runL (valC c s v) (lineN ns x) (ls.drop (j + 1)) (j + 1)) := Lib.hid (by rw [HRUN.out, run_ok HX.out k1_, k2_])
        clear k1_ k2_ k3_ hl_
        go_wp2_with (first | ((with_reducible show wpList _ _ _ (⟨some 102, _, _, _, _, _⟩ :: _) _ _); refine wpList_lit_n rfl 47 9 1 _ rfl #[.string ⟨(s).toArray⟩] (.string ⟨#[]⟩) Try.underlying47 (by kernel_rfl) 1 (by kernel_rfl) (by decide) (by kernel_rfl) ?_; intro g102 w12 ge lt hh bb; have d_res_b102 := ne_new (hlt hres) ge; have d_rd_b102 := ne_new (hlt hrd) ge; have av_wt_b102 := wt.av_new ge; have av_sN_b102 := sN.av_new ge; have of_sN_b102 := owk_new sNw ge; have av_sF_b102 := sF.av_new ge; have av_sO_b102 := sO.av_new ge; have ob102 := Nat.le_trans bel.size ge; replace hres := blk_u hres bb; replace hrd := blk_u hrd bb; replace wt := wt.below bb; replace sN := sN.below bb; replace sNw := owk_under sNw bb; replace sF := sF.below bb; replace sO := sO.below bb; replace lz_sN := Nat.le_trans lz_sN bb.size; replace bel := bel.trans (bb.mono bel.size); have hb102 := hh; clear hh lt ge bb; have lt : Sle stf 1 w12 (some ⟨g102, 0, none⟩) (1) (1) ([s]) := sle_lit ([s]) (by decide) stf_len hb102 rfl (by simp [maxLen])) | ((with_reducible show wpList _ _ _ (⟨some 103, _, _, _, _, _⟩ :: _) _ _); refine wpList_append_sle rfl (.tmp 100) (.tmp 102) 47 rfl (w.heap.size) 9 is (.string ⟨#[]⟩) 16 Try.underlying47 his his0 his1 his2 rfl stf_one _ (nn) (nr) rfl sNw (some ⟨g102, 0, none⟩) (1) (1) ([s]) rfl lt (by unfold maxLen; omega) (by omega) lz_sN ?_; intro v103 w13 own_ bb gw ofw; have of103_res := ofw _ (hlt hres) of_sN_res; have of103_rd := ofw _ (hlt hrd) of_sN_rd; have of103_b102 := ofw _ (hlt hb102) of_sN_b102; have apW_ := apo_new wt apW ofw; replace wt := wt.apart apW gw; clear apW; have apW := apW_; clear apW_; have apF_ := apo_new sF apF ofw; replace sF := sF.apart apF gw; clear apF; have apF := apF_; clear apF_; have apO_ := apo_new sO apO ofw; replace sO := sO.apart apO gw; clear apO; have apO := apO_; clear apO_; clear ofw; replace lt := Sle.off lt of_sN_b102 gw; replace hres := blk_own hres gw of_sN_res; replace hrd := blk_own hrd gw of_sN_rd; replace hb102 := blk_own hb102 gw of_sN_b102; clear gw; replace bel := bel.trans (bb.mono sNlo); have lz_sN2 := Nat.le_trans lz_sN bb.size; clear bb; clear sN sNw lz_sN; replace own_ : w13.ownsRow (w.heap.size) 9 1 v103 (nn + 1) ((nr ++ [s] : List (List UInt8)).flatMap stf) := own_; obtain ⟨A103, c103, rfl⟩ := owk_val own_; have sN2w := own_; have sN2 := (owk_sle (by decide) stf_len own_).1; have fr_sN2 := (owk_sle (by decide) stf_len own_).2; clear own_; have av_sN2_res := owk_av sN2w of103_res; have av_sN2_rd := owk_av sN2w of103_rd; have av_sN2_b102 := owk_av sN2w of103_b102))
        go_roundg (n + 1 - (j + 1))
        case measure => have := HGKJ.out; omega
        case rel => exact ⟨j + 1, valC c s v, lineN ns x, nr ++ [s], nn + 1, Gx, ng, cg, Hx, nh, ch, A103, c103, rfl, by omega, HRN, HSE2, HIN2, by omega, by omega, by omega, apW, apF, apO, rfl, by go_num, sN2w, of103_res, of103_rd, hres, hrd, wt, sF, av_sF_res, av_sF_rd, sO, av_sO_res, av_sO_rd, bel⟩
      have bf_ : (s != [102, 105, 120, 101, 100]) = true := by rw [bne, bf]; rfl
      rcases (by decide : ∀ b : Bool, b = true ∨ b = false) (s == [111, 112, 101, 110]) with bo | bo
      rotate_left
      · have bo_ : (s != [111, 112, 101, 110]) = true := by rw [bne, bo]; rfl
        have hl_ := line_ref c HSE.out HSK.out HCUT.out
        rw [HNM.out, HVV.out] at hl_
        have hne1 : s ≠ [102, 105, 120, 101, 100] := fun e => by rw [e] at bf; cases bf
        have hne2 : s ≠ [111, 112, 101, 110] := fun e => by rw [e] at bo; cases bo
        have HLE : Hid (lineE ns x = 8) := Lib.hid (hl_.2.2.1 HKB.out HVB.out HHB.out hne1 hne2)
        have HP : Hid (parseS t = (zeroC, ((j + 1 : Nat) : Int), 8)) := Lib.hid (by unfold parseS; rw [if_neg h16, if_neg (by rw [HLS.out, HNN.out]; exact h4), HLS.out, HRUN.out, run_no HX.out (by rw [HLE.out]; decide), HLE.out])
        rw [show ((j + 1 : Nat) : Int) = (j : Int) + 1 by omega] at HP
        clear hl_ hne1 hne2
        go_wp2_with (first | ((with_reducible show wpList _ _ _ (⟨none, Op.store _ (.tmp 2) _, _, _, _, _⟩ :: _) _ _); refine wpList_store_blk rfl 40 (.tmp 2) (.tmp 97) rfl g2 rfl _ rfl _ 40 hres (by rfl) (by kernel_rfl) (by kernel_rfl) ?_; intro w12 hq gr; replace wt := wt.away av_wt_res gr; replace sN := sN.away av_sN_res gr; replace sNw := owk_off sNw of_sN_res gr; replace sF := sF.away av_sF_res gr; replace sO := sO.away av_sO_res gr; replace lz_sN := Nat.le_trans lz_sN gr.size; replace hrd := blk_a hrd gr (ne_symm d_res_rd); replace bel := below_grown bel gr ores bel.size; clear hres; have hres := hq; clear hq gr))
        exact bodyPost_ret (results_cell_tt_row rfl _ _ _ _ _ _ _ rfl hres Try.underlying40 rfl (by kernel_rfl) _ _ rfl rfl) rfl ⟨none, 0, 0, none, 0, 0, by rw [HP.out]; rfl, by rw [HP.out]; exact Sle.nil (by decide) fxf_len _, by rw [HP.out]; exact Sle.nil (by decide) opf_len _, bel⟩
      have bo_ : (s != [111, 112, 101, 110]) = false := by rw [bne, bo]; rfl
      have hl_ := line_ref c HSE.out HSK.out HCUT.out
      rw [HNM.out, HVV.out] at hl_
      obtain ⟨k1_, k2_, k3_⟩ := hl_.2.2.2 HKB.out HVB.out (.inr (.inr (eq_of_beq bo)))
      have HSE2 := Lib.hid k3_
      have HIN2 := Lib.hid (inv_step HIN.out s v)
      have HRN : Hid (runL usualC [] ls 0 = runL (valC c s v) (lineN ns x) (ls.drop (j + 1)) (j + 1)) := Lib.hid (by rw [HRUN.out, run_ok HX.out k1_, k2_])
      clear k1_ k2_ k3_ hl_
      go_wp2_with (first | ((with_reducible show wpList _ _ _ (⟨some 102, _, _, _, _, _⟩ :: _) _ _); refine wpList_lit_n rfl 47 9 1 _ rfl #[.string ⟨(s).toArray⟩] (.string ⟨#[]⟩) Try.underlying47 (by kernel_rfl) 1 (by kernel_rfl) (by decide) (by kernel_rfl) ?_; intro g102 w12 ge lt hh bb; have d_res_b102 := ne_new (hlt hres) ge; have d_rd_b102 := ne_new (hlt hrd) ge; have av_wt_b102 := wt.av_new ge; have av_sN_b102 := sN.av_new ge; have of_sN_b102 := owk_new sNw ge; have av_sF_b102 := sF.av_new ge; have av_sO_b102 := sO.av_new ge; have ob102 := Nat.le_trans bel.size ge; replace hres := blk_u hres bb; replace hrd := blk_u hrd bb; replace wt := wt.below bb; replace sN := sN.below bb; replace sNw := owk_under sNw bb; replace sF := sF.below bb; replace sO := sO.below bb; replace lz_sN := Nat.le_trans lz_sN bb.size; replace bel := bel.trans (bb.mono bel.size); have hb102 := hh; clear hh lt ge bb; have lt : Sle stf 1 w12 (some ⟨g102, 0, none⟩) (1) (1) ([s]) := sle_lit ([s]) (by decide) stf_len hb102 rfl (by simp [maxLen])) | ((with_reducible show wpList _ _ _ (⟨some 103, _, _, _, _, _⟩ :: _) _ _); refine wpList_append_sle rfl (.tmp 100) (.tmp 102) 47 rfl (w.heap.size) 9 is (.string ⟨#[]⟩) 16 Try.underlying47 his his0 his1 his2 rfl stf_one _ (nn) (nr) rfl sNw (some ⟨g102, 0, none⟩) (1) (1) ([s]) rfl lt (by unfold maxLen; omega) (by omega) lz_sN ?_; intro v103 w13 own_ bb gw ofw; have of103_res := ofw _ (hlt hres) of_sN_res; have of103_rd := ofw _ (hlt hrd) of_sN_rd; have of103_b102 := ofw _ (hlt hb102) of_sN_b102; have apW_ := apo_new wt apW ofw; replace wt := wt.apart apW gw; clear apW; have apW := apW_; clear apW_; have apF_ := apo_new sF apF ofw; replace sF := sF.apart apF gw; clear apF; have apF := apF_; clear apF_; have apO_ := apo_new sO apO ofw; replace sO := sO.apart apO gw; clear apO; have apO := apO_; clear apO_; clear ofw; replace lt := Sle.off lt of_sN_b102 gw; replace hres := blk_own hres gw of_sN_res; replace hrd := blk_own hrd gw of_sN_rd; replace hb102 := blk_own hb102 gw of_sN_b102; clear gw; replace bel := bel.trans (bb.mono sNlo); have lz_sN2 := Nat.le_trans lz_sN bb.size; clear bb; clear sN sNw lz_sN; replace own_ : w13.ownsRow (w.heap.size) 9 1 v103 (nn + 1) ((nr ++ [s] : List (List UInt8)).flatMap stf) := own_; obtain ⟨A103, c103, rfl⟩ := owk_val own_; have sN2w := own_; have sN2 := (owk_sle (by decide) stf_len own_).1; have fr_sN2 := (owk_sle (by decide) stf_len own_).2; clear own_; have av_sN2_res := owk_av sN2w of103_res; have av_sN2_rd := owk_av sN2w of103_rd; have av_sN2_b102 := owk_av sN2w of103_b102))
      go_roundg (n + 1 - (j + 1))
      case measure => have := HGKJ.out; omega
      case rel => exact ⟨j + 1, valC c s v, lineN ns x, nr ++ [s], nn + 1, Gx, ng, cg, Hx, nh, ch, A103, c103, rfl, by omega, HRN, HSE2, HIN2, by omega, by omega, by omega, apW, apF, apO, rfl, by go_num, sN2w, of103_res, of103_rd, hres, hrd, wt, sF, av_sF_res, av_sF_rd, sO, av_sO_res, av_sO_rd, bel⟩
open Go.RowKit

theorem check_small {c : Cf} (h : c.check = true) : c.fixed.length ≤ 32 ∧ c.opens.length ≤ 32 := by
  unfold Cf.check Cf.checkC at h
  simp only [Bool.and_eq_true, Bool.not_eq_true', decide_eq_false_iff_not] at h
  omega
theorem parse_small {t : List UInt8} {c : Cf} {l e : Int} (h : parseS t = (c, l, e)) : c.fixed.length ≤ 32 ∧ c.opens.length ≤ 32 := by
  unfold parseS at h
  have z : zeroC.fixed.length ≤ 32 ∧ zeroC.opens.length ≤ 32 := by decide
  split at h
  · cases h; exact z
  split at h
  · cases h; exact z
  split at h
  · cases h; exact z
  split at h
  · rename_i hc; cases h; exact check_small hc
  · cases h; exact z
theorem rparse_is {t : List UInt8} {c : Cf} {l e : Int} (h : parseS t = (c, l, e)) (ht : t.length ≤ 1000000) (w : World) : Calls Try.prog 10 #[.string ⟨t.toArray⟩] w fun r w' => ∃ Fx nf cf Ox nx cx, r = .returned (.tuple #[.agg (cfl c Fx nf cf Ox nx cx).toArray, .int .i64 l, .int .i64 e]) ∧ Sle fxf 10 w' Fx nf cf c.fixed ∧ Sle opf 7 w' Ox nx cx c.opens ∧ Below w.heap.size w w' := by
  have k := rparse_any t w ht
  rw [h] at k
  exact k
set_option linter.unusedVariables false in
set_option linter.unusedSimpArgs false in
set_option maxRecDepth 100000 in
set_option maxHeartbeats 16000000 in
theorem confReads_w (t : List UInt8) (w : World) : Calls Try.prog 3 #[.string ⟨t.toArray⟩] w fun e w' => e = .returned (.bool true) ∧ Below w.heap.size w w' := by
  have bel := Below.refl w.heap.size w
  go_enter Try.func3, Try.ntmps3
  go_wp2_with fail
  with_reducible refine (awake_any _).mono ?_
  rintro e w1 ⟨rfl, b1⟩
  replace bel := bel.trans (b1.mono bel.size)
  clear b1
  by_cases hl : 3000 < t.length
  · have hl_ : (3000 : Int) < t.length := by omega
    have R12 := fun W => st_len t 3 W
    go_wp2_with fail
    clear R12
    go_ret
    exact ⟨rfl, bel⟩
  have hl_ : decide ((3000 : Int) < t.length) = false := decide_eq_false (by omega)
  have HTL : Hid (t.length ≤ 1000000) := Lib.hid (by omega)
  obtain ⟨cc, ll, ee, hps⟩ : ∃ c l e, parseS t = (c, l, e) := ⟨_, _, _, rfl⟩
  have HPS := Lib.hid hps
  have HSM := Lib.hid (parse_small hps)
  clear hps
  have el : (ll == ll) = true := beq_self_eq_true _
  have ef : (ee == ee) = true := beq_self_eq_true _
  have R12 := fun W => st_len t 3 W
  go_wp2_with fail
  clear R12
  with_reducible refine (cparse_is HPS.out HTL.out _).mono ?_
  rintro e w2 ⟨Fx, nf, cf, Ox, nx, cx, rfl, hf, ho, frF, frO, b2⟩
  replace bel := bel.trans (b2.mono bel.size)
  clear b2
  replace hf : Sle fxf 10 w2 (Fx) (nf) (cf) (cc.fixed) := hf
  replace ho : Sle opf 7 w2 (Ox) (nx) (cx) (cc.opens) := ho
  have hnf : nf ≤ 1000 := by rw [← hf.1]; have := HSM.out.1; omega
  have hnx : nx ≤ 1000 := by rw [← ho.1]; have := HSM.out.2; omega
  go_wp2_with (first | ((with_reducible show wpList _ _ _ (⟨some 3, _, _, _, _, _⟩ :: _) _ _); refine wpList_new_a rfl 32 rfl #[.int .u8 0, .int .u8 0, .int .u8 0, .int .u8 0, .int .u8 0, .int .u8 0, .int .u8 0, .int .u8 0, .int .i64 0, .int .u8 0, .int .u8 0, .int .u8 0, .int .u8 0, .int .u8 0, .int .u8 0, .int .u8 0, .int .u8 0, .int .u8 0, .int .u8 0, .int .u8 0, .int .u8 0, .int .u8 0, .int .u8 0, .int .u8 0, .int .u8 0, .int .u8 0, .int .u8 0, .int .u8 0, .int .u8 0, .int .i64 0, .int .u8 0, .int .u8 0, .int .u8 0, .int .u8 0, .int .i64 0, .int .i64 0, .int .i64 0, .int .i64 0, .slice none 0 0, .slice none 0 0] (by kernel_rfl) ?_; intro g3 w3 ge hh bb; have av_hf_ca := hf.av_new ge; have av_ho_ca := ho.av_new ge; have oca := Nat.le_trans bel.size ge; replace hf := hf.below bb; replace ho := ho.below bb; replace bel := bel.trans (bb.mono bel.size); have hca := hh; clear hh ge bb) | ((with_reducible show wpList _ _ _ (⟨none, Op.store _ (.tmp 3) _, _, _, _, _⟩ :: _) _ _); refine wpList_store_blk rfl 32 (.tmp 3) (.tmp 17) rfl g3 rfl _ rfl _ 32 hca (by rfl) (by kernel_rfl) (by kernel_rfl) ?_; intro w4 hq gr; replace hf := hf.away av_hf_ca gr; replace ho := ho.away av_ho_ca gr; replace bel := below_grown bel gr oca bel.size; clear hca; have hca := hq; clear hq gr))
  with_reducible refine (rparse_is HPS.out HTL.out _).mono ?_
  rintro e w5 ⟨Fy, nf2, cf2, Oy, nx2, cx2, rfl, hf2, ho2, b5⟩
  replace hca := blk_u hca b5
  replace hf := hf.below b5
  replace ho := ho.below b5
  replace bel := bel.trans (b5.mono bel.size)
  clear b5
  replace hf2 : Sle fxf 10 w5 (Fy) (nf2) (cf2) (cc.fixed) := hf2
  replace ho2 : Sle opf 7 w5 (Oy) (nx2) (cx2) (cc.opens) := ho2
  by_cases he : ee = 0
  rotate_left
  · have e1 : (ee == 0) = false := beq_eq_false_iff_ne.2 he
    have e2 : (ee != 0) = true := by rw [bne, e1]; rfl
    clear he
    go_wp2_with (first | ((with_reducible show wpList _ _ _ (⟨some 6, _, _, _, _, _⟩ :: _) _ _); refine wpList_new_a rfl 40 rfl #[.int .u8 0, .int .u8 0, .int .u8 0, .int .u8 0, .int .u8 0, .int .u8 0, .int .u8 0, .int .u8 0, .int .i64 0, .int .u8 0, .int .u8 0, .int .u8 0, .int .u8 0, .int .u8 0, .int .u8 0, .int .u8 0, .int .u8 0, .int .u8 0, .int .u8 0, .int .u8 0, .int .u8 0, .int .u8 0, .int .u8 0, .int .u8 0, .int .u8 0, .int .u8 0, .int .u8 0, .int .u8 0, .int .u8 0, .int .i64 0, .int .u8 0, .int .u8 0, .int .u8 0, .int .u8 0, .int .i64 0, .int .i64 0, .int .i64 0, .int .i64 0, .slice none 0 0, .slice none 0 0] (by kernel_rfl) ?_; intro g6 w6 ge hh bb; have d_ca_wb := ne_new (hlt hca) ge; have av_hf_wb := hf.av_new ge; have av_ho_wb := ho.av_new ge; have av_hf2_wb := hf2.av_new ge; have av_ho2_wb := ho2.av_new ge; have owb := Nat.le_trans bel.size ge; replace hca := blk_u hca bb; replace hf := hf.below bb; replace ho := ho.below bb; replace hf2 := hf2.below bb; replace ho2 := ho2.below bb; replace bel := bel.trans (bb.mono bel.size); have hwb := hh; clear hh ge bb) | ((with_reducible show wpList _ _ _ (⟨none, Op.store _ (.tmp 6) _, _, _, _, _⟩ :: _) _ _); refine wpList_store_blk rfl 40 (.tmp 6) (.tmp 23) rfl g6 rfl _ rfl _ 40 hwb (by rfl) (by kernel_rfl) (by kernel_rfl) ?_; intro w7 hq gr; replace hf := hf.away av_hf_wb gr; replace ho := ho.away av_ho_wb gr; replace hf2 := hf2.away av_hf2_wb gr; replace ho2 := ho2.away av_ho2_wb gr; replace hca := blk_a hca gr d_ca_wb; replace bel := below_grown bel gr owb bel.size; clear hwb; have hwb := hq; clear hq gr))
    replace bel := bel.drew
    replace hca : w7.drew.heap[g3]? = _ := hca
    replace hwb : w7.drew.heap[g6]? = _ := hwb
    replace hf := hf.drew
    replace ho := ho.drew
    replace hf2 := hf2.drew
    replace ho2 := ho2.drew
    refine wp_region_held_drew (S := fun W => W.heap[g3]? = some (.cells (cfl cc Fx nf cf Ox nx cx).toArray 32 (0, 0)) ∧ W.heap[g6]? = some (.cells (cfl cc Fy nf2 cf2 Oy nx2 cx2).toArray 40 (0, 0))) (by kernel_rfl) ⟨hca, hwb⟩ (fun hH => ?_)
    generalize w7.drew = w8 at bel hca hwb hf ho hf2 ho2 hH ⊢
    refine wpAnyH_take (i := 0) (v := ?_) rfl (by kernel_rfl) (by kernel_rfl) (by kernel_rfl) (fun _ _ _ h => h) (Or.inl ⟨by rfl, ?_⟩) hH ?_
    rotate_left
    · ((intro W hW; clear hW; go_simp) <;> with_reducible rfl)
    simp only [Act.put, List.getElem_toArray, List.getElem_cons_zero, List.setIfInBounds_toArray, List.set_cons_zero, List.set_cons_succ]
    refine wpAnyH_take (i := 1) (v := ?_) rfl (by kernel_rfl) (by kernel_rfl) (by kernel_rfl) (fun _ _ _ h => h) (Or.inl ⟨by rfl, ?_⟩) hH ?_
    rotate_left
    · ((intro W hW; clear hW; go_simp) <;> with_reducible rfl)
    simp only [sq3, sq4]
    refine wpAnyH_take (i := 2) (v := ?_) rfl (by kernel_rfl) (by kernel_rfl) (by kernel_rfl) (fun _ _ _ h => h) (Or.inl ⟨by rfl, ?_⟩) hH ?_
    rotate_left
    · ((intro W hW; clear hW; go_simp) <;> with_reducible rfl)
    simp only [sq3, sq4]
    refine wpAnyH_take (i := 3) (v := ?_) rfl (by kernel_rfl) (by kernel_rfl) (by kernel_rfl) (fun _ _ _ h => h) (Or.inl ⟨by rfl, ?_⟩) hH ?_
    rotate_left
    · ((intro W hW; clear hW; go_simp) <;> with_reducible rfl)
    simp only [sq3, sq4]
    refine wpAnyH_take (i := 4) (v := ?_) rfl (by kernel_rfl) (by kernel_rfl) (by kernel_rfl) (fun _ _ _ h => h) (Or.inl ⟨by rfl, ?_⟩) hH ?_
    rotate_left
    · ((intro W hW; clear hW; go_simp) <;> with_reducible rfl)
    simp only [sq3, sq4]
    refine wpAnyH_take (i := 5) (v := ?_) rfl (by kernel_rfl) (by kernel_rfl) (by kernel_rfl) (fun _ _ _ h => h) (Or.inl ⟨by rfl, ?_⟩) hH ?_
    rotate_left
    · ((intro W hW; clear hW; go_simp) <;> with_reducible rfl)
    simp only [sq3, sq4]
    refine wpAnyH_take (i := 6) (v := ?_) rfl (by kernel_rfl) (by kernel_rfl) (by kernel_rfl) (fun _ _ _ h => h) (Or.inl ⟨by rfl, ?_⟩) hH ?_
    rotate_left
    · ((intro W hW; clear hW; go_simp) <;> with_reducible rfl)
    simp only [sq3, sq4]
    refine wpAnyH_take (i := 7) (v := ?_) rfl (by kernel_rfl) (by kernel_rfl) (by kernel_rfl) (fun _ _ _ h => h) (Or.inl ⟨by rfl, ?_⟩) hH ?_
    rotate_left
    · ((intro W hW; clear hW; go_simp) <;> with_reducible rfl)
    simp only [sq3, sq4]
    refine wpAnyH_take (i := 8) (v := ?_) rfl (by kernel_rfl) (by kernel_rfl) (by kernel_rfl) (fun _ _ _ h => h) (Or.inl ⟨by rfl, ?_⟩) hH ?_
    rotate_left
    · ((intro W hW; clear hW; go_simp) <;> with_reducible rfl)
    simp only [sq3, sq4]
    refine wpAnyH_take (i := 9) (v := ?_) rfl (by kernel_rfl) (by kernel_rfl) (by kernel_rfl) (fun _ _ _ h => h) (Or.inl ⟨by rfl, ?_⟩) hH ?_
    rotate_left
    · ((intro W hW; clear hW; go_simp) <;> with_reducible rfl)
    simp only [sq3, sq4]
    refine wpAnyH_take (i := 10) (v := ?_) rfl (by kernel_rfl) (by kernel_rfl) (by kernel_rfl) (fun _ _ _ h => h) (Or.inl ⟨by rfl, ?_⟩) hH ?_
    rotate_left
    · ((intro W hW; clear hW; go_simp) <;> with_reducible rfl)
    simp only [sq3, sq4]
    refine wpAnyH_take (i := 11) (v := ?_) rfl (by kernel_rfl) (by kernel_rfl) (by kernel_rfl) (fun _ _ _ h => h) (Or.inl ⟨by rfl, ?_⟩) hH ?_
    rotate_left
    · ((intro W hW; clear hW; go_simp) <;> with_reducible rfl)
    simp only [sq3, sq4]
    refine wpAnyH_take (i := 12) (v := undef) rfl (by kernel_rfl) (by kernel_rfl) (by kernel_rfl) (fun _ _ _ h => h) (Or.inr ⟨by rfl, rfl⟩) hH ?_
    simp only [sq3, sq4]
    refine wpAnyH_take (i := 13) (v := undef) rfl (by kernel_rfl) (by kernel_rfl) (by kernel_rfl) (fun _ _ _ h => h) (Or.inr ⟨by rfl, rfl⟩) hH ?_
    simp only [sq3, sq4]
    refine wpAnyH_take (i := 14) (v := undef) rfl (by kernel_rfl) (by kernel_rfl) (by kernel_rfl) (fun _ _ _ h => h) (Or.inr ⟨by rfl, rfl⟩) hH ?_
    simp only [sq3, sq4]
    refine wpAnyH_take (i := 15) (v := undef) rfl (by kernel_rfl) (by kernel_rfl) (by kernel_rfl) (fun _ _ _ h => h) (Or.inr ⟨by rfl, rfl⟩) hH ?_
    simp only [sq3, sq4]
    refine wpAnyH_take (i := 16) (v := ?_) rfl (by kernel_rfl) (by kernel_rfl) (by kernel_rfl) (fun _ _ _ h => h) (Or.inl ⟨by rfl, ?_⟩) hH ?_
    rotate_left
    · ((intro W hW; clear hW; go_simp) <;> with_reducible rfl)
    simp only [sq3, sq4]
    refine wpAnyH_take (i := 17) (v := ?_) rfl (by kernel_rfl) (by kernel_rfl) (by kernel_rfl) (fun _ _ _ h => h) (Or.inl ⟨by rfl, ?_⟩) hH ?_
    rotate_left
    · ((intro W hW; clear hW; go_simp) <;> with_reducible rfl)
    simp only [sq3, sq4]
    refine wpAnyH_take (i := 18) (v := ?_) rfl (by kernel_rfl) (by kernel_rfl) (by kernel_rfl) (fun _ _ _ h => h) (Or.inl ⟨by rfl, ?_⟩) hH ?_
    rotate_left
    · ((intro W hW; clear hW; go_simp) <;> with_reducible rfl)
    simp only [sq3, sq4]
    refine wpAnyH_done (by kernel_rfl) ?_ _
    go_wp2_with fail
    go_ret
    exact ⟨rfl, bel⟩
  have e1 : (ee == 0) = true := beq_iff_eq.2 he
  have e2 : (ee != 0) = false := by rw [bne, e1]; rfl
  clear he
  go_wp2_with (first | ((with_reducible show wpList _ _ _ (⟨some 6, _, _, _, _, _⟩ :: _) _ _); refine wpList_new_a rfl 40 rfl #[.int .u8 0, .int .u8 0, .int .u8 0, .int .u8 0, .int .u8 0, .int .u8 0, .int .u8 0, .int .u8 0, .int .i64 0, .int .u8 0, .int .u8 0, .int .u8 0, .int .u8 0, .int .u8 0, .int .u8 0, .int .u8 0, .int .u8 0, .int .u8 0, .int .u8 0, .int .u8 0, .int .u8 0, .int .u8 0, .int .u8 0, .int .u8 0, .int .u8 0, .int .u8 0, .int .u8 0, .int .u8 0, .int .u8 0, .int .i64 0, .int .u8 0, .int .u8 0, .int .u8 0, .int .u8 0, .int .i64 0, .int .i64 0, .int .i64 0, .int .i64 0, .slice none 0 0, .slice none 0 0] (by kernel_rfl) ?_; intro g6 w6 ge hh bb; have d_ca_wb := ne_new (hlt hca) ge; have av_hf_wb := hf.av_new ge; have av_ho_wb := ho.av_new ge; have av_hf2_wb := hf2.av_new ge; have av_ho2_wb := ho2.av_new ge; have owb := Nat.le_trans bel.size ge; replace hca := blk_u hca bb; replace hf := hf.below bb; replace ho := ho.below bb; replace hf2 := hf2.below bb; replace ho2 := ho2.below bb; replace bel := bel.trans (bb.mono bel.size); have hwb := hh; clear hh ge bb) | ((with_reducible show wpList _ _ _ (⟨none, Op.store _ (.tmp 6) _, _, _, _, _⟩ :: _) _ _); refine wpList_store_blk rfl 40 (.tmp 6) (.tmp 23) rfl g6 rfl _ rfl _ 40 hwb (by rfl) (by kernel_rfl) (by kernel_rfl) ?_; intro w7 hq gr; replace hf := hf.away av_hf_wb gr; replace ho := ho.away av_ho_wb gr; replace hf2 := hf2.away av_hf2_wb gr; replace ho2 := ho2.away av_ho2_wb gr; replace hca := blk_a hca gr d_ca_wb; replace bel := below_grown bel gr owb bel.size; clear hwb; have hwb := hq; clear hq gr))
  replace bel := bel.drew
  replace hca : w7.drew.heap[g3]? = _ := hca
  replace hwb : w7.drew.heap[g6]? = _ := hwb
  replace hf := hf.drew
  replace ho := ho.drew
  replace hf2 := hf2.drew
  replace ho2 := ho2.drew
  refine wp_region_held_drew (S := fun W => W.heap[g3]? = some (.cells (cfl cc Fx nf cf Ox nx cx).toArray 32 (0, 0)) ∧ W.heap[g6]? = some (.cells (cfl cc Fy nf2 cf2 Oy nx2 cx2).toArray 40 (0, 0))) (by kernel_rfl) ⟨hca, hwb⟩ (fun hH => ?_)
  generalize w7.drew = w8 at bel hca hwb hf ho hf2 ho2 hH ⊢
  refine wpAnyH_take (i := 0) (v := ?_) rfl (by kernel_rfl) (by kernel_rfl) (by kernel_rfl) (fun _ _ _ h => h) (Or.inl ⟨by rfl, ?_⟩) hH ?_
  rotate_left
  · ((intro W hW; clear hW; go_simp) <;> with_reducible rfl)
  simp only [Act.put, List.getElem_toArray, List.getElem_cons_zero, List.setIfInBounds_toArray, List.set_cons_zero, List.set_cons_succ]
  refine wpAnyH_take (i := 1) (v := ?_) rfl (by kernel_rfl) (by kernel_rfl) (by kernel_rfl) (fun _ _ _ h => h) (Or.inl ⟨by rfl, ?_⟩) hH ?_
  rotate_left
  · ((intro W hW; clear hW; go_simp) <;> with_reducible rfl)
  simp only [sq3, sq4]
  refine wpAnyH_take (i := 2) (v := ?_) rfl (by kernel_rfl) (by kernel_rfl) (by kernel_rfl) (fun _ _ _ h => h) (Or.inl ⟨by rfl, ?_⟩) hH ?_
  rotate_left
  · ((intro W hW; clear hW; go_simp) <;> with_reducible rfl)
  simp only [sq3, sq4]
  refine wpAnyH_take (i := 3) (v := ?_) rfl (by kernel_rfl) (by kernel_rfl) (by kernel_rfl) (fun _ _ _ h => h) (Or.inl ⟨by rfl, ?_⟩) hH ?_
  rotate_left
  · ((intro W hW; clear hW; go_simp) <;> with_reducible rfl)
  simp only [sq3, sq4]
  refine wpAnyH_take (i := 4) (v := ?_) rfl (by kernel_rfl) (by kernel_rfl) (by kernel_rfl) (fun _ _ _ h => h) (Or.inl ⟨by rfl, ?_⟩) hH ?_
  rotate_left
  · ((intro W hW; clear hW; go_simp) <;> with_reducible rfl)
  simp only [sq3, sq4]
  refine wpAnyH_take (i := 5) (v := ?_) rfl (by kernel_rfl) (by kernel_rfl) (by kernel_rfl) (fun _ _ _ h => h) (Or.inl ⟨by rfl, ?_⟩) hH ?_
  rotate_left
  · ((intro W hW; clear hW; go_simp) <;> with_reducible rfl)
  simp only [sq3, sq4]
  refine wpAnyH_take (i := 6) (v := ?_) rfl (by kernel_rfl) (by kernel_rfl) (by kernel_rfl) (fun _ _ _ h => h) (Or.inl ⟨by rfl, ?_⟩) hH ?_
  rotate_left
  · ((intro W hW; clear hW; go_simp) <;> with_reducible rfl)
  simp only [sq3, sq4]
  refine wpAnyH_take (i := 7) (v := ?_) rfl (by kernel_rfl) (by kernel_rfl) (by kernel_rfl) (fun _ _ _ h => h) (Or.inl ⟨by rfl, ?_⟩) hH ?_
  rotate_left
  · ((intro W hW; clear hW; go_simp) <;> with_reducible rfl)
  simp only [sq3, sq4]
  refine wpAnyH_take (i := 8) (v := ?_) rfl (by kernel_rfl) (by kernel_rfl) (by kernel_rfl) (fun _ _ _ h => h) (Or.inl ⟨by rfl, ?_⟩) hH ?_
  rotate_left
  · ((intro W hW; clear hW; go_simp) <;> with_reducible rfl)
  simp only [sq3, sq4]
  refine wpAnyH_take (i := 9) (v := ?_) rfl (by kernel_rfl) (by kernel_rfl) (by kernel_rfl) (fun _ _ _ h => h) (Or.inl ⟨by rfl, ?_⟩) hH ?_
  rotate_left
  · ((intro W hW; clear hW; go_simp) <;> with_reducible rfl)
  simp only [sq3, sq4]
  refine wpAnyH_take (i := 10) (v := ?_) rfl (by kernel_rfl) (by kernel_rfl) (by kernel_rfl) (fun _ _ _ h => h) (Or.inl ⟨by rfl, ?_⟩) hH ?_
  rotate_left
  · ((intro W hW; clear hW; go_simp) <;> with_reducible rfl)
  simp only [sq3, sq4]
  refine wpAnyH_take (i := 11) (v := ?_) rfl (by kernel_rfl) (by kernel_rfl) (by kernel_rfl) (fun _ _ _ h => h) (Or.inl ⟨by rfl, ?_⟩) hH ?_
  rotate_left
  · ((intro W hW; clear hW; go_simp) <;> with_reducible rfl)
  simp only [sq3, sq4]
  refine wpAnyH_take (i := 12) (v := .agg (cfl cc Fx nf cf Ox nx cx).toArray) rfl (by kernel_rfl) (by kernel_rfl) (by kernel_rfl) (fun _ _ _ h => h) (yieldsIf_load_part (by kernel_rfl) 32 _ rfl g3 0 40 rfl _ 32 (0, 0) (fun W hW => hW.1) _ rfl _ Try.underlying32 rfl (by kernel_rfl)) hH ?_
  simp only [sq3, sq4]
  refine wpAnyH_take (i := 14) (v := .agg (cfl cc Fy nf2 cf2 Oy nx2 cx2).toArray) rfl (by kernel_rfl) (by kernel_rfl) (by kernel_rfl) (fun _ _ _ h => h) (yieldsIf_load_part (by kernel_rfl) 40 _ rfl g6 0 40 rfl _ 40 (0, 0) (fun W hW => hW.2) _ rfl _ Try.underlying40 rfl (by kernel_rfl)) hH ?_
  simp only [sq3, sq4]
  refine wpAnyH_ready (rs := [13]) (by kernel_rfl) (by simp) ?_
  refine AllReadyH.cons (o := _) rfl (fun K hK => ?_) AllReadyH.nil
  simp only [sq3]
  go_simp
  with_reducible refine (own_any cc _ _ _ _ _ _ _ hf ho hnf hnx).mono ?_
  rintro e w9 ⟨Gx, ng, cg, Hx, nh, ch, rfl, hg, hh2, frG, frH, b9⟩
  dsimp only
  have av_hg_ca := frG.av (hlt hca)
  have av_hg_wb := frG.av (hlt hwb)
  have av_hh2_ca := frH.av (hlt hca)
  have av_hh2_wb := frH.av (hlt hwb)
  replace hca := blk_u hca b9
  replace hwb := blk_u hwb b9
  replace hf := hf.below b9
  replace ho := ho.below b9
  replace hf2 := hf2.below b9
  replace ho2 := ho2.below b9
  replace bel := bel.trans (b9.mono bel.size)
  clear b9
  replace hg : Sle fxf 10 w9 (Gx) (ng) (cg) (cc.fixed) := hg
  replace hh2 : Sle opf 7 w9 (Hx) (nh) (ch) (cc.opens) := hh2
  have hng : ng ≤ 1000 := by rw [← hg.1]; have := HSM.out.1; omega
  have hnh : nh ≤ 1000 := by rw [← hh2.1]; have := HSM.out.2; omega
  refine hK.out _ _ ⟨hca, hwb⟩ (fun hH10 => ?_)
  clear hK K
  refine wpAnyH_ready (rs := [15]) (by kernel_rfl) (by simp) ?_
  refine AllReadyH.cons (o := _) rfl (fun K hK => ?_) AllReadyH.nil
  simp only [sq3]
  go_simp
  with_reducible refine (same_any cc _ _ _ _ _ _ _ _ _ _ _ _ _ hg hh2 hf2 ho2 hng hnh).mono ?_
  rintro e w11 ⟨rfl, b11⟩
  dsimp only
  replace hca := blk_u hca b11
  replace hwb := blk_u hwb b11
  replace hf := hf.below b11
  replace ho := ho.below b11
  replace hf2 := hf2.below b11
  replace ho2 := ho2.below b11
  replace hg := hg.below b11
  replace hh2 := hh2.below b11
  replace bel := bel.trans (b11.mono bel.size)
  clear b11
  clear hg
  clear hh2
  refine hK.out _ _ ⟨hca, hwb⟩ (fun hH12 => ?_)
  clear hK K
  refine wpAnyH_take (i := 16) (v := ?_) rfl (by kernel_rfl) (by kernel_rfl) (by kernel_rfl) (fun _ _ _ h => h) (Or.inl ⟨by rfl, ?_⟩) hH12 ?_
  rotate_left
  · ((intro W hW; clear hW; go_simp) <;> with_reducible rfl)
  simp only [sq3, sq4]
  refine wpAnyH_take (i := 17) (v := ?_) rfl (by kernel_rfl) (by kernel_rfl) (by kernel_rfl) (fun _ _ _ h => h) (Or.inl ⟨by rfl, ?_⟩) hH12 ?_
  rotate_left
  · ((intro W hW; clear hW; go_simp) <;> with_reducible rfl)
  simp only [sq3, sq4]
  refine wpAnyH_take (i := 18) (v := ?_) rfl (by kernel_rfl) (by kernel_rfl) (by kernel_rfl) (fun _ _ _ h => h) (Or.inl ⟨by rfl, ?_⟩) hH12 ?_
  rotate_left
  · ((intro W hW; clear hW; go_simp) <;> with_reducible rfl)
  simp only [sq3, sq4]
  refine wpAnyH_done (by kernel_rfl) ?_ _
  go_wp2_with fail
  go_ret
  exact ⟨rfl, bel⟩
theorem confReads_walk (s : ByteArray) (w : World) (_ : s.size ≤ maxLen) : Calls Try.prog 3 #[.string s] w fun e w' => e = .returned (.bool true) ∧ Below w.heap.size w w' := by
  have h := confReads_w s.data.toList w
  rwa [show (⟨s.data.toList.toArray⟩ : ByteArray) = s from by rw [Array.toArray_toList]] at h
end Go.Proofs.Ytdfobilagidmfaa
