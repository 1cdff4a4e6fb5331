/- Texts put together: Crv. -/
import Derived.Test.YtdfobilagidmfaaQ1
import Derived.Test.YtdfobilagidmfaaQ11
import Derived.Test.YtdfobilagidmfaaQ12
namespace Go.Proofs.Ytdfobilagidmfaa
open Go.RowKit

theorem Sle.off {α : Type} {f : α → List Value} {k : Nat} {w w' : World} {g o n c : Nat} {l : List α} {v : Value} (h : Sle f k w (some ⟨g, o, none⟩) n c l) (hv : Ofs v g) (gw : w.grownBy w' v.ownBlock) : Sle f k w' (some ⟨g, o, none⟩) n c l :=
  h.keep fun a p u hc _ he => by
    obtain ⟨o', e⟩ := he
    injection e with e
    injection e with e1 e2
    subst e1
    exact (World.cell?_of_block (w := w) (gw.block g (cell_lt hc) (fun e3 => hv g e3.symm rfl))).trans hc
theorem kp_below {w W W' : World} {r : Option Nat} (h : w.grownBy W r) (b : Below W.heap.size W W') : w.grownBy W' r :=
  ⟨b.os.trans h.os, b.tape.trans h.tape, b.output.trans h.output, Nat.le_trans h.size b.size, fun i hi hn => (b.block i (Nat.lt_of_lt_of_le hi h.size)).trans (h.block i hi hn)⟩
theorem kp_new {w W W' : World} {r : Option Nat} {q : Nat} (h : w.grownBy W r) (g : W.grownBy W' (some q)) (hq : w.heap.size ≤ q) : w.grownBy W' r := h.andThen g (fun j e => .inl (by cases e; exact hq))
theorem kp_under {w W W' : World} {r : Option Nat} {lo : Nat} (h : w.grownBy W r) (b : Below lo W W') (hl : w.heap.size ≤ lo) : w.grownBy W' r :=
  ⟨b.os.trans h.os, b.tape.trans h.tape, b.output.trans h.output, Nat.le_trans h.size b.size, fun i hi hn => (b.block i (Nat.lt_of_lt_of_le hi hl)).trans (h.block i hi hn)⟩
theorem kp_drew {w W : World} {r : Option Nat} (h : w.grownBy W r) : w.grownBy W.drew r := kp_below h (Below.refl _ W).drew
theorem rparse_l (l : List UInt8) (w : World) (hl : l.length ≤ 100000) : Calls Try.prog 45 #[.string ⟨l.toArray⟩] w fun e w' => e = .returned (.tuple #[.agg #[.int .u8 ((p4 l).a.toNat : Int), .int .u8 ((p4 l).b.toNat : Int), .int .u8 ((p4 l).c.toNat : Int), .int .u8 ((p4 l).d.toNat : Int)], .bool (p4ok l)]) ∧ Below w.heap.size w w' := by
  refine (parse_any ⟨l.toArray⟩ w (by rw [st_size]; omega)).mono fun e w' h => ?_
  unfold ParsePost at h
  change (match parse4 l with
   | none => e = .returned (.tuple #[addrV 0 0 0 0, .bool false])
   | some (a, b, c, d) => e = .returned (.tuple #[addrV a b c d, .bool true])) ∧ Below w.heap.size w w' at h
  unfold p4 p4ok
  cases hp : parse4 l with
  | none => rw [hp] at h; exact h
  | some x => obtain ⟨a, b, c, d⟩ := x; rw [hp] at h; exact h
theorem rmac_l (l : List UInt8) (w : World) : Calls Try.prog 47 #[.string ⟨l.toArray⟩] w fun e w' => e = .returned (.tuple #[.agg #[.int .u8 ((mcl l).a.toNat : Int), .int .u8 ((mcl l).b.toNat : Int), .int .u8 ((mcl l).c.toNat : Int), .int .u8 ((mcl l).d.toNat : Int), .int .u8 ((mcl l).e.toNat : Int), .int .u8 ((mcl l).f.toNat : Int)], .bool (mcok l)]) ∧ Below w.heap.size w w' := by
  refine (mac_any ⟨l.toArray⟩ w).mono fun e w' h => ?_
  unfold MacPost at h
  change (macOk l ∧ e = .returned (.tuple #[.agg ((macBs l 6).map u8v).toArray, .bool true]) ∨ ¬ macOk l ∧ e = .returned (.tuple #[mac0, .bool false])) ∧ Below w.heap.size w w' at h
  obtain ⟨h | h, hb⟩ := h
  · refine ⟨?_, hb⟩
    rw [h.2, macBs_six]
    unfold mcl mcok
    rw [if_pos h.1, decide_eq_true h.1]
    rfl
  · refine ⟨?_, hb⟩
    rw [h.2]
    unfold mcl mcok
    rw [if_neg h.1, decide_eq_false h.1]
    rfl
theorem rfirst_l (n : Ad4) (bt : Int) (w : World) : Calls Try.prog 26 #[.agg #[.int .u8 (n.a.toNat : Int), .int .u8 (n.b.toNat : Int), .int .u8 (n.c.toNat : Int), .int .u8 (n.d.toNat : Int), .int .i64 bt]] w fun e w' => e = .returned (.agg #[.int .u8 ((Ad4.ofN (fN n bt)).a.toNat : Int), .int .u8 ((Ad4.ofN (fN n bt)).b.toNat : Int), .int .u8 ((Ad4.ofN (fN n bt)).c.toNat : Int), .int .u8 ((Ad4.ofN (fN n bt)).d.toNat : Int)]) ∧ Below w.heap.size w w' := by
  refine (rfirst_any _ _ _ _ _ w).mono ?_
  rintro e w' ⟨rfl, bel⟩
  refine ⟨?_, bel⟩
  rw [show firstN (be [n.a, n.b, n.c, n.d]) (clamp bt) = fN n bt from rfl, adr_ofN (fN_lt n bt)]
theorem dec_nat {l : List UInt8} (h : 0 ≤ numI l 999999999) : decV l = numI l 999999999 := if_pos h
theorem known_cases {s : List UInt8} (h : knownB s = true) : (s == [108, 97, 110]) = true ∨ (s == [108, 97, 110, 109, 97, 99]) = true ∨ (s == [119, 97, 110, 109, 97, 99]) = true ∨ (s == [102, 105, 114, 115, 116]) = true ∨ (s == [108, 97, 115, 116]) = true ∨ (s == [100, 110, 115]) = true ∨ (s == [102, 105, 120, 101, 100]) = true ∨ (s == [111, 112, 101, 110]) = true ∨ (s == [116, 105, 109, 101]) = true ∨ (s == [117, 100, 112, 116, 105, 109, 101]) = true ∨ (s == [116, 99, 112, 116, 105, 109, 101]) = true ∨ (s == [105, 99, 109, 112, 116, 105, 109, 101]) = true ∨ (s == [108, 111, 119]) = true := by
  rw [known_is, List.contains_iff_mem] at h
  have hm : ∀ n ∈ names13, (n == [108, 97, 110]) = true ∨ (n == [108, 97, 110, 109, 97, 99]) = true ∨ (n == [119, 97, 110, 109, 97, 99]) = true ∨ (n == [102, 105, 114, 115, 116]) = true ∨ (n == [108, 97, 115, 116]) = true ∨ (n == [100, 110, 115]) = true ∨ (n == [102, 105, 120, 101, 100]) = true ∨ (n == [111, 112, 101, 110]) = true ∨ (n == [116, 105, 109, 101]) = true ∨ (n == [117, 100, 112, 116, 105, 109, 101]) = true ∨ (n == [116, 99, 112, 116, 105, 109, 101]) = true ∨ (n == [105, 99, 109, 112, 116, 105, 109, 101]) = true ∨ (n == [108, 111, 119]) = true := by decide +kernel
  have := hm s h
  simpa only [beq_iff_eq] using this
set_option linter.unusedVariables false in
set_option linter.unusedSimpArgs false in
set_option maxRecDepth 100000 in
set_option maxHeartbeats 16000000 in
theorem rnumber_l (l : List UInt8) (w : World) (hl : l.length ≤ 100000) : Calls Try.prog 46 #[.string ⟨l.toArray⟩] w fun e w' => e = .returned (.int .i64 (numI l 999999999)) ∧ w = w' := by
  skip
  go_enter Try.func46, Try.ntmps46
  go_wp2_with fail
  with_reducible refine (number_any ⟨l.toArray⟩ 999999999 _ (by rw [st_size]; unfold maxLen; omega)).mono ?_
  rintro e _ ⟨rfl, rfl⟩
  go_wp2_with fail
  go_ret
  exact ⟨rfl, rfl⟩
set_option linter.unusedVariables false in
set_option linter.unusedSimpArgs false in
set_option maxRecDepth 100000 in
set_option maxHeartbeats 16000000 in
theorem rvalue_any {gr : Nat} (c : Cf) (Fx : Option Addr) (nf cf : Nat) (Ox : Option Addr) (nx cx : Nat) (s v : List UInt8) (w : World) (hk : knownB s = true) (hrd : w.heap[gr]? = some (.cells (cfl c Fx nf cf Ox nx cx).toArray 40 (0, 0))) (sF : Sle fxf 10 w Fx nf cf c.fixed) (sO : Sle opf 7 w Ox nx cx c.opens) (av_sF_rd : Av Fx nf gr) (av_sO_rd : Av Ox nx gr) (hnf : nf ≤ 1000) (hnx : nx ≤ 1000) (hlen : v.length ≤ 100000) :
    Calls Try.prog 23 #[.pointer (some ⟨gr, 0, none⟩), .string ⟨s.toArray⟩, .string ⟨v.toArray⟩] w fun e w' => e = .returned (.bool (valOk s v)) ∧ (valOk s v = true → ∃ Gx ng cg Hx nh ch, w'.heap[gr]? = some (.cells (cfl (valC c s v) Gx ng cg Hx nh ch).toArray 40 (0, 0)) ∧ Sle fxf 10 w' Gx ng cg (valC c s v).fixed ∧ Sle opf 7 w' Hx nh ch (valC c s v).opens ∧ (∀ g, g < w.heap.size → Av Fx nf g → Av Gx ng g) ∧ (∀ g, g < w.heap.size → Av Ox nx g → Av Hx nh g)) ∧ w.grownBy w' (some gr) := by
  obtain ⟨ig, hig, hig0, hig1, hig2⟩ := info_parts Try.info_rfix
  obtain ⟨ih, hih, hih0, hih1, hih2⟩ := info_parts Try.info_ropn
  obtain ⟨lo, lo0⟩ : ∃ lo : Nat, lo = 0 := ⟨0, rfl⟩
  have hlo : lo ≤ w.heap.size := by omega
  have ord : lo ≤ gr := by omega
  clear lo0
  have kp := World.grownBy.refl w (some gr)
  have hs1 : nf + 1 ≤ 100000 := by omega
  have hs2 : nx + 1 ≤ 100000 := by omega
  have bel := Below.refl lo w
  go_enter Try.func23, Try.ntmps23
  rcases (by decide : ∀ b : Bool, b = true ∨ b = false) (s == [108, 97, 110]) with b0 | b0
  · go_wp2_with fail
    with_reducible refine (cut_st 47 47 v _ rfl hlen).mono ?_
    rintro e w1 ⟨v_, rfl, wtw, b1⟩
    have p_wt := kp.size
    have y_wt_rd := Lib.hid (hlt hrd)
    have bl_sF_wt := sF.bl_new
    have bl_sO_wt := sO.bl_new
    have wtlo := (Nat.le_trans hlo bel.size)
    have lz_wt := b1.size
    replace hrd := blk_u hrd b1
    replace sF := sF.below b1
    replace sO := sO.below b1
    replace kp := kp_below kp b1
    replace bel := bel.trans (b1.mono (Nat.le_trans hlo bel.size))
    clear b1
    obtain ⟨Awt, cwt, rfl⟩ := owk_val wtw
    have wt := (owk_sle (by decide) stf_len wtw).1
    have fr_wt := (owk_sle (by decide) stf_len wtw).2
    have av_wt_rd := fr_wt.av y_wt_rd.out
    obtain ⟨ws, hws⟩ : ∃ ws, cutF 47 v = ws := ⟨_, rfl⟩
    obtain ⟨n, hn⟩ : ∃ n, ws.length = n := ⟨_, rfl⟩
    rw [hws, hn] at wt wtw fr_wt av_wt_rd
    rw [hws, hn]
    have HWS := Lib.hid hws
    have HNN := Lib.hid hn
    have n0 : (0 : Int) ≤ n := by omega
    clear hws hn
    clear wtw lz_wt
    by_cases h1 : n = 2
    rotate_left
    · have h1k : ((n : Int) == 2) = false := beq_eq_false_iff_ne.2 (by omega)
      have h1j : ((n : Int) != 2) = true := by rw [bne, h1k]; rfl
      have HP : Hid (valOk s v = false) := Lib.hid (by rw [eq_of_beq b0]; exact net_not (by rw [HWS.out, HNN.out]; exact h1))
      go_wp2_with fail
      go_ret
      exact ⟨(by rw [HP.out] <;> rfl), fun hv_ => (by rw [HP.out] at hv_; cases hv_), kp⟩
    obtain ⟨x, y, hxy⟩ := list_two (show ws.length = 2 by rw [HNN.out]; exact h1)
    have HX0 : Hid (ws[0]? = some x) := Lib.hid (by rw [hxy]; rfl)
    have HL0 : Hid (x.length ≤ 100000) := Lib.hid (Nat.le_trans (cutF_piece 47 v _ (by rw [HWS.out, hxy]; simp)) hlen)
    have HX1 : Hid (ws[1]? = some y) := Lib.hid (by rw [hxy]; rfl)
    have HL1 : Hid (y.length ≤ 100000) := Lib.hid (Nat.le_trans (cutF_piece 47 v _ (by rw [HWS.out, hxy]; simp)) hlen)
    have HWX := Lib.hid (HWS.out.trans hxy)
    obtain ⟨gW, oW, rfl⟩ := wt.place (by omega)
    have h1k : ((n : Int) == 2) = true := beq_iff_eq.2 (by omega)
    have h1j : ((n : Int) != 2) = false := by rw [bne, h1k]; rfl
    have i0 : (0 : Int) < n := by omega
    have i1 : (1 : Int) < n := by omega
    clear hxy
    obtain ⟨nv, hnv_⟩ : ∃ k, numI y 999999999 = k := ⟨_, rfl⟩
    have HNV := Lib.hid hnv_
    have rnv := numI_range y 999999999
    rw [hnv_] at rnv
    obtain ⟨qnv, unv⟩ : (-1 : Int) ≤ nv ∧ nv ≤ 999999999 := by omega
    clear hnv_ rnv
    obtain ⟨bp, HBP_⟩ : ∃ b, p4ok x = b := ⟨_, rfl⟩
    have HBP := Lib.hid HBP_
    clear HBP_
    have HCUT := Lib.hid (net_two HWX.out)
    have HVK : Hid (valOk s v = (bp && decOk y)) := Lib.hid (by rw [eq_of_beq b0, ← HBP.out]; show nwK v = _; unfold nwK; rw [HCUT.out])
    have R36 := (by have h_ := Sle.st (i := 0) wt HX0.out; rw [Nat.add_zero] at h_; exact h_)
    go_wp2_with fail
    clear R36
    with_reducible refine (rparse_l x _ HL0.out).mono ?_
    rintro e w2 ⟨rfl, b2⟩
    replace hrd := blk_u hrd b2
    replace sF := sF.below b2
    replace sO := sO.below b2
    replace wt := wt.below b2
    replace kp := kp_below kp b2
    replace bel := bel.trans (b2.mono (Nat.le_trans hlo bel.size))
    clear b2
    rw [HBP.out]
    go_wp2_with (first | ((with_reducible show wpList _ _ _ (⟨some 8, _, _, _, _, _⟩ :: _) _ _); refine wpList_new_a rfl 24 rfl #[.int .u8 0, .int .u8 0, .int .u8 0, .int .u8 0] (by kernel_rfl) ?_; intro g8 w3 ge hh bb; have d_rd_ab := ne_new (hlt hrd) ge; have av_sF_ab := sF.av_new ge; have av_sO_ab := sO.av_new ge; have av_wt_ab := wt.av_new ge; have oab := Nat.le_trans (Nat.le_trans hlo bel.size) ge; have pab := Nat.le_trans kp.size ge; replace hrd := blk_u hrd bb; replace sF := sF.below bb; replace sO := sO.below bb; replace wt := wt.below bb; replace kp := kp_below kp bb; replace bel := bel.trans (bb.mono (Nat.le_trans hlo bel.size)); have hab := hh; clear hh ge bb) | ((with_reducible show wpList _ _ _ (⟨none, Op.store _ (.tmp 8) _, _, _, _, _⟩ :: _) _ _); refine wpList_store_blk rfl 24 (.tmp 8) (.tmp 38) rfl g8 rfl _ rfl _ 24 hab (by rfl) (by kernel_rfl) (by kernel_rfl) ?_; intro w4 hq gr; replace sF := sF.away av_sF_ab gr; replace sO := sO.away av_sO_ab gr; replace wt := wt.away av_wt_ab gr; replace hrd := blk_a hrd gr d_rd_ab; replace kp := kp_new kp gr pab; replace bel := below_grown bel gr oab (Nat.le_trans hlo bel.size); clear hab; have hab := hq; clear hq gr; have R42 := Sle.st (i := 1) wt HX1.out))
    try clear R42
    with_reducible refine (rnumber_l y _ HL1.out).mono ?_
    rintro e _ ⟨rfl, rfl⟩
    rw [HNV.out]
    rcases bp with _ | _
    · have HP : Hid (valOk s v = false) := Lib.hid (by rw [HVK.out]; rfl)
      have R50 := Lib.hid (range_lit hab 0 4 [.int .u8 ((p4 x).a.toNat : Int), .int .u8 ((p4 x).b.toNat : Int), .int .u8 ((p4 x).c.toNat : Int), .int .u8 ((p4 x).d.toNat : Int)] rfl)
      go_wp2_with (first | ((with_reducible show wpList _ _ _ (⟨some 50, _, _, _, _, _⟩ :: _) _ _); refine wpList_load_rng 24 (.tmp 8) rfl (by kernel_rfl) _ _ rfl _ R50.out _ Try.underlying24 rfl (by kernel_rfl) ?_) | ((with_reducible show wpList _ _ _ (⟨none, Op.store _ (.tmp 52) _, _, _, _, _⟩ :: _) _ _); refine wpList_store_part rfl 24 (.tmp 52) (.tmp 50) rfl gr 0 rfl [.int .u8 ((p4 x).a.toNat : Int), .int .u8 ((p4 x).b.toNat : Int), .int .u8 ((p4 x).c.toNat : Int), .int .u8 ((p4 x).d.toNat : Int)] rfl (cfl c Fx nf cf Ox nx cx) 40 hrd (by simp) [.int .u8 ((p4 x).a.toNat : Int), .int .u8 ((p4 x).b.toNat : Int), .int .u8 ((p4 x).c.toNat : Int), .int .u8 ((p4 x).d.toNat : Int), .int .u8 (c.lan.a.toNat : Int), .int .u8 (c.lan.b.toNat : Int), .int .u8 (c.lan.c.toNat : Int), .int .u8 (c.lan.d.toNat : Int), .int .i64 c.bits, .int .u8 (c.lanmac.a.toNat : Int), .int .u8 (c.lanmac.b.toNat : Int), .int .u8 (c.lanmac.c.toNat : Int), .int .u8 (c.lanmac.d.toNat : Int), .int .u8 (c.lanmac.e.toNat : Int), .int .u8 (c.lanmac.f.toNat : Int), .int .u8 (c.wanmac.a.toNat : Int), .int .u8 (c.wanmac.b.toNat : Int), .int .u8 (c.wanmac.c.toNat : Int), .int .u8 (c.wanmac.d.toNat : Int), .int .u8 (c.wanmac.e.toNat : Int), .int .u8 (c.wanmac.f.toNat : Int), .int .u8 (c.first.a.toNat : Int), .int .u8 (c.first.b.toNat : Int), .int .u8 (c.first.c.toNat : Int), .int .u8 (c.first.d.toNat : Int), .int .u8 (c.last.a.toNat : Int), .int .u8 (c.last.b.toNat : Int), .int .u8 (c.last.c.toNat : Int), .int .u8 (c.last.d.toNat : Int), .int .i64 c.time, .int .u8 (c.dns.a.toNat : Int), .int .u8 (c.dns.b.toNat : Int), .int .u8 (c.dns.c.toNat : Int), .int .u8 (c.dns.d.toNat : Int), .int .i64 c.udp, .int .i64 c.tcp, .int .i64 c.icmp, .int .i64 c.low, .slice Fx nf cf, .slice Ox nx cx] rfl (by kernel_rfl) (by rfl) ?_; intro w5 hq gr; replace sF := sF.away av_sF_rd gr; replace sO := sO.away av_sO_rd gr; replace wt := wt.away av_wt_rd gr; replace hab := blk_a hab gr (ne_symm d_rd_ab); replace kp := kp.trans gr; replace bel := below_grown bel gr ord (Nat.le_trans hlo bel.size); clear hrd; have hrd := hq; clear hq gr; have R54 := Lib.hid (range_lit hab 0 4 [.int .u8 ((p4 x).a.toNat : Int), .int .u8 ((p4 x).b.toNat : Int), .int .u8 ((p4 x).c.toNat : Int), .int .u8 ((p4 x).d.toNat : Int)] rfl)) | ((with_reducible show wpList _ _ _ (⟨some 54, _, _, _, _, _⟩ :: _) _ _); refine wpList_load_rng 24 (.tmp 8) rfl (by kernel_rfl) _ _ rfl _ R54.out _ Try.underlying24 rfl (by kernel_rfl) ?_))
      try clear R50
      try clear R54
      with_reducible refine (rfirst_l _ _ _).mono ?_
      rintro e w6 ⟨rfl, b6⟩
      replace hrd := blk_u hrd b6
      replace hab := blk_u hab b6
      replace sF := sF.below b6
      replace sO := sO.below b6
      replace wt := wt.below b6
      replace kp := kp_below kp b6
      replace bel := bel.trans (b6.mono (Nat.le_trans hlo bel.size))
      clear b6
      go_wp2_with (first | ((with_reducible show wpList _ _ _ (⟨none, Op.store _ (.tmp 61) _, _, _, _, _⟩ :: _) _ _); refine wpList_store_part rfl 36 (.tmp 61) (.tmp 59) rfl gr 4 rfl [.int .u8 ((Ad4.ofN (fN (p4 x) nv)).a.toNat : Int), .int .u8 ((Ad4.ofN (fN (p4 x) nv)).b.toNat : Int), .int .u8 ((Ad4.ofN (fN (p4 x) nv)).c.toNat : Int), .int .u8 ((Ad4.ofN (fN (p4 x) nv)).d.toNat : Int), .int .i64 nv] rfl [.int .u8 ((p4 x).a.toNat : Int), .int .u8 ((p4 x).b.toNat : Int), .int .u8 ((p4 x).c.toNat : Int), .int .u8 ((p4 x).d.toNat : Int), .int .u8 (c.lan.a.toNat : Int), .int .u8 (c.lan.b.toNat : Int), .int .u8 (c.lan.c.toNat : Int), .int .u8 (c.lan.d.toNat : Int), .int .i64 c.bits, .int .u8 (c.lanmac.a.toNat : Int), .int .u8 (c.lanmac.b.toNat : Int), .int .u8 (c.lanmac.c.toNat : Int), .int .u8 (c.lanmac.d.toNat : Int), .int .u8 (c.lanmac.e.toNat : Int), .int .u8 (c.lanmac.f.toNat : Int), .int .u8 (c.wanmac.a.toNat : Int), .int .u8 (c.wanmac.b.toNat : Int), .int .u8 (c.wanmac.c.toNat : Int), .int .u8 (c.wanmac.d.toNat : Int), .int .u8 (c.wanmac.e.toNat : Int), .int .u8 (c.wanmac.f.toNat : Int), .int .u8 (c.first.a.toNat : Int), .int .u8 (c.first.b.toNat : Int), .int .u8 (c.first.c.toNat : Int), .int .u8 (c.first.d.toNat : Int), .int .u8 (c.last.a.toNat : Int), .int .u8 (c.last.b.toNat : Int), .int .u8 (c.last.c.toNat : Int), .int .u8 (c.last.d.toNat : Int), .int .i64 c.time, .int .u8 (c.dns.a.toNat : Int), .int .u8 (c.dns.b.toNat : Int), .int .u8 (c.dns.c.toNat : Int), .int .u8 (c.dns.d.toNat : Int), .int .i64 c.udp, .int .i64 c.tcp, .int .i64 c.icmp, .int .i64 c.low, .slice Fx nf cf, .slice Ox nx cx] 40 hrd (by simp) [.int .u8 ((p4 x).a.toNat : Int), .int .u8 ((p4 x).b.toNat : Int), .int .u8 ((p4 x).c.toNat : Int), .int .u8 ((p4 x).d.toNat : Int), .int .u8 ((Ad4.ofN (fN (p4 x) nv)).a.toNat : Int), .int .u8 ((Ad4.ofN (fN (p4 x) nv)).b.toNat : Int), .int .u8 ((Ad4.ofN (fN (p4 x) nv)).c.toNat : Int), .int .u8 ((Ad4.ofN (fN (p4 x) nv)).d.toNat : Int), .int .i64 nv, .int .u8 (c.lanmac.a.toNat : Int), .int .u8 (c.lanmac.b.toNat : Int), .int .u8 (c.lanmac.c.toNat : Int), .int .u8 (c.lanmac.d.toNat : Int), .int .u8 (c.lanmac.e.toNat : Int), .int .u8 (c.lanmac.f.toNat : Int), .int .u8 (c.wanmac.a.toNat : Int), .int .u8 (c.wanmac.b.toNat : Int), .int .u8 (c.wanmac.c.toNat : Int), .int .u8 (c.wanmac.d.toNat : Int), .int .u8 (c.wanmac.e.toNat : Int), .int .u8 (c.wanmac.f.toNat : Int), .int .u8 (c.first.a.toNat : Int), .int .u8 (c.first.b.toNat : Int), .int .u8 (c.first.c.toNat : Int), .int .u8 (c.first.d.toNat : Int), .int .u8 (c.last.a.toNat : Int), .int .u8 (c.last.b.toNat : Int), .int .u8 (c.last.c.toNat : Int), .int .u8 (c.last.d.toNat : Int), .int .i64 c.time, .int .u8 (c.dns.a.toNat : Int), .int .u8 (c.dns.b.toNat : Int), .int .u8 (c.dns.c.toNat : Int), .int .u8 (c.dns.d.toNat : Int), .int .i64 c.udp, .int .i64 c.tcp, .int .i64 c.icmp, .int .i64 c.low, .slice Fx nf cf, .slice Ox nx cx] rfl (by kernel_rfl) (by rfl) ?_; intro w7 hq gr; replace sF := sF.away av_sF_rd gr; replace sO := sO.away av_sO_rd gr; replace wt := wt.away av_wt_rd gr; replace hab := blk_a hab gr (ne_symm d_rd_ab); replace kp := kp.trans gr; replace bel := below_grown bel gr ord (Nat.le_trans hlo bel.size); clear hrd; have hrd := hq; clear hq gr))
      go_ret
      exact ⟨(by rw [HP.out] <;> rfl), fun hv_ => (by rw [HP.out] at hv_; cases hv_), kp⟩
    by_cases hnv : (0 : Int) ≤ nv
    rotate_left
    · have hnv_ : decide ((0 : Int) ≤ nv) = false := decide_eq_false hnv
      have HP : Hid (valOk s v = false) := Lib.hid (by rw [HVK.out]; unfold decOk; rw [HNV.out, decide_eq_false hnv]; rfl)
      have R50 := Lib.hid (range_lit hab 0 4 [.int .u8 ((p4 x).a.toNat : Int), .int .u8 ((p4 x).b.toNat : Int), .int .u8 ((p4 x).c.toNat : Int), .int .u8 ((p4 x).d.toNat : Int)] rfl)
      go_wp2_with (first | ((with_reducible show wpList _ _ _ (⟨some 50, _, _, _, _, _⟩ :: _) _ _); refine wpList_load_rng 24 (.tmp 8) rfl (by kernel_rfl) _ _ rfl _ R50.out _ Try.underlying24 rfl (by kernel_rfl) ?_) | ((with_reducible show wpList _ _ _ (⟨none, Op.store _ (.tmp 52) _, _, _, _, _⟩ :: _) _ _); refine wpList_store_part rfl 24 (.tmp 52) (.tmp 50) rfl gr 0 rfl [.int .u8 ((p4 x).a.toNat : Int), .int .u8 ((p4 x).b.toNat : Int), .int .u8 ((p4 x).c.toNat : Int), .int .u8 ((p4 x).d.toNat : Int)] rfl (cfl c Fx nf cf Ox nx cx) 40 hrd (by simp) [.int .u8 ((p4 x).a.toNat : Int), .int .u8 ((p4 x).b.toNat : Int), .int .u8 ((p4 x).c.toNat : Int), .int .u8 ((p4 x).d.toNat : Int), .int .u8 (c.lan.a.toNat : Int), .int .u8 (c.lan.b.toNat : Int), .int .u8 (c.lan.c.toNat : Int), .int .u8 (c.lan.d.toNat : Int), .int .i64 c.bits, .int .u8 (c.lanmac.a.toNat : Int), .int .u8 (c.lanmac.b.toNat : Int), .int .u8 (c.lanmac.c.toNat : Int), .int .u8 (c.lanmac.d.toNat : Int), .int .u8 (c.lanmac.e.toNat : Int), .int .u8 (c.lanmac.f.toNat : Int), .int .u8 (c.wanmac.a.toNat : Int), .int .u8 (c.wanmac.b.toNat : Int), .int .u8 (c.wanmac.c.toNat : Int), .int .u8 (c.wanmac.d.toNat : Int), .int .u8 (c.wanmac.e.toNat : Int), .int .u8 (c.wanmac.f.toNat : Int), .int .u8 (c.first.a.toNat : Int), .int .u8 (c.first.b.toNat : Int), .int .u8 (c.first.c.toNat : Int), .int .u8 (c.first.d.toNat : Int), .int .u8 (c.last.a.toNat : Int), .int .u8 (c.last.b.toNat : Int), .int .u8 (c.last.c.toNat : Int), .int .u8 (c.last.d.toNat : Int), .int .i64 c.time, .int .u8 (c.dns.a.toNat : Int), .int .u8 (c.dns.b.toNat : Int), .int .u8 (c.dns.c.toNat : Int), .int .u8 (c.dns.d.toNat : Int), .int .i64 c.udp, .int .i64 c.tcp, .int .i64 c.icmp, .int .i64 c.low, .slice Fx nf cf, .slice Ox nx cx] rfl (by kernel_rfl) (by rfl) ?_; intro w5 hq gr; replace sF := sF.away av_sF_rd gr; replace sO := sO.away av_sO_rd gr; replace wt := wt.away av_wt_rd gr; replace hab := blk_a hab gr (ne_symm d_rd_ab); replace kp := kp.trans gr; replace bel := below_grown bel gr ord (Nat.le_trans hlo bel.size); clear hrd; have hrd := hq; clear hq gr; have R54 := Lib.hid (range_lit hab 0 4 [.int .u8 ((p4 x).a.toNat : Int), .int .u8 ((p4 x).b.toNat : Int), .int .u8 ((p4 x).c.toNat : Int), .int .u8 ((p4 x).d.toNat : Int)] rfl)) | ((with_reducible show wpList _ _ _ (⟨some 54, _, _, _, _, _⟩ :: _) _ _); refine wpList_load_rng 24 (.tmp 8) rfl (by kernel_rfl) _ _ rfl _ R54.out _ Try.underlying24 rfl (by kernel_rfl) ?_))
      try clear R50
      try clear R54
      with_reducible refine (rfirst_l _ _ _).mono ?_
      rintro e w6 ⟨rfl, b6⟩
      replace hrd := blk_u hrd b6
      replace hab := blk_u hab b6
      replace sF := sF.below b6
      replace sO := sO.below b6
      replace wt := wt.below b6
      replace kp := kp_below kp b6
      replace bel := bel.trans (b6.mono (Nat.le_trans hlo bel.size))
      clear b6
      go_wp2_with (first | ((with_reducible show wpList _ _ _ (⟨none, Op.store _ (.tmp 61) _, _, _, _, _⟩ :: _) _ _); refine wpList_store_part rfl 36 (.tmp 61) (.tmp 59) rfl gr 4 rfl [.int .u8 ((Ad4.ofN (fN (p4 x) nv)).a.toNat : Int), .int .u8 ((Ad4.ofN (fN (p4 x) nv)).b.toNat : Int), .int .u8 ((Ad4.ofN (fN (p4 x) nv)).c.toNat : Int), .int .u8 ((Ad4.ofN (fN (p4 x) nv)).d.toNat : Int), .int .i64 nv] rfl [.int .u8 ((p4 x).a.toNat : Int), .int .u8 ((p4 x).b.toNat : Int), .int .u8 ((p4 x).c.toNat : Int), .int .u8 ((p4 x).d.toNat : Int), .int .u8 (c.lan.a.toNat : Int), .int .u8 (c.lan.b.toNat : Int), .int .u8 (c.lan.c.toNat : Int), .int .u8 (c.lan.d.toNat : Int), .int .i64 c.bits, .int .u8 (c.lanmac.a.toNat : Int), .int .u8 (c.lanmac.b.toNat : Int), .int .u8 (c.lanmac.c.toNat : Int), .int .u8 (c.lanmac.d.toNat : Int), .int .u8 (c.lanmac.e.toNat : Int), .int .u8 (c.lanmac.f.toNat : Int), .int .u8 (c.wanmac.a.toNat : Int), .int .u8 (c.wanmac.b.toNat : Int), .int .u8 (c.wanmac.c.toNat : Int), .int .u8 (c.wanmac.d.toNat : Int), .int .u8 (c.wanmac.e.toNat : Int), .int .u8 (c.wanmac.f.toNat : Int), .int .u8 (c.first.a.toNat : Int), .int .u8 (c.first.b.toNat : Int), .int .u8 (c.first.c.toNat : Int), .int .u8 (c.first.d.toNat : Int), .int .u8 (c.last.a.toNat : Int), .int .u8 (c.last.b.toNat : Int), .int .u8 (c.last.c.toNat : Int), .int .u8 (c.last.d.toNat : Int), .int .i64 c.time, .int .u8 (c.dns.a.toNat : Int), .int .u8 (c.dns.b.toNat : Int), .int .u8 (c.dns.c.toNat : Int), .int .u8 (c.dns.d.toNat : Int), .int .i64 c.udp, .int .i64 c.tcp, .int .i64 c.icmp, .int .i64 c.low, .slice Fx nf cf, .slice Ox nx cx] 40 hrd (by simp) [.int .u8 ((p4 x).a.toNat : Int), .int .u8 ((p4 x).b.toNat : Int), .int .u8 ((p4 x).c.toNat : Int), .int .u8 ((p4 x).d.toNat : Int), .int .u8 ((Ad4.ofN (fN (p4 x) nv)).a.toNat : Int), .int .u8 ((Ad4.ofN (fN (p4 x) nv)).b.toNat : Int), .int .u8 ((Ad4.ofN (fN (p4 x) nv)).c.toNat : Int), .int .u8 ((Ad4.ofN (fN (p4 x) nv)).d.toNat : Int), .int .i64 nv, .int .u8 (c.lanmac.a.toNat : Int), .int .u8 (c.lanmac.b.toNat : Int), .int .u8 (c.lanmac.c.toNat : Int), .int .u8 (c.lanmac.d.toNat : Int), .int .u8 (c.lanmac.e.toNat : Int), .int .u8 (c.lanmac.f.toNat : Int), .int .u8 (c.wanmac.a.toNat : Int), .int .u8 (c.wanmac.b.toNat : Int), .int .u8 (c.wanmac.c.toNat : Int), .int .u8 (c.wanmac.d.toNat : Int), .int .u8 (c.wanmac.e.toNat : Int), .int .u8 (c.wanmac.f.toNat : Int), .int .u8 (c.first.a.toNat : Int), .int .u8 (c.first.b.toNat : Int), .int .u8 (c.first.c.toNat : Int), .int .u8 (c.first.d.toNat : Int), .int .u8 (c.last.a.toNat : Int), .int .u8 (c.last.b.toNat : Int), .int .u8 (c.last.c.toNat : Int), .int .u8 (c.last.d.toNat : Int), .int .i64 c.time, .int .u8 (c.dns.a.toNat : Int), .int .u8 (c.dns.b.toNat : Int), .int .u8 (c.dns.c.toNat : Int), .int .u8 (c.dns.d.toNat : Int), .int .i64 c.udp, .int .i64 c.tcp, .int .i64 c.icmp, .int .i64 c.low, .slice Fx nf cf, .slice Ox nx cx] rfl (by kernel_rfl) (by rfl) ?_; intro w7 hq gr; replace sF := sF.away av_sF_rd gr; replace sO := sO.away av_sO_rd gr; replace wt := wt.away av_wt_rd gr; replace hab := blk_a hab gr (ne_symm d_rd_ab); replace kp := kp.trans gr; replace bel := below_grown bel gr ord (Nat.le_trans hlo bel.size); clear hrd; have hrd := hq; clear hq gr))
      go_ret
      exact ⟨(by rw [HP.out] <;> rfl), fun hv_ => (by rw [HP.out] at hv_; cases hv_), kp⟩
    have HP : Hid (valOk s v = true) := Lib.hid (by rw [HVK.out]; unfold decOk; rw [HNV.out, decide_eq_true hnv]; rfl)
    have HC : Hid (valC c s v = { c with own := p4 x, lan := Ad4.ofN (fN (p4 x) nv), bits := nv }) := Lib.hid (by rw [eq_of_beq b0]; show { c with own := nwO v, lan := Ad4.ofN (fN (nwO v) (nwB v)), bits := nwB v } = _; unfold nwO nwB; rw [HCUT.out]; simp only [HBP.out, if_true]; rw [dec_nat (by rw [HNV.out]; exact hnv), HNV.out])
    have R50 := Lib.hid (range_lit hab 0 4 [.int .u8 ((p4 x).a.toNat : Int), .int .u8 ((p4 x).b.toNat : Int), .int .u8 ((p4 x).c.toNat : Int), .int .u8 ((p4 x).d.toNat : Int)] rfl)
    go_wp2_with (first | ((with_reducible show wpList _ _ _ (⟨some 50, _, _, _, _, _⟩ :: _) _ _); refine wpList_load_rng 24 (.tmp 8) rfl (by kernel_rfl) _ _ rfl _ R50.out _ Try.underlying24 rfl (by kernel_rfl) ?_) | ((with_reducible show wpList _ _ _ (⟨none, Op.store _ (.tmp 52) _, _, _, _, _⟩ :: _) _ _); refine wpList_store_part rfl 24 (.tmp 52) (.tmp 50) rfl gr 0 rfl [.int .u8 ((p4 x).a.toNat : Int), .int .u8 ((p4 x).b.toNat : Int), .int .u8 ((p4 x).c.toNat : Int), .int .u8 ((p4 x).d.toNat : Int)] rfl (cfl c Fx nf cf Ox nx cx) 40 hrd (by simp) [.int .u8 ((p4 x).a.toNat : Int), .int .u8 ((p4 x).b.toNat : Int), .int .u8 ((p4 x).c.toNat : Int), .int .u8 ((p4 x).d.toNat : Int), .int .u8 (c.lan.a.toNat : Int), .int .u8 (c.lan.b.toNat : Int), .int .u8 (c.lan.c.toNat : Int), .int .u8 (c.lan.d.toNat : Int), .int .i64 c.bits, .int .u8 (c.lanmac.a.toNat : Int), .int .u8 (c.lanmac.b.toNat : Int), .int .u8 (c.lanmac.c.toNat : Int), .int .u8 (c.lanmac.d.toNat : Int), .int .u8 (c.lanmac.e.toNat : Int), .int .u8 (c.lanmac.f.toNat : Int), .int .u8 (c.wanmac.a.toNat : Int), .int .u8 (c.wanmac.b.toNat : Int), .int .u8 (c.wanmac.c.toNat : Int), .int .u8 (c.wanmac.d.toNat : Int), .int .u8 (c.wanmac.e.toNat : Int), .int .u8 (c.wanmac.f.toNat : Int), .int .u8 (c.first.a.toNat : Int), .int .u8 (c.first.b.toNat : Int), .int .u8 (c.first.c.toNat : Int), .int .u8 (c.first.d.toNat : Int), .int .u8 (c.last.a.toNat : Int), .int .u8 (c.last.b.toNat : Int), .int .u8 (c.last.c.toNat : Int), .int .u8 (c.last.d.toNat : Int), .int .i64 c.time, .int .u8 (c.dns.a.toNat : Int), .int .u8 (c.dns.b.toNat : Int), .int .u8 (c.dns.c.toNat : Int), .int .u8 (c.dns.d.toNat : Int), .int .i64 c.udp, .int .i64 c.tcp, .int .i64 c.icmp, .int .i64 c.low, .slice Fx nf cf, .slice Ox nx cx] rfl (by kernel_rfl) (by rfl) ?_; intro w5 hq gr; replace sF := sF.away av_sF_rd gr; replace sO := sO.away av_sO_rd gr; replace wt := wt.away av_wt_rd gr; replace hab := blk_a hab gr (ne_symm d_rd_ab); replace kp := kp.trans gr; replace bel := below_grown bel gr ord (Nat.le_trans hlo bel.size); clear hrd; have hrd := hq; clear hq gr; have R54 := Lib.hid (range_lit hab 0 4 [.int .u8 ((p4 x).a.toNat : Int), .int .u8 ((p4 x).b.toNat : Int), .int .u8 ((p4 x).c.toNat : Int), .int .u8 ((p4 x).d.toNat : Int)] rfl)) | ((with_reducible show wpList _ _ _ (⟨some 54, _, _, _, _, _⟩ :: _) _ _); refine wpList_load_rng 24 (.tmp 8) rfl (by kernel_rfl) _ _ rfl _ R54.out _ Try.underlying24 rfl (by kernel_rfl) ?_))
    try clear R50
    try clear R54
    with_reducible refine (rfirst_l _ _ _).mono ?_
    rintro e w6 ⟨rfl, b6⟩
    replace hrd := blk_u hrd b6
    replace hab := blk_u hab b6
    replace sF := sF.below b6
    replace sO := sO.below b6
    replace wt := wt.below b6
    replace kp := kp_below kp b6
    replace bel := bel.trans (b6.mono (Nat.le_trans hlo bel.size))
    clear b6
    go_wp2_with (first | ((with_reducible show wpList _ _ _ (⟨none, Op.store _ (.tmp 61) _, _, _, _, _⟩ :: _) _ _); refine wpList_store_part rfl 36 (.tmp 61) (.tmp 59) rfl gr 4 rfl [.int .u8 ((Ad4.ofN (fN (p4 x) nv)).a.toNat : Int), .int .u8 ((Ad4.ofN (fN (p4 x) nv)).b.toNat : Int), .int .u8 ((Ad4.ofN (fN (p4 x) nv)).c.toNat : Int), .int .u8 ((Ad4.ofN (fN (p4 x) nv)).d.toNat : Int), .int .i64 nv] rfl [.int .u8 ((p4 x).a.toNat : Int), .int .u8 ((p4 x).b.toNat : Int), .int .u8 ((p4 x).c.toNat : Int), .int .u8 ((p4 x).d.toNat : Int), .int .u8 (c.lan.a.toNat : Int), .int .u8 (c.lan.b.toNat : Int), .int .u8 (c.lan.c.toNat : Int), .int .u8 (c.lan.d.toNat : Int), .int .i64 c.bits, .int .u8 (c.lanmac.a.toNat : Int), .int .u8 (c.lanmac.b.toNat : Int), .int .u8 (c.lanmac.c.toNat : Int), .int .u8 (c.lanmac.d.toNat : Int), .int .u8 (c.lanmac.e.toNat : Int), .int .u8 (c.lanmac.f.toNat : Int), .int .u8 (c.wanmac.a.toNat : Int), .int .u8 (c.wanmac.b.toNat : Int), .int .u8 (c.wanmac.c.toNat : Int), .int .u8 (c.wanmac.d.toNat : Int), .int .u8 (c.wanmac.e.toNat : Int), .int .u8 (c.wanmac.f.toNat : Int), .int .u8 (c.first.a.toNat : Int), .int .u8 (c.first.b.toNat : Int), .int .u8 (c.first.c.toNat : Int), .int .u8 (c.first.d.toNat : Int), .int .u8 (c.last.a.toNat : Int), .int .u8 (c.last.b.toNat : Int), .int .u8 (c.last.c.toNat : Int), .int .u8 (c.last.d.toNat : Int), .int .i64 c.time, .int .u8 (c.dns.a.toNat : Int), .int .u8 (c.dns.b.toNat : Int), .int .u8 (c.dns.c.toNat : Int), .int .u8 (c.dns.d.toNat : Int), .int .i64 c.udp, .int .i64 c.tcp, .int .i64 c.icmp, .int .i64 c.low, .slice Fx nf cf, .slice Ox nx cx] 40 hrd (by simp) [.int .u8 ((p4 x).a.toNat : Int), .int .u8 ((p4 x).b.toNat : Int), .int .u8 ((p4 x).c.toNat : Int), .int .u8 ((p4 x).d.toNat : Int), .int .u8 ((Ad4.ofN (fN (p4 x) nv)).a.toNat : Int), .int .u8 ((Ad4.ofN (fN (p4 x) nv)).b.toNat : Int), .int .u8 ((Ad4.ofN (fN (p4 x) nv)).c.toNat : Int), .int .u8 ((Ad4.ofN (fN (p4 x) nv)).d.toNat : Int), .int .i64 nv, .int .u8 (c.lanmac.a.toNat : Int), .int .u8 (c.lanmac.b.toNat : Int), .int .u8 (c.lanmac.c.toNat : Int), .int .u8 (c.lanmac.d.toNat : Int), .int .u8 (c.lanmac.e.toNat : Int), .int .u8 (c.lanmac.f.toNat : Int), .int .u8 (c.wanmac.a.toNat : Int), .int .u8 (c.wanmac.b.toNat : Int), .int .u8 (c.wanmac.c.toNat : Int), .int .u8 (c.wanmac.d.toNat : Int), .int .u8 (c.wanmac.e.toNat : Int), .int .u8 (c.wanmac.f.toNat : Int), .int .u8 (c.first.a.toNat : Int), .int .u8 (c.first.b.toNat : Int), .int .u8 (c.first.c.toNat : Int), .int .u8 (c.first.d.toNat : Int), .int .u8 (c.last.a.toNat : Int), .int .u8 (c.last.b.toNat : Int), .int .u8 (c.last.c.toNat : Int), .int .u8 (c.last.d.toNat : Int), .int .i64 c.time, .int .u8 (c.dns.a.toNat : Int), .int .u8 (c.dns.b.toNat : Int), .int .u8 (c.dns.c.toNat : Int), .int .u8 (c.dns.d.toNat : Int), .int .i64 c.udp, .int .i64 c.tcp, .int .i64 c.icmp, .int .i64 c.low, .slice Fx nf cf, .slice Ox nx cx] rfl (by kernel_rfl) (by rfl) ?_; intro w7 hq gr; replace sF := sF.away av_sF_rd gr; replace sO := sO.away av_sO_rd gr; replace wt := wt.away av_wt_rd gr; replace hab := blk_a hab gr (ne_symm d_rd_ab); replace kp := kp.trans gr; replace bel := below_grown bel gr ord (Nat.le_trans hlo bel.size); clear hrd; have hrd := hq; clear hq gr))
    go_ret
    exact ⟨(by rw [HP.out] <;> rfl), fun hv_ => (by rw [HC.out]; exact ⟨Fx, nf, cf, Ox, nx, cx, hrd, sF, sO, fun _ _ h_ => h_, fun _ _ h_ => h_⟩), kp⟩
  rcases (by decide : ∀ b : Bool, b = true ∨ b = false) (s == [108, 97, 110, 109, 97, 99]) with b1 | b1
  · have HP : Hid (valOk s v = mcok v) := Lib.hid (by rw [eq_of_beq b1]; kernel_rfl)
    have HC : Hid (valC c s v = { c with lanmac := mcl v }) := Lib.hid (by rw [eq_of_beq b1]; kernel_rfl)
    go_wp2_with fail
    with_reducible refine (rmac_l v _).mono ?_
    rintro e w1 ⟨rfl, b1⟩
    replace hrd := blk_u hrd b1
    replace sF := sF.below b1
    replace sO := sO.below b1
    replace kp := kp_below kp b1
    replace bel := bel.trans (b1.mono (Nat.le_trans hlo bel.size))
    clear b1
    go_wp2_with (first | ((with_reducible show wpList _ _ _ (⟨some 11, _, _, _, _, _⟩ :: _) _ _); refine wpList_new_a rfl 28 rfl #[.int .u8 0, .int .u8 0, .int .u8 0, .int .u8 0, .int .u8 0, .int .u8 0] (by kernel_rfl) ?_; intro g11 w2 ge hh bb; have d_rd_mb := ne_new (hlt hrd) ge; have av_sF_mb := sF.av_new ge; have av_sO_mb := sO.av_new ge; have omb := Nat.le_trans (Nat.le_trans hlo bel.size) ge; have pmb := Nat.le_trans kp.size ge; replace hrd := blk_u hrd bb; replace sF := sF.below bb; replace sO := sO.below bb; replace kp := kp_below kp bb; replace bel := bel.trans (bb.mono (Nat.le_trans hlo bel.size)); have hmb := hh; clear hh ge bb) | ((with_reducible show wpList _ _ _ (⟨none, Op.store _ (.tmp 11) _, _, _, _, _⟩ :: _) _ _); refine wpList_store_blk rfl 28 (.tmp 11) (.tmp 69) rfl g11 rfl _ rfl _ 28 hmb (by rfl) (by kernel_rfl) (by kernel_rfl) ?_; intro w3 hq gr; replace sF := sF.away av_sF_mb gr; replace sO := sO.away av_sO_mb gr; replace hrd := blk_a hrd gr d_rd_mb; replace kp := kp_new kp gr pmb; replace bel := below_grown bel gr omb (Nat.le_trans hlo bel.size); clear hmb; have hmb := hq; clear hq gr; have R74 := Lib.hid (range_lit hmb 0 6 [.int .u8 ((mcl v).a.toNat : Int), .int .u8 ((mcl v).b.toNat : Int), .int .u8 ((mcl v).c.toNat : Int), .int .u8 ((mcl v).d.toNat : Int), .int .u8 ((mcl v).e.toNat : Int), .int .u8 ((mcl v).f.toNat : Int)] rfl)) | ((with_reducible show wpList _ _ _ (⟨some 74, _, _, _, _, _⟩ :: _) _ _); refine wpList_load_rng 28 (.tmp 11) rfl (by kernel_rfl) _ _ rfl _ R74.out _ Try.underlying28 rfl (by kernel_rfl) ?_) | ((with_reducible show wpList _ _ _ (⟨none, Op.store _ (.tmp 76) _, _, _, _, _⟩ :: _) _ _); refine wpList_store_part rfl 28 (.tmp 76) (.tmp 74) rfl gr 9 rfl [.int .u8 ((mcl v).a.toNat : Int), .int .u8 ((mcl v).b.toNat : Int), .int .u8 ((mcl v).c.toNat : Int), .int .u8 ((mcl v).d.toNat : Int), .int .u8 ((mcl v).e.toNat : Int), .int .u8 ((mcl v).f.toNat : Int)] rfl (cfl c Fx nf cf Ox nx cx) 40 hrd (by simp) [.int .u8 (c.own.a.toNat : Int), .int .u8 (c.own.b.toNat : Int), .int .u8 (c.own.c.toNat : Int), .int .u8 (c.own.d.toNat : Int), .int .u8 (c.lan.a.toNat : Int), .int .u8 (c.lan.b.toNat : Int), .int .u8 (c.lan.c.toNat : Int), .int .u8 (c.lan.d.toNat : Int), .int .i64 c.bits, .int .u8 ((mcl v).a.toNat : Int), .int .u8 ((mcl v).b.toNat : Int), .int .u8 ((mcl v).c.toNat : Int), .int .u8 ((mcl v).d.toNat : Int), .int .u8 ((mcl v).e.toNat : Int), .int .u8 ((mcl v).f.toNat : Int), .int .u8 (c.wanmac.a.toNat : Int), .int .u8 (c.wanmac.b.toNat : Int), .int .u8 (c.wanmac.c.toNat : Int), .int .u8 (c.wanmac.d.toNat : Int), .int .u8 (c.wanmac.e.toNat : Int), .int .u8 (c.wanmac.f.toNat : Int), .int .u8 (c.first.a.toNat : Int), .int .u8 (c.first.b.toNat : Int), .int .u8 (c.first.c.toNat : Int), .int .u8 (c.first.d.toNat : Int), .int .u8 (c.last.a.toNat : Int), .int .u8 (c.last.b.toNat : Int), .int .u8 (c.last.c.toNat : Int), .int .u8 (c.last.d.toNat : Int), .int .i64 c.time, .int .u8 (c.dns.a.toNat : Int), .int .u8 (c.dns.b.toNat : Int), .int .u8 (c.dns.c.toNat : Int), .int .u8 (c.dns.d.toNat : Int), .int .i64 c.udp, .int .i64 c.tcp, .int .i64 c.icmp, .int .i64 c.low, .slice Fx nf cf, .slice Ox nx cx] rfl (by kernel_rfl) (by rfl) ?_; intro w4 hq gr; replace sF := sF.away av_sF_rd gr; replace sO := sO.away av_sO_rd gr; replace hmb := blk_a hmb gr (ne_symm d_rd_mb); replace kp := kp.trans gr; replace bel := below_grown bel gr ord (Nat.le_trans hlo bel.size); clear hrd; have hrd := hq; clear hq gr))
    try clear R74
    go_ret
    exact ⟨(by rw [HP.out] <;> rfl), fun hv_ => (by rw [HC.out]; exact ⟨Fx, nf, cf, Ox, nx, cx, hrd, sF, sO, fun _ _ h_ => h_, fun _ _ h_ => h_⟩), kp⟩
  rcases (by decide : ∀ b : Bool, b = true ∨ b = false) (s == [119, 97, 110, 109, 97, 99]) with b2 | b2
  · have HP : Hid (valOk s v = mcok v) := Lib.hid (by rw [eq_of_beq b2]; kernel_rfl)
    have HC : Hid (valC c s v = { c with wanmac := mcl v }) := Lib.hid (by rw [eq_of_beq b2]; kernel_rfl)
    go_wp2_with fail
    with_reducible refine (rmac_l v _).mono ?_
    rintro e w1 ⟨rfl, b1⟩
    replace hrd := blk_u hrd b1
    replace sF := sF.below b1
    replace sO := sO.below b1
    replace kp := kp_below kp b1
    replace bel := bel.trans (b1.mono (Nat.le_trans hlo bel.size))
    clear b1
    go_wp2_with (first | ((with_reducible show wpList _ _ _ (⟨some 11, _, _, _, _, _⟩ :: _) _ _); refine wpList_new_a rfl 28 rfl #[.int .u8 0, .int .u8 0, .int .u8 0, .int .u8 0, .int .u8 0, .int .u8 0] (by kernel_rfl) ?_; intro g11 w2 ge hh bb; have d_rd_mb := ne_new (hlt hrd) ge; have av_sF_mb := sF.av_new ge; have av_sO_mb := sO.av_new ge; have omb := Nat.le_trans (Nat.le_trans hlo bel.size) ge; have pmb := Nat.le_trans kp.size ge; replace hrd := blk_u hrd bb; replace sF := sF.below bb; replace sO := sO.below bb; replace kp := kp_below kp bb; replace bel := bel.trans (bb.mono (Nat.le_trans hlo bel.size)); have hmb := hh; clear hh ge bb) | ((with_reducible show wpList _ _ _ (⟨none, Op.store _ (.tmp 11) _, _, _, _, _⟩ :: _) _ _); refine wpList_store_blk rfl 28 (.tmp 11) (.tmp 69) rfl g11 rfl _ rfl _ 28 hmb (by rfl) (by kernel_rfl) (by kernel_rfl) ?_; intro w3 hq gr; replace sF := sF.away av_sF_mb gr; replace sO := sO.away av_sO_mb gr; replace hrd := blk_a hrd gr d_rd_mb; replace kp := kp_new kp gr pmb; replace bel := below_grown bel gr omb (Nat.le_trans hlo bel.size); clear hmb; have hmb := hq; clear hq gr; have R78 := Lib.hid (range_lit hmb 0 6 [.int .u8 ((mcl v).a.toNat : Int), .int .u8 ((mcl v).b.toNat : Int), .int .u8 ((mcl v).c.toNat : Int), .int .u8 ((mcl v).d.toNat : Int), .int .u8 ((mcl v).e.toNat : Int), .int .u8 ((mcl v).f.toNat : Int)] rfl)) | ((with_reducible show wpList _ _ _ (⟨some 78, _, _, _, _, _⟩ :: _) _ _); refine wpList_load_rng 28 (.tmp 11) rfl (by kernel_rfl) _ _ rfl _ R78.out _ Try.underlying28 rfl (by kernel_rfl) ?_) | ((with_reducible show wpList _ _ _ (⟨none, Op.store _ (.tmp 80) _, _, _, _, _⟩ :: _) _ _); refine wpList_store_part rfl 28 (.tmp 80) (.tmp 78) rfl gr 15 rfl [.int .u8 ((mcl v).a.toNat : Int), .int .u8 ((mcl v).b.toNat : Int), .int .u8 ((mcl v).c.toNat : Int), .int .u8 ((mcl v).d.toNat : Int), .int .u8 ((mcl v).e.toNat : Int), .int .u8 ((mcl v).f.toNat : Int)] rfl (cfl c Fx nf cf Ox nx cx) 40 hrd (by simp) [.int .u8 (c.own.a.toNat : Int), .int .u8 (c.own.b.toNat : Int), .int .u8 (c.own.c.toNat : Int), .int .u8 (c.own.d.toNat : Int), .int .u8 (c.lan.a.toNat : Int), .int .u8 (c.lan.b.toNat : Int), .int .u8 (c.lan.c.toNat : Int), .int .u8 (c.lan.d.toNat : Int), .int .i64 c.bits, .int .u8 (c.lanmac.a.toNat : Int), .int .u8 (c.lanmac.b.toNat : Int), .int .u8 (c.lanmac.c.toNat : Int), .int .u8 (c.lanmac.d.toNat : Int), .int .u8 (c.lanmac.e.toNat : Int), .int .u8 (c.lanmac.f.toNat : Int), .int .u8 ((mcl v).a.toNat : Int), .int .u8 ((mcl v).b.toNat : Int), .int .u8 ((mcl v).c.toNat : Int), .int .u8 ((mcl v).d.toNat : Int), .int .u8 ((mcl v).e.toNat : Int), .int .u8 ((mcl v).f.toNat : Int), .int .u8 (c.first.a.toNat : Int), .int .u8 (c.first.b.toNat : Int), .int .u8 (c.first.c.toNat : Int), .int .u8 (c.first.d.toNat : Int), .int .u8 (c.last.a.toNat : Int), .int .u8 (c.last.b.toNat : Int), .int .u8 (c.last.c.toNat : Int), .int .u8 (c.last.d.toNat : Int), .int .i64 c.time, .int .u8 (c.dns.a.toNat : Int), .int .u8 (c.dns.b.toNat : Int), .int .u8 (c.dns.c.toNat : Int), .int .u8 (c.dns.d.toNat : Int), .int .i64 c.udp, .int .i64 c.tcp, .int .i64 c.icmp, .int .i64 c.low, .slice Fx nf cf, .slice Ox nx cx] rfl (by kernel_rfl) (by rfl) ?_; intro w4 hq gr; replace sF := sF.away av_sF_rd gr; replace sO := sO.away av_sO_rd gr; replace hmb := blk_a hmb gr (ne_symm d_rd_mb); replace kp := kp.trans gr; replace bel := below_grown bel gr ord (Nat.le_trans hlo bel.size); clear hrd; have hrd := hq; clear hq gr))
    try clear R78
    go_ret
    exact ⟨(by rw [HP.out] <;> rfl), fun hv_ => (by rw [HC.out]; exact ⟨Fx, nf, cf, Ox, nx, cx, hrd, sF, sO, fun _ _ h_ => h_, fun _ _ h_ => h_⟩), kp⟩
  rcases (by decide : ∀ b : Bool, b = true ∨ b = false) (s == [102, 105, 114, 115, 116]) with b3 | b3
  · have HP : Hid (valOk s v = p4ok v) := Lib.hid (by rw [eq_of_beq b3]; kernel_rfl)
    have HC : Hid (valC c s v = { c with first := p4 v }) := Lib.hid (by rw [eq_of_beq b3]; kernel_rfl)
    go_wp2_with fail
    with_reducible refine (rparse_l v _ hlen).mono ?_
    rintro e w1 ⟨rfl, b1⟩
    replace hrd := blk_u hrd b1
    replace sF := sF.below b1
    replace sO := sO.below b1
    replace kp := kp_below kp b1
    replace bel := bel.trans (b1.mono (Nat.le_trans hlo bel.size))
    clear b1
    go_wp2_with (first | ((with_reducible show wpList _ _ _ (⟨some 13, _, _, _, _, _⟩ :: _) _ _); refine wpList_new_a rfl 24 rfl #[.int .u8 0, .int .u8 0, .int .u8 0, .int .u8 0] (by kernel_rfl) ?_; intro g13 w2 ge hh bb; have d_rd_ab := ne_new (hlt hrd) ge; have av_sF_ab := sF.av_new ge; have av_sO_ab := sO.av_new ge; have oab := Nat.le_trans (Nat.le_trans hlo bel.size) ge; have pab := Nat.le_trans kp.size ge; replace hrd := blk_u hrd bb; replace sF := sF.below bb; replace sO := sO.below bb; replace kp := kp_below kp bb; replace bel := bel.trans (bb.mono (Nat.le_trans hlo bel.size)); have hab := hh; clear hh ge bb) | ((with_reducible show wpList _ _ _ (⟨none, Op.store _ (.tmp 13) _, _, _, _, _⟩ :: _) _ _); refine wpList_store_blk rfl 24 (.tmp 13) (.tmp 89) rfl g13 rfl _ rfl _ 24 hab (by rfl) (by kernel_rfl) (by kernel_rfl) ?_; intro w3 hq gr; replace sF := sF.away av_sF_ab gr; replace sO := sO.away av_sO_ab gr; replace hrd := blk_a hrd gr d_rd_ab; replace kp := kp_new kp gr pab; replace bel := below_grown bel gr oab (Nat.le_trans hlo bel.size); clear hab; have hab := hq; clear hq gr; have R99 := Lib.hid (range_lit hab 0 4 [.int .u8 ((p4 v).a.toNat : Int), .int .u8 ((p4 v).b.toNat : Int), .int .u8 ((p4 v).c.toNat : Int), .int .u8 ((p4 v).d.toNat : Int)] rfl)) | ((with_reducible show wpList _ _ _ (⟨some 99, _, _, _, _, _⟩ :: _) _ _); refine wpList_load_rng 24 (.tmp 13) rfl (by kernel_rfl) _ _ rfl _ R99.out _ Try.underlying24 rfl (by kernel_rfl) ?_) | ((with_reducible show wpList _ _ _ (⟨none, Op.store _ (.tmp 101) _, _, _, _, _⟩ :: _) _ _); refine wpList_store_part rfl 24 (.tmp 101) (.tmp 99) rfl gr 21 rfl [.int .u8 ((p4 v).a.toNat : Int), .int .u8 ((p4 v).b.toNat : Int), .int .u8 ((p4 v).c.toNat : Int), .int .u8 ((p4 v).d.toNat : Int)] rfl (cfl c Fx nf cf Ox nx cx) 40 hrd (by simp) [.int .u8 (c.own.a.toNat : Int), .int .u8 (c.own.b.toNat : Int), .int .u8 (c.own.c.toNat : Int), .int .u8 (c.own.d.toNat : Int), .int .u8 (c.lan.a.toNat : Int), .int .u8 (c.lan.b.toNat : Int), .int .u8 (c.lan.c.toNat : Int), .int .u8 (c.lan.d.toNat : Int), .int .i64 c.bits, .int .u8 (c.lanmac.a.toNat : Int), .int .u8 (c.lanmac.b.toNat : Int), .int .u8 (c.lanmac.c.toNat : Int), .int .u8 (c.lanmac.d.toNat : Int), .int .u8 (c.lanmac.e.toNat : Int), .int .u8 (c.lanmac.f.toNat : Int), .int .u8 (c.wanmac.a.toNat : Int), .int .u8 (c.wanmac.b.toNat : Int), .int .u8 (c.wanmac.c.toNat : Int), .int .u8 (c.wanmac.d.toNat : Int), .int .u8 (c.wanmac.e.toNat : Int), .int .u8 (c.wanmac.f.toNat : Int), .int .u8 ((p4 v).a.toNat : Int), .int .u8 ((p4 v).b.toNat : Int), .int .u8 ((p4 v).c.toNat : Int), .int .u8 ((p4 v).d.toNat : Int), .int .u8 (c.last.a.toNat : Int), .int .u8 (c.last.b.toNat : Int), .int .u8 (c.last.c.toNat : Int), .int .u8 (c.last.d.toNat : Int), .int .i64 c.time, .int .u8 (c.dns.a.toNat : Int), .int .u8 (c.dns.b.toNat : Int), .int .u8 (c.dns.c.toNat : Int), .int .u8 (c.dns.d.toNat : Int), .int .i64 c.udp, .int .i64 c.tcp, .int .i64 c.icmp, .int .i64 c.low, .slice Fx nf cf, .slice Ox nx cx] rfl (by kernel_rfl) (by rfl) ?_; intro w4 hq gr; replace sF := sF.away av_sF_rd gr; replace sO := sO.away av_sO_rd gr; replace hab := blk_a hab gr (ne_symm d_rd_ab); replace kp := kp.trans gr; replace bel := below_grown bel gr ord (Nat.le_trans hlo bel.size); clear hrd; have hrd := hq; clear hq gr))
    try clear R99
    go_ret
    exact ⟨(by rw [HP.out] <;> rfl), fun hv_ => (by rw [HC.out]; exact ⟨Fx, nf, cf, Ox, nx, cx, hrd, sF, sO, fun _ _ h_ => h_, fun _ _ h_ => h_⟩), kp⟩
  rcases (by decide : ∀ b : Bool, b = true ∨ b = false) (s == [108, 97, 115, 116]) with b4 | b4
  · have HP : Hid (valOk s v = p4ok v) := Lib.hid (by rw [eq_of_beq b4]; kernel_rfl)
    have HC : Hid (valC c s v = { c with last := p4 v }) := Lib.hid (by rw [eq_of_beq b4]; kernel_rfl)
    go_wp2_with fail
    with_reducible refine (rparse_l v _ hlen).mono ?_
    rintro e w1 ⟨rfl, b1⟩
    replace hrd := blk_u hrd b1
    replace sF := sF.below b1
    replace sO := sO.below b1
    replace kp := kp_below kp b1
    replace bel := bel.trans (b1.mono (Nat.le_trans hlo bel.size))
    clear b1
    go_wp2_with (first | ((with_reducible show wpList _ _ _ (⟨some 13, _, _, _, _, _⟩ :: _) _ _); refine wpList_new_a rfl 24 rfl #[.int .u8 0, .int .u8 0, .int .u8 0, .int .u8 0] (by kernel_rfl) ?_; intro g13 w2 ge hh bb; have d_rd_ab := ne_new (hlt hrd) ge; have av_sF_ab := sF.av_new ge; have av_sO_ab := sO.av_new ge; have oab := Nat.le_trans (Nat.le_trans hlo bel.size) ge; have pab := Nat.le_trans kp.size ge; replace hrd := blk_u hrd bb; replace sF := sF.below bb; replace sO := sO.below bb; replace kp := kp_below kp bb; replace bel := bel.trans (bb.mono (Nat.le_trans hlo bel.size)); have hab := hh; clear hh ge bb) | ((with_reducible show wpList _ _ _ (⟨none, Op.store _ (.tmp 13) _, _, _, _, _⟩ :: _) _ _); refine wpList_store_blk rfl 24 (.tmp 13) (.tmp 89) rfl g13 rfl _ rfl _ 24 hab (by rfl) (by kernel_rfl) (by kernel_rfl) ?_; intro w3 hq gr; replace sF := sF.away av_sF_ab gr; replace sO := sO.away av_sO_ab gr; replace hrd := blk_a hrd gr d_rd_ab; replace kp := kp_new kp gr pab; replace bel := below_grown bel gr oab (Nat.le_trans hlo bel.size); clear hab; have hab := hq; clear hq gr; have R105 := Lib.hid (range_lit hab 0 4 [.int .u8 ((p4 v).a.toNat : Int), .int .u8 ((p4 v).b.toNat : Int), .int .u8 ((p4 v).c.toNat : Int), .int .u8 ((p4 v).d.toNat : Int)] rfl)) | ((with_reducible show wpList _ _ _ (⟨some 105, _, _, _, _, _⟩ :: _) _ _); refine wpList_load_rng 24 (.tmp 13) rfl (by kernel_rfl) _ _ rfl _ R105.out _ Try.underlying24 rfl (by kernel_rfl) ?_) | ((with_reducible show wpList _ _ _ (⟨none, Op.store _ (.tmp 107) _, _, _, _, _⟩ :: _) _ _); refine wpList_store_part rfl 24 (.tmp 107) (.tmp 105) rfl gr 25 rfl [.int .u8 ((p4 v).a.toNat : Int), .int .u8 ((p4 v).b.toNat : Int), .int .u8 ((p4 v).c.toNat : Int), .int .u8 ((p4 v).d.toNat : Int)] rfl (cfl c Fx nf cf Ox nx cx) 40 hrd (by simp) [.int .u8 (c.own.a.toNat : Int), .int .u8 (c.own.b.toNat : Int), .int .u8 (c.own.c.toNat : Int), .int .u8 (c.own.d.toNat : Int), .int .u8 (c.lan.a.toNat : Int), .int .u8 (c.lan.b.toNat : Int), .int .u8 (c.lan.c.toNat : Int), .int .u8 (c.lan.d.toNat : Int), .int .i64 c.bits, .int .u8 (c.lanmac.a.toNat : Int), .int .u8 (c.lanmac.b.toNat : Int), .int .u8 (c.lanmac.c.toNat : Int), .int .u8 (c.lanmac.d.toNat : Int), .int .u8 (c.lanmac.e.toNat : Int), .int .u8 (c.lanmac.f.toNat : Int), .int .u8 (c.wanmac.a.toNat : Int), .int .u8 (c.wanmac.b.toNat : Int), .int .u8 (c.wanmac.c.toNat : Int), .int .u8 (c.wanmac.d.toNat : Int), .int .u8 (c.wanmac.e.toNat : Int), .int .u8 (c.wanmac.f.toNat : Int), .int .u8 (c.first.a.toNat : Int), .int .u8 (c.first.b.toNat : Int), .int .u8 (c.first.c.toNat : Int), .int .u8 (c.first.d.toNat : Int), .int .u8 ((p4 v).a.toNat : Int), .int .u8 ((p4 v).b.toNat : Int), .int .u8 ((p4 v).c.toNat : Int), .int .u8 ((p4 v).d.toNat : Int), .int .i64 c.time, .int .u8 (c.dns.a.toNat : Int), .int .u8 (c.dns.b.toNat : Int), .int .u8 (c.dns.c.toNat : Int), .int .u8 (c.dns.d.toNat : Int), .int .i64 c.udp, .int .i64 c.tcp, .int .i64 c.icmp, .int .i64 c.low, .slice Fx nf cf, .slice Ox nx cx] rfl (by kernel_rfl) (by rfl) ?_; intro w4 hq gr; replace sF := sF.away av_sF_rd gr; replace sO := sO.away av_sO_rd gr; replace hab := blk_a hab gr (ne_symm d_rd_ab); replace kp := kp.trans gr; replace bel := below_grown bel gr ord (Nat.le_trans hlo bel.size); clear hrd; have hrd := hq; clear hq gr))
    try clear R105
    go_ret
    exact ⟨(by rw [HP.out] <;> rfl), fun hv_ => (by rw [HC.out]; exact ⟨Fx, nf, cf, Ox, nx, cx, hrd, sF, sO, fun _ _ h_ => h_, fun _ _ h_ => h_⟩), kp⟩
  rcases (by decide : ∀ b : Bool, b = true ∨ b = false) (s == [100, 110, 115]) with b5 | b5
  · have HP : Hid (valOk s v = p4ok v) := Lib.hid (by rw [eq_of_beq b5]; kernel_rfl)
    have HC : Hid (valC c s v = { c with dns := p4 v }) := Lib.hid (by rw [eq_of_beq b5]; kernel_rfl)
    go_wp2_with fail
    with_reducible refine (rparse_l v _ hlen).mono ?_
    rintro e w1 ⟨rfl, b1⟩
    replace hrd := blk_u hrd b1
    replace sF := sF.below b1
    replace sO := sO.below b1
    replace kp := kp_below kp b1
    replace bel := bel.trans (b1.mono (Nat.le_trans hlo bel.size))
    clear b1
    go_wp2_with (first | ((with_reducible show wpList _ _ _ (⟨some 13, _, _, _, _, _⟩ :: _) _ _); refine wpList_new_a rfl 24 rfl #[.int .u8 0, .int .u8 0, .int .u8 0, .int .u8 0] (by kernel_rfl) ?_; intro g13 w2 ge hh bb; have d_rd_ab := ne_new (hlt hrd) ge; have av_sF_ab := sF.av_new ge; have av_sO_ab := sO.av_new ge; have oab := Nat.le_trans (Nat.le_trans hlo bel.size) ge; have pab := Nat.le_trans kp.size ge; replace hrd := blk_u hrd bb; replace sF := sF.below bb; replace sO := sO.below bb; replace kp := kp_below kp bb; replace bel := bel.trans (bb.mono (Nat.le_trans hlo bel.size)); have hab := hh; clear hh ge bb) | ((with_reducible show wpList _ _ _ (⟨none, Op.store _ (.tmp 13) _, _, _, _, _⟩ :: _) _ _); refine wpList_store_blk rfl 24 (.tmp 13) (.tmp 89) rfl g13 rfl _ rfl _ 24 hab (by rfl) (by kernel_rfl) (by kernel_rfl) ?_; intro w3 hq gr; replace sF := sF.away av_sF_ab gr; replace sO := sO.away av_sO_ab gr; replace hrd := blk_a hrd gr d_rd_ab; replace kp := kp_new kp gr pab; replace bel := below_grown bel gr oab (Nat.le_trans hlo bel.size); clear hab; have hab := hq; clear hq gr; have R93 := Lib.hid (range_lit hab 0 4 [.int .u8 ((p4 v).a.toNat : Int), .int .u8 ((p4 v).b.toNat : Int), .int .u8 ((p4 v).c.toNat : Int), .int .u8 ((p4 v).d.toNat : Int)] rfl)) | ((with_reducible show wpList _ _ _ (⟨some 93, _, _, _, _, _⟩ :: _) _ _); refine wpList_load_rng 24 (.tmp 13) rfl (by kernel_rfl) _ _ rfl _ R93.out _ Try.underlying24 rfl (by kernel_rfl) ?_) | ((with_reducible show wpList _ _ _ (⟨none, Op.store _ (.tmp 95) _, _, _, _, _⟩ :: _) _ _); refine wpList_store_part rfl 24 (.tmp 95) (.tmp 93) rfl gr 30 rfl [.int .u8 ((p4 v).a.toNat : Int), .int .u8 ((p4 v).b.toNat : Int), .int .u8 ((p4 v).c.toNat : Int), .int .u8 ((p4 v).d.toNat : Int)] rfl (cfl c Fx nf cf Ox nx cx) 40 hrd (by simp) [.int .u8 (c.own.a.toNat : Int), .int .u8 (c.own.b.toNat : Int), .int .u8 (c.own.c.toNat : Int), .int .u8 (c.own.d.toNat : Int), .int .u8 (c.lan.a.toNat : Int), .int .u8 (c.lan.b.toNat : Int), .int .u8 (c.lan.c.toNat : Int), .int .u8 (c.lan.d.toNat : Int), .int .i64 c.bits, .int .u8 (c.lanmac.a.toNat : Int), .int .u8 (c.lanmac.b.toNat : Int), .int .u8 (c.lanmac.c.toNat : Int), .int .u8 (c.lanmac.d.toNat : Int), .int .u8 (c.lanmac.e.toNat : Int), .int .u8 (c.lanmac.f.toNat : Int), .int .u8 (c.wanmac.a.toNat : Int), .int .u8 (c.wanmac.b.toNat : Int), .int .u8 (c.wanmac.c.toNat : Int), .int .u8 (c.wanmac.d.toNat : Int), .int .u8 (c.wanmac.e.toNat : Int), .int .u8 (c.wanmac.f.toNat : Int), .int .u8 (c.first.a.toNat : Int), .int .u8 (c.first.b.toNat : Int), .int .u8 (c.first.c.toNat : Int), .int .u8 (c.first.d.toNat : Int), .int .u8 (c.last.a.toNat : Int), .int .u8 (c.last.b.toNat : Int), .int .u8 (c.last.c.toNat : Int), .int .u8 (c.last.d.toNat : Int), .int .i64 c.time, .int .u8 ((p4 v).a.toNat : Int), .int .u8 ((p4 v).b.toNat : Int), .int .u8 ((p4 v).c.toNat : Int), .int .u8 ((p4 v).d.toNat : Int), .int .i64 c.udp, .int .i64 c.tcp, .int .i64 c.icmp, .int .i64 c.low, .slice Fx nf cf, .slice Ox nx cx] rfl (by kernel_rfl) (by rfl) ?_; intro w4 hq gr; replace sF := sF.away av_sF_rd gr; replace sO := sO.away av_sO_rd gr; replace hab := blk_a hab gr (ne_symm d_rd_ab); replace kp := kp.trans gr; replace bel := below_grown bel gr ord (Nat.le_trans hlo bel.size); clear hrd; have hrd := hq; clear hq gr))
    try clear R93
    go_ret
    exact ⟨(by rw [HP.out] <;> rfl), fun hv_ => (by rw [HC.out]; exact ⟨Fx, nf, cf, Ox, nx, cx, hrd, sF, sO, fun _ _ h_ => h_, fun _ _ h_ => h_⟩), kp⟩
  rcases (by decide : ∀ b : Bool, b = true ∨ b = false) (s == [102, 105, 120, 101, 100]) with b6 | b6
  · go_wp2_with fail
    with_reducible refine (words_any v _ hlen).mono ?_
    rintro e w1 ⟨v_, rfl, wtw, b1⟩
    have p_wt := kp.size
    have y_wt_rd := Lib.hid (hlt hrd)
    have bl_sF_wt := sF.bl_new
    have bl_sO_wt := sO.bl_new
    have wtlo := (Nat.le_trans hlo bel.size)
    have lz_wt := b1.size
    replace hrd := blk_u hrd b1
    replace sF := sF.below b1
    replace sO := sO.below b1
    replace kp := kp_below kp b1
    replace bel := bel.trans (b1.mono (Nat.le_trans hlo bel.size))
    clear b1
    obtain ⟨Awt, cwt, rfl⟩ := owk_val wtw
    have wt := (owk_sle (by decide) stf_len wtw).1
    have fr_wt := (owk_sle (by decide) stf_len wtw).2
    have av_wt_rd := fr_wt.av y_wt_rd.out
    obtain ⟨ws, hws⟩ : ∃ ws, wordsL v = ws := ⟨_, rfl⟩
    obtain ⟨n, hn⟩ : ∃ n, ws.length = n := ⟨_, rfl⟩
    rw [hws, hn] at wt wtw fr_wt av_wt_rd
    rw [hws, hn]
    have HWS := Lib.hid hws
    have HNN := Lib.hid hn
    have n0 : (0 : Int) ≤ n := by omega
    clear hws hn
    clear wtw lz_wt
    by_cases h1 : n = 2
    rotate_left
    · have h1k : ((n : Int) == 2) = false := beq_eq_false_iff_ne.2 (by omega)
      have h1j : ((n : Int) != 2) = true := by rw [bne, h1k]; rfl
      have HP : Hid (valOk s v = false) := Lib.hid (by rw [eq_of_beq b6]; exact fixedE_no (by rw [HWS.out, HNN.out]; exact h1))
      go_wp2_with fail
      go_ret
      exact ⟨(by rw [HP.out] <;> rfl), fun hv_ => (by rw [HP.out] at hv_; cases hv_), kp⟩
    obtain ⟨x, y, hxy⟩ := list_two (show ws.length = 2 by rw [HNN.out]; exact h1)
    have HX0 : Hid (ws[0]? = some x) := Lib.hid (by rw [hxy]; rfl)
    have HL0 : Hid (x.length ≤ 100000) := Lib.hid (word_len (j := 0) hlen (by rw [HWS.out, hxy]; rfl))
    have HX1 : Hid (ws[1]? = some y) := Lib.hid (by rw [hxy]; rfl)
    have HL1 : Hid (y.length ≤ 100000) := Lib.hid (word_len (j := 1) hlen (by rw [HWS.out, hxy]; rfl))
    have HWX := Lib.hid (HWS.out.trans hxy)
    obtain ⟨gW, oW, rfl⟩ := wt.place (by omega)
    have h1k : ((n : Int) == 2) = true := beq_iff_eq.2 (by omega)
    have h1j : ((n : Int) != 2) = false := by rw [bne, h1k]; rfl
    have i0 : (0 : Int) < n := by omega
    have i1 : (1 : Int) < n := by omega
    clear hxy
    obtain ⟨bm, HBM_⟩ : ∃ b, mcok x = b := ⟨_, rfl⟩
    have HBM := Lib.hid HBM_
    obtain ⟨bp, HBP_⟩ : ∃ b, p4ok y = b := ⟨_, rfl⟩
    have HBP := Lib.hid HBP_
    clear HBM_ HBP_
    have HVK : Hid (valOk s v = (bm && bp)) := Lib.hid (by rw [eq_of_beq b6, ← HBM.out, ← HBP.out]; show fixedE v = _; unfold fixedE; rw [HWX.out])
    have HC : Hid (valC c s v = { c with fixed := c.fixed ++ [(mcl x, p4 y)] }) := Lib.hid (by rw [eq_of_beq b6]; show c.addF v = _; unfold Cf.addF; rw [HWX.out])
    have R119 := (by have h_ := Sle.st (i := 0) wt HX0.out; rw [Nat.add_zero] at h_; exact h_)
    go_wp2_with fail
    clear R119
    with_reducible refine (rmac_l x _).mono ?_
    rintro e w2 ⟨rfl, b2⟩
    replace hrd := blk_u hrd b2
    replace sF := sF.below b2
    replace sO := sO.below b2
    replace wt := wt.below b2
    replace kp := kp_below kp b2
    replace bel := bel.trans (b2.mono (Nat.le_trans hlo bel.size))
    clear b2
    rw [HBM.out]
    go_wp2_with (first | ((with_reducible show wpList _ _ _ (⟨some 16, _, _, _, _, _⟩ :: _) _ _); refine wpList_new_a rfl 28 rfl #[.int .u8 0, .int .u8 0, .int .u8 0, .int .u8 0, .int .u8 0, .int .u8 0] (by kernel_rfl) ?_; intro g16 w3 ge hh bb; have d_rd_mb := ne_new (hlt hrd) ge; have av_sF_mb := sF.av_new ge; have av_sO_mb := sO.av_new ge; have av_wt_mb := wt.av_new ge; have omb := Nat.le_trans (Nat.le_trans hlo bel.size) ge; have pmb := Nat.le_trans kp.size ge; replace hrd := blk_u hrd bb; replace sF := sF.below bb; replace sO := sO.below bb; replace wt := wt.below bb; replace kp := kp_below kp bb; replace bel := bel.trans (bb.mono (Nat.le_trans hlo bel.size)); have hmb := hh; clear hh ge bb) | ((with_reducible show wpList _ _ _ (⟨none, Op.store _ (.tmp 16) _, _, _, _, _⟩ :: _) _ _); refine wpList_store_blk rfl 28 (.tmp 16) (.tmp 121) rfl g16 rfl _ rfl _ 28 hmb (by rfl) (by kernel_rfl) (by kernel_rfl) ?_; intro w4 hq gr; replace sF := sF.away av_sF_mb gr; replace sO := sO.away av_sO_mb gr; replace wt := wt.away av_wt_mb gr; replace hrd := blk_a hrd gr d_rd_mb; replace kp := kp_new kp gr pmb; replace bel := below_grown bel gr omb (Nat.le_trans hlo bel.size); clear hmb; have hmb := hq; clear hq gr; have R126 := Sle.st (i := 1) wt HX1.out))
    try clear R126
    with_reducible refine (rparse_l y _ HL1.out).mono ?_
    rintro e w5 ⟨rfl, b5⟩
    replace hrd := blk_u hrd b5
    replace hmb := blk_u hmb b5
    replace sF := sF.below b5
    replace sO := sO.below b5
    replace wt := wt.below b5
    replace kp := kp_below kp b5
    replace bel := bel.trans (b5.mono (Nat.le_trans hlo bel.size))
    clear b5
    rw [HBP.out]
    go_wp2_with (first | ((with_reducible show wpList _ _ _ (⟨some 18, _, _, _, _, _⟩ :: _) _ _); refine wpList_new_a rfl 24 rfl #[.int .u8 0, .int .u8 0, .int .u8 0, .int .u8 0] (by kernel_rfl) ?_; intro g18 w6 ge hh bb; have d_rd_ab := ne_new (hlt hrd) ge; have d_mb_ab := ne_new (hlt hmb) ge; have av_sF_ab := sF.av_new ge; have av_sO_ab := sO.av_new ge; have av_wt_ab := wt.av_new ge; have oab := Nat.le_trans (Nat.le_trans hlo bel.size) ge; have pab := Nat.le_trans kp.size ge; replace hrd := blk_u hrd bb; replace hmb := blk_u hmb bb; replace sF := sF.below bb; replace sO := sO.below bb; replace wt := wt.below bb; replace kp := kp_below kp bb; replace bel := bel.trans (bb.mono (Nat.le_trans hlo bel.size)); have hab := hh; clear hh ge bb) | ((with_reducible show wpList _ _ _ (⟨none, Op.store _ (.tmp 18) _, _, _, _, _⟩ :: _) _ _); refine wpList_store_blk rfl 24 (.tmp 18) (.tmp 128) rfl g18 rfl _ rfl _ 24 hab (by rfl) (by kernel_rfl) (by kernel_rfl) ?_; intro w7 hq gr; replace sF := sF.away av_sF_ab gr; replace sO := sO.away av_sO_ab gr; replace wt := wt.away av_wt_ab gr; replace hrd := blk_a hrd gr d_rd_ab; replace hmb := blk_a hmb gr d_mb_ab; replace kp := kp_new kp gr pab; replace bel := below_grown bel gr oab (Nat.le_trans hlo bel.size); clear hab; have hab := hq; clear hq gr))
    go_cut [] from 9999 (fun W => ∃ A141 : Option Addr, ∃ c141 : Nat, W.heap[gr]? = some (.cells #[.int .u8 (c.own.a.toNat : Int), .int .u8 (c.own.b.toNat : Int), .int .u8 (c.own.c.toNat : Int), .int .u8 (c.own.d.toNat : Int), .int .u8 (c.lan.a.toNat : Int), .int .u8 (c.lan.b.toNat : Int), .int .u8 (c.lan.c.toNat : Int), .int .u8 (c.lan.d.toNat : Int), .int .i64 c.bits, .int .u8 (c.lanmac.a.toNat : Int), .int .u8 (c.lanmac.b.toNat : Int), .int .u8 (c.lanmac.c.toNat : Int), .int .u8 (c.lanmac.d.toNat : Int), .int .u8 (c.lanmac.e.toNat : Int), .int .u8 (c.lanmac.f.toNat : Int), .int .u8 (c.wanmac.a.toNat : Int), .int .u8 (c.wanmac.b.toNat : Int), .int .u8 (c.wanmac.c.toNat : Int), .int .u8 (c.wanmac.d.toNat : Int), .int .u8 (c.wanmac.e.toNat : Int), .int .u8 (c.wanmac.f.toNat : Int), .int .u8 (c.first.a.toNat : Int), .int .u8 (c.first.b.toNat : Int), .int .u8 (c.first.c.toNat : Int), .int .u8 (c.first.d.toNat : Int), .int .u8 (c.last.a.toNat : Int), .int .u8 (c.last.b.toNat : Int), .int .u8 (c.last.c.toNat : Int), .int .u8 (c.last.d.toNat : Int), .int .i64 c.time, .int .u8 (c.dns.a.toNat : Int), .int .u8 (c.dns.b.toNat : Int), .int .u8 (c.dns.c.toNat : Int), .int .u8 (c.dns.d.toNat : Int), .int .i64 c.udp, .int .i64 c.tcp, .int .i64 c.icmp, .int .i64 c.low, .slice A141 (nf + 1) c141, .slice Ox nx cx] 40 (0, 0)) ∧ W.heap[g16]? = some (.cells #[.int .u8 ((mcl x).a.toNat : Int), .int .u8 ((mcl x).b.toNat : Int), .int .u8 ((mcl x).c.toNat : Int), .int .u8 ((mcl x).d.toNat : Int), .int .u8 ((mcl x).e.toNat : Int), .int .u8 ((mcl x).f.toNat : Int)] 28 (0, 0)) ∧ W.heap[g18]? = some (.cells #[.int .u8 ((p4 y).a.toNat : Int), .int .u8 ((p4 y).b.toNat : Int), .int .u8 ((p4 y).c.toNat : Int), .int .u8 ((p4 y).d.toNat : Int)] 24 (0, 0)) ∧ Hid (g18 ≠ g16) ∧ Hid (g18 ≠ gr) ∧ Hid (g16 ≠ gr) ∧ Sle fxf 10 W (Fx) (nf) (cf) (c.fixed) ∧ Av (Fx) (nf) g18 ∧ Av (Fx) (nf) g16 ∧ Av (Fx) (nf) gr ∧ Sle opf 7 W (Ox) (nx) (cx) (c.opens) ∧ Av (Ox) (nx) g18 ∧ Av (Ox) (nx) g16 ∧ Av (Ox) (nx) gr ∧ Sle stf 1 W (some ⟨gW, oW, none⟩) (n) (cwt) (ws) ∧ Av (some ⟨gW, oW, none⟩) (n) g18 ∧ Av (some ⟨gW, oW, none⟩) (n) g16 ∧ Av (some ⟨gW, oW, none⟩) (n) gr ∧ Sle fxf 10 W (A141) (nf + 1) (c141) (c.fixed ++ [(mcl x, p4 y)]) ∧ Av (A141) (nf + 1) g18 ∧ Av (A141) (nf + 1) g16 ∧ Av (A141) (nf + 1) gr ∧ Fr w.heap.size A141 (nf + 1) ∧ w.grownBy W (some gr) ∧ Below lo w W)
    case first =>
      replace bel := bel.drew
      replace hrd : w7.drew.heap[gr]? = _ := hrd
      replace hmb : w7.drew.heap[g16]? = _ := hmb
      replace hab : w7.drew.heap[g18]? = _ := hab
      replace sF := sF.drew
      replace sO := sO.drew
      replace wt := wt.drew
      replace kp := kp_drew kp
      refine wp_region_held_drew (S := fun W => W.heap[g16]? = some (.cells #[.int .u8 ((mcl x).a.toNat : Int), .int .u8 ((mcl x).b.toNat : Int), .int .u8 ((mcl x).c.toNat : Int), .int .u8 ((mcl x).d.toNat : Int), .int .u8 ((mcl x).e.toNat : Int), .int .u8 ((mcl x).f.toNat : Int)] 28 (0, 0)) ∧ W.heap[g18]? = some (.cells #[.int .u8 ((p4 y).a.toNat : Int), .int .u8 ((p4 y).b.toNat : Int), .int .u8 ((p4 y).c.toNat : Int), .int .u8 ((p4 y).d.toNat : Int)] 24 (0, 0))) (by kernel_rfl) ⟨hmb, hab⟩ (fun hH => ?_)
      generalize w7.drew = w8 at bel hrd hmb hab sF sO wt kp hH ⊢
      refine wpAnyH_take (i := 0) (v := ?_) rfl (by kernel_rfl) (by kernel_rfl) (by kernel_rfl) (fun _ _ _ h => h) (Or.inl ⟨by rfl, ?_⟩) hH ?_
      rotate_left
      · ((intro W hW; clear hW; go_simp) <;> with_reducible rfl)
      simp only [Act.put, List.getElem_toArray, List.getElem_cons_zero, List.setIfInBounds_toArray, List.set_cons_zero, List.set_cons_succ]
      refine wpAnyH_take (i := 2) (v := ?_) rfl (by kernel_rfl) (by kernel_rfl) (by kernel_rfl) (fun _ _ _ h => h) (Or.inl ⟨by rfl, ?_⟩) hH ?_
      rotate_left
      · ((intro W hW; clear hW; go_simp) <;> with_reducible rfl)
      simp only [sq3, sq4]
      refine wpAnyH_take (i := 3) (v := ?_) rfl (by kernel_rfl) (by kernel_rfl) (by kernel_rfl) (fun _ _ _ h => h) (Or.inl ⟨by rfl, ?_⟩) hH ?_
      rotate_left
      · ((intro W hW; clear hW; go_simp) <;> with_reducible rfl)
      simp only [sq3, sq4]
      refine wpAnyH_take (i := 4) (v := ?_) rfl (by kernel_rfl) (by kernel_rfl) (by kernel_rfl) (fun _ _ _ h => h) (Or.inl ⟨by rfl, ?_⟩) hH ?_
      rotate_left
      · ((intro W hW; clear hW; go_simp) <;> with_reducible rfl)
      simp only [sq3, sq4]
      refine wpAnyH_take (i := 7) (v := .agg #[.int .u8 ((mcl x).a.toNat : Int), .int .u8 ((mcl x).b.toNat : Int), .int .u8 ((mcl x).c.toNat : Int), .int .u8 ((mcl x).d.toNat : Int), .int .u8 ((mcl x).e.toNat : Int), .int .u8 ((mcl x).f.toNat : Int)]) rfl (by kernel_rfl) (by kernel_rfl) (by kernel_rfl) (fun _ _ _ h => h) (yieldsIf_load_part (by kernel_rfl) 28 _ rfl g16 0 6 rfl _ 28 (0, 0) (fun W hW => hW.1) _ rfl _ Try.underlying28 rfl (by kernel_rfl)) hH ?_
      simp only [sq3, sq4]
      refine wpAnyH_take (i := 8) (v := .agg #[.int .u8 ((p4 y).a.toNat : Int), .int .u8 ((p4 y).b.toNat : Int), .int .u8 ((p4 y).c.toNat : Int), .int .u8 ((p4 y).d.toNat : Int)]) rfl (by kernel_rfl) (by kernel_rfl) (by kernel_rfl) (fun _ _ _ h => h) (yieldsIf_load_part (by kernel_rfl) 24 _ rfl g18 0 4 rfl _ 24 (0, 0) (fun W hW => hW.2) _ rfl _ Try.underlying24 rfl (by kernel_rfl)) hH ?_
      simp only [sq3, sq4]
      refine wpAnyH_take (i := 9) (v := ?_) rfl (by kernel_rfl) (by kernel_rfl) (by kernel_rfl) (fun _ _ _ h => h) (Or.inl ⟨by rfl, ?_⟩) hH ?_
      rotate_left
      · ((intro W hW; clear hW; go_simp) <;> with_reducible rfl)
      simp only [sq3, sq4]
      refine wpAnyH_ready (rs := [1, 5, 10]) (by kernel_rfl) (by simp) ?_
      refine AllReadyH.cons (o := _) rfl (fun K hK => ?_) (AllReadyH.cons (o := _) rfl (fun K hK => ?_) (AllReadyH.cons (o := _) rfl (fun K hK => ?_) AllReadyH.nil))
      rotate_left 2
      · simp only [sq3]
        rw [if_pos (by rfl)]
        refine wp_lit_n 37 69 1 _ rfl #[.int .u8 ((mcl x).a.toNat : Int), .int .u8 ((mcl x).b.toNat : Int), .int .u8 ((mcl x).c.toNat : Int), .int .u8 ((mcl x).d.toNat : Int), .int .u8 ((mcl x).e.toNat : Int), .int .u8 ((mcl x).f.toNat : Int), .int .u8 ((p4 y).a.toNat : Int), .int .u8 ((p4 y).b.toNat : Int), .int .u8 ((p4 y).c.toNat : Int), .int .u8 ((p4 y).d.toNat : Int)] (.agg #[.int .u8 0, .int .u8 0, .int .u8 0, .int .u8 0, .int .u8 0, .int .u8 0, .int .u8 0, .int .u8 0, .int .u8 0, .int .u8 0]) Try.underlying37 (by kernel_rfl) 10 (by kernel_rfl) (by decide) (by kernel_rfl) ?_
        intro g140 w9 ge lt hh bb
        have d_rd_b140 := ne_new (hlt hrd) ge
        have d_mb_b140 := ne_new (hlt hmb) ge
        have d_ab_b140 := ne_new (hlt hab) ge
        have av_sF_b140 := sF.av_new ge
        have av_sO_b140 := sO.av_new ge
        have av_wt_b140 := wt.av_new ge
        have ob140 := Nat.le_trans (Nat.le_trans hlo bel.size) ge
        have pb140 := Nat.le_trans kp.size ge
        replace hrd := blk_u hrd bb
        replace hmb := blk_u hmb bb
        replace hab := blk_u hab bb
        replace sF := sF.below bb
        replace sO := sO.below bb
        replace wt := wt.below bb
        replace kp := kp_below kp bb
        replace bel := bel.trans (bb.mono (Nat.le_trans hlo bel.size))
        have hb140 := hh
        clear hh lt ge bb
        have lw : Sle fxf 10 w9 (some ⟨g140, 0, none⟩) (1) (1) ([(mcl x, p4 y)]) := sle_lit ([(mcl x, p4 y)]) (by decide) fxf_len hb140 rfl (by simp [maxLen])
        refine hK.out _ _ ⟨hmb, hab⟩ (fun hH10 => ?_)
        clear hK K
        simp only [sq4]
        refine wpAnyH_ready (rs := [1, 5]) (by kernel_rfl) (by simp) ?_
        refine AllReadyH.cons (o := _) rfl (fun K hK => ?_) (AllReadyH.cons (o := _) rfl (fun K hK => ?_) AllReadyH.nil)
        rotate_left
        · simp only [sq3]
          rw [if_pos (by rfl)]
          have hk_ := cell_lit hrd 38 _ rfl
          refine wp_val (v := .slice Fx nf cf) (by (go_simp) <;> with_reducible rfl) ?_
          clear hk_
          refine hK.out _ _ ⟨hmb, hab⟩ (fun hH11 => ?_)
          clear hK K
          simp only [sq4]
          refine wpAnyH_ready (rs := [1]) (by kernel_rfl) (by simp) ?_
          refine AllReadyH.cons (o := _) rfl (fun K hK => ?_) AllReadyH.nil
          simp only [sq3]
          rw [if_pos (by rfl)]
          refine wp_lit_n 37 69 0 _ rfl #[] (.agg #[.int .u8 0, .int .u8 0, .int .u8 0, .int .u8 0, .int .u8 0, .int .u8 0, .int .u8 0, .int .u8 0, .int .u8 0, .int .u8 0]) Try.underlying37 (by kernel_rfl) 10 (by kernel_rfl) (by decide) (by kernel_rfl) ?_
          intro g131 w12 ge lt hh bb
          have l0w := owk_lit (B := w9.heap.size) ([] : List (Mc6 × Ad4)) fxf_len (show w12.heap[g131]? = some (.cells (([] : List (Mc6 × Ad4)).flatMap fxf).toArray 69 (0, 0)) from hh) ge 0 rfl (by simp [maxLen])
          have l0 := (owk_sle (by decide) fxf_len l0w).1
          have l0lo := (Nat.le_trans hlo bel.size)
          have l0ge := ge
          have lz_l0 := bb.size
          have p_l0 := kp.size
          have y_l0_rd := Lib.hid (hlt hrd)
          have y_l0_mb := Lib.hid (hlt hmb)
          have y_l0_ab := Lib.hid (hlt hab)
          have y_l0_b140 := Lib.hid (hlt hb140)
          have bl_sF_l0 := sF.bl_new
          have bl_sO_l0 := sO.bl_new
          have bl_wt_l0 := wt.bl_new
          have bl_lw_l0 := lw.bl_new
          replace hrd := blk_u hrd bb
          replace hmb := blk_u hmb bb
          replace hab := blk_u hab bb
          replace hb140 := blk_u hb140 bb
          replace sF := sF.below bb
          replace sO := sO.below bb
          replace wt := wt.below bb
          replace lw := lw.below bb
          replace kp := kp_below kp bb
          replace bel := bel.trans (bb.mono (Nat.le_trans hlo bel.size))
          clear hh lt ge bb
          have av_l0_rd := (owk_sle (by decide) fxf_len l0w).2.av y_l0_rd.out
          have av_l0_mb := (owk_sle (by decide) fxf_len l0w).2.av y_l0_mb.out
          have av_l0_ab := (owk_sle (by decide) fxf_len l0w).2.av y_l0_ab.out
          have av_l0_b140 := (owk_sle (by decide) fxf_len l0w).2.av y_l0_b140.out
          refine hK.out _ _ ⟨hmb, hab⟩ (fun hH13 => ?_)
          clear hK K
          simp only [sq4]
          refine wpAnyH_ready (rs := [6]) (by kernel_rfl) (by simp) ?_
          refine AllReadyH.cons (o := _) rfl (fun K hK => ?_) AllReadyH.nil
          simp only [sq3]
          rw [if_pos (by rfl)]
          refine wp_append_sle (.tmp 131) (.tmp 135) 37 rfl (w9.heap.size) 69 ig (.agg #[.int .u8 0, .int .u8 0, .int .u8 0, .int .u8 0, .int .u8 0, .int .u8 0, .int .u8 0, .int .u8 0, .int .u8 0, .int .u8 0]) 10 Try.underlying37 hig hig0 hig1 hig2 rfl fxf_one _ (0) ([]) rfl l0w (Fx) (nf) (cf) (c.fixed) rfl sF (by unfold maxLen; omega) (by omega) lz_l0 ?_
          intro v136 w14 own_ bb gw ofw
          clear ofw
          replace sF := sF.under bl_sF_l0 bb
          replace sO := sO.under bl_sO_l0 bb
          replace wt := wt.under bl_wt_l0 bb
          replace lw := lw.under bl_lw_l0 bb
          replace hrd := blk_under hrd bb y_l0_rd.out
          replace hmb := blk_under hmb bb y_l0_mb.out
          replace hab := blk_under hab bb y_l0_ab.out
          replace hb140 := blk_under hb140 bb y_l0_b140.out
          clear gw
          replace kp := kp_under kp bb p_l0
          replace bel := bel.trans (bb.mono l0lo)
          have lz_sF1 := Nat.le_trans lz_l0 bb.size
          clear bb
          clear l0 l0w lz_l0
          replace own_ : w14.ownsRow (w9.heap.size) 69 10 v136 (nf) ((c.fixed : List (Mc6 × Ad4)).flatMap fxf) := (by have h_ := own_; rw [Nat.zero_add, List.nil_append] at h_; exact h_)
          obtain ⟨A136, c136, rfl⟩ := owk_val own_
          have sF1w := own_
          have sF1 := (owk_sle (by decide) fxf_len own_).1
          have fr_sF1 := (owk_sle (by decide) fxf_len own_).2
          clear own_
          have av_sF1_rd := fr_sF1.av y_l0_rd.out
          have av_sF1_mb := fr_sF1.av y_l0_mb.out
          have av_sF1_ab := fr_sF1.av y_l0_ab.out
          have av_sF1_b140 := fr_sF1.av y_l0_b140.out
          refine hK.out _ _ ⟨hmb, hab⟩ (fun hH15 => ?_)
          clear hK K
          simp only [sq4]
          refine wpAnyH_ready (rs := [11]) (by kernel_rfl) (by simp) ?_
          refine AllReadyH.cons (o := _) rfl (fun K hK => ?_) AllReadyH.nil
          simp only [sq3]
          rw [if_pos (by rfl)]
          refine wp_append_sle (.tmp 136) (.tmp 140) 37 rfl (w9.heap.size) 69 ig (.agg #[.int .u8 0, .int .u8 0, .int .u8 0, .int .u8 0, .int .u8 0, .int .u8 0, .int .u8 0, .int .u8 0, .int .u8 0, .int .u8 0]) 10 Try.underlying37 hig hig0 hig1 hig2 rfl fxf_one _ (nf) (c.fixed) rfl sF1w (some ⟨g140, 0, none⟩) (1) (1) ([(mcl x, p4 y)]) rfl lw (by unfold maxLen; omega) (by omega) lz_sF1 ?_
          intro v141 w16 own_ bb gw ofw
          clear ofw
          replace sF := sF.under bl_sF_l0 bb
          replace sO := sO.under bl_sO_l0 bb
          replace wt := wt.under bl_wt_l0 bb
          replace lw := lw.under bl_lw_l0 bb
          replace hrd := blk_under hrd bb y_l0_rd.out
          replace hmb := blk_under hmb bb y_l0_mb.out
          replace hab := blk_under hab bb y_l0_ab.out
          replace hb140 := blk_under hb140 bb y_l0_b140.out
          clear gw
          replace kp := kp_under kp bb p_l0
          replace bel := bel.trans (bb.mono l0lo)
          have lz_sF2 := Nat.le_trans lz_sF1 bb.size
          clear bb
          clear sF1 sF1w lz_sF1
          replace own_ : w16.ownsRow (w9.heap.size) 69 10 v141 (nf + 1) ((c.fixed ++ [(mcl x, p4 y)] : List (Mc6 × Ad4)).flatMap fxf) := own_
          obtain ⟨A141, c141, rfl⟩ := owk_val own_
          have sF2w := own_
          have sF2 := (owk_sle (by decide) fxf_len own_).1
          have fr_sF2 := (owk_sle (by decide) fxf_len own_).2
          clear own_
          have av_sF2_rd := fr_sF2.av y_l0_rd.out
          have av_sF2_mb := fr_sF2.av y_l0_mb.out
          have av_sF2_ab := fr_sF2.av y_l0_ab.out
          have av_sF2_b140 := fr_sF2.av y_l0_b140.out
          clear lw
          clear hb140
          have fw_sF2 := fr_sF2.mono p_l0
          refine hK.out _ _ ⟨hmb, hab⟩ (fun hH17 => ?_)
          clear hK K
          simp only [sq4]
          refine wpAnyH_take (i := 12) (v := ?_) rfl (by kernel_rfl) (by kernel_rfl) (by kernel_rfl) (fun _ _ _ h => h) (Or.inl ⟨by rfl, ?_⟩) hH17 ?_
          rotate_left
          · ((intro W hW; clear hW; go_simp) <;> with_reducible rfl)
          simp only [sq3, sq4]
          refine wpAnyH_take (i := 13) (v := ?_) rfl (by kernel_rfl) (by kernel_rfl) (by kernel_rfl) (fun _ _ _ h => h) (Or.inl ⟨by rfl, ?_⟩) hH17 ?_
          rotate_left
          · ((intro W hW; clear hW; go_simp) <;> with_reducible rfl)
          simp only [sq3, sq4]
          refine wpAnyH_ready (rs := [14]) (by kernel_rfl) (by simp) ?_
          refine AllReadyH.cons (o := _) rfl (fun K hK => ?_) AllReadyH.nil
          simp only [sq3]
          rw [if_pos (by rfl)]
          refine wp_store_part 37 (.tmp 143) (.tmp 141) rfl gr 38 rfl [.slice A141 (nf + 1) c141] rfl (cfl c Fx nf cf Ox nx cx) 40 hrd (by simp) [.int .u8 (c.own.a.toNat : Int), .int .u8 (c.own.b.toNat : Int), .int .u8 (c.own.c.toNat : Int), .int .u8 (c.own.d.toNat : Int), .int .u8 (c.lan.a.toNat : Int), .int .u8 (c.lan.b.toNat : Int), .int .u8 (c.lan.c.toNat : Int), .int .u8 (c.lan.d.toNat : Int), .int .i64 c.bits, .int .u8 (c.lanmac.a.toNat : Int), .int .u8 (c.lanmac.b.toNat : Int), .int .u8 (c.lanmac.c.toNat : Int), .int .u8 (c.lanmac.d.toNat : Int), .int .u8 (c.lanmac.e.toNat : Int), .int .u8 (c.lanmac.f.toNat : Int), .int .u8 (c.wanmac.a.toNat : Int), .int .u8 (c.wanmac.b.toNat : Int), .int .u8 (c.wanmac.c.toNat : Int), .int .u8 (c.wanmac.d.toNat : Int), .int .u8 (c.wanmac.e.toNat : Int), .int .u8 (c.wanmac.f.toNat : Int), .int .u8 (c.first.a.toNat : Int), .int .u8 (c.first.b.toNat : Int), .int .u8 (c.first.c.toNat : Int), .int .u8 (c.first.d.toNat : Int), .int .u8 (c.last.a.toNat : Int), .int .u8 (c.last.b.toNat : Int), .int .u8 (c.last.c.toNat : Int), .int .u8 (c.last.d.toNat : Int), .int .i64 c.time, .int .u8 (c.dns.a.toNat : Int), .int .u8 (c.dns.b.toNat : Int), .int .u8 (c.dns.c.toNat : Int), .int .u8 (c.dns.d.toNat : Int), .int .i64 c.udp, .int .i64 c.tcp, .int .i64 c.icmp, .int .i64 c.low, .slice A141 (nf + 1) c141, .slice Ox nx cx] rfl (by kernel_rfl) (by rfl) ?_
          intro w18 hq gr
          replace sF := sF.away av_sF_rd gr
          replace sO := sO.away av_sO_rd gr
          replace wt := wt.away av_wt_rd gr
          replace sF2 := sF2.away av_sF2_rd gr
          replace sF2w := owk_away sF2w y_l0_rd.out gr
          replace lz_sF2 := Nat.le_trans lz_sF2 gr.size
          replace hmb := blk_a hmb gr (ne_symm d_rd_mb)
          replace hab := blk_a hab gr (ne_symm d_rd_ab)
          replace kp := kp.trans gr
          replace bel := below_grown bel gr ord (Nat.le_trans hlo bel.size)
          clear hrd
          have hrd := hq
          clear hq gr
          refine hK.out _ _ ⟨hmb, hab⟩ (fun hH19 => ?_)
          clear hK K
          simp only [Act.put]
          refine wpAnyH_done (by kernel_rfl) ?_ _
          go_wp2_with fail
          go_meet
          case rel => exact ⟨A141, c141, hrd, hmb, hab, (ne_symm d_mb_ab), (ne_symm d_rd_ab), (ne_symm d_rd_mb), sF, av_sF_ab, av_sF_mb, av_sF_rd, sO, av_sO_ab, av_sO_mb, av_sO_rd, wt, av_wt_ab, av_wt_mb, av_wt_rd, sF2, av_sF2_ab, av_sF2_mb, av_sF2_rd, fw_sF2, kp, bel⟩
        simp only [sq3]
        rw [if_pos (by rfl)]
        refine wp_lit_n 37 69 0 _ rfl #[] (.agg #[.int .u8 0, .int .u8 0, .int .u8 0, .int .u8 0, .int .u8 0, .int .u8 0, .int .u8 0, .int .u8 0, .int .u8 0, .int .u8 0]) Try.underlying37 (by kernel_rfl) 10 (by kernel_rfl) (by decide) (by kernel_rfl) ?_
        intro g131 w11 ge lt hh bb
        have l0w := owk_lit (B := w9.heap.size) ([] : List (Mc6 × Ad4)) fxf_len (show w11.heap[g131]? = some (.cells (([] : List (Mc6 × Ad4)).flatMap fxf).toArray 69 (0, 0)) from hh) ge 0 rfl (by simp [maxLen])
        have l0 := (owk_sle (by decide) fxf_len l0w).1
        have l0lo := (Nat.le_trans hlo bel.size)
        have l0ge := ge
        have lz_l0 := bb.size
        have p_l0 := kp.size
        have y_l0_rd := Lib.hid (hlt hrd)
        have y_l0_mb := Lib.hid (hlt hmb)
        have y_l0_ab := Lib.hid (hlt hab)
        have y_l0_b140 := Lib.hid (hlt hb140)
        have bl_sF_l0 := sF.bl_new
        have bl_sO_l0 := sO.bl_new
        have bl_wt_l0 := wt.bl_new
        have bl_lw_l0 := lw.bl_new
        replace hrd := blk_u hrd bb
        replace hmb := blk_u hmb bb
        replace hab := blk_u hab bb
        replace hb140 := blk_u hb140 bb
        replace sF := sF.below bb
        replace sO := sO.below bb
        replace wt := wt.below bb
        replace lw := lw.below bb
        replace kp := kp_below kp bb
        replace bel := bel.trans (bb.mono (Nat.le_trans hlo bel.size))
        clear hh lt ge bb
        have av_l0_rd := (owk_sle (by decide) fxf_len l0w).2.av y_l0_rd.out
        have av_l0_mb := (owk_sle (by decide) fxf_len l0w).2.av y_l0_mb.out
        have av_l0_ab := (owk_sle (by decide) fxf_len l0w).2.av y_l0_ab.out
        have av_l0_b140 := (owk_sle (by decide) fxf_len l0w).2.av y_l0_b140.out
        refine hK.out _ _ ⟨hmb, hab⟩ (fun hH12 => ?_)
        clear hK K
        simp only [sq4]
        refine wpAnyH_ready (rs := [5]) (by kernel_rfl) (by simp) ?_
        refine AllReadyH.cons (o := _) rfl (fun K hK => ?_) AllReadyH.nil
        simp only [sq3]
        rw [if_pos (by rfl)]
        have hk_ := cell_lit hrd 38 _ rfl
        refine wp_val (v := .slice Fx nf cf) (by (go_simp) <;> with_reducible rfl) ?_
        clear hk_
        refine hK.out _ _ ⟨hmb, hab⟩ (fun hH13 => ?_)
        clear hK K
        simp only [sq4]
        refine wpAnyH_ready (rs := [6]) (by kernel_rfl) (by simp) ?_
        refine AllReadyH.cons (o := _) rfl (fun K hK => ?_) AllReadyH.nil
        simp only [sq3]
        rw [if_pos (by rfl)]
        refine wp_append_sle (.tmp 131) (.tmp 135) 37 rfl (w9.heap.size) 69 ig (.agg #[.int .u8 0, .int .u8 0, .int .u8 0, .int .u8 0, .int .u8 0, .int .u8 0, .int .u8 0, .int .u8 0, .int .u8 0, .int .u8 0]) 10 Try.underlying37 hig hig0 hig1 hig2 rfl fxf_one _ (0) ([]) rfl l0w (Fx) (nf) (cf) (c.fixed) rfl sF (by unfold maxLen; omega) (by omega) lz_l0 ?_
        intro v136 w14 own_ bb gw ofw
        clear ofw
        replace sF := sF.under bl_sF_l0 bb
        replace sO := sO.under bl_sO_l0 bb
        replace wt := wt.under bl_wt_l0 bb
        replace lw := lw.under bl_lw_l0 bb
        replace hrd := blk_under hrd bb y_l0_rd.out
        replace hmb := blk_under hmb bb y_l0_mb.out
        replace hab := blk_under hab bb y_l0_ab.out
        replace hb140 := blk_under hb140 bb y_l0_b140.out
        clear gw
        replace kp := kp_under kp bb p_l0
        replace bel := bel.trans (bb.mono l0lo)
        have lz_sF1 := Nat.le_trans lz_l0 bb.size
        clear bb
        clear l0 l0w lz_l0
        replace own_ : w14.ownsRow (w9.heap.size) 69 10 v136 (nf) ((c.fixed : List (Mc6 × Ad4)).flatMap fxf) := (by have h_ := own_; rw [Nat.zero_add, List.nil_append] at h_; exact h_)
        obtain ⟨A136, c136, rfl⟩ := owk_val own_
        have sF1w := own_
        have sF1 := (owk_sle (by decide) fxf_len own_).1
        have fr_sF1 := (owk_sle (by decide) fxf_len own_).2
        clear own_
        have av_sF1_rd := fr_sF1.av y_l0_rd.out
        have av_sF1_mb := fr_sF1.av y_l0_mb.out
        have av_sF1_ab := fr_sF1.av y_l0_ab.out
        have av_sF1_b140 := fr_sF1.av y_l0_b140.out
        refine hK.out _ _ ⟨hmb, hab⟩ (fun hH15 => ?_)
        clear hK K
        simp only [sq4]
        refine wpAnyH_ready (rs := [11]) (by kernel_rfl) (by simp) ?_
        refine AllReadyH.cons (o := _) rfl (fun K hK => ?_) AllReadyH.nil
        simp only [sq3]
        rw [if_pos (by rfl)]
        refine wp_append_sle (.tmp 136) (.tmp 140) 37 rfl (w9.heap.size) 69 ig (.agg #[.int .u8 0, .int .u8 0, .int .u8 0, .int .u8 0, .int .u8 0, .int .u8 0, .int .u8 0, .int .u8 0, .int .u8 0, .int .u8 0]) 10 Try.underlying37 hig hig0 hig1 hig2 rfl fxf_one _ (nf) (c.fixed) rfl sF1w (some ⟨g140, 0, none⟩) (1) (1) ([(mcl x, p4 y)]) rfl lw (by unfold maxLen; omega) (by omega) lz_sF1 ?_
        intro v141 w16 own_ bb gw ofw
        clear ofw
        replace sF := sF.under bl_sF_l0 bb
        replace sO := sO.under bl_sO_l0 bb
        replace wt := wt.under bl_wt_l0 bb
        replace lw := lw.under bl_lw_l0 bb
        replace hrd := blk_under hrd bb y_l0_rd.out
        replace hmb := blk_under hmb bb y_l0_mb.out
        replace hab := blk_under hab bb y_l0_ab.out
        replace hb140 := blk_under hb140 bb y_l0_b140.out
        clear gw
        replace kp := kp_under kp bb p_l0
        replace bel := bel.trans (bb.mono l0lo)
        have lz_sF2 := Nat.le_trans lz_sF1 bb.size
        clear bb
        clear sF1 sF1w lz_sF1
        replace own_ : w16.ownsRow (w9.heap.size) 69 10 v141 (nf + 1) ((c.fixed ++ [(mcl x, p4 y)] : List (Mc6 × Ad4)).flatMap fxf) := own_
        obtain ⟨A141, c141, rfl⟩ := owk_val own_
        have sF2w := own_
        have sF2 := (owk_sle (by decide) fxf_len own_).1
        have fr_sF2 := (owk_sle (by decide) fxf_len own_).2
        clear own_
        have av_sF2_rd := fr_sF2.av y_l0_rd.out
        have av_sF2_mb := fr_sF2.av y_l0_mb.out
        have av_sF2_ab := fr_sF2.av y_l0_ab.out
        have av_sF2_b140 := fr_sF2.av y_l0_b140.out
        clear lw
        clear hb140
        have fw_sF2 := fr_sF2.mono p_l0
        refine hK.out _ _ ⟨hmb, hab⟩ (fun hH17 => ?_)
        clear hK K
        simp only [sq4]
        refine wpAnyH_take (i := 12) (v := ?_) rfl (by kernel_rfl) (by kernel_rfl) (by kernel_rfl) (fun _ _ _ h => h) (Or.inl ⟨by rfl, ?_⟩) hH17 ?_
        rotate_left
        · ((intro W hW; clear hW; go_simp) <;> with_reducible rfl)
        simp only [sq3, sq4]
        refine wpAnyH_take (i := 13) (v := ?_) rfl (by kernel_rfl) (by kernel_rfl) (by kernel_rfl) (fun _ _ _ h => h) (Or.inl ⟨by rfl, ?_⟩) hH17 ?_
        rotate_left
        · ((intro W hW; clear hW; go_simp) <;> with_reducible rfl)
        simp only [sq3, sq4]
        refine wpAnyH_ready (rs := [14]) (by kernel_rfl) (by simp) ?_
        refine AllReadyH.cons (o := _) rfl (fun K hK => ?_) AllReadyH.nil
        simp only [sq3]
        rw [if_pos (by rfl)]
        refine wp_store_part 37 (.tmp 143) (.tmp 141) rfl gr 38 rfl [.slice A141 (nf + 1) c141] rfl (cfl c Fx nf cf Ox nx cx) 40 hrd (by simp) [.int .u8 (c.own.a.toNat : Int), .int .u8 (c.own.b.toNat : Int), .int .u8 (c.own.c.toNat : Int), .int .u8 (c.own.d.toNat : Int), .int .u8 (c.lan.a.toNat : Int), .int .u8 (c.lan.b.toNat : Int), .int .u8 (c.lan.c.toNat : Int), .int .u8 (c.lan.d.toNat : Int), .int .i64 c.bits, .int .u8 (c.lanmac.a.toNat : Int), .int .u8 (c.lanmac.b.toNat : Int), .int .u8 (c.lanmac.c.toNat : Int), .int .u8 (c.lanmac.d.toNat : Int), .int .u8 (c.lanmac.e.toNat : Int), .int .u8 (c.lanmac.f.toNat : Int), .int .u8 (c.wanmac.a.toNat : Int), .int .u8 (c.wanmac.b.toNat : Int), .int .u8 (c.wanmac.c.toNat : Int), .int .u8 (c.wanmac.d.toNat : Int), .int .u8 (c.wanmac.e.toNat : Int), .int .u8 (c.wanmac.f.toNat : Int), .int .u8 (c.first.a.toNat : Int), .int .u8 (c.first.b.toNat : Int), .int .u8 (c.first.c.toNat : Int), .int .u8 (c.first.d.toNat : Int), .int .u8 (c.last.a.toNat : Int), .int .u8 (c.last.b.toNat : Int), .int .u8 (c.last.c.toNat : Int), .int .u8 (c.last.d.toNat : Int), .int .i64 c.time, .int .u8 (c.dns.a.toNat : Int), .int .u8 (c.dns.b.toNat : Int), .int .u8 (c.dns.c.toNat : Int), .int .u8 (c.dns.d.toNat : Int), .int .i64 c.udp, .int .i64 c.tcp, .int .i64 c.icmp, .int .i64 c.low, .slice A141 (nf + 1) c141, .slice Ox nx cx] rfl (by kernel_rfl) (by rfl) ?_
        intro w18 hq gr
        replace sF := sF.away av_sF_rd gr
        replace sO := sO.away av_sO_rd gr
        replace wt := wt.away av_wt_rd gr
        replace sF2 := sF2.away av_sF2_rd gr
        replace sF2w := owk_away sF2w y_l0_rd.out gr
        replace lz_sF2 := Nat.le_trans lz_sF2 gr.size
        replace hmb := blk_a hmb gr (ne_symm d_rd_mb)
        replace hab := blk_a hab gr (ne_symm d_rd_ab)
        replace kp := kp.trans gr
        replace bel := below_grown bel gr ord (Nat.le_trans hlo bel.size)
        clear hrd
        have hrd := hq
        clear hq gr
        refine hK.out _ _ ⟨hmb, hab⟩ (fun hH19 => ?_)
        clear hK K
        simp only [Act.put]
        refine wpAnyH_done (by kernel_rfl) ?_ _
        go_wp2_with fail
        go_meet
        case rel => exact ⟨A141, c141, hrd, hmb, hab, (ne_symm d_mb_ab), (ne_symm d_rd_ab), (ne_symm d_rd_mb), sF, av_sF_ab, av_sF_mb, av_sF_rd, sO, av_sO_ab, av_sO_mb, av_sO_rd, wt, av_wt_ab, av_wt_mb, av_wt_rd, sF2, av_sF2_ab, av_sF2_mb, av_sF2_rd, fw_sF2, kp, bel⟩
      · simp only [sq3]
        rw [if_pos (by rfl)]
        refine wp_lit_n 37 69 0 _ rfl #[] (.agg #[.int .u8 0, .int .u8 0, .int .u8 0, .int .u8 0, .int .u8 0, .int .u8 0, .int .u8 0, .int .u8 0, .int .u8 0, .int .u8 0]) Try.underlying37 (by kernel_rfl) 10 (by kernel_rfl) (by decide) (by kernel_rfl) ?_
        intro g131 w9 ge lt hh bb
        have l0w := owk_lit (B := w8.heap.size) ([] : List (Mc6 × Ad4)) fxf_len (show w9.heap[g131]? = some (.cells (([] : List (Mc6 × Ad4)).flatMap fxf).toArray 69 (0, 0)) from hh) ge 0 rfl (by simp [maxLen])
        have l0 := (owk_sle (by decide) fxf_len l0w).1
        have l0lo := (Nat.le_trans hlo bel.size)
        have l0ge := ge
        have lz_l0 := bb.size
        have p_l0 := kp.size
        have y_l0_rd := Lib.hid (hlt hrd)
        have y_l0_mb := Lib.hid (hlt hmb)
        have y_l0_ab := Lib.hid (hlt hab)
        have bl_sF_l0 := sF.bl_new
        have bl_sO_l0 := sO.bl_new
        have bl_wt_l0 := wt.bl_new
        replace hrd := blk_u hrd bb
        replace hmb := blk_u hmb bb
        replace hab := blk_u hab bb
        replace sF := sF.below bb
        replace sO := sO.below bb
        replace wt := wt.below bb
        replace kp := kp_below kp bb
        replace bel := bel.trans (bb.mono (Nat.le_trans hlo bel.size))
        clear hh lt ge bb
        have av_l0_rd := (owk_sle (by decide) fxf_len l0w).2.av y_l0_rd.out
        have av_l0_mb := (owk_sle (by decide) fxf_len l0w).2.av y_l0_mb.out
        have av_l0_ab := (owk_sle (by decide) fxf_len l0w).2.av y_l0_ab.out
        refine hK.out _ _ ⟨hmb, hab⟩ (fun hH10 => ?_)
        clear hK K
        simp only [sq4]
        refine wpAnyH_ready (rs := [5, 10]) (by kernel_rfl) (by simp) ?_
        refine AllReadyH.cons (o := _) rfl (fun K hK => ?_) (AllReadyH.cons (o := _) rfl (fun K hK => ?_) AllReadyH.nil)
        rotate_left
        · simp only [sq3]
          rw [if_pos (by rfl)]
          refine wp_lit_n 37 69 1 _ rfl #[.int .u8 ((mcl x).a.toNat : Int), .int .u8 ((mcl x).b.toNat : Int), .int .u8 ((mcl x).c.toNat : Int), .int .u8 ((mcl x).d.toNat : Int), .int .u8 ((mcl x).e.toNat : Int), .int .u8 ((mcl x).f.toNat : Int), .int .u8 ((p4 y).a.toNat : Int), .int .u8 ((p4 y).b.toNat : Int), .int .u8 ((p4 y).c.toNat : Int), .int .u8 ((p4 y).d.toNat : Int)] (.agg #[.int .u8 0, .int .u8 0, .int .u8 0, .int .u8 0, .int .u8 0, .int .u8 0, .int .u8 0, .int .u8 0, .int .u8 0, .int .u8 0]) Try.underlying37 (by kernel_rfl) 10 (by kernel_rfl) (by decide) (by kernel_rfl) ?_
          intro g140 w11 ge lt hh bb
          have d_rd_b140 := ne_new (hlt hrd) ge
          have d_mb_b140 := ne_new (hlt hmb) ge
          have d_ab_b140 := ne_new (hlt hab) ge
          have av_sF_b140 := sF.av_new ge
          have av_sO_b140 := sO.av_new ge
          have av_wt_b140 := wt.av_new ge
          have av_l0_b140 := l0.av_new ge
          have of_l0_b140 := owk_new l0w ge
          have ob140 := Nat.le_trans (Nat.le_trans hlo bel.size) ge
          have pb140 := Nat.le_trans kp.size ge
          replace hrd := blk_u hrd bb
          replace hmb := blk_u hmb bb
          replace hab := blk_u hab bb
          replace sF := sF.below bb
          replace sO := sO.below bb
          replace wt := wt.below bb
          replace l0 := l0.below bb
          replace l0w := owk_under l0w bb
          replace lz_l0 := Nat.le_trans lz_l0 bb.size
          replace kp := kp_below kp bb
          replace bel := bel.trans (bb.mono (Nat.le_trans hlo bel.size))
          have hb140 := hh
          clear hh lt ge bb
          have lw : Sle fxf 10 w11 (some ⟨g140, 0, none⟩) (1) (1) ([(mcl x, p4 y)]) := sle_lit ([(mcl x, p4 y)]) (by decide) fxf_len hb140 rfl (by simp [maxLen])
          refine hK.out _ _ ⟨hmb, hab⟩ (fun hH12 => ?_)
          clear hK K
          simp only [sq4]
          refine wpAnyH_ready (rs := [5]) (by kernel_rfl) (by simp) ?_
          refine AllReadyH.cons (o := _) rfl (fun K hK => ?_) AllReadyH.nil
          simp only [sq3]
          rw [if_pos (by rfl)]
          have hk_ := cell_lit hrd 38 _ rfl
          refine wp_val (v := .slice Fx nf cf) (by (go_simp) <;> with_reducible rfl) ?_
          clear hk_
          refine hK.out _ _ ⟨hmb, hab⟩ (fun hH13 => ?_)
          clear hK K
          simp only [sq4]
          refine wpAnyH_ready (rs := [6]) (by kernel_rfl) (by simp) ?_
          refine AllReadyH.cons (o := _) rfl (fun K hK => ?_) AllReadyH.nil
          simp only [sq3]
          rw [if_pos (by rfl)]
          refine wp_append_sle (.tmp 131) (.tmp 135) 37 rfl (w8.heap.size) 69 ig (.agg #[.int .u8 0, .int .u8 0, .int .u8 0, .int .u8 0, .int .u8 0, .int .u8 0, .int .u8 0, .int .u8 0, .int .u8 0, .int .u8 0]) 10 Try.underlying37 hig hig0 hig1 hig2 rfl fxf_one _ (0) ([]) rfl l0w (Fx) (nf) (cf) (c.fixed) rfl sF (by unfold maxLen; omega) (by omega) lz_l0 ?_
          intro v136 w14 own_ bb gw ofw
          have of136_b140 := ofw _ (hlt hb140) of_l0_b140
          clear ofw
          replace sF := sF.under bl_sF_l0 bb
          replace sO := sO.under bl_sO_l0 bb
          replace wt := wt.under bl_wt_l0 bb
          replace lw := Sle.off lw of_l0_b140 gw
          replace hrd := blk_under hrd bb y_l0_rd.out
          replace hmb := blk_under hmb bb y_l0_mb.out
          replace hab := blk_under hab bb y_l0_ab.out
          replace hb140 := blk_own hb140 gw of_l0_b140
          clear gw
          replace kp := kp_under kp bb p_l0
          replace bel := bel.trans (bb.mono l0lo)
          have lz_sF1 := Nat.le_trans lz_l0 bb.size
          clear bb
          clear l0 l0w lz_l0
          replace own_ : w14.ownsRow (w8.heap.size) 69 10 v136 (nf) ((c.fixed : List (Mc6 × Ad4)).flatMap fxf) := (by have h_ := own_; rw [Nat.zero_add, List.nil_append] at h_; exact h_)
          obtain ⟨A136, c136, rfl⟩ := owk_val own_
          have sF1w := own_
          have sF1 := (owk_sle (by decide) fxf_len own_).1
          have fr_sF1 := (owk_sle (by decide) fxf_len own_).2
          clear own_
          have av_sF1_rd := fr_sF1.av y_l0_rd.out
          have av_sF1_mb := fr_sF1.av y_l0_mb.out
          have av_sF1_ab := fr_sF1.av y_l0_ab.out
          have av_sF1_b140 := owk_av sF1w of136_b140
          refine hK.out _ _ ⟨hmb, hab⟩ (fun hH15 => ?_)
          clear hK K
          simp only [sq4]
          refine wpAnyH_ready (rs := [11]) (by kernel_rfl) (by simp) ?_
          refine AllReadyH.cons (o := _) rfl (fun K hK => ?_) AllReadyH.nil
          simp only [sq3]
          rw [if_pos (by rfl)]
          refine wp_append_sle (.tmp 136) (.tmp 140) 37 rfl (w8.heap.size) 69 ig (.agg #[.int .u8 0, .int .u8 0, .int .u8 0, .int .u8 0, .int .u8 0, .int .u8 0, .int .u8 0, .int .u8 0, .int .u8 0, .int .u8 0]) 10 Try.underlying37 hig hig0 hig1 hig2 rfl fxf_one _ (nf) (c.fixed) rfl sF1w (some ⟨g140, 0, none⟩) (1) (1) ([(mcl x, p4 y)]) rfl lw (by unfold maxLen; omega) (by omega) lz_sF1 ?_
          intro v141 w16 own_ bb gw ofw
          have of141_b140 := ofw _ (hlt hb140) of136_b140
          clear ofw
          replace sF := sF.under bl_sF_l0 bb
          replace sO := sO.under bl_sO_l0 bb
          replace wt := wt.under bl_wt_l0 bb
          replace lw := Sle.off lw of136_b140 gw
          replace hrd := blk_under hrd bb y_l0_rd.out
          replace hmb := blk_under hmb bb y_l0_mb.out
          replace hab := blk_under hab bb y_l0_ab.out
          replace hb140 := blk_own hb140 gw of136_b140
          clear gw
          replace kp := kp_under kp bb p_l0
          replace bel := bel.trans (bb.mono l0lo)
          have lz_sF2 := Nat.le_trans lz_sF1 bb.size
          clear bb
          clear sF1 sF1w lz_sF1
          replace own_ : w16.ownsRow (w8.heap.size) 69 10 v141 (nf + 1) ((c.fixed ++ [(mcl x, p4 y)] : List (Mc6 × Ad4)).flatMap fxf) := own_
          obtain ⟨A141, c141, rfl⟩ := owk_val own_
          have sF2w := own_
          have sF2 := (owk_sle (by decide) fxf_len own_).1
          have fr_sF2 := (owk_sle (by decide) fxf_len own_).2
          clear own_
          have av_sF2_rd := fr_sF2.av y_l0_rd.out
          have av_sF2_mb := fr_sF2.av y_l0_mb.out
          have av_sF2_ab := fr_sF2.av y_l0_ab.out
          have av_sF2_b140 := owk_av sF2w of141_b140
          clear lw
          clear hb140
          have fw_sF2 := fr_sF2.mono p_l0
          refine hK.out _ _ ⟨hmb, hab⟩ (fun hH17 => ?_)
          clear hK K
          simp only [sq4]
          refine wpAnyH_take (i := 12) (v := ?_) rfl (by kernel_rfl) (by kernel_rfl) (by kernel_rfl) (fun _ _ _ h => h) (Or.inl ⟨by rfl, ?_⟩) hH17 ?_
          rotate_left
          · ((intro W hW; clear hW; go_simp) <;> with_reducible rfl)
          simp only [sq3, sq4]
          refine wpAnyH_take (i := 13) (v := ?_) rfl (by kernel_rfl) (by kernel_rfl) (by kernel_rfl) (fun _ _ _ h => h) (Or.inl ⟨by rfl, ?_⟩) hH17 ?_
          rotate_left
          · ((intro W hW; clear hW; go_simp) <;> with_reducible rfl)
          simp only [sq3, sq4]
          refine wpAnyH_ready (rs := [14]) (by kernel_rfl) (by simp) ?_
          refine AllReadyH.cons (o := _) rfl (fun K hK => ?_) AllReadyH.nil
          simp only [sq3]
          rw [if_pos (by rfl)]
          refine wp_store_part 37 (.tmp 143) (.tmp 141) rfl gr 38 rfl [.slice A141 (nf + 1) c141] rfl (cfl c Fx nf cf Ox nx cx) 40 hrd (by simp) [.int .u8 (c.own.a.toNat : Int), .int .u8 (c.own.b.toNat : Int), .int .u8 (c.own.c.toNat : Int), .int .u8 (c.own.d.toNat : Int), .int .u8 (c.lan.a.toNat : Int), .int .u8 (c.lan.b.toNat : Int), .int .u8 (c.lan.c.toNat : Int), .int .u8 (c.lan.d.toNat : Int), .int .i64 c.bits, .int .u8 (c.lanmac.a.toNat : Int), .int .u8 (c.lanmac.b.toNat : Int), .int .u8 (c.lanmac.c.toNat : Int), .int .u8 (c.lanmac.d.toNat : Int), .int .u8 (c.lanmac.e.toNat : Int), .int .u8 (c.lanmac.f.toNat : Int), .int .u8 (c.wanmac.a.toNat : Int), .int .u8 (c.wanmac.b.toNat : Int), .int .u8 (c.wanmac.c.toNat : Int), .int .u8 (c.wanmac.d.toNat : Int), .int .u8 (c.wanmac.e.toNat : Int), .int .u8 (c.wanmac.f.toNat : Int), .int .u8 (c.first.a.toNat : Int), .int .u8 (c.first.b.toNat : Int), .int .u8 (c.first.c.toNat : Int), .int .u8 (c.first.d.toNat : Int), .int .u8 (c.last.a.toNat : Int), .int .u8 (c.last.b.toNat : Int), .int .u8 (c.last.c.toNat : Int), .int .u8 (c.last.d.toNat : Int), .int .i64 c.time, .int .u8 (c.dns.a.toNat : Int), .int .u8 (c.dns.b.toNat : Int), .int .u8 (c.dns.c.toNat : Int), .int .u8 (c.dns.d.toNat : Int), .int .i64 c.udp, .int .i64 c.tcp, .int .i64 c.icmp, .int .i64 c.low, .slice A141 (nf + 1) c141, .slice Ox nx cx] rfl (by kernel_rfl) (by rfl) ?_
          intro w18 hq gr
          replace sF := sF.away av_sF_rd gr
          replace sO := sO.away av_sO_rd gr
          replace wt := wt.away av_wt_rd gr
          replace sF2 := sF2.away av_sF2_rd gr
          replace sF2w := owk_away sF2w y_l0_rd.out gr
          replace lz_sF2 := Nat.le_trans lz_sF2 gr.size
          replace hmb := blk_a hmb gr (ne_symm d_rd_mb)
          replace hab := blk_a hab gr (ne_symm d_rd_ab)
          replace kp := kp.trans gr
          replace bel := below_grown bel gr ord (Nat.le_trans hlo bel.size)
          clear hrd
          have hrd := hq
          clear hq gr
          refine hK.out _ _ ⟨hmb, hab⟩ (fun hH19 => ?_)
          clear hK K
          simp only [Act.put]
          refine wpAnyH_done (by kernel_rfl) ?_ _
          go_wp2_with fail
          go_meet
          case rel => exact ⟨A141, c141, hrd, hmb, hab, (ne_symm d_mb_ab), (ne_symm d_rd_ab), (ne_symm d_rd_mb), sF, av_sF_ab, av_sF_mb, av_sF_rd, sO, av_sO_ab, av_sO_mb, av_sO_rd, wt, av_wt_ab, av_wt_mb, av_wt_rd, sF2, av_sF2_ab, av_sF2_mb, av_sF2_rd, fw_sF2, kp, bel⟩
        simp only [sq3]
        rw [if_pos (by rfl)]
        have hk_ := cell_lit hrd 38 _ rfl
        refine wp_val (v := .slice Fx nf cf) (by (go_simp) <;> with_reducible rfl) ?_
        clear hk_
        refine hK.out _ _ ⟨hmb, hab⟩ (fun hH11 => ?_)
        clear hK K
        simp only [sq4]
        refine wpAnyH_ready (rs := [6, 10]) (by kernel_rfl) (by simp) ?_
        refine AllReadyH.cons (o := _) rfl (fun K hK => ?_) (AllReadyH.cons (o := _) rfl (fun K hK => ?_) AllReadyH.nil)
        · simp only [sq3]
          rw [if_pos (by rfl)]
          refine wp_append_sle (.tmp 131) (.tmp 135) 37 rfl (w8.heap.size) 69 ig (.agg #[.int .u8 0, .int .u8 0, .int .u8 0, .int .u8 0, .int .u8 0, .int .u8 0, .int .u8 0, .int .u8 0, .int .u8 0, .int .u8 0]) 10 Try.underlying37 hig hig0 hig1 hig2 rfl fxf_one _ (0) ([]) rfl l0w (Fx) (nf) (cf) (c.fixed) rfl sF (by unfold maxLen; omega) (by omega) lz_l0 ?_
          intro v136 w12 own_ bb gw ofw
          clear ofw
          replace sF := sF.under bl_sF_l0 bb
          replace sO := sO.under bl_sO_l0 bb
          replace wt := wt.under bl_wt_l0 bb
          replace hrd := blk_under hrd bb y_l0_rd.out
          replace hmb := blk_under hmb bb y_l0_mb.out
          replace hab := blk_under hab bb y_l0_ab.out
          clear gw
          replace kp := kp_under kp bb p_l0
          replace bel := bel.trans (bb.mono l0lo)
          have lz_sF1 := Nat.le_trans lz_l0 bb.size
          clear bb
          clear l0 l0w lz_l0
          replace own_ : w12.ownsRow (w8.heap.size) 69 10 v136 (nf) ((c.fixed : List (Mc6 × Ad4)).flatMap fxf) := (by have h_ := own_; rw [Nat.zero_add, List.nil_append] at h_; exact h_)
          obtain ⟨A136, c136, rfl⟩ := owk_val own_
          have sF1w := own_
          have sF1 := (owk_sle (by decide) fxf_len own_).1
          have fr_sF1 := (owk_sle (by decide) fxf_len own_).2
          clear own_
          have av_sF1_rd := fr_sF1.av y_l0_rd.out
          have av_sF1_mb := fr_sF1.av y_l0_mb.out
          have av_sF1_ab := fr_sF1.av y_l0_ab.out
          refine hK.out _ _ ⟨hmb, hab⟩ (fun hH13 => ?_)
          clear hK K
          simp only [sq4]
          refine wpAnyH_ready (rs := [10]) (by kernel_rfl) (by simp) ?_
          refine AllReadyH.cons (o := _) rfl (fun K hK => ?_) AllReadyH.nil
          simp only [sq3]
          rw [if_pos (by rfl)]
          refine wp_lit_n 37 69 1 _ rfl #[.int .u8 ((mcl x).a.toNat : Int), .int .u8 ((mcl x).b.toNat : Int), .int .u8 ((mcl x).c.toNat : Int), .int .u8 ((mcl x).d.toNat : Int), .int .u8 ((mcl x).e.toNat : Int), .int .u8 ((mcl x).f.toNat : Int), .int .u8 ((p4 y).a.toNat : Int), .int .u8 ((p4 y).b.toNat : Int), .int .u8 ((p4 y).c.toNat : Int), .int .u8 ((p4 y).d.toNat : Int)] (.agg #[.int .u8 0, .int .u8 0, .int .u8 0, .int .u8 0, .int .u8 0, .int .u8 0, .int .u8 0, .int .u8 0, .int .u8 0, .int .u8 0]) Try.underlying37 (by kernel_rfl) 10 (by kernel_rfl) (by decide) (by kernel_rfl) ?_
          intro g140 w14 ge lt hh bb
          have d_rd_b140 := ne_new (hlt hrd) ge
          have d_mb_b140 := ne_new (hlt hmb) ge
          have d_ab_b140 := ne_new (hlt hab) ge
          have av_sF_b140 := sF.av_new ge
          have av_sO_b140 := sO.av_new ge
          have av_wt_b140 := wt.av_new ge
          have av_sF1_b140 := sF1.av_new ge
          have of_sF1_b140 := owk_new sF1w ge
          have ob140 := Nat.le_trans (Nat.le_trans hlo bel.size) ge
          have pb140 := Nat.le_trans kp.size ge
          replace hrd := blk_u hrd bb
          replace hmb := blk_u hmb bb
          replace hab := blk_u hab bb
          replace sF := sF.below bb
          replace sO := sO.below bb
          replace wt := wt.below bb
          replace sF1 := sF1.below bb
          replace sF1w := owk_under sF1w bb
          replace lz_sF1 := Nat.le_trans lz_sF1 bb.size
          replace kp := kp_below kp bb
          replace bel := bel.trans (bb.mono (Nat.le_trans hlo bel.size))
          have hb140 := hh
          clear hh lt ge bb
          have lw : Sle fxf 10 w14 (some ⟨g140, 0, none⟩) (1) (1) ([(mcl x, p4 y)]) := sle_lit ([(mcl x, p4 y)]) (by decide) fxf_len hb140 rfl (by simp [maxLen])
          refine hK.out _ _ ⟨hmb, hab⟩ (fun hH15 => ?_)
          clear hK K
          simp only [sq4]
          refine wpAnyH_ready (rs := [11]) (by kernel_rfl) (by simp) ?_
          refine AllReadyH.cons (o := _) rfl (fun K hK => ?_) AllReadyH.nil
          simp only [sq3]
          rw [if_pos (by rfl)]
          refine wp_append_sle (.tmp 136) (.tmp 140) 37 rfl (w8.heap.size) 69 ig (.agg #[.int .u8 0, .int .u8 0, .int .u8 0, .int .u8 0, .int .u8 0, .int .u8 0, .int .u8 0, .int .u8 0, .int .u8 0, .int .u8 0]) 10 Try.underlying37 hig hig0 hig1 hig2 rfl fxf_one _ (nf) (c.fixed) rfl sF1w (some ⟨g140, 0, none⟩) (1) (1) ([(mcl x, p4 y)]) rfl lw (by unfold maxLen; omega) (by omega) lz_sF1 ?_
          intro v141 w16 own_ bb gw ofw
          have of141_b140 := ofw _ (hlt hb140) of_sF1_b140
          clear ofw
          replace sF := sF.under bl_sF_l0 bb
          replace sO := sO.under bl_sO_l0 bb
          replace wt := wt.under bl_wt_l0 bb
          replace lw := Sle.off lw of_sF1_b140 gw
          replace hrd := blk_under hrd bb y_l0_rd.out
          replace hmb := blk_under hmb bb y_l0_mb.out
          replace hab := blk_under hab bb y_l0_ab.out
          replace hb140 := blk_own hb140 gw of_sF1_b140
          clear gw
          replace kp := kp_under kp bb p_l0
          replace bel := bel.trans (bb.mono l0lo)
          have lz_sF2 := Nat.le_trans lz_sF1 bb.size
          clear bb
          clear sF1 sF1w lz_sF1
          replace own_ : w16.ownsRow (w8.heap.size) 69 10 v141 (nf + 1) ((c.fixed ++ [(mcl x, p4 y)] : List (Mc6 × Ad4)).flatMap fxf) := own_
          obtain ⟨A141, c141, rfl⟩ := owk_val own_
          have sF2w := own_
          have sF2 := (owk_sle (by decide) fxf_len own_).1
          have fr_sF2 := (owk_sle (by decide) fxf_len own_).2
          clear own_
          have av_sF2_rd := fr_sF2.av y_l0_rd.out
          have av_sF2_mb := fr_sF2.av y_l0_mb.out
          have av_sF2_ab := fr_sF2.av y_l0_ab.out
          have av_sF2_b140 := owk_av sF2w of141_b140
          clear lw
          clear hb140
          have fw_sF2 := fr_sF2.mono p_l0
          refine hK.out _ _ ⟨hmb, hab⟩ (fun hH17 => ?_)
          clear hK K
          simp only [sq4]
          refine wpAnyH_take (i := 12) (v := ?_) rfl (by kernel_rfl) (by kernel_rfl) (by kernel_rfl) (fun _ _ _ h => h) (Or.inl ⟨by rfl, ?_⟩) hH17 ?_
          rotate_left
          · ((intro W hW; clear hW; go_simp) <;> with_reducible rfl)
          simp only [sq3, sq4]
          refine wpAnyH_take (i := 13) (v := ?_) rfl (by kernel_rfl) (by kernel_rfl) (by kernel_rfl) (fun _ _ _ h => h) (Or.inl ⟨by rfl, ?_⟩) hH17 ?_
          rotate_left
          · ((intro W hW; clear hW; go_simp) <;> with_reducible rfl)
          simp only [sq3, sq4]
          refine wpAnyH_ready (rs := [14]) (by kernel_rfl) (by simp) ?_
          refine AllReadyH.cons (o := _) rfl (fun K hK => ?_) AllReadyH.nil
          simp only [sq3]
          rw [if_pos (by rfl)]
          refine wp_store_part 37 (.tmp 143) (.tmp 141) rfl gr 38 rfl [.slice A141 (nf + 1) c141] rfl (cfl c Fx nf cf Ox nx cx) 40 hrd (by simp) [.int .u8 (c.own.a.toNat : Int), .int .u8 (c.own.b.toNat : Int), .int .u8 (c.own.c.toNat : Int), .int .u8 (c.own.d.toNat : Int), .int .u8 (c.lan.a.toNat : Int), .int .u8 (c.lan.b.toNat : Int), .int .u8 (c.lan.c.toNat : Int), .int .u8 (c.lan.d.toNat : Int), .int .i64 c.bits, .int .u8 (c.lanmac.a.toNat : Int), .int .u8 (c.lanmac.b.toNat : Int), .int .u8 (c.lanmac.c.toNat : Int), .int .u8 (c.lanmac.d.toNat : Int), .int .u8 (c.lanmac.e.toNat : Int), .int .u8 (c.lanmac.f.toNat : Int), .int .u8 (c.wanmac.a.toNat : Int), .int .u8 (c.wanmac.b.toNat : Int), .int .u8 (c.wanmac.c.toNat : Int), .int .u8 (c.wanmac.d.toNat : Int), .int .u8 (c.wanmac.e.toNat : Int), .int .u8 (c.wanmac.f.toNat : Int), .int .u8 (c.first.a.toNat : Int), .int .u8 (c.first.b.toNat : Int), .int .u8 (c.first.c.toNat : Int), .int .u8 (c.first.d.toNat : Int), .int .u8 (c.last.a.toNat : Int), .int .u8 (c.last.b.toNat : Int), .int .u8 (c.last.c.toNat : Int), .int .u8 (c.last.d.toNat : Int), .int .i64 c.time, .int .u8 (c.dns.a.toNat : Int), .int .u8 (c.dns.b.toNat : Int), .int .u8 (c.dns.c.toNat : Int), .int .u8 (c.dns.d.toNat : Int), .int .i64 c.udp, .int .i64 c.tcp, .int .i64 c.icmp, .int .i64 c.low, .slice A141 (nf + 1) c141, .slice Ox nx cx] rfl (by kernel_rfl) (by rfl) ?_
          intro w18 hq gr
          replace sF := sF.away av_sF_rd gr
          replace sO := sO.away av_sO_rd gr
          replace wt := wt.away av_wt_rd gr
          replace sF2 := sF2.away av_sF2_rd gr
          replace sF2w := owk_away sF2w y_l0_rd.out gr
          replace lz_sF2 := Nat.le_trans lz_sF2 gr.size
          replace hmb := blk_a hmb gr (ne_symm d_rd_mb)
          replace hab := blk_a hab gr (ne_symm d_rd_ab)
          replace kp := kp.trans gr
          replace bel := below_grown bel gr ord (Nat.le_trans hlo bel.size)
          clear hrd
          have hrd := hq
          clear hq gr
          refine hK.out _ _ ⟨hmb, hab⟩ (fun hH19 => ?_)
          clear hK K
          simp only [Act.put]
          refine wpAnyH_done (by kernel_rfl) ?_ _
          go_wp2_with fail
          go_meet
          case rel => exact ⟨A141, c141, hrd, hmb, hab, (ne_symm d_mb_ab), (ne_symm d_rd_ab), (ne_symm d_rd_mb), sF, av_sF_ab, av_sF_mb, av_sF_rd, sO, av_sO_ab, av_sO_mb, av_sO_rd, wt, av_wt_ab, av_wt_mb, av_wt_rd, sF2, av_sF2_ab, av_sF2_mb, av_sF2_rd, fw_sF2, kp, bel⟩
        simp only [sq3]
        rw [if_pos (by rfl)]
        refine wp_lit_n 37 69 1 _ rfl #[.int .u8 ((mcl x).a.toNat : Int), .int .u8 ((mcl x).b.toNat : Int), .int .u8 ((mcl x).c.toNat : Int), .int .u8 ((mcl x).d.toNat : Int), .int .u8 ((mcl x).e.toNat : Int), .int .u8 ((mcl x).f.toNat : Int), .int .u8 ((p4 y).a.toNat : Int), .int .u8 ((p4 y).b.toNat : Int), .int .u8 ((p4 y).c.toNat : Int), .int .u8 ((p4 y).d.toNat : Int)] (.agg #[.int .u8 0, .int .u8 0, .int .u8 0, .int .u8 0, .int .u8 0, .int .u8 0, .int .u8 0, .int .u8 0, .int .u8 0, .int .u8 0]) Try.underlying37 (by kernel_rfl) 10 (by kernel_rfl) (by decide) (by kernel_rfl) ?_
        intro g140 w12 ge lt hh bb
        have d_rd_b140 := ne_new (hlt hrd) ge
        have d_mb_b140 := ne_new (hlt hmb) ge
        have d_ab_b140 := ne_new (hlt hab) ge
        have av_sF_b140 := sF.av_new ge
        have av_sO_b140 := sO.av_new ge
        have av_wt_b140 := wt.av_new ge
        have av_l0_b140 := l0.av_new ge
        have of_l0_b140 := owk_new l0w ge
        have ob140 := Nat.le_trans (Nat.le_trans hlo bel.size) ge
        have pb140 := Nat.le_trans kp.size ge
        replace hrd := blk_u hrd bb
        replace hmb := blk_u hmb bb
        replace hab := blk_u hab bb
        replace sF := sF.below bb
        replace sO := sO.below bb
        replace wt := wt.below bb
        replace l0 := l0.below bb
        replace l0w := owk_under l0w bb
        replace lz_l0 := Nat.le_trans lz_l0 bb.size
        replace kp := kp_below kp bb
        replace bel := bel.trans (bb.mono (Nat.le_trans hlo bel.size))
        have hb140 := hh
        clear hh lt ge bb
        have lw : Sle fxf 10 w12 (some ⟨g140, 0, none⟩) (1) (1) ([(mcl x, p4 y)]) := sle_lit ([(mcl x, p4 y)]) (by decide) fxf_len hb140 rfl (by simp [maxLen])
        refine hK.out _ _ ⟨hmb, hab⟩ (fun hH13 => ?_)
        clear hK K
        simp only [sq4]
        refine wpAnyH_ready (rs := [6]) (by kernel_rfl) (by simp) ?_
        refine AllReadyH.cons (o := _) rfl (fun K hK => ?_) AllReadyH.nil
        simp only [sq3]
        rw [if_pos (by rfl)]
        refine wp_append_sle (.tmp 131) (.tmp 135) 37 rfl (w8.heap.size) 69 ig (.agg #[.int .u8 0, .int .u8 0, .int .u8 0, .int .u8 0, .int .u8 0, .int .u8 0, .int .u8 0, .int .u8 0, .int .u8 0, .int .u8 0]) 10 Try.underlying37 hig hig0 hig1 hig2 rfl fxf_one _ (0) ([]) rfl l0w (Fx) (nf) (cf) (c.fixed) rfl sF (by unfold maxLen; omega) (by omega) lz_l0 ?_
        intro v136 w14 own_ bb gw ofw
        have of136_b140 := ofw _ (hlt hb140) of_l0_b140
        clear ofw
        replace sF := sF.under bl_sF_l0 bb
        replace sO := sO.under bl_sO_l0 bb
        replace wt := wt.under bl_wt_l0 bb
        replace lw := Sle.off lw of_l0_b140 gw
        replace hrd := blk_under hrd bb y_l0_rd.out
        replace hmb := blk_under hmb bb y_l0_mb.out
        replace hab := blk_under hab bb y_l0_ab.out
        replace hb140 := blk_own hb140 gw of_l0_b140
        clear gw
        replace kp := kp_under kp bb p_l0
        replace bel := bel.trans (bb.mono l0lo)
        have lz_sF1 := Nat.le_trans lz_l0 bb.size
        clear bb
        clear l0 l0w lz_l0
        replace own_ : w14.ownsRow (w8.heap.size) 69 10 v136 (nf) ((c.fixed : List (Mc6 × Ad4)).flatMap fxf) := (by have h_ := own_; rw [Nat.zero_add, List.nil_append] at h_; exact h_)
        obtain ⟨A136, c136, rfl⟩ := owk_val own_
        have sF1w := own_
        have sF1 := (owk_sle (by decide) fxf_len own_).1
        have fr_sF1 := (owk_sle (by decide) fxf_len own_).2
        clear own_
        have av_sF1_rd := fr_sF1.av y_l0_rd.out
        have av_sF1_mb := fr_sF1.av y_l0_mb.out
        have av_sF1_ab := fr_sF1.av y_l0_ab.out
        have av_sF1_b140 := owk_av sF1w of136_b140
        refine hK.out _ _ ⟨hmb, hab⟩ (fun hH15 => ?_)
        clear hK K
        simp only [sq4]
        refine wpAnyH_ready (rs := [11]) (by kernel_rfl) (by simp) ?_
        refine AllReadyH.cons (o := _) rfl (fun K hK => ?_) AllReadyH.nil
        simp only [sq3]
        rw [if_pos (by rfl)]
        refine wp_append_sle (.tmp 136) (.tmp 140) 37 rfl (w8.heap.size) 69 ig (.agg #[.int .u8 0, .int .u8 0, .int .u8 0, .int .u8 0, .int .u8 0, .int .u8 0, .int .u8 0, .int .u8 0, .int .u8 0, .int .u8 0]) 10 Try.underlying37 hig hig0 hig1 hig2 rfl fxf_one _ (nf) (c.fixed) rfl sF1w (some ⟨g140, 0, none⟩) (1) (1) ([(mcl x, p4 y)]) rfl lw (by unfold maxLen; omega) (by omega) lz_sF1 ?_
        intro v141 w16 own_ bb gw ofw
        have of141_b140 := ofw _ (hlt hb140) of136_b140
        clear ofw
        replace sF := sF.under bl_sF_l0 bb
        replace sO := sO.under bl_sO_l0 bb
        replace wt := wt.under bl_wt_l0 bb
        replace lw := Sle.off lw of136_b140 gw
        replace hrd := blk_under hrd bb y_l0_rd.out
        replace hmb := blk_under hmb bb y_l0_mb.out
        replace hab := blk_under hab bb y_l0_ab.out
        replace hb140 := blk_own hb140 gw of136_b140
        clear gw
        replace kp := kp_under kp bb p_l0
        replace bel := bel.trans (bb.mono l0lo)
        have lz_sF2 := Nat.le_trans lz_sF1 bb.size
        clear bb
        clear sF1 sF1w lz_sF1
        replace own_ : w16.ownsRow (w8.heap.size) 69 10 v141 (nf + 1) ((c.fixed ++ [(mcl x, p4 y)] : List (Mc6 × Ad4)).flatMap fxf) := own_
        obtain ⟨A141, c141, rfl⟩ := owk_val own_
        have sF2w := own_
        have sF2 := (owk_sle (by decide) fxf_len own_).1
        have fr_sF2 := (owk_sle (by decide) fxf_len own_).2
        clear own_
        have av_sF2_rd := fr_sF2.av y_l0_rd.out
        have av_sF2_mb := fr_sF2.av y_l0_mb.out
        have av_sF2_ab := fr_sF2.av y_l0_ab.out
        have av_sF2_b140 := owk_av sF2w of141_b140
        clear lw
        clear hb140
        have fw_sF2 := fr_sF2.mono p_l0
        refine hK.out _ _ ⟨hmb, hab⟩ (fun hH17 => ?_)
        clear hK K
        simp only [sq4]
        refine wpAnyH_take (i := 12) (v := ?_) rfl (by kernel_rfl) (by kernel_rfl) (by kernel_rfl) (fun _ _ _ h => h) (Or.inl ⟨by rfl, ?_⟩) hH17 ?_
        rotate_left
        · ((intro W hW; clear hW; go_simp) <;> with_reducible rfl)
        simp only [sq3, sq4]
        refine wpAnyH_take (i := 13) (v := ?_) rfl (by kernel_rfl) (by kernel_rfl) (by kernel_rfl) (fun _ _ _ h => h) (Or.inl ⟨by rfl, ?_⟩) hH17 ?_
        rotate_left
        · ((intro W hW; clear hW; go_simp) <;> with_reducible rfl)
        simp only [sq3, sq4]
        refine wpAnyH_ready (rs := [14]) (by kernel_rfl) (by simp) ?_
        refine AllReadyH.cons (o := _) rfl (fun K hK => ?_) AllReadyH.nil
        simp only [sq3]
        rw [if_pos (by rfl)]
        refine wp_store_part 37 (.tmp 143) (.tmp 141) rfl gr 38 rfl [.slice A141 (nf + 1) c141] rfl (cfl c Fx nf cf Ox nx cx) 40 hrd (by simp) [.int .u8 (c.own.a.toNat : Int), .int .u8 (c.own.b.toNat : Int), .int .u8 (c.own.c.toNat : Int), .int .u8 (c.own.d.toNat : Int), .int .u8 (c.lan.a.toNat : Int), .int .u8 (c.lan.b.toNat : Int), .int .u8 (c.lan.c.toNat : Int), .int .u8 (c.lan.d.toNat : Int), .int .i64 c.bits, .int .u8 (c.lanmac.a.toNat : Int), .int .u8 (c.lanmac.b.toNat : Int), .int .u8 (c.lanmac.c.toNat : Int), .int .u8 (c.lanmac.d.toNat : Int), .int .u8 (c.lanmac.e.toNat : Int), .int .u8 (c.lanmac.f.toNat : Int), .int .u8 (c.wanmac.a.toNat : Int), .int .u8 (c.wanmac.b.toNat : Int), .int .u8 (c.wanmac.c.toNat : Int), .int .u8 (c.wanmac.d.toNat : Int), .int .u8 (c.wanmac.e.toNat : Int), .int .u8 (c.wanmac.f.toNat : Int), .int .u8 (c.first.a.toNat : Int), .int .u8 (c.first.b.toNat : Int), .int .u8 (c.first.c.toNat : Int), .int .u8 (c.first.d.toNat : Int), .int .u8 (c.last.a.toNat : Int), .int .u8 (c.last.b.toNat : Int), .int .u8 (c.last.c.toNat : Int), .int .u8 (c.last.d.toNat : Int), .int .i64 c.time, .int .u8 (c.dns.a.toNat : Int), .int .u8 (c.dns.b.toNat : Int), .int .u8 (c.dns.c.toNat : Int), .int .u8 (c.dns.d.toNat : Int), .int .i64 c.udp, .int .i64 c.tcp, .int .i64 c.icmp, .int .i64 c.low, .slice A141 (nf + 1) c141, .slice Ox nx cx] rfl (by kernel_rfl) (by rfl) ?_
        intro w18 hq gr
        replace sF := sF.away av_sF_rd gr
        replace sO := sO.away av_sO_rd gr
        replace wt := wt.away av_wt_rd gr
        replace sF2 := sF2.away av_sF2_rd gr
        replace sF2w := owk_away sF2w y_l0_rd.out gr
        replace lz_sF2 := Nat.le_trans lz_sF2 gr.size
        replace hmb := blk_a hmb gr (ne_symm d_rd_mb)
        replace hab := blk_a hab gr (ne_symm d_rd_ab)
        replace kp := kp.trans gr
        replace bel := below_grown bel gr ord (Nat.le_trans hlo bel.size)
        clear hrd
        have hrd := hq
        clear hq gr
        refine hK.out _ _ ⟨hmb, hab⟩ (fun hH19 => ?_)
        clear hK K
        simp only [Act.put]
        refine wpAnyH_done (by kernel_rfl) ?_ _
        go_wp2_with fail
        go_meet
        case rel => exact ⟨A141, c141, hrd, hmb, hab, (ne_symm d_mb_ab), (ne_symm d_rd_ab), (ne_symm d_rd_mb), sF, av_sF_ab, av_sF_mb, av_sF_rd, sO, av_sO_ab, av_sO_mb, av_sO_rd, wt, av_wt_ab, av_wt_mb, av_wt_rd, sF2, av_sF2_ab, av_sF2_mb, av_sF2_rd, fw_sF2, kp, bel⟩
      simp only [sq3]
      rw [if_pos (by rfl)]
      have hk_ := cell_lit hrd 38 _ rfl
      refine wp_val (v := .slice Fx nf cf) (by (go_simp) <;> with_reducible rfl) ?_
      clear hk_
      refine hK.out _ _ ⟨hmb, hab⟩ (fun hH9 => ?_)
      clear hK K
      simp only [sq4]
      refine wpAnyH_ready (rs := [1, 10]) (by kernel_rfl) (by simp) ?_
      refine AllReadyH.cons (o := _) rfl (fun K hK => ?_) (AllReadyH.cons (o := _) rfl (fun K hK => ?_) AllReadyH.nil)
      rotate_left
      · simp only [sq3]
        rw [if_pos (by rfl)]
        refine wp_lit_n 37 69 1 _ rfl #[.int .u8 ((mcl x).a.toNat : Int), .int .u8 ((mcl x).b.toNat : Int), .int .u8 ((mcl x).c.toNat : Int), .int .u8 ((mcl x).d.toNat : Int), .int .u8 ((mcl x).e.toNat : Int), .int .u8 ((mcl x).f.toNat : Int), .int .u8 ((p4 y).a.toNat : Int), .int .u8 ((p4 y).b.toNat : Int), .int .u8 ((p4 y).c.toNat : Int), .int .u8 ((p4 y).d.toNat : Int)] (.agg #[.int .u8 0, .int .u8 0, .int .u8 0, .int .u8 0, .int .u8 0, .int .u8 0, .int .u8 0, .int .u8 0, .int .u8 0, .int .u8 0]) Try.underlying37 (by kernel_rfl) 10 (by kernel_rfl) (by decide) (by kernel_rfl) ?_
        intro g140 w10 ge lt hh bb
        have d_rd_b140 := ne_new (hlt hrd) ge
        have d_mb_b140 := ne_new (hlt hmb) ge
        have d_ab_b140 := ne_new (hlt hab) ge
        have av_sF_b140 := sF.av_new ge
        have av_sO_b140 := sO.av_new ge
        have av_wt_b140 := wt.av_new ge
        have ob140 := Nat.le_trans (Nat.le_trans hlo bel.size) ge
        have pb140 := Nat.le_trans kp.size ge
        replace hrd := blk_u hrd bb
        replace hmb := blk_u hmb bb
        replace hab := blk_u hab bb
        replace sF := sF.below bb
        replace sO := sO.below bb
        replace wt := wt.below bb
        replace kp := kp_below kp bb
        replace bel := bel.trans (bb.mono (Nat.le_trans hlo bel.size))
        have hb140 := hh
        clear hh lt ge bb
        have lw : Sle fxf 10 w10 (some ⟨g140, 0, none⟩) (1) (1) ([(mcl x, p4 y)]) := sle_lit ([(mcl x, p4 y)]) (by decide) fxf_len hb140 rfl (by simp [maxLen])
        refine hK.out _ _ ⟨hmb, hab⟩ (fun hH11 => ?_)
        clear hK K
        simp only [sq4]
        refine wpAnyH_ready (rs := [1]) (by kernel_rfl) (by simp) ?_
        refine AllReadyH.cons (o := _) rfl (fun K hK => ?_) AllReadyH.nil
        simp only [sq3]
        rw [if_pos (by rfl)]
        refine wp_lit_n 37 69 0 _ rfl #[] (.agg #[.int .u8 0, .int .u8 0, .int .u8 0, .int .u8 0, .int .u8 0, .int .u8 0, .int .u8 0, .int .u8 0, .int .u8 0, .int .u8 0]) Try.underlying37 (by kernel_rfl) 10 (by kernel_rfl) (by decide) (by kernel_rfl) ?_
        intro g131 w12 ge lt hh bb
        have l0w := owk_lit (B := w10.heap.size) ([] : List (Mc6 × Ad4)) fxf_len (show w12.heap[g131]? = some (.cells (([] : List (Mc6 × Ad4)).flatMap fxf).toArray 69 (0, 0)) from hh) ge 0 rfl (by simp [maxLen])
        have l0 := (owk_sle (by decide) fxf_len l0w).1
        have l0lo := (Nat.le_trans hlo bel.size)
        have l0ge := ge
        have lz_l0 := bb.size
        have p_l0 := kp.size
        have y_l0_rd := Lib.hid (hlt hrd)
        have y_l0_mb := Lib.hid (hlt hmb)
        have y_l0_ab := Lib.hid (hlt hab)
        have y_l0_b140 := Lib.hid (hlt hb140)
        have bl_sF_l0 := sF.bl_new
        have bl_sO_l0 := sO.bl_new
        have bl_wt_l0 := wt.bl_new
        have bl_lw_l0 := lw.bl_new
        replace hrd := blk_u hrd bb
        replace hmb := blk_u hmb bb
        replace hab := blk_u hab bb
        replace hb140 := blk_u hb140 bb
        replace sF := sF.below bb
        replace sO := sO.below bb
        replace wt := wt.below bb
        replace lw := lw.below bb
        replace kp := kp_below kp bb
        replace bel := bel.trans (bb.mono (Nat.le_trans hlo bel.size))
        clear hh lt ge bb
        have av_l0_rd := (owk_sle (by decide) fxf_len l0w).2.av y_l0_rd.out
        have av_l0_mb := (owk_sle (by decide) fxf_len l0w).2.av y_l0_mb.out
        have av_l0_ab := (owk_sle (by decide) fxf_len l0w).2.av y_l0_ab.out
        have av_l0_b140 := (owk_sle (by decide) fxf_len l0w).2.av y_l0_b140.out
        refine hK.out _ _ ⟨hmb, hab⟩ (fun hH13 => ?_)
        clear hK K
        simp only [sq4]
        refine wpAnyH_ready (rs := [6]) (by kernel_rfl) (by simp) ?_
        refine AllReadyH.cons (o := _) rfl (fun K hK => ?_) AllReadyH.nil
        simp only [sq3]
        rw [if_pos (by rfl)]
        refine wp_append_sle (.tmp 131) (.tmp 135) 37 rfl (w10.heap.size) 69 ig (.agg #[.int .u8 0, .int .u8 0, .int .u8 0, .int .u8 0, .int .u8 0, .int .u8 0, .int .u8 0, .int .u8 0, .int .u8 0, .int .u8 0]) 10 Try.underlying37 hig hig0 hig1 hig2 rfl fxf_one _ (0) ([]) rfl l0w (Fx) (nf) (cf) (c.fixed) rfl sF (by unfold maxLen; omega) (by omega) lz_l0 ?_
        intro v136 w14 own_ bb gw ofw
        clear ofw
        replace sF := sF.under bl_sF_l0 bb
        replace sO := sO.under bl_sO_l0 bb
        replace wt := wt.under bl_wt_l0 bb
        replace lw := lw.under bl_lw_l0 bb
        replace hrd := blk_under hrd bb y_l0_rd.out
        replace hmb := blk_under hmb bb y_l0_mb.out
        replace hab := blk_under hab bb y_l0_ab.out
        replace hb140 := blk_under hb140 bb y_l0_b140.out
        clear gw
        replace kp := kp_under kp bb p_l0
        replace bel := bel.trans (bb.mono l0lo)
        have lz_sF1 := Nat.le_trans lz_l0 bb.size
        clear bb
        clear l0 l0w lz_l0
        replace own_ : w14.ownsRow (w10.heap.size) 69 10 v136 (nf) ((c.fixed : List (Mc6 × Ad4)).flatMap fxf) := (by have h_ := own_; rw [Nat.zero_add, List.nil_append] at h_; exact h_)
        obtain ⟨A136, c136, rfl⟩ := owk_val own_
        have sF1w := own_
        have sF1 := (owk_sle (by decide) fxf_len own_).1
        have fr_sF1 := (owk_sle (by decide) fxf_len own_).2
        clear own_
        have av_sF1_rd := fr_sF1.av y_l0_rd.out
        have av_sF1_mb := fr_sF1.av y_l0_mb.out
        have av_sF1_ab := fr_sF1.av y_l0_ab.out
        have av_sF1_b140 := fr_sF1.av y_l0_b140.out
        refine hK.out _ _ ⟨hmb, hab⟩ (fun hH15 => ?_)
        clear hK K
        simp only [sq4]
        refine wpAnyH_ready (rs := [11]) (by kernel_rfl) (by simp) ?_
        refine AllReadyH.cons (o := _) rfl (fun K hK => ?_) AllReadyH.nil
        simp only [sq3]
        rw [if_pos (by rfl)]
        refine wp_append_sle (.tmp 136) (.tmp 140) 37 rfl (w10.heap.size) 69 ig (.agg #[.int .u8 0, .int .u8 0, .int .u8 0, .int .u8 0, .int .u8 0, .int .u8 0, .int .u8 0, .int .u8 0, .int .u8 0, .int .u8 0]) 10 Try.underlying37 hig hig0 hig1 hig2 rfl fxf_one _ (nf) (c.fixed) rfl sF1w (some ⟨g140, 0, none⟩) (1) (1) ([(mcl x, p4 y)]) rfl lw (by unfold maxLen; omega) (by omega) lz_sF1 ?_
        intro v141 w16 own_ bb gw ofw
        clear ofw
        replace sF := sF.under bl_sF_l0 bb
        replace sO := sO.under bl_sO_l0 bb
        replace wt := wt.under bl_wt_l0 bb
        replace lw := lw.under bl_lw_l0 bb
        replace hrd := blk_under hrd bb y_l0_rd.out
        replace hmb := blk_under hmb bb y_l0_mb.out
        replace hab := blk_under hab bb y_l0_ab.out
        replace hb140 := blk_under hb140 bb y_l0_b140.out
        clear gw
        replace kp := kp_under kp bb p_l0
        replace bel := bel.trans (bb.mono l0lo)
        have lz_sF2 := Nat.le_trans lz_sF1 bb.size
        clear bb
        clear sF1 sF1w lz_sF1
        replace own_ : w16.ownsRow (w10.heap.size) 69 10 v141 (nf + 1) ((c.fixed ++ [(mcl x, p4 y)] : List (Mc6 × Ad4)).flatMap fxf) := own_
        obtain ⟨A141, c141, rfl⟩ := owk_val own_
        have sF2w := own_
        have sF2 := (owk_sle (by decide) fxf_len own_).1
        have fr_sF2 := (owk_sle (by decide) fxf_len own_).2
        clear own_
        have av_sF2_rd := fr_sF2.av y_l0_rd.out
        have av_sF2_mb := fr_sF2.av y_l0_mb.out
        have av_sF2_ab := fr_sF2.av y_l0_ab.out
        have av_sF2_b140 := fr_sF2.av y_l0_b140.out
        clear lw
        clear hb140
        have fw_sF2 := fr_sF2.mono p_l0
        refine hK.out _ _ ⟨hmb, hab⟩ (fun hH17 => ?_)
        clear hK K
        simp only [sq4]
        refine wpAnyH_take (i := 12) (v := ?_) rfl (by kernel_rfl) (by kernel_rfl) (by kernel_rfl) (fun _ _ _ h => h) (Or.inl ⟨by rfl, ?_⟩) hH17 ?_
        rotate_left
        · ((intro W hW; clear hW; go_simp) <;> with_reducible rfl)
        simp only [sq3, sq4]
        refine wpAnyH_take (i := 13) (v := ?_) rfl (by kernel_rfl) (by kernel_rfl) (by kernel_rfl) (fun _ _ _ h => h) (Or.inl ⟨by rfl, ?_⟩) hH17 ?_
        rotate_left
        · ((intro W hW; clear hW; go_simp) <;> with_reducible rfl)
        simp only [sq3, sq4]
        refine wpAnyH_ready (rs := [14]) (by kernel_rfl) (by simp) ?_
        refine AllReadyH.cons (o := _) rfl (fun K hK => ?_) AllReadyH.nil
        simp only [sq3]
        rw [if_pos (by rfl)]
        refine wp_store_part 37 (.tmp 143) (.tmp 141) rfl gr 38 rfl [.slice A141 (nf + 1) c141] rfl (cfl c Fx nf cf Ox nx cx) 40 hrd (by simp) [.int .u8 (c.own.a.toNat : Int), .int .u8 (c.own.b.toNat : Int), .int .u8 (c.own.c.toNat : Int), .int .u8 (c.own.d.toNat : Int), .int .u8 (c.lan.a.toNat : Int), .int .u8 (c.lan.b.toNat : Int), .int .u8 (c.lan.c.toNat : Int), .int .u8 (c.lan.d.toNat : Int), .int .i64 c.bits, .int .u8 (c.lanmac.a.toNat : Int), .int .u8 (c.lanmac.b.toNat : Int), .int .u8 (c.lanmac.c.toNat : Int), .int .u8 (c.lanmac.d.toNat : Int), .int .u8 (c.lanmac.e.toNat : Int), .int .u8 (c.lanmac.f.toNat : Int), .int .u8 (c.wanmac.a.toNat : Int), .int .u8 (c.wanmac.b.toNat : Int), .int .u8 (c.wanmac.c.toNat : Int), .int .u8 (c.wanmac.d.toNat : Int), .int .u8 (c.wanmac.e.toNat : Int), .int .u8 (c.wanmac.f.toNat : Int), .int .u8 (c.first.a.toNat : Int), .int .u8 (c.first.b.toNat : Int), .int .u8 (c.first.c.toNat : Int), .int .u8 (c.first.d.toNat : Int), .int .u8 (c.last.a.toNat : Int), .int .u8 (c.last.b.toNat : Int), .int .u8 (c.last.c.toNat : Int), .int .u8 (c.last.d.toNat : Int), .int .i64 c.time, .int .u8 (c.dns.a.toNat : Int), .int .u8 (c.dns.b.toNat : Int), .int .u8 (c.dns.c.toNat : Int), .int .u8 (c.dns.d.toNat : Int), .int .i64 c.udp, .int .i64 c.tcp, .int .i64 c.icmp, .int .i64 c.low, .slice A141 (nf + 1) c141, .slice Ox nx cx] rfl (by kernel_rfl) (by rfl) ?_
        intro w18 hq gr
        replace sF := sF.away av_sF_rd gr
        replace sO := sO.away av_sO_rd gr
        replace wt := wt.away av_wt_rd gr
        replace sF2 := sF2.away av_sF2_rd gr
        replace sF2w := owk_away sF2w y_l0_rd.out gr
        replace lz_sF2 := Nat.le_trans lz_sF2 gr.size
        replace hmb := blk_a hmb gr (ne_symm d_rd_mb)
        replace hab := blk_a hab gr (ne_symm d_rd_ab)
        replace kp := kp.trans gr
        replace bel := below_grown bel gr ord (Nat.le_trans hlo bel.size)
        clear hrd
        have hrd := hq
        clear hq gr
        refine hK.out _ _ ⟨hmb, hab⟩ (fun hH19 => ?_)
        clear hK K
        simp only [Act.put]
        refine wpAnyH_done (by kernel_rfl) ?_ _
        go_wp2_with fail
        go_meet
        case rel => exact ⟨A141, c141, hrd, hmb, hab, (ne_symm d_mb_ab), (ne_symm d_rd_ab), (ne_symm d_rd_mb), sF, av_sF_ab, av_sF_mb, av_sF_rd, sO, av_sO_ab, av_sO_mb, av_sO_rd, wt, av_wt_ab, av_wt_mb, av_wt_rd, sF2, av_sF2_ab, av_sF2_mb, av_sF2_rd, fw_sF2, kp, bel⟩
      simp only [sq3]
      rw [if_pos (by rfl)]
      refine wp_lit_n 37 69 0 _ rfl #[] (.agg #[.int .u8 0, .int .u8 0, .int .u8 0, .int .u8 0, .int .u8 0, .int .u8 0, .int .u8 0, .int .u8 0, .int .u8 0, .int .u8 0]) Try.underlying37 (by kernel_rfl) 10 (by kernel_rfl) (by decide) (by kernel_rfl) ?_
      intro g131 w10 ge lt hh bb
      have l0w := owk_lit (B := w8.heap.size) ([] : List (Mc6 × Ad4)) fxf_len (show w10.heap[g131]? = some (.cells (([] : List (Mc6 × Ad4)).flatMap fxf).toArray 69 (0, 0)) from hh) ge 0 rfl (by simp [maxLen])
      have l0 := (owk_sle (by decide) fxf_len l0w).1
      have l0lo := (Nat.le_trans hlo bel.size)
      have l0ge := ge
      have lz_l0 := bb.size
      have p_l0 := kp.size
      have y_l0_rd := Lib.hid (hlt hrd)
      have y_l0_mb := Lib.hid (hlt hmb)
      have y_l0_ab := Lib.hid (hlt hab)
      have bl_sF_l0 := sF.bl_new
      have bl_sO_l0 := sO.bl_new
      have bl_wt_l0 := wt.bl_new
      replace hrd := blk_u hrd bb
      replace hmb := blk_u hmb bb
      replace hab := blk_u hab bb
      replace sF := sF.below bb
      replace sO := sO.below bb
      replace wt := wt.below bb
      replace kp := kp_below kp bb
      replace bel := bel.trans (bb.mono (Nat.le_trans hlo bel.size))
      clear hh lt ge bb
      have av_l0_rd := (owk_sle (by decide) fxf_len l0w).2.av y_l0_rd.out
      have av_l0_mb := (owk_sle (by decide) fxf_len l0w).2.av y_l0_mb.out
      have av_l0_ab := (owk_sle (by decide) fxf_len l0w).2.av y_l0_ab.out
      refine hK.out _ _ ⟨hmb, hab⟩ (fun hH11 => ?_)
      clear hK K
      simp only [sq4]
      refine wpAnyH_ready (rs := [6, 10]) (by kernel_rfl) (by simp) ?_
      refine AllReadyH.cons (o := _) rfl (fun K hK => ?_) (AllReadyH.cons (o := _) rfl (fun K hK => ?_) AllReadyH.nil)
      · simp only [sq3]
        rw [if_pos (by rfl)]
        refine wp_append_sle (.tmp 131) (.tmp 135) 37 rfl (w8.heap.size) 69 ig (.agg #[.int .u8 0, .int .u8 0, .int .u8 0, .int .u8 0, .int .u8 0, .int .u8 0, .int .u8 0, .int .u8 0, .int .u8 0, .int .u8 0]) 10 Try.underlying37 hig hig0 hig1 hig2 rfl fxf_one _ (0) ([]) rfl l0w (Fx) (nf) (cf) (c.fixed) rfl sF (by unfold maxLen; omega) (by omega) lz_l0 ?_
        intro v136 w12 own_ bb gw ofw
        clear ofw
        replace sF := sF.under bl_sF_l0 bb
        replace sO := sO.under bl_sO_l0 bb
        replace wt := wt.under bl_wt_l0 bb
        replace hrd := blk_under hrd bb y_l0_rd.out
        replace hmb := blk_under hmb bb y_l0_mb.out
        replace hab := blk_under hab bb y_l0_ab.out
        clear gw
        replace kp := kp_under kp bb p_l0
        replace bel := bel.trans (bb.mono l0lo)
        have lz_sF1 := Nat.le_trans lz_l0 bb.size
        clear bb
        clear l0 l0w lz_l0
        replace own_ : w12.ownsRow (w8.heap.size) 69 10 v136 (nf) ((c.fixed : List (Mc6 × Ad4)).flatMap fxf) := (by have h_ := own_; rw [Nat.zero_add, List.nil_append] at h_; exact h_)
        obtain ⟨A136, c136, rfl⟩ := owk_val own_
        have sF1w := own_
        have sF1 := (owk_sle (by decide) fxf_len own_).1
        have fr_sF1 := (owk_sle (by decide) fxf_len own_).2
        clear own_
        have av_sF1_rd := fr_sF1.av y_l0_rd.out
        have av_sF1_mb := fr_sF1.av y_l0_mb.out
        have av_sF1_ab := fr_sF1.av y_l0_ab.out
        refine hK.out _ _ ⟨hmb, hab⟩ (fun hH13 => ?_)
        clear hK K
        simp only [sq4]
        refine wpAnyH_ready (rs := [10]) (by kernel_rfl) (by simp) ?_
        refine AllReadyH.cons (o := _) rfl (fun K hK => ?_) AllReadyH.nil
        simp only [sq3]
        rw [if_pos (by rfl)]
        refine wp_lit_n 37 69 1 _ rfl #[.int .u8 ((mcl x).a.toNat : Int), .int .u8 ((mcl x).b.toNat : Int), .int .u8 ((mcl x).c.toNat : Int), .int .u8 ((mcl x).d.toNat : Int), .int .u8 ((mcl x).e.toNat : Int), .int .u8 ((mcl x).f.toNat : Int), .int .u8 ((p4 y).a.toNat : Int), .int .u8 ((p4 y).b.toNat : Int), .int .u8 ((p4 y).c.toNat : Int), .int .u8 ((p4 y).d.toNat : Int)] (.agg #[.int .u8 0, .int .u8 0, .int .u8 0, .int .u8 0, .int .u8 0, .int .u8 0, .int .u8 0, .int .u8 0, .int .u8 0, .int .u8 0]) Try.underlying37 (by kernel_rfl) 10 (by kernel_rfl) (by decide) (by kernel_rfl) ?_
        intro g140 w14 ge lt hh bb
        have d_rd_b140 := ne_new (hlt hrd) ge
        have d_mb_b140 := ne_new (hlt hmb) ge
        have d_ab_b140 := ne_new (hlt hab) ge
        have av_sF_b140 := sF.av_new ge
        have av_sO_b140 := sO.av_new ge
        have av_wt_b140 := wt.av_new ge
        have av_sF1_b140 := sF1.av_new ge
        have of_sF1_b140 := owk_new sF1w ge
        have ob140 := Nat.le_trans (Nat.le_trans hlo bel.size) ge
        have pb140 := Nat.le_trans kp.size ge
        replace hrd := blk_u hrd bb
        replace hmb := blk_u hmb bb
        replace hab := blk_u hab bb
        replace sF := sF.below bb
        replace sO := sO.below bb
        replace wt := wt.below bb
        replace sF1 := sF1.below bb
        replace sF1w := owk_under sF1w bb
        replace lz_sF1 := Nat.le_trans lz_sF1 bb.size
        replace kp := kp_below kp bb
        replace bel := bel.trans (bb.mono (Nat.le_trans hlo bel.size))
        have hb140 := hh
        clear hh lt ge bb
        have lw : Sle fxf 10 w14 (some ⟨g140, 0, none⟩) (1) (1) ([(mcl x, p4 y)]) := sle_lit ([(mcl x, p4 y)]) (by decide) fxf_len hb140 rfl (by simp [maxLen])
        refine hK.out _ _ ⟨hmb, hab⟩ (fun hH15 => ?_)
        clear hK K
        simp only [sq4]
        refine wpAnyH_ready (rs := [11]) (by kernel_rfl) (by simp) ?_
        refine AllReadyH.cons (o := _) rfl (fun K hK => ?_) AllReadyH.nil
        simp only [sq3]
        rw [if_pos (by rfl)]
        refine wp_append_sle (.tmp 136) (.tmp 140) 37 rfl (w8.heap.size) 69 ig (.agg #[.int .u8 0, .int .u8 0, .int .u8 0, .int .u8 0, .int .u8 0, .int .u8 0, .int .u8 0, .int .u8 0, .int .u8 0, .int .u8 0]) 10 Try.underlying37 hig hig0 hig1 hig2 rfl fxf_one _ (nf) (c.fixed) rfl sF1w (some ⟨g140, 0, none⟩) (1) (1) ([(mcl x, p4 y)]) rfl lw (by unfold maxLen; omega) (by omega) lz_sF1 ?_
        intro v141 w16 own_ bb gw ofw
        have of141_b140 := ofw _ (hlt hb140) of_sF1_b140
        clear ofw
        replace sF := sF.under bl_sF_l0 bb
        replace sO := sO.under bl_sO_l0 bb
        replace wt := wt.under bl_wt_l0 bb
        replace lw := Sle.off lw of_sF1_b140 gw
        replace hrd := blk_under hrd bb y_l0_rd.out
        replace hmb := blk_under hmb bb y_l0_mb.out
        replace hab := blk_under hab bb y_l0_ab.out
        replace hb140 := blk_own hb140 gw of_sF1_b140
        clear gw
        replace kp := kp_under kp bb p_l0
        replace bel := bel.trans (bb.mono l0lo)
        have lz_sF2 := Nat.le_trans lz_sF1 bb.size
        clear bb
        clear sF1 sF1w lz_sF1
        replace own_ : w16.ownsRow (w8.heap.size) 69 10 v141 (nf + 1) ((c.fixed ++ [(mcl x, p4 y)] : List (Mc6 × Ad4)).flatMap fxf) := own_
        obtain ⟨A141, c141, rfl⟩ := owk_val own_
        have sF2w := own_
        have sF2 := (owk_sle (by decide) fxf_len own_).1
        have fr_sF2 := (owk_sle (by decide) fxf_len own_).2
        clear own_
        have av_sF2_rd := fr_sF2.av y_l0_rd.out
        have av_sF2_mb := fr_sF2.av y_l0_mb.out
        have av_sF2_ab := fr_sF2.av y_l0_ab.out
        have av_sF2_b140 := owk_av sF2w of141_b140
        clear lw
        clear hb140
        have fw_sF2 := fr_sF2.mono p_l0
        refine hK.out _ _ ⟨hmb, hab⟩ (fun hH17 => ?_)
        clear hK K
        simp only [sq4]
        refine wpAnyH_take (i := 12) (v := ?_) rfl (by kernel_rfl) (by kernel_rfl) (by kernel_rfl) (fun _ _ _ h => h) (Or.inl ⟨by rfl, ?_⟩) hH17 ?_
        rotate_left
        · ((intro W hW; clear hW; go_simp) <;> with_reducible rfl)
        simp only [sq3, sq4]
        refine wpAnyH_take (i := 13) (v := ?_) rfl (by kernel_rfl) (by kernel_rfl) (by kernel_rfl) (fun _ _ _ h => h) (Or.inl ⟨by rfl, ?_⟩) hH17 ?_
        rotate_left
        · ((intro W hW; clear hW; go_simp) <;> with_reducible rfl)
        simp only [sq3, sq4]
        refine wpAnyH_ready (rs := [14]) (by kernel_rfl) (by simp) ?_
        refine AllReadyH.cons (o := _) rfl (fun K hK => ?_) AllReadyH.nil
        simp only [sq3]
        rw [if_pos (by rfl)]
        refine wp_store_part 37 (.tmp 143) (.tmp 141) rfl gr 38 rfl [.slice A141 (nf + 1) c141] rfl (cfl c Fx nf cf Ox nx cx) 40 hrd (by simp) [.int .u8 (c.own.a.toNat : Int), .int .u8 (c.own.b.toNat : Int), .int .u8 (c.own.c.toNat : Int), .int .u8 (c.own.d.toNat : Int), .int .u8 (c.lan.a.toNat : Int), .int .u8 (c.lan.b.toNat : Int), .int .u8 (c.lan.c.toNat : Int), .int .u8 (c.lan.d.toNat : Int), .int .i64 c.bits, .int .u8 (c.lanmac.a.toNat : Int), .int .u8 (c.lanmac.b.toNat : Int), .int .u8 (c.lanmac.c.toNat : Int), .int .u8 (c.lanmac.d.toNat : Int), .int .u8 (c.lanmac.e.toNat : Int), .int .u8 (c.lanmac.f.toNat : Int), .int .u8 (c.wanmac.a.toNat : Int), .int .u8 (c.wanmac.b.toNat : Int), .int .u8 (c.wanmac.c.toNat : Int), .int .u8 (c.wanmac.d.toNat : Int), .int .u8 (c.wanmac.e.toNat : Int), .int .u8 (c.wanmac.f.toNat : Int), .int .u8 (c.first.a.toNat : Int), .int .u8 (c.first.b.toNat : Int), .int .u8 (c.first.c.toNat : Int), .int .u8 (c.first.d.toNat : Int), .int .u8 (c.last.a.toNat : Int), .int .u8 (c.last.b.toNat : Int), .int .u8 (c.last.c.toNat : Int), .int .u8 (c.last.d.toNat : Int), .int .i64 c.time, .int .u8 (c.dns.a.toNat : Int), .int .u8 (c.dns.b.toNat : Int), .int .u8 (c.dns.c.toNat : Int), .int .u8 (c.dns.d.toNat : Int), .int .i64 c.udp, .int .i64 c.tcp, .int .i64 c.icmp, .int .i64 c.low, .slice A141 (nf + 1) c141, .slice Ox nx cx] rfl (by kernel_rfl) (by rfl) ?_
        intro w18 hq gr
        replace sF := sF.away av_sF_rd gr
        replace sO := sO.away av_sO_rd gr
        replace wt := wt.away av_wt_rd gr
        replace sF2 := sF2.away av_sF2_rd gr
        replace sF2w := owk_away sF2w y_l0_rd.out gr
        replace lz_sF2 := Nat.le_trans lz_sF2 gr.size
        replace hmb := blk_a hmb gr (ne_symm d_rd_mb)
        replace hab := blk_a hab gr (ne_symm d_rd_ab)
        replace kp := kp.trans gr
        replace bel := below_grown bel gr ord (Nat.le_trans hlo bel.size)
        clear hrd
        have hrd := hq
        clear hq gr
        refine hK.out _ _ ⟨hmb, hab⟩ (fun hH19 => ?_)
        clear hK K
        simp only [Act.put]
        refine wpAnyH_done (by kernel_rfl) ?_ _
        go_wp2_with fail
        go_meet
        case rel => exact ⟨A141, c141, hrd, hmb, hab, (ne_symm d_mb_ab), (ne_symm d_rd_ab), (ne_symm d_rd_mb), sF, av_sF_ab, av_sF_mb, av_sF_rd, sO, av_sO_ab, av_sO_mb, av_sO_rd, wt, av_wt_ab, av_wt_mb, av_wt_rd, sF2, av_sF2_ab, av_sF2_mb, av_sF2_rd, fw_sF2, kp, bel⟩
      simp only [sq3]
      rw [if_pos (by rfl)]
      refine wp_lit_n 37 69 1 _ rfl #[.int .u8 ((mcl x).a.toNat : Int), .int .u8 ((mcl x).b.toNat : Int), .int .u8 ((mcl x).c.toNat : Int), .int .u8 ((mcl x).d.toNat : Int), .int .u8 ((mcl x).e.toNat : Int), .int .u8 ((mcl x).f.toNat : Int), .int .u8 ((p4 y).a.toNat : Int), .int .u8 ((p4 y).b.toNat : Int), .int .u8 ((p4 y).c.toNat : Int), .int .u8 ((p4 y).d.toNat : Int)] (.agg #[.int .u8 0, .int .u8 0, .int .u8 0, .int .u8 0, .int .u8 0, .int .u8 0, .int .u8 0, .int .u8 0, .int .u8 0, .int .u8 0]) Try.underlying37 (by kernel_rfl) 10 (by kernel_rfl) (by decide) (by kernel_rfl) ?_
      intro g140 w12 ge lt hh bb
      have d_rd_b140 := ne_new (hlt hrd) ge
      have d_mb_b140 := ne_new (hlt hmb) ge
      have d_ab_b140 := ne_new (hlt hab) ge
      have av_sF_b140 := sF.av_new ge
      have av_sO_b140 := sO.av_new ge
      have av_wt_b140 := wt.av_new ge
      have av_l0_b140 := l0.av_new ge
      have of_l0_b140 := owk_new l0w ge
      have ob140 := Nat.le_trans (Nat.le_trans hlo bel.size) ge
      have pb140 := Nat.le_trans kp.size ge
      replace hrd := blk_u hrd bb
      replace hmb := blk_u hmb bb
      replace hab := blk_u hab bb
      replace sF := sF.below bb
      replace sO := sO.below bb
      replace wt := wt.below bb
      replace l0 := l0.below bb
      replace l0w := owk_under l0w bb
      replace lz_l0 := Nat.le_trans lz_l0 bb.size
      replace kp := kp_below kp bb
      replace bel := bel.trans (bb.mono (Nat.le_trans hlo bel.size))
      have hb140 := hh
      clear hh lt ge bb
      have lw : Sle fxf 10 w12 (some ⟨g140, 0, none⟩) (1) (1) ([(mcl x, p4 y)]) := sle_lit ([(mcl x, p4 y)]) (by decide) fxf_len hb140 rfl (by simp [maxLen])
      refine hK.out _ _ ⟨hmb, hab⟩ (fun hH13 => ?_)
      clear hK K
      simp only [sq4]
      refine wpAnyH_ready (rs := [6]) (by kernel_rfl) (by simp) ?_
      refine AllReadyH.cons (o := _) rfl (fun K hK => ?_) AllReadyH.nil
      simp only [sq3]
      rw [if_pos (by rfl)]
      refine wp_append_sle (.tmp 131) (.tmp 135) 37 rfl (w8.heap.size) 69 ig (.agg #[.int .u8 0, .int .u8 0, .int .u8 0, .int .u8 0, .int .u8 0, .int .u8 0, .int .u8 0, .int .u8 0, .int .u8 0, .int .u8 0]) 10 Try.underlying37 hig hig0 hig1 hig2 rfl fxf_one _ (0) ([]) rfl l0w (Fx) (nf) (cf) (c.fixed) rfl sF (by unfold maxLen; omega) (by omega) lz_l0 ?_
      intro v136 w14 own_ bb gw ofw
      have of136_b140 := ofw _ (hlt hb140) of_l0_b140
      clear ofw
      replace sF := sF.under bl_sF_l0 bb
      replace sO := sO.under bl_sO_l0 bb
      replace wt := wt.under bl_wt_l0 bb
      replace lw := Sle.off lw of_l0_b140 gw
      replace hrd := blk_under hrd bb y_l0_rd.out
      replace hmb := blk_under hmb bb y_l0_mb.out
      replace hab := blk_under hab bb y_l0_ab.out
      replace hb140 := blk_own hb140 gw of_l0_b140
      clear gw
      replace kp := kp_under kp bb p_l0
      replace bel := bel.trans (bb.mono l0lo)
      have lz_sF1 := Nat.le_trans lz_l0 bb.size
      clear bb
      clear l0 l0w lz_l0
      replace own_ : w14.ownsRow (w8.heap.size) 69 10 v136 (nf) ((c.fixed : List (Mc6 × Ad4)).flatMap fxf) := (by have h_ := own_; rw [Nat.zero_add, List.nil_append] at h_; exact h_)
      obtain ⟨A136, c136, rfl⟩ := owk_val own_
      have sF1w := own_
      have sF1 := (owk_sle (by decide) fxf_len own_).1
      have fr_sF1 := (owk_sle (by decide) fxf_len own_).2
      clear own_
      have av_sF1_rd := fr_sF1.av y_l0_rd.out
      have av_sF1_mb := fr_sF1.av y_l0_mb.out
      have av_sF1_ab := fr_sF1.av y_l0_ab.out
      have av_sF1_b140 := owk_av sF1w of136_b140
      refine hK.out _ _ ⟨hmb, hab⟩ (fun hH15 => ?_)
      clear hK K
      simp only [sq4]
      refine wpAnyH_ready (rs := [11]) (by kernel_rfl) (by simp) ?_
      refine AllReadyH.cons (o := _) rfl (fun K hK => ?_) AllReadyH.nil
      simp only [sq3]
      rw [if_pos (by rfl)]
      refine wp_append_sle (.tmp 136) (.tmp 140) 37 rfl (w8.heap.size) 69 ig (.agg #[.int .u8 0, .int .u8 0, .int .u8 0, .int .u8 0, .int .u8 0, .int .u8 0, .int .u8 0, .int .u8 0, .int .u8 0, .int .u8 0]) 10 Try.underlying37 hig hig0 hig1 hig2 rfl fxf_one _ (nf) (c.fixed) rfl sF1w (some ⟨g140, 0, none⟩) (1) (1) ([(mcl x, p4 y)]) rfl lw (by unfold maxLen; omega) (by omega) lz_sF1 ?_
      intro v141 w16 own_ bb gw ofw
      have of141_b140 := ofw _ (hlt hb140) of136_b140
      clear ofw
      replace sF := sF.under bl_sF_l0 bb
      replace sO := sO.under bl_sO_l0 bb
      replace wt := wt.under bl_wt_l0 bb
      replace lw := Sle.off lw of136_b140 gw
      replace hrd := blk_under hrd bb y_l0_rd.out
      replace hmb := blk_under hmb bb y_l0_mb.out
      replace hab := blk_under hab bb y_l0_ab.out
      replace hb140 := blk_own hb140 gw of136_b140
      clear gw
      replace kp := kp_under kp bb p_l0
      replace bel := bel.trans (bb.mono l0lo)
      have lz_sF2 := Nat.le_trans lz_sF1 bb.size
      clear bb
      clear sF1 sF1w lz_sF1
      replace own_ : w16.ownsRow (w8.heap.size) 69 10 v141 (nf + 1) ((c.fixed ++ [(mcl x, p4 y)] : List (Mc6 × Ad4)).flatMap fxf) := own_
      obtain ⟨A141, c141, rfl⟩ := owk_val own_
      have sF2w := own_
      have sF2 := (owk_sle (by decide) fxf_len own_).1
      have fr_sF2 := (owk_sle (by decide) fxf_len own_).2
      clear own_
      have av_sF2_rd := fr_sF2.av y_l0_rd.out
      have av_sF2_mb := fr_sF2.av y_l0_mb.out
      have av_sF2_ab := fr_sF2.av y_l0_ab.out
      have av_sF2_b140 := owk_av sF2w of141_b140
      clear lw
      clear hb140
      have fw_sF2 := fr_sF2.mono p_l0
      refine hK.out _ _ ⟨hmb, hab⟩ (fun hH17 => ?_)
      clear hK K
      simp only [sq4]
      refine wpAnyH_take (i := 12) (v := ?_) rfl (by kernel_rfl) (by kernel_rfl) (by kernel_rfl) (fun _ _ _ h => h) (Or.inl ⟨by rfl, ?_⟩) hH17 ?_
      rotate_left
      · ((intro W hW; clear hW; go_simp) <;> with_reducible rfl)
      simp only [sq3, sq4]
      refine wpAnyH_take (i := 13) (v := ?_) rfl (by kernel_rfl) (by kernel_rfl) (by kernel_rfl) (fun _ _ _ h => h) (Or.inl ⟨by rfl, ?_⟩) hH17 ?_
      rotate_left
      · ((intro W hW; clear hW; go_simp) <;> with_reducible rfl)
      simp only [sq3, sq4]
      refine wpAnyH_ready (rs := [14]) (by kernel_rfl) (by simp) ?_
      refine AllReadyH.cons (o := _) rfl (fun K hK => ?_) AllReadyH.nil
      simp only [sq3]
      rw [if_pos (by rfl)]
      refine wp_store_part 37 (.tmp 143) (.tmp 141) rfl gr 38 rfl [.slice A141 (nf + 1) c141] rfl (cfl c Fx nf cf Ox nx cx) 40 hrd (by simp) [.int .u8 (c.own.a.toNat : Int), .int .u8 (c.own.b.toNat : Int), .int .u8 (c.own.c.toNat : Int), .int .u8 (c.own.d.toNat : Int), .int .u8 (c.lan.a.toNat : Int), .int .u8 (c.lan.b.toNat : Int), .int .u8 (c.lan.c.toNat : Int), .int .u8 (c.lan.d.toNat : Int), .int .i64 c.bits, .int .u8 (c.lanmac.a.toNat : Int), .int .u8 (c.lanmac.b.toNat : Int), .int .u8 (c.lanmac.c.toNat : Int), .int .u8 (c.lanmac.d.toNat : Int), .int .u8 (c.lanmac.e.toNat : Int), .int .u8 (c.lanmac.f.toNat : Int), .int .u8 (c.wanmac.a.toNat : Int), .int .u8 (c.wanmac.b.toNat : Int), .int .u8 (c.wanmac.c.toNat : Int), .int .u8 (c.wanmac.d.toNat : Int), .int .u8 (c.wanmac.e.toNat : Int), .int .u8 (c.wanmac.f.toNat : Int), .int .u8 (c.first.a.toNat : Int), .int .u8 (c.first.b.toNat : Int), .int .u8 (c.first.c.toNat : Int), .int .u8 (c.first.d.toNat : Int), .int .u8 (c.last.a.toNat : Int), .int .u8 (c.last.b.toNat : Int), .int .u8 (c.last.c.toNat : Int), .int .u8 (c.last.d.toNat : Int), .int .i64 c.time, .int .u8 (c.dns.a.toNat : Int), .int .u8 (c.dns.b.toNat : Int), .int .u8 (c.dns.c.toNat : Int), .int .u8 (c.dns.d.toNat : Int), .int .i64 c.udp, .int .i64 c.tcp, .int .i64 c.icmp, .int .i64 c.low, .slice A141 (nf + 1) c141, .slice Ox nx cx] rfl (by kernel_rfl) (by rfl) ?_
      intro w18 hq gr
      replace sF := sF.away av_sF_rd gr
      replace sO := sO.away av_sO_rd gr
      replace wt := wt.away av_wt_rd gr
      replace sF2 := sF2.away av_sF2_rd gr
      replace sF2w := owk_away sF2w y_l0_rd.out gr
      replace lz_sF2 := Nat.le_trans lz_sF2 gr.size
      replace hmb := blk_a hmb gr (ne_symm d_rd_mb)
      replace hab := blk_a hab gr (ne_symm d_rd_ab)
      replace kp := kp.trans gr
      replace bel := below_grown bel gr ord (Nat.le_trans hlo bel.size)
      clear hrd
      have hrd := hq
      clear hq gr
      refine hK.out _ _ ⟨hmb, hab⟩ (fun hH19 => ?_)
      clear hK K
      simp only [Act.put]
      refine wpAnyH_done (by kernel_rfl) ?_ _
      go_wp2_with fail
      go_meet
      case rel => exact ⟨A141, c141, hrd, hmb, hab, (ne_symm d_mb_ab), (ne_symm d_rd_ab), (ne_symm d_rd_mb), sF, av_sF_ab, av_sF_mb, av_sF_rd, sO, av_sO_ab, av_sO_mb, av_sO_rd, wt, av_wt_ab, av_wt_mb, av_wt_rd, sF2, av_sF2_ab, av_sF2_mb, av_sF2_rd, fw_sF2, kp, bel⟩
    obtain ⟨w20, hw_⟩ : ∃ x, x = wc := ⟨_, rfl⟩
    subst hw_
    obtain ⟨A141, c141, hrd, hmb, hab, d_ab_mb, d_ab_rd, d_mb_rd, sF, av_sF_ab, av_sF_mb, av_sF_rd, sO, av_sO_ab, av_sO_mb, av_sO_rd, wt, av_wt_ab, av_wt_mb, av_wt_rd, sF2, av_sF2_ab, av_sF2_mb, av_sF2_rd, fw_sF2, kp, bel⟩ := hcut
    rcases bm with _ | _
    · have HP : Hid (valOk s v = false) := Lib.hid (by rw [HVK.out]; rfl)
      go_wp2_with fail
      go_ret
      exact ⟨(by rw [HP.out] <;> rfl), fun hv_ => (by rw [HP.out] at hv_; cases hv_), kp⟩
    have HP : Hid (valOk s v = bp) := Lib.hid (by rw [HVK.out]; rfl)
    go_wp2_with fail
    go_ret
    exact ⟨(by rw [HP.out] <;> rfl), fun hv_ => (by rw [HC.out]; exact ⟨A141, nf + 1, c141, Ox, nx, cx, hrd, sF2, sO, fun _ hg_ _ => fw_sF2.av hg_, fun _ _ h_ => h_⟩), kp⟩
  rcases (by decide : ∀ b : Bool, b = true ∨ b = false) (s == [111, 112, 101, 110]) with b7 | b7
  rotate_left
  · rcases (by decide : ∀ b : Bool, b = true ∨ b = false) (s == [116, 105, 109, 101]) with b8 | b8
    · have HPI : Hid (posI names5 s = 0) := Lib.hid (by rw [eq_of_beq b8]; decide)
      obtain ⟨nv, hnv_⟩ : ∃ k, numI v 999999999 = k := ⟨_, rfl⟩
      have HNV := Lib.hid hnv_
      have rnv := numI_range v 999999999
      rw [hnv_] at rnv
      obtain ⟨qnv, unv⟩ : (-1 : Int) ≤ nv ∧ nv ≤ 999999999 := by omega
      clear hnv_ rnv
      have HP : Hid (valOk s v = decide ((0 : Int) ≤ nv)) := Lib.hid (by rw [eq_of_beq b8, ← HNV.out]; rfl)
      have HC : Hid (valC c s v = { c with time := decV v }) := Lib.hid (by rw [eq_of_beq b8]; kernel_rfl)
      go_wp2_with fail
      with_reducible refine (rnumber_l v _ hlen).mono ?_
      rintro e _ ⟨rfl, rfl⟩
      rw [HNV.out]
      go_wp2_with fail
      with_reducible refine (number_any' s _).mono ?_
      rintro e w1 ⟨rfl, b1⟩
      replace hrd := blk_u hrd b1
      replace sF := sF.below b1
      replace sO := sO.below b1
      replace kp := kp_below kp b1
      replace bel := bel.trans (b1.mono (Nat.le_trans hlo bel.size))
      clear b1
      rw [HPI.out]
      go_wp2_with (first | ((with_reducible show wpList _ _ _ (⟨none, Op.store _ (.tmp 222) _, _, _, _, _⟩ :: _) _ _); refine wpList_store_part rfl 3 (.tmp 222) (.tmp 220) rfl gr 29 rfl [.int .i64 nv] rfl (cfl c Fx nf cf Ox nx cx) 40 hrd (by simp) [.int .u8 (c.own.a.toNat : Int), .int .u8 (c.own.b.toNat : Int), .int .u8 (c.own.c.toNat : Int), .int .u8 (c.own.d.toNat : Int), .int .u8 (c.lan.a.toNat : Int), .int .u8 (c.lan.b.toNat : Int), .int .u8 (c.lan.c.toNat : Int), .int .u8 (c.lan.d.toNat : Int), .int .i64 c.bits, .int .u8 (c.lanmac.a.toNat : Int), .int .u8 (c.lanmac.b.toNat : Int), .int .u8 (c.lanmac.c.toNat : Int), .int .u8 (c.lanmac.d.toNat : Int), .int .u8 (c.lanmac.e.toNat : Int), .int .u8 (c.lanmac.f.toNat : Int), .int .u8 (c.wanmac.a.toNat : Int), .int .u8 (c.wanmac.b.toNat : Int), .int .u8 (c.wanmac.c.toNat : Int), .int .u8 (c.wanmac.d.toNat : Int), .int .u8 (c.wanmac.e.toNat : Int), .int .u8 (c.wanmac.f.toNat : Int), .int .u8 (c.first.a.toNat : Int), .int .u8 (c.first.b.toNat : Int), .int .u8 (c.first.c.toNat : Int), .int .u8 (c.first.d.toNat : Int), .int .u8 (c.last.a.toNat : Int), .int .u8 (c.last.b.toNat : Int), .int .u8 (c.last.c.toNat : Int), .int .u8 (c.last.d.toNat : Int), .int .i64 nv, .int .u8 (c.dns.a.toNat : Int), .int .u8 (c.dns.b.toNat : Int), .int .u8 (c.dns.c.toNat : Int), .int .u8 (c.dns.d.toNat : Int), .int .i64 c.udp, .int .i64 c.tcp, .int .i64 c.icmp, .int .i64 c.low, .slice Fx nf cf, .slice Ox nx cx] rfl (by kernel_rfl) (by rfl) ?_; intro w2 hq gr; replace sF := sF.away av_sF_rd gr; replace sO := sO.away av_sO_rd gr; replace kp := kp.trans gr; replace bel := below_grown bel gr ord (Nat.le_trans hlo bel.size); clear hrd; have hrd := hq; clear hq gr))
      go_ret
      exact ⟨(by rw [HP.out] <;> rfl), fun hv_ => (by rw [HP.out] at hv_; have hd_ := dec_nat (l := v) (by rw [HNV.out]; exact of_decide_eq_true hv_); rw [HC.out, hd_, HNV.out]; exact ⟨Fx, nf, cf, Ox, nx, cx, hrd, sF, sO, fun _ _ h_ => h_, fun _ _ h_ => h_⟩), kp⟩
    rcases (by decide : ∀ b : Bool, b = true ∨ b = false) (s == [117, 100, 112, 116, 105, 109, 101]) with b9 | b9
    · have HPI : Hid (posI names5 s = 1) := Lib.hid (by rw [eq_of_beq b9]; decide)
      obtain ⟨nv, hnv_⟩ : ∃ k, numI v 999999999 = k := ⟨_, rfl⟩
      have HNV := Lib.hid hnv_
      have rnv := numI_range v 999999999
      rw [hnv_] at rnv
      obtain ⟨qnv, unv⟩ : (-1 : Int) ≤ nv ∧ nv ≤ 999999999 := by omega
      clear hnv_ rnv
      have HP : Hid (valOk s v = decide ((0 : Int) ≤ nv)) := Lib.hid (by rw [eq_of_beq b9, ← HNV.out]; rfl)
      have HC : Hid (valC c s v = { c with udp := decV v }) := Lib.hid (by rw [eq_of_beq b9]; kernel_rfl)
      go_wp2_with fail
      with_reducible refine (rnumber_l v _ hlen).mono ?_
      rintro e _ ⟨rfl, rfl⟩
      rw [HNV.out]
      go_wp2_with fail
      with_reducible refine (number_any' s _).mono ?_
      rintro e w1 ⟨rfl, b1⟩
      replace hrd := blk_u hrd b1
      replace sF := sF.below b1
      replace sO := sO.below b1
      replace kp := kp_below kp b1
      replace bel := bel.trans (b1.mono (Nat.le_trans hlo bel.size))
      clear b1
      rw [HPI.out]
      go_wp2_with (first | ((with_reducible show wpList _ _ _ (⟨none, Op.store _ (.tmp 228) _, _, _, _, _⟩ :: _) _ _); refine wpList_store_part rfl 3 (.tmp 228) (.tmp 226) rfl gr 34 rfl [.int .i64 nv] rfl (cfl c Fx nf cf Ox nx cx) 40 hrd (by simp) [.int .u8 (c.own.a.toNat : Int), .int .u8 (c.own.b.toNat : Int), .int .u8 (c.own.c.toNat : Int), .int .u8 (c.own.d.toNat : Int), .int .u8 (c.lan.a.toNat : Int), .int .u8 (c.lan.b.toNat : Int), .int .u8 (c.lan.c.toNat : Int), .int .u8 (c.lan.d.toNat : Int), .int .i64 c.bits, .int .u8 (c.lanmac.a.toNat : Int), .int .u8 (c.lanmac.b.toNat : Int), .int .u8 (c.lanmac.c.toNat : Int), .int .u8 (c.lanmac.d.toNat : Int), .int .u8 (c.lanmac.e.toNat : Int), .int .u8 (c.lanmac.f.toNat : Int), .int .u8 (c.wanmac.a.toNat : Int), .int .u8 (c.wanmac.b.toNat : Int), .int .u8 (c.wanmac.c.toNat : Int), .int .u8 (c.wanmac.d.toNat : Int), .int .u8 (c.wanmac.e.toNat : Int), .int .u8 (c.wanmac.f.toNat : Int), .int .u8 (c.first.a.toNat : Int), .int .u8 (c.first.b.toNat : Int), .int .u8 (c.first.c.toNat : Int), .int .u8 (c.first.d.toNat : Int), .int .u8 (c.last.a.toNat : Int), .int .u8 (c.last.b.toNat : Int), .int .u8 (c.last.c.toNat : Int), .int .u8 (c.last.d.toNat : Int), .int .i64 c.time, .int .u8 (c.dns.a.toNat : Int), .int .u8 (c.dns.b.toNat : Int), .int .u8 (c.dns.c.toNat : Int), .int .u8 (c.dns.d.toNat : Int), .int .i64 nv, .int .i64 c.tcp, .int .i64 c.icmp, .int .i64 c.low, .slice Fx nf cf, .slice Ox nx cx] rfl (by kernel_rfl) (by rfl) ?_; intro w2 hq gr; replace sF := sF.away av_sF_rd gr; replace sO := sO.away av_sO_rd gr; replace kp := kp.trans gr; replace bel := below_grown bel gr ord (Nat.le_trans hlo bel.size); clear hrd; have hrd := hq; clear hq gr))
      go_ret
      exact ⟨(by rw [HP.out] <;> rfl), fun hv_ => (by rw [HP.out] at hv_; have hd_ := dec_nat (l := v) (by rw [HNV.out]; exact of_decide_eq_true hv_); rw [HC.out, hd_, HNV.out]; exact ⟨Fx, nf, cf, Ox, nx, cx, hrd, sF, sO, fun _ _ h_ => h_, fun _ _ h_ => h_⟩), kp⟩
    rcases (by decide : ∀ b : Bool, b = true ∨ b = false) (s == [116, 99, 112, 116, 105, 109, 101]) with b10 | b10
    · have HPI : Hid (posI names5 s = 2) := Lib.hid (by rw [eq_of_beq b10]; decide)
      obtain ⟨nv, hnv_⟩ : ∃ k, numI v 999999999 = k := ⟨_, rfl⟩
      have HNV := Lib.hid hnv_
      have rnv := numI_range v 999999999
      rw [hnv_] at rnv
      obtain ⟨qnv, unv⟩ : (-1 : Int) ≤ nv ∧ nv ≤ 999999999 := by omega
      clear hnv_ rnv
      have HP : Hid (valOk s v = decide ((0 : Int) ≤ nv)) := Lib.hid (by rw [eq_of_beq b10, ← HNV.out]; rfl)
      have HC : Hid (valC c s v = { c with tcp := decV v }) := Lib.hid (by rw [eq_of_beq b10]; kernel_rfl)
      go_wp2_with fail
      with_reducible refine (rnumber_l v _ hlen).mono ?_
      rintro e _ ⟨rfl, rfl⟩
      rw [HNV.out]
      go_wp2_with fail
      with_reducible refine (number_any' s _).mono ?_
      rintro e w1 ⟨rfl, b1⟩
      replace hrd := blk_u hrd b1
      replace sF := sF.below b1
      replace sO := sO.below b1
      replace kp := kp_below kp b1
      replace bel := bel.trans (b1.mono (Nat.le_trans hlo bel.size))
      clear b1
      rw [HPI.out]
      go_wp2_with (first | ((with_reducible show wpList _ _ _ (⟨none, Op.store _ (.tmp 234) _, _, _, _, _⟩ :: _) _ _); refine wpList_store_part rfl 3 (.tmp 234) (.tmp 232) rfl gr 35 rfl [.int .i64 nv] rfl (cfl c Fx nf cf Ox nx cx) 40 hrd (by simp) [.int .u8 (c.own.a.toNat : Int), .int .u8 (c.own.b.toNat : Int), .int .u8 (c.own.c.toNat : Int), .int .u8 (c.own.d.toNat : Int), .int .u8 (c.lan.a.toNat : Int), .int .u8 (c.lan.b.toNat : Int), .int .u8 (c.lan.c.toNat : Int), .int .u8 (c.lan.d.toNat : Int), .int .i64 c.bits, .int .u8 (c.lanmac.a.toNat : Int), .int .u8 (c.lanmac.b.toNat : Int), .int .u8 (c.lanmac.c.toNat : Int), .int .u8 (c.lanmac.d.toNat : Int), .int .u8 (c.lanmac.e.toNat : Int), .int .u8 (c.lanmac.f.toNat : Int), .int .u8 (c.wanmac.a.toNat : Int), .int .u8 (c.wanmac.b.toNat : Int), .int .u8 (c.wanmac.c.toNat : Int), .int .u8 (c.wanmac.d.toNat : Int), .int .u8 (c.wanmac.e.toNat : Int), .int .u8 (c.wanmac.f.toNat : Int), .int .u8 (c.first.a.toNat : Int), .int .u8 (c.first.b.toNat : Int), .int .u8 (c.first.c.toNat : Int), .int .u8 (c.first.d.toNat : Int), .int .u8 (c.last.a.toNat : Int), .int .u8 (c.last.b.toNat : Int), .int .u8 (c.last.c.toNat : Int), .int .u8 (c.last.d.toNat : Int), .int .i64 c.time, .int .u8 (c.dns.a.toNat : Int), .int .u8 (c.dns.b.toNat : Int), .int .u8 (c.dns.c.toNat : Int), .int .u8 (c.dns.d.toNat : Int), .int .i64 c.udp, .int .i64 nv, .int .i64 c.icmp, .int .i64 c.low, .slice Fx nf cf, .slice Ox nx cx] rfl (by kernel_rfl) (by rfl) ?_; intro w2 hq gr; replace sF := sF.away av_sF_rd gr; replace sO := sO.away av_sO_rd gr; replace kp := kp.trans gr; replace bel := below_grown bel gr ord (Nat.le_trans hlo bel.size); clear hrd; have hrd := hq; clear hq gr))
      go_ret
      exact ⟨(by rw [HP.out] <;> rfl), fun hv_ => (by rw [HP.out] at hv_; have hd_ := dec_nat (l := v) (by rw [HNV.out]; exact of_decide_eq_true hv_); rw [HC.out, hd_, HNV.out]; exact ⟨Fx, nf, cf, Ox, nx, cx, hrd, sF, sO, fun _ _ h_ => h_, fun _ _ h_ => h_⟩), kp⟩
    rcases (by decide : ∀ b : Bool, b = true ∨ b = false) (s == [105, 99, 109, 112, 116, 105, 109, 101]) with b11 | b11
    · have HPI : Hid (posI names5 s = 3) := Lib.hid (by rw [eq_of_beq b11]; decide)
      obtain ⟨nv, hnv_⟩ : ∃ k, numI v 999999999 = k := ⟨_, rfl⟩
      have HNV := Lib.hid hnv_
      have rnv := numI_range v 999999999
      rw [hnv_] at rnv
      obtain ⟨qnv, unv⟩ : (-1 : Int) ≤ nv ∧ nv ≤ 999999999 := by omega
      clear hnv_ rnv
      have HP : Hid (valOk s v = decide ((0 : Int) ≤ nv)) := Lib.hid (by rw [eq_of_beq b11, ← HNV.out]; rfl)
      have HC : Hid (valC c s v = { c with icmp := decV v }) := Lib.hid (by rw [eq_of_beq b11]; kernel_rfl)
      go_wp2_with fail
      with_reducible refine (rnumber_l v _ hlen).mono ?_
      rintro e _ ⟨rfl, rfl⟩
      rw [HNV.out]
      go_wp2_with fail
      with_reducible refine (number_any' s _).mono ?_
      rintro e w1 ⟨rfl, b1⟩
      replace hrd := blk_u hrd b1
      replace sF := sF.below b1
      replace sO := sO.below b1
      replace kp := kp_below kp b1
      replace bel := bel.trans (b1.mono (Nat.le_trans hlo bel.size))
      clear b1
      rw [HPI.out]
      go_wp2_with (first | ((with_reducible show wpList _ _ _ (⟨none, Op.store _ (.tmp 240) _, _, _, _, _⟩ :: _) _ _); refine wpList_store_part rfl 3 (.tmp 240) (.tmp 238) rfl gr 36 rfl [.int .i64 nv] rfl (cfl c Fx nf cf Ox nx cx) 40 hrd (by simp) [.int .u8 (c.own.a.toNat : Int), .int .u8 (c.own.b.toNat : Int), .int .u8 (c.own.c.toNat : Int), .int .u8 (c.own.d.toNat : Int), .int .u8 (c.lan.a.toNat : Int), .int .u8 (c.lan.b.toNat : Int), .int .u8 (c.lan.c.toNat : Int), .int .u8 (c.lan.d.toNat : Int), .int .i64 c.bits, .int .u8 (c.lanmac.a.toNat : Int), .int .u8 (c.lanmac.b.toNat : Int), .int .u8 (c.lanmac.c.toNat : Int), .int .u8 (c.lanmac.d.toNat : Int), .int .u8 (c.lanmac.e.toNat : Int), .int .u8 (c.lanmac.f.toNat : Int), .int .u8 (c.wanmac.a.toNat : Int), .int .u8 (c.wanmac.b.toNat : Int), .int .u8 (c.wanmac.c.toNat : Int), .int .u8 (c.wanmac.d.toNat : Int), .int .u8 (c.wanmac.e.toNat : Int), .int .u8 (c.wanmac.f.toNat : Int), .int .u8 (c.first.a.toNat : Int), .int .u8 (c.first.b.toNat : Int), .int .u8 (c.first.c.toNat : Int), .int .u8 (c.first.d.toNat : Int), .int .u8 (c.last.a.toNat : Int), .int .u8 (c.last.b.toNat : Int), .int .u8 (c.last.c.toNat : Int), .int .u8 (c.last.d.toNat : Int), .int .i64 c.time, .int .u8 (c.dns.a.toNat : Int), .int .u8 (c.dns.b.toNat : Int), .int .u8 (c.dns.c.toNat : Int), .int .u8 (c.dns.d.toNat : Int), .int .i64 c.udp, .int .i64 c.tcp, .int .i64 nv, .int .i64 c.low, .slice Fx nf cf, .slice Ox nx cx] rfl (by kernel_rfl) (by rfl) ?_; intro w2 hq gr; replace sF := sF.away av_sF_rd gr; replace sO := sO.away av_sO_rd gr; replace kp := kp.trans gr; replace bel := below_grown bel gr ord (Nat.le_trans hlo bel.size); clear hrd; have hrd := hq; clear hq gr))
      go_ret
      exact ⟨(by rw [HP.out] <;> rfl), fun hv_ => (by rw [HP.out] at hv_; have hd_ := dec_nat (l := v) (by rw [HNV.out]; exact of_decide_eq_true hv_); rw [HC.out, hd_, HNV.out]; exact ⟨Fx, nf, cf, Ox, nx, cx, hrd, sF, sO, fun _ _ h_ => h_, fun _ _ h_ => h_⟩), kp⟩
    rcases (by decide : ∀ b : Bool, b = true ∨ b = false) (s == [108, 111, 119]) with b12 | b12
    rotate_left
    · exfalso
      rcases known_cases hk with h_ | h_ | h_ | h_ | h_ | h_ | h_ | h_ | h_ | h_ | h_ | h_ | h_
      · rw [b0] at h_; cases h_
      · rw [b1] at h_; cases h_
      · rw [b2] at h_; cases h_
      · rw [b3] at h_; cases h_
      · rw [b4] at h_; cases h_
      · rw [b5] at h_; cases h_
      · rw [b6] at h_; cases h_
      · rw [b7] at h_; cases h_
      · rw [b8] at h_; cases h_
      · rw [b9] at h_; cases h_
      · rw [b10] at h_; cases h_
      · rw [b11] at h_; cases h_
      · rw [b12] at h_; cases h_
    have HPI : Hid (posI names5 s = 4) := Lib.hid (by rw [eq_of_beq b12]; decide)
    obtain ⟨nv, hnv_⟩ : ∃ k, numI v 999999999 = k := ⟨_, rfl⟩
    have HNV := Lib.hid hnv_
    have rnv := numI_range v 999999999
    rw [hnv_] at rnv
    obtain ⟨qnv, unv⟩ : (-1 : Int) ≤ nv ∧ nv ≤ 999999999 := by omega
    clear hnv_ rnv
    have HP : Hid (valOk s v = decide ((0 : Int) ≤ nv)) := Lib.hid (by rw [eq_of_beq b12, ← HNV.out]; rfl)
    have HC : Hid (valC c s v = { c with low := decV v }) := Lib.hid (by rw [eq_of_beq b12]; kernel_rfl)
    go_wp2_with fail
    with_reducible refine (rnumber_l v _ hlen).mono ?_
    rintro e _ ⟨rfl, rfl⟩
    rw [HNV.out]
    go_wp2_with fail
    with_reducible refine (number_any' s _).mono ?_
    rintro e w1 ⟨rfl, b1⟩
    replace hrd := blk_u hrd b1
    replace sF := sF.below b1
    replace sO := sO.below b1
    replace kp := kp_below kp b1
    replace bel := bel.trans (b1.mono (Nat.le_trans hlo bel.size))
    clear b1
    rw [HPI.out]
    go_wp2_with (first | ((with_reducible show wpList _ _ _ (⟨none, Op.store _ (.tmp 246) _, _, _, _, _⟩ :: _) _ _); refine wpList_store_part rfl 3 (.tmp 246) (.tmp 244) rfl gr 37 rfl [.int .i64 nv] rfl (cfl c Fx nf cf Ox nx cx) 40 hrd (by simp) [.int .u8 (c.own.a.toNat : Int), .int .u8 (c.own.b.toNat : Int), .int .u8 (c.own.c.toNat : Int), .int .u8 (c.own.d.toNat : Int), .int .u8 (c.lan.a.toNat : Int), .int .u8 (c.lan.b.toNat : Int), .int .u8 (c.lan.c.toNat : Int), .int .u8 (c.lan.d.toNat : Int), .int .i64 c.bits, .int .u8 (c.lanmac.a.toNat : Int), .int .u8 (c.lanmac.b.toNat : Int), .int .u8 (c.lanmac.c.toNat : Int), .int .u8 (c.lanmac.d.toNat : Int), .int .u8 (c.lanmac.e.toNat : Int), .int .u8 (c.lanmac.f.toNat : Int), .int .u8 (c.wanmac.a.toNat : Int), .int .u8 (c.wanmac.b.toNat : Int), .int .u8 (c.wanmac.c.toNat : Int), .int .u8 (c.wanmac.d.toNat : Int), .int .u8 (c.wanmac.e.toNat : Int), .int .u8 (c.wanmac.f.toNat : Int), .int .u8 (c.first.a.toNat : Int), .int .u8 (c.first.b.toNat : Int), .int .u8 (c.first.c.toNat : Int), .int .u8 (c.first.d.toNat : Int), .int .u8 (c.last.a.toNat : Int), .int .u8 (c.last.b.toNat : Int), .int .u8 (c.last.c.toNat : Int), .int .u8 (c.last.d.toNat : Int), .int .i64 c.time, .int .u8 (c.dns.a.toNat : Int), .int .u8 (c.dns.b.toNat : Int), .int .u8 (c.dns.c.toNat : Int), .int .u8 (c.dns.d.toNat : Int), .int .i64 c.udp, .int .i64 c.tcp, .int .i64 c.icmp, .int .i64 nv, .slice Fx nf cf, .slice Ox nx cx] rfl (by kernel_rfl) (by rfl) ?_; intro w2 hq gr; replace sF := sF.away av_sF_rd gr; replace sO := sO.away av_sO_rd gr; replace kp := kp.trans gr; replace bel := below_grown bel gr ord (Nat.le_trans hlo bel.size); clear hrd; have hrd := hq; clear hq gr))
    go_ret
    exact ⟨(by rw [HP.out] <;> rfl), fun hv_ => (by rw [HP.out] at hv_; have hd_ := dec_nat (l := v) (by rw [HNV.out]; exact of_decide_eq_true hv_); rw [HC.out, hd_, HNV.out]; exact ⟨Fx, nf, cf, Ox, nx, cx, hrd, sF, sO, fun _ _ h_ => h_, fun _ _ h_ => h_⟩), kp⟩
  go_wp2_with fail
  with_reducible refine (words_any v _ hlen).mono ?_
  rintro e w1 ⟨v_, rfl, wtw, b1⟩
  have p_wt := kp.size
  have y_wt_rd := Lib.hid (hlt hrd)
  have bl_sF_wt := sF.bl_new
  have bl_sO_wt := sO.bl_new
  have wtlo := (Nat.le_trans hlo bel.size)
  have lz_wt := b1.size
  replace hrd := blk_u hrd b1
  replace sF := sF.below b1
  replace sO := sO.below b1
  replace kp := kp_below kp b1
  replace bel := bel.trans (b1.mono (Nat.le_trans hlo bel.size))
  clear b1
  obtain ⟨Awt, cwt, rfl⟩ := owk_val wtw
  have wt := (owk_sle (by decide) stf_len wtw).1
  have fr_wt := (owk_sle (by decide) stf_len wtw).2
  have av_wt_rd := fr_wt.av y_wt_rd.out
  obtain ⟨ws, hws⟩ : ∃ ws, wordsL v = ws := ⟨_, rfl⟩
  obtain ⟨n, hn⟩ : ∃ n, ws.length = n := ⟨_, rfl⟩
  rw [hws, hn] at wt wtw fr_wt av_wt_rd
  rw [hws, hn]
  have HWS := Lib.hid hws
  have HNN := Lib.hid hn
  have n0 : (0 : Int) ≤ n := by omega
  clear hws hn
  clear wtw lz_wt
  by_cases h1 : n = 4
  rotate_left
  · have h1k : ((n : Int) == 4) = false := beq_eq_false_iff_ne.2 (by omega)
    have h1j : ((n : Int) != 4) = true := by rw [bne, h1k]; rfl
    have HP : Hid (valOk s v = false) := Lib.hid (by rw [eq_of_beq b7]; exact openE_no (by rw [HWS.out, HNN.out]; exact h1))
    go_wp2_with fail
    go_ret
    exact ⟨(by rw [HP.out] <;> rfl), fun hv_ => (by rw [HP.out] at hv_; cases hv_), kp⟩
  obtain ⟨x, y, z, u, hxy⟩ := list_four (show ws.length = 4 by rw [HNN.out]; exact h1)
  have HX0 : Hid (ws[0]? = some x) := Lib.hid (by rw [hxy]; rfl)
  have HL0 : Hid (x.length ≤ 100000) := Lib.hid (word_len (j := 0) hlen (by rw [HWS.out, hxy]; rfl))
  have HX1 : Hid (ws[1]? = some y) := Lib.hid (by rw [hxy]; rfl)
  have HL1 : Hid (y.length ≤ 100000) := Lib.hid (word_len (j := 1) hlen (by rw [HWS.out, hxy]; rfl))
  have HX2 : Hid (ws[2]? = some z) := Lib.hid (by rw [hxy]; rfl)
  have HL2 : Hid (z.length ≤ 100000) := Lib.hid (word_len (j := 2) hlen (by rw [HWS.out, hxy]; rfl))
  have HX3 : Hid (ws[3]? = some u) := Lib.hid (by rw [hxy]; rfl)
  have HL3 : Hid (u.length ≤ 100000) := Lib.hid (word_len (j := 3) hlen (by rw [HWS.out, hxy]; rfl))
  have HWX := Lib.hid (HWS.out.trans hxy)
  obtain ⟨gW, oW, rfl⟩ := wt.place (by omega)
  have h1k : ((n : Int) == 4) = true := beq_iff_eq.2 (by omega)
  have h1j : ((n : Int) != 4) = false := by rw [bne, h1k]; rfl
  have i0 : (0 : Int) < n := by omega
  have i1 : (1 : Int) < n := by omega
  have i2 : (2 : Int) < n := by omega
  have i3 : (3 : Int) < n := by omega
  clear hxy
  obtain ⟨ny, hny_⟩ : ∃ k, numI y 999999999 = k := ⟨_, rfl⟩
  have HNY := Lib.hid hny_
  have rny := numI_range y 999999999
  rw [hny_] at rny
  obtain ⟨qny, uny⟩ : (-1 : Int) ≤ ny ∧ ny ≤ 999999999 := by omega
  clear hny_ rny
  obtain ⟨nu, hnu_⟩ : ∃ k, numI u 999999999 = k := ⟨_, rfl⟩
  have HNU := Lib.hid hnu_
  have rnu := numI_range u 999999999
  rw [hnu_] at rnu
  obtain ⟨qnu, unu⟩ : (-1 : Int) ≤ nu ∧ nu ≤ 999999999 := by omega
  clear hnu_ rnu
  obtain ⟨bp, HBP_⟩ : ∃ b, p4ok z = b := ⟨_, rfl⟩
  have HBP := Lib.hid HBP_
  clear HBP_
  have HVK : Hid (valOk s v = ((protoK x).isSome && (decide ((0 : Int) ≤ ny) && (bp && decide ((0 : Int) ≤ nu))))) := Lib.hid (by rw [eq_of_beq b7, ← HBP.out, ← HNY.out, ← HNU.out]; show openE v = _; unfold openE; rw [HWX.out]; rfl)
  have HVC : Hid (valC c s v = { c with opens := c.opens ++ [((protoK x).getD 0, decV y, p4 z, decV u)] }) := Lib.hid (by rw [eq_of_beq b7]; show c.addO v = _; unfold Cf.addO; rw [HWX.out])
  go_upto_region 40 with fail
  go_cut [166] from 9999 (fun s166 W => ∃ bx : Bool, ∃ p : Int, ∃ bt : Bool, s166 = .bool bx ∧ Hid ((bx = true → protoK x = none) ∧ (bx = false → protoK x = some p ∧ (x == [116, 99, 112]) = bt ∧ p = (if bt = true then 6 else 17))) ∧ W.heap[gr]? = some (.cells (cfl c Fx nf cf Ox nx cx).toArray 40 (0, 0)) ∧ Sle fxf 10 W (Fx) (nf) (cf) (c.fixed) ∧ Sle opf 7 W (Ox) (nx) (cx) (c.opens) ∧ Sle stf 1 W (some ⟨gW, oW, none⟩) (n) (cwt) (ws) ∧ w.grownBy W (some gr) ∧ Below lo w W)
  case first =>
    rcases (by decide : ∀ b : Bool, b = true ∨ b = false) (x == [117, 100, 112]) with bu | bu
    · have bu_ : (x != [117, 100, 112]) = false := by rw [bne, bu]; rfl
      have bt : (x == [116, 99, 112]) = false := by rw [eq_of_beq bu]; decide
      have bt_ : (x != [116, 99, 112]) = true := by rw [bne, bt]; rfl
      have HPR : Hid (protoK x = some 17) := Lib.hid (by rw [eq_of_beq bu]; rfl)
      have R158 := (by have h_ := Sle.st (i := 0) wt HX0.out; rw [Nat.add_zero] at h_; exact h_)
      go_wp2_with fail
      clear R158
      go_meet
      case rel => exact ⟨false, 17, false, rfl, Lib.hid ⟨fun h => (by cases h), fun _ => ⟨HPR.out, bt, rfl⟩⟩, hrd, sF, sO, wt, kp, bel⟩
    have bu_ : (x != [117, 100, 112]) = true := by rw [bne, bu]; rfl
    rcases (by decide : ∀ b : Bool, b = true ∨ b = false) (x == [116, 99, 112]) with bt | bt
    · have bt_ : (x != [116, 99, 112]) = false := by rw [bne, bt]; rfl
      have HPR : Hid (protoK x = some 6) := Lib.hid (by rw [eq_of_beq bt]; rfl)
      have R158 := (by have h_ := Sle.st (i := 0) wt HX0.out; rw [Nat.add_zero] at h_; exact h_)
      have R163 := (by have h_ := Sle.st (i := 0) wt HX0.out; rw [Nat.add_zero] at h_; exact h_)
      go_wp2_with fail
      clear R158 R163
      go_meet
      case rel => exact ⟨false, 6, true, rfl, Lib.hid ⟨fun h => (by cases h), fun _ => ⟨HPR.out, bt, rfl⟩⟩, hrd, sF, sO, wt, kp, bel⟩
    have bt_ : (x != [116, 99, 112]) = true := by rw [bne, bt]; rfl
    have HPN : Hid (protoK x = none) := Lib.hid (by unfold protoK; rw [if_neg (by rw [bu]; decide), if_neg (by rw [bt]; decide)])
    have R158 := (by have h_ := Sle.st (i := 0) wt HX0.out; rw [Nat.add_zero] at h_; exact h_)
    have R163 := (by have h_ := Sle.st (i := 0) wt HX0.out; rw [Nat.add_zero] at h_; exact h_)
    go_wp2_with fail
    clear R158 R163
    go_meet
    case rel => exact ⟨true, 0, false, rfl, Lib.hid ⟨fun _ => HPN.out, fun h => (by cases h)⟩, hrd, sF, sO, wt, kp, bel⟩
  clear hrd sF sO wt kp bel
  obtain ⟨w53, hw_⟩ : ∃ x, x = wc := ⟨_, rfl⟩
  subst hw_
  obtain ⟨bx, p, bt, rfl, HQ, hrd, sF, sO, wt, kp, bel⟩ := hcut
  rcases bx with _ | _
  rotate_left
  · have HP : Hid (valOk s v = false) := Lib.hid (by rw [HVK.out, HQ.out.1 rfl]; rfl)
    go_wp2_with fail
    go_ret
    exact ⟨(by rw [HP.out] <;> rfl), fun hv_ => (by rw [HP.out] at hv_; cases hv_), kp⟩
  obtain ⟨h1_, h2_, h3_⟩ := HQ.out.2 rfl
  have HPR := Lib.hid h1_
  have HBT := Lib.hid h2_
  have HPB := Lib.hid h3_
  have e179 := h2_
  clear h1_ h2_ h3_ HQ
  go_wp2_with fail
  go_cut [21] from 9999 (fun s21 W => ∃ g21 : Nat, s21 = .pointer (some ⟨g21, 0, none⟩) ∧ W.heap[gr]? = some (.cells (cfl c Fx nf cf Ox nx cx).toArray 40 (0, 0)) ∧ W.heap[g21]? = some (.cells #[.int .i64 17, .int .i64 ny, .int .u8 0, .int .u8 0, .int .u8 0, .int .u8 0, .int .i64 nu] 71 (0, 0)) ∧ lo ≤ g21 ∧ w.heap.size ≤ g21 ∧ Hid (g21 ≠ gr) ∧ Sle fxf 10 W (Fx) (nf) (cf) (c.fixed) ∧ Av (Fx) (nf) g21 ∧ Av (Fx) (nf) gr ∧ Sle opf 7 W (Ox) (nx) (cx) (c.opens) ∧ Av (Ox) (nx) g21 ∧ Av (Ox) (nx) gr ∧ Sle stf 1 W (some ⟨gW, oW, none⟩) (n) (cwt) (ws) ∧ Av (some ⟨gW, oW, none⟩) (n) g21 ∧ Av (some ⟨gW, oW, none⟩) (n) gr ∧ w.grownBy W (some gr) ∧ Below lo w W)
  case first =>
    replace bel := bel.drew
    replace hrd : w53.drew.heap[gr]? = _ := hrd
    replace sF := sF.drew
    replace sO := sO.drew
    replace wt := wt.drew
    replace kp := kp_drew kp
    refine wp_region_held_drew (S := fun W => Sle stf 1 W (some ⟨gW, oW, none⟩) (n) (cwt) (ws)) (by kernel_rfl) wt (fun hH => ?_)
    generalize w53.drew = w54 at bel hrd sF sO wt kp hH ⊢
    refine wpAnyH_take (i := 0) (v := ?_) rfl (by kernel_rfl) (by kernel_rfl) (by kernel_rfl) (fun _ _ _ h => h) (Or.inl ⟨by rfl, ?_⟩) hH ?_
    rotate_left
    · ((intro W hW; clear hW; go_simp) <;> with_reducible rfl)
    simp only [Act.put, List.getElem_toArray, List.getElem_cons_zero, List.setIfInBounds_toArray, List.set_cons_zero, List.set_cons_succ]
    refine wpAnyH_take (i := 1) (v := ?_) rfl (by kernel_rfl) (by kernel_rfl) (by kernel_rfl) (fun _ _ _ h => h) (Or.inl ⟨by rfl, ?_⟩) hH ?_
    rotate_left
    · ((intro W hW; clear hW; go_simp) <;> with_reducible rfl)
    simp only [sq3, sq4]
    refine wpAnyH_take (i := 2) (v := ?_) rfl (by kernel_rfl) (by kernel_rfl) (by kernel_rfl) (fun _ _ _ h => h) (Or.inl ⟨by rfl, ?_⟩) hH ?_
    rotate_left
    · ((intro W hW; have hk := Sle.st (i := 1) (hW) HX1.out; clear hW; go_simp) <;> with_reducible rfl)
    simp only [sq3, sq4]
    refine wpAnyH_take (i := 4) (v := ?_) rfl (by kernel_rfl) (by kernel_rfl) (by kernel_rfl) (fun _ _ _ h => h) (Or.inl ⟨by rfl, ?_⟩) hH ?_
    rotate_left
    · ((intro W hW; clear hW; go_simp) <;> with_reducible rfl)
    simp only [sq3, sq4]
    refine wpAnyH_take (i := 5) (v := ?_) rfl (by kernel_rfl) (by kernel_rfl) (by kernel_rfl) (fun _ _ _ h => h) (Or.inl ⟨by rfl, ?_⟩) hH ?_
    rotate_left
    · ((intro W hW; clear hW; go_simp) <;> with_reducible rfl)
    simp only [sq3, sq4]
    refine wpAnyH_take (i := 6) (v := ?_) rfl (by kernel_rfl) (by kernel_rfl) (by kernel_rfl) (fun _ _ _ h => h) (Or.inl ⟨by rfl, ?_⟩) hH ?_
    rotate_left
    · ((intro W hW; have hk := Sle.st (i := 3) (hW) HX3.out; clear hW; go_simp) <;> with_reducible rfl)
    simp only [sq3, sq4]
    refine wpAnyH_ready (rs := [3, 9]) (by kernel_rfl) (by simp) ?_
    refine AllReadyH.cons (o := _) rfl (fun K hK => ?_) (AllReadyH.cons (o := _) rfl (fun K hK => ?_) AllReadyH.nil)
    rotate_left
    · simp only [sq3]
      rw [if_pos (by rfl)]
      refine wp_new_a 71 rfl #[.int .i64 0, .int .i64 0, .int .u8 0, .int .u8 0, .int .u8 0, .int .u8 0, .int .i64 0] (by kernel_rfl) ?_
      intro g21 w55 ge hh bb
      have d_rd_ob := ne_new (hlt hrd) ge
      have av_sF_ob := sF.av_new ge
      have av_sO_ob := sO.av_new ge
      have av_wt_ob := wt.av_new ge
      have oob := Nat.le_trans (Nat.le_trans hlo bel.size) ge
      have pob := Nat.le_trans kp.size ge
      replace hrd := blk_u hrd bb
      replace sF := sF.below bb
      replace sO := sO.below bb
      replace wt := wt.below bb
      replace kp := kp_below kp bb
      replace bel := bel.trans (bb.mono (Nat.le_trans hlo bel.size))
      have hob := hh
      clear hh ge bb
      refine hK.out _ _ wt (fun hH56 => ?_)
      clear hK K
      simp only [sq4]
      refine wpAnyH_ready (rs := [3]) (by kernel_rfl) (by simp) ?_
      refine AllReadyH.cons (o := _) rfl (fun K hK => ?_) AllReadyH.nil
      simp only [sq3]
      go_simp
      with_reducible refine (rnumber_l y _ HL1.out).mono ?_
      rintro e _ ⟨rfl, rfl⟩
      dsimp only
      rw [HNY.out]
      refine hK.out _ _ wt (fun hH57 => ?_)
      clear hK K
      refine wpAnyH_ready (rs := [7]) (by kernel_rfl) (by simp) ?_
      refine AllReadyH.cons (o := _) rfl (fun K hK => ?_) AllReadyH.nil
      simp only [sq3]
      go_simp
      with_reducible refine (rnumber_l u _ HL3.out).mono ?_
      rintro e _ ⟨rfl, rfl⟩
      dsimp only
      rw [HNU.out]
      refine hK.out _ _ wt (fun hH58 => ?_)
      clear hK K
      refine wpAnyH_take (i := 8) (v := ?_) rfl (by kernel_rfl) (by kernel_rfl) (by kernel_rfl) (fun _ _ _ h => h) (Or.inl ⟨by rfl, ?_⟩) hH58 ?_
      rotate_left
      · ((intro W hW; clear hW; go_simp) <;> with_reducible rfl)
      simp only [sq3, sq4]
      refine wpAnyH_ready (rs := [10]) (by kernel_rfl) (by simp) ?_
      refine AllReadyH.cons (o := _) rfl (fun K hK => ?_) AllReadyH.nil
      simp only [sq3]
      rw [if_pos (by rfl)]
      refine wp_store_blk 71 (.tmp 21) (.tmp 175) rfl g21 rfl _ rfl _ 71 hob (by rfl) (by kernel_rfl) (by kernel_rfl) ?_
      intro w59 hq gr
      replace sF := sF.away av_sF_ob gr
      replace sO := sO.away av_sO_ob gr
      replace wt := wt.away av_wt_ob gr
      replace hrd := blk_a hrd gr d_rd_ob
      replace kp := kp_new kp gr pob
      replace bel := below_grown bel gr oob (Nat.le_trans hlo bel.size)
      clear hob
      have hob := hq
      clear hq gr
      refine hK.out _ _ wt (fun hH60 => ?_)
      clear hK K
      simp only [Act.put]
      refine wpAnyH_done (by kernel_rfl) ?_ _
      go_wp2_with fail
      go_meet
      case rel => exact ⟨g21, rfl, hrd, hob, oob, pob, (ne_symm d_rd_ob), sF, av_sF_ob, av_sF_rd, sO, av_sO_ob, av_sO_rd, wt, av_wt_ob, av_wt_rd, kp, bel⟩
    simp only [sq3]
    go_simp
    with_reducible refine (rnumber_l y _ HL1.out).mono ?_
    rintro e _ ⟨rfl, rfl⟩
    dsimp only
    rw [HNY.out]
    refine hK.out _ _ wt (fun hH55 => ?_)
    clear hK K
    refine wpAnyH_ready (rs := [7, 9]) (by kernel_rfl) (by simp) ?_
    refine AllReadyH.cons (o := _) rfl (fun K hK => ?_) (AllReadyH.cons (o := _) rfl (fun K hK => ?_) AllReadyH.nil)
    rotate_left
    · simp only [sq3]
      rw [if_pos (by rfl)]
      refine wp_new_a 71 rfl #[.int .i64 0, .int .i64 0, .int .u8 0, .int .u8 0, .int .u8 0, .int .u8 0, .int .i64 0] (by kernel_rfl) ?_
      intro g21 w56 ge hh bb
      have d_rd_ob := ne_new (hlt hrd) ge
      have av_sF_ob := sF.av_new ge
      have av_sO_ob := sO.av_new ge
      have av_wt_ob := wt.av_new ge
      have oob := Nat.le_trans (Nat.le_trans hlo bel.size) ge
      have pob := Nat.le_trans kp.size ge
      replace hrd := blk_u hrd bb
      replace sF := sF.below bb
      replace sO := sO.below bb
      replace wt := wt.below bb
      replace kp := kp_below kp bb
      replace bel := bel.trans (bb.mono (Nat.le_trans hlo bel.size))
      have hob := hh
      clear hh ge bb
      refine hK.out _ _ wt (fun hH57 => ?_)
      clear hK K
      simp only [sq4]
      refine wpAnyH_ready (rs := [7]) (by kernel_rfl) (by simp) ?_
      refine AllReadyH.cons (o := _) rfl (fun K hK => ?_) AllReadyH.nil
      simp only [sq3]
      go_simp
      with_reducible refine (rnumber_l u _ HL3.out).mono ?_
      rintro e _ ⟨rfl, rfl⟩
      dsimp only
      rw [HNU.out]
      refine hK.out _ _ wt (fun hH58 => ?_)
      clear hK K
      refine wpAnyH_take (i := 8) (v := ?_) rfl (by kernel_rfl) (by kernel_rfl) (by kernel_rfl) (fun _ _ _ h => h) (Or.inl ⟨by rfl, ?_⟩) hH58 ?_
      rotate_left
      · ((intro W hW; clear hW; go_simp) <;> with_reducible rfl)
      simp only [sq3, sq4]
      refine wpAnyH_ready (rs := [10]) (by kernel_rfl) (by simp) ?_
      refine AllReadyH.cons (o := _) rfl (fun K hK => ?_) AllReadyH.nil
      simp only [sq3]
      rw [if_pos (by rfl)]
      refine wp_store_blk 71 (.tmp 21) (.tmp 175) rfl g21 rfl _ rfl _ 71 hob (by rfl) (by kernel_rfl) (by kernel_rfl) ?_
      intro w59 hq gr
      replace sF := sF.away av_sF_ob gr
      replace sO := sO.away av_sO_ob gr
      replace wt := wt.away av_wt_ob gr
      replace hrd := blk_a hrd gr d_rd_ob
      replace kp := kp_new kp gr pob
      replace bel := below_grown bel gr oob (Nat.le_trans hlo bel.size)
      clear hob
      have hob := hq
      clear hq gr
      refine hK.out _ _ wt (fun hH60 => ?_)
      clear hK K
      simp only [Act.put]
      refine wpAnyH_done (by kernel_rfl) ?_ _
      go_wp2_with fail
      go_meet
      case rel => exact ⟨g21, rfl, hrd, hob, oob, pob, (ne_symm d_rd_ob), sF, av_sF_ob, av_sF_rd, sO, av_sO_ob, av_sO_rd, wt, av_wt_ob, av_wt_rd, kp, bel⟩
    simp only [sq3]
    go_simp
    with_reducible refine (rnumber_l u _ HL3.out).mono ?_
    rintro e _ ⟨rfl, rfl⟩
    dsimp only
    rw [HNU.out]
    refine hK.out _ _ wt (fun hH56 => ?_)
    clear hK K
    refine wpAnyH_take (i := 8) (v := ?_) rfl (by kernel_rfl) (by kernel_rfl) (by kernel_rfl) (fun _ _ _ h => h) (Or.inl ⟨by rfl, ?_⟩) hH56 ?_
    rotate_left
    · ((intro W hW; clear hW; go_simp) <;> with_reducible rfl)
    simp only [sq3, sq4]
    refine wpAnyH_ready (rs := [9]) (by kernel_rfl) (by simp) ?_
    refine AllReadyH.cons (o := _) rfl (fun K hK => ?_) AllReadyH.nil
    simp only [sq3]
    rw [if_pos (by rfl)]
    refine wp_new_a 71 rfl #[.int .i64 0, .int .i64 0, .int .u8 0, .int .u8 0, .int .u8 0, .int .u8 0, .int .i64 0] (by kernel_rfl) ?_
    intro g21 w57 ge hh bb
    have d_rd_ob := ne_new (hlt hrd) ge
    have av_sF_ob := sF.av_new ge
    have av_sO_ob := sO.av_new ge
    have av_wt_ob := wt.av_new ge
    have oob := Nat.le_trans (Nat.le_trans hlo bel.size) ge
    have pob := Nat.le_trans kp.size ge
    replace hrd := blk_u hrd bb
    replace sF := sF.below bb
    replace sO := sO.below bb
    replace wt := wt.below bb
    replace kp := kp_below kp bb
    replace bel := bel.trans (bb.mono (Nat.le_trans hlo bel.size))
    have hob := hh
    clear hh ge bb
    refine hK.out _ _ wt (fun hH58 => ?_)
    clear hK K
    simp only [sq4]
    refine wpAnyH_ready (rs := [10]) (by kernel_rfl) (by simp) ?_
    refine AllReadyH.cons (o := _) rfl (fun K hK => ?_) AllReadyH.nil
    simp only [sq3]
    rw [if_pos (by rfl)]
    refine wp_store_blk 71 (.tmp 21) (.tmp 175) rfl g21 rfl _ rfl _ 71 hob (by rfl) (by kernel_rfl) (by kernel_rfl) ?_
    intro w59 hq gr
    replace sF := sF.away av_sF_ob gr
    replace sO := sO.away av_sO_ob gr
    replace wt := wt.away av_wt_ob gr
    replace hrd := blk_a hrd gr d_rd_ob
    replace kp := kp_new kp gr pob
    replace bel := below_grown bel gr oob (Nat.le_trans hlo bel.size)
    clear hob
    have hob := hq
    clear hq gr
    refine hK.out _ _ wt (fun hH60 => ?_)
    clear hK K
    simp only [Act.put]
    refine wpAnyH_done (by kernel_rfl) ?_ _
    go_wp2_with fail
    go_meet
    case rel => exact ⟨g21, rfl, hrd, hob, oob, pob, (ne_symm d_rd_ob), sF, av_sF_ob, av_sF_rd, sO, av_sO_ob, av_sO_rd, wt, av_wt_ob, av_wt_rd, kp, bel⟩
  obtain ⟨w61, hw_⟩ : ∃ x, x = wc := ⟨_, rfl⟩
  subst hw_
  obtain ⟨g21, rfl, hrd, hob, oob, pob, d_ob_rd, sF, av_sF_ob, av_sF_rd, sO, av_sO_ob, av_sO_rd, wt, av_wt_ob, av_wt_rd, kp, bel⟩ := hcut
  have R178 := (by have h_ := Sle.st (i := 0) wt HX0.out; rw [Nat.add_zero] at h_; exact h_)
  go_upto_if 179 with fail
  clear R178
  go_cut [] from 179 to 179 (fun W => W.heap[gr]? = some (.cells (cfl c Fx nf cf Ox nx cx).toArray 40 (0, 0)) ∧ W.heap[g21]? = some (.cells #[.int .i64 p, .int .i64 ny, .int .u8 0, .int .u8 0, .int .u8 0, .int .u8 0, .int .i64 nu] 71 (0, 0)) ∧ Sle fxf 10 W (Fx) (nf) (cf) (c.fixed) ∧ Sle opf 7 W (Ox) (nx) (cx) (c.opens) ∧ Sle stf 1 W (some ⟨gW, oW, none⟩) (n) (cwt) (ws) ∧ w.grownBy W (some gr) ∧ Below lo w W)
  case first =>
    rcases bt with _ | _
    · obtain rfl : p = 17 := HPB.out
      go_wp2_with fail
      go_meet
      case rel => exact ⟨hrd, hob, sF, sO, wt, kp, bel⟩
    obtain rfl : p = 6 := HPB.out
    go_wp2_with (first | ((with_reducible show wpList _ _ _ (⟨none, Op.store _ (.tmp 180) _, _, _, _, _⟩ :: _) _ _); refine wpList_store_part rfl 3 (.tmp 180) (.const (.int .i64 6)) rfl g21 0 rfl [.int .i64 6] rfl [.int .i64 17, .int .i64 ny, .int .u8 0, .int .u8 0, .int .u8 0, .int .u8 0, .int .i64 nu] 71 hob (by simp) [.int .i64 6, .int .i64 ny, .int .u8 0, .int .u8 0, .int .u8 0, .int .u8 0, .int .i64 nu] rfl (by kernel_rfl) (by rfl) ?_; intro w62 hq gr; replace sF := sF.away av_sF_ob gr; replace sO := sO.away av_sO_ob gr; replace wt := wt.away av_wt_ob gr; replace hrd := blk_a hrd gr (ne_symm d_ob_rd); replace kp := kp_new kp gr pob; replace bel := below_grown bel gr oob (Nat.le_trans hlo bel.size); clear hob; have hob := hq; clear hq gr))
    go_meet
    case rel => exact ⟨hrd, hob, sF, sO, wt, kp, bel⟩
  clear hrd hob sF sO wt kp bel
  obtain ⟨w112, hw_⟩ : ∃ x, x = wc := ⟨_, rfl⟩
  subst hw_
  obtain ⟨hrd, hob, sF, sO, wt, kp, bel⟩ := hcut
  have R184 := Sle.st (i := 2) wt HX2.out
  go_wp2_with fail
  clear R184
  with_reducible refine (rparse_l z _ HL2.out).mono ?_
  rintro e w113 ⟨rfl, b113⟩
  replace hrd := blk_u hrd b113
  replace hob := blk_u hob b113
  replace sF := sF.below b113
  replace sO := sO.below b113
  replace wt := wt.below b113
  replace kp := kp_below kp b113
  replace bel := bel.trans (b113.mono (Nat.le_trans hlo bel.size))
  clear b113
  rw [HBP.out]
  go_wp2_with (first | ((with_reducible show wpList _ _ _ (⟨some 22, _, _, _, _, _⟩ :: _) _ _); refine wpList_new_a rfl 24 rfl #[.int .u8 0, .int .u8 0, .int .u8 0, .int .u8 0] (by kernel_rfl) ?_; intro g22 w114 ge hh bb; have d_rd_ac := ne_new (hlt hrd) ge; have d_ob_ac := ne_new (hlt hob) ge; have av_sF_ac := sF.av_new ge; have av_sO_ac := sO.av_new ge; have av_wt_ac := wt.av_new ge; have oac := Nat.le_trans (Nat.le_trans hlo bel.size) ge; have pac := Nat.le_trans kp.size ge; replace hrd := blk_u hrd bb; replace hob := blk_u hob bb; replace sF := sF.below bb; replace sO := sO.below bb; replace wt := wt.below bb; replace kp := kp_below kp bb; replace bel := bel.trans (bb.mono (Nat.le_trans hlo bel.size)); have hac := hh; clear hh ge bb) | ((with_reducible show wpList _ _ _ (⟨none, Op.store _ (.tmp 22) _, _, _, _, _⟩ :: _) _ _); refine wpList_store_blk rfl 24 (.tmp 22) (.tmp 186) rfl g22 rfl _ rfl _ 24 hac (by rfl) (by kernel_rfl) (by kernel_rfl) ?_; intro w115 hq gr; replace sF := sF.away av_sF_ac gr; replace sO := sO.away av_sO_ac gr; replace wt := wt.away av_wt_ac gr; replace hrd := blk_a hrd gr d_rd_ac; replace hob := blk_a hob gr d_ob_ac; replace kp := kp_new kp gr pac; replace bel := below_grown bel gr oac (Nat.le_trans hlo bel.size); clear hac; have hac := hq; clear hq gr; have R188 := Lib.hid (range_lit hac 0 4 [.int .u8 ((p4 z).a.toNat : Int), .int .u8 ((p4 z).b.toNat : Int), .int .u8 ((p4 z).c.toNat : Int), .int .u8 ((p4 z).d.toNat : Int)] rfl)) | ((with_reducible show wpList _ _ _ (⟨some 188, _, _, _, _, _⟩ :: _) _ _); refine wpList_load_rng 24 (.tmp 22) rfl (by kernel_rfl) _ _ rfl _ R188.out _ Try.underlying24 rfl (by kernel_rfl) ?_) | ((with_reducible show wpList _ _ _ (⟨none, Op.store _ (.tmp 189) _, _, _, _, _⟩ :: _) _ _); refine wpList_store_part rfl 24 (.tmp 189) (.tmp 188) rfl g21 2 rfl [.int .u8 ((p4 z).a.toNat : Int), .int .u8 ((p4 z).b.toNat : Int), .int .u8 ((p4 z).c.toNat : Int), .int .u8 ((p4 z).d.toNat : Int)] rfl [.int .i64 p, .int .i64 ny, .int .u8 0, .int .u8 0, .int .u8 0, .int .u8 0, .int .i64 nu] 71 hob (by simp) [.int .i64 p, .int .i64 ny, .int .u8 ((p4 z).a.toNat : Int), .int .u8 ((p4 z).b.toNat : Int), .int .u8 ((p4 z).c.toNat : Int), .int .u8 ((p4 z).d.toNat : Int), .int .i64 nu] rfl (by kernel_rfl) (by rfl) ?_; intro w116 hq gr; replace sF := sF.away av_sF_ob gr; replace sO := sO.away av_sO_ob gr; replace wt := wt.away av_wt_ob gr; replace hrd := blk_a hrd gr (ne_symm d_ob_rd); replace hac := blk_a hac gr (ne_symm d_ob_ac); replace kp := kp_new kp gr pob; replace bel := below_grown bel gr oob (Nat.le_trans hlo bel.size); clear hob; have hob := hq; clear hq gr))
  try clear R188
  simp only [sq4]
  go_cut [] from 9999 (fun W => ∃ A199 : Option Addr, ∃ c199 : Nat, W.heap[gr]? = some (.cells #[.int .u8 (c.own.a.toNat : Int), .int .u8 (c.own.b.toNat : Int), .int .u8 (c.own.c.toNat : Int), .int .u8 (c.own.d.toNat : Int), .int .u8 (c.lan.a.toNat : Int), .int .u8 (c.lan.b.toNat : Int), .int .u8 (c.lan.c.toNat : Int), .int .u8 (c.lan.d.toNat : Int), .int .i64 c.bits, .int .u8 (c.lanmac.a.toNat : Int), .int .u8 (c.lanmac.b.toNat : Int), .int .u8 (c.lanmac.c.toNat : Int), .int .u8 (c.lanmac.d.toNat : Int), .int .u8 (c.lanmac.e.toNat : Int), .int .u8 (c.lanmac.f.toNat : Int), .int .u8 (c.wanmac.a.toNat : Int), .int .u8 (c.wanmac.b.toNat : Int), .int .u8 (c.wanmac.c.toNat : Int), .int .u8 (c.wanmac.d.toNat : Int), .int .u8 (c.wanmac.e.toNat : Int), .int .u8 (c.wanmac.f.toNat : Int), .int .u8 (c.first.a.toNat : Int), .int .u8 (c.first.b.toNat : Int), .int .u8 (c.first.c.toNat : Int), .int .u8 (c.first.d.toNat : Int), .int .u8 (c.last.a.toNat : Int), .int .u8 (c.last.b.toNat : Int), .int .u8 (c.last.c.toNat : Int), .int .u8 (c.last.d.toNat : Int), .int .i64 c.time, .int .u8 (c.dns.a.toNat : Int), .int .u8 (c.dns.b.toNat : Int), .int .u8 (c.dns.c.toNat : Int), .int .u8 (c.dns.d.toNat : Int), .int .i64 c.udp, .int .i64 c.tcp, .int .i64 c.icmp, .int .i64 c.low, .slice Fx nf cf, .slice A199 (nx + 1) c199] 40 (0, 0)) ∧ W.heap[g21]? = some (.cells #[.int .i64 p, .int .i64 ny, .int .u8 ((p4 z).a.toNat : Int), .int .u8 ((p4 z).b.toNat : Int), .int .u8 ((p4 z).c.toNat : Int), .int .u8 ((p4 z).d.toNat : Int), .int .i64 nu] 71 (0, 0)) ∧ W.heap[g22]? = some (.cells #[.int .u8 ((p4 z).a.toNat : Int), .int .u8 ((p4 z).b.toNat : Int), .int .u8 ((p4 z).c.toNat : Int), .int .u8 ((p4 z).d.toNat : Int)] 24 (0, 0)) ∧ Hid (g22 ≠ g21) ∧ Hid (g22 ≠ gr) ∧ Hid (g21 ≠ gr) ∧ Sle fxf 10 W (Fx) (nf) (cf) (c.fixed) ∧ Av (Fx) (nf) g22 ∧ Av (Fx) (nf) g21 ∧ Av (Fx) (nf) gr ∧ Sle opf 7 W (Ox) (nx) (cx) (c.opens) ∧ Av (Ox) (nx) g22 ∧ Av (Ox) (nx) g21 ∧ Av (Ox) (nx) gr ∧ Sle stf 1 W (some ⟨gW, oW, none⟩) (n) (cwt) (ws) ∧ Av (some ⟨gW, oW, none⟩) (n) g22 ∧ Av (some ⟨gW, oW, none⟩) (n) g21 ∧ Av (some ⟨gW, oW, none⟩) (n) gr ∧ Sle opf 7 W (A199) (nx + 1) (c199) (c.opens ++ [(p, ny, p4 z, nu)]) ∧ Av (A199) (nx + 1) g22 ∧ Av (A199) (nx + 1) g21 ∧ Av (A199) (nx + 1) gr ∧ Fr w.heap.size A199 (nx + 1) ∧ w.grownBy W (some gr) ∧ Below lo w W)
  case first =>
    replace bel := bel.drew
    replace hrd : w116.drew.heap[gr]? = _ := hrd
    replace hob : w116.drew.heap[g21]? = _ := hob
    replace hac : w116.drew.heap[g22]? = _ := hac
    replace sF := sF.drew
    replace sO := sO.drew
    replace wt := wt.drew
    replace kp := kp_drew kp
    refine wp_region_held_drew (S := fun W => W.heap[g21]? = some (.cells #[.int .i64 p, .int .i64 ny, .int .u8 ((p4 z).a.toNat : Int), .int .u8 ((p4 z).b.toNat : Int), .int .u8 ((p4 z).c.toNat : Int), .int .u8 ((p4 z).d.toNat : Int), .int .i64 nu] 71 (0, 0))) (by kernel_rfl) hob (fun hH => ?_)
    generalize w116.drew = w117 at bel hrd hob hac sF sO wt kp hH ⊢
    refine wpAnyH_take (i := 0) (v := ?_) rfl (by kernel_rfl) (by kernel_rfl) (by kernel_rfl) (fun _ _ _ h => h) (Or.inl ⟨by rfl, ?_⟩) hH ?_
    rotate_left
    · ((intro W hW; clear hW; go_simp) <;> with_reducible rfl)
    simp only [Act.put, List.getElem_toArray, List.getElem_cons_zero, List.setIfInBounds_toArray, List.set_cons_zero, List.set_cons_succ]
    refine wpAnyH_take (i := 2) (v := ?_) rfl (by kernel_rfl) (by kernel_rfl) (by kernel_rfl) (fun _ _ _ h => h) (Or.inl ⟨by rfl, ?_⟩) hH ?_
    rotate_left
    · ((intro W hW; clear hW; go_simp) <;> with_reducible rfl)
    simp only [sq3, sq4]
    refine wpAnyH_take (i := 3) (v := ?_) rfl (by kernel_rfl) (by kernel_rfl) (by kernel_rfl) (fun _ _ _ h => h) (Or.inl ⟨by rfl, ?_⟩) hH ?_
    rotate_left
    · ((intro W hW; clear hW; go_simp) <;> with_reducible rfl)
    simp only [sq3, sq4]
    refine wpAnyH_take (i := 4) (v := ?_) rfl (by kernel_rfl) (by kernel_rfl) (by kernel_rfl) (fun _ _ _ h => h) (Or.inl ⟨by rfl, ?_⟩) hH ?_
    rotate_left
    · ((intro W hW; clear hW; go_simp) <;> with_reducible rfl)
    simp only [sq3, sq4]
    refine wpAnyH_take (i := 7) (v := .agg #[.int .i64 p, .int .i64 ny, .int .u8 ((p4 z).a.toNat : Int), .int .u8 ((p4 z).b.toNat : Int), .int .u8 ((p4 z).c.toNat : Int), .int .u8 ((p4 z).d.toNat : Int), .int .i64 nu]) rfl (by kernel_rfl) (by kernel_rfl) (by kernel_rfl) (fun _ _ _ h => h) (yieldsIf_load_part (by kernel_rfl) 71 _ rfl g21 0 7 rfl _ 71 (0, 0) (fun W hW => hW) _ rfl _ Try.underlying71 rfl (by kernel_rfl)) hH ?_
    simp only [sq3, sq4]
    refine wpAnyH_ready (rs := [1, 5, 8]) (by kernel_rfl) (by simp) ?_
    refine AllReadyH.cons (o := _) rfl (fun K hK => ?_) (AllReadyH.cons (o := _) rfl (fun K hK => ?_) (AllReadyH.cons (o := _) rfl (fun K hK => ?_) AllReadyH.nil))
    rotate_left 2
    · simp only [sq3]
      rw [if_pos (by rfl)]
      refine wp_lit_n 38 71 1 _ rfl #[.int .i64 p, .int .i64 ny, .int .u8 ((p4 z).a.toNat : Int), .int .u8 ((p4 z).b.toNat : Int), .int .u8 ((p4 z).c.toNat : Int), .int .u8 ((p4 z).d.toNat : Int), .int .i64 nu] (.agg #[.int .i64 0, .int .i64 0, .int .u8 0, .int .u8 0, .int .u8 0, .int .u8 0, .int .i64 0]) Try.underlying38 (by kernel_rfl) 7 (by kernel_rfl) (by decide) (by kernel_rfl) ?_
      intro g198 w118 ge lt hh bb
      have d_rd_b198 := ne_new (hlt hrd) ge
      have d_ob_b198 := ne_new (hlt hob) ge
      have d_ac_b198 := ne_new (hlt hac) ge
      have av_sF_b198 := sF.av_new ge
      have av_sO_b198 := sO.av_new ge
      have av_wt_b198 := wt.av_new ge
      have ob198 := Nat.le_trans (Nat.le_trans hlo bel.size) ge
      have pb198 := Nat.le_trans kp.size ge
      replace hrd := blk_u hrd bb
      replace hob := blk_u hob bb
      replace hac := blk_u hac bb
      replace sF := sF.below bb
      replace sO := sO.below bb
      replace wt := wt.below bb
      replace kp := kp_below kp bb
      replace bel := bel.trans (bb.mono (Nat.le_trans hlo bel.size))
      have hb198 := hh
      clear hh lt ge bb
      have lw : Sle opf 7 w118 (some ⟨g198, 0, none⟩) (1) (1) ([(p, ny, p4 z, nu)]) := sle_lit ([(p, ny, p4 z, nu)]) (by decide) opf_len hb198 rfl (by simp [maxLen])
      refine hK.out _ _ hob (fun hH119 => ?_)
      clear hK K
      simp only [sq4]
      refine wpAnyH_ready (rs := [1, 5]) (by kernel_rfl) (by simp) ?_
      refine AllReadyH.cons (o := _) rfl (fun K hK => ?_) (AllReadyH.cons (o := _) rfl (fun K hK => ?_) AllReadyH.nil)
      rotate_left
      · simp only [sq3]
        rw [if_pos (by rfl)]
        have hk_ := cell_lit hrd 39 _ rfl
        refine wp_val (v := .slice Ox nx cx) (by (go_simp) <;> with_reducible rfl) ?_
        clear hk_
        refine hK.out _ _ hob (fun hH120 => ?_)
        clear hK K
        simp only [sq4]
        refine wpAnyH_ready (rs := [1]) (by kernel_rfl) (by simp) ?_
        refine AllReadyH.cons (o := _) rfl (fun K hK => ?_) AllReadyH.nil
        simp only [sq3]
        rw [if_pos (by rfl)]
        refine wp_lit_n 38 71 0 _ rfl #[] (.agg #[.int .i64 0, .int .i64 0, .int .u8 0, .int .u8 0, .int .u8 0, .int .u8 0, .int .i64 0]) Try.underlying38 (by kernel_rfl) 7 (by kernel_rfl) (by decide) (by kernel_rfl) ?_
        intro g191 w121 ge lt hh bb
        have l0w := owk_lit (B := w118.heap.size) ([] : List (Int × Int × Ad4 × Int)) opf_len (show w121.heap[g191]? = some (.cells (([] : List (Int × Int × Ad4 × Int)).flatMap opf).toArray 71 (0, 0)) from hh) ge 0 rfl (by simp [maxLen])
        have l0 := (owk_sle (by decide) opf_len l0w).1
        have l0lo := (Nat.le_trans hlo bel.size)
        have l0ge := ge
        have lz_l0 := bb.size
        have p_l0 := kp.size
        have y_l0_rd := Lib.hid (hlt hrd)
        have y_l0_ob := Lib.hid (hlt hob)
        have y_l0_ac := Lib.hid (hlt hac)
        have y_l0_b198 := Lib.hid (hlt hb198)
        have bl_sF_l0 := sF.bl_new
        have bl_sO_l0 := sO.bl_new
        have bl_wt_l0 := wt.bl_new
        have bl_lw_l0 := lw.bl_new
        replace hrd := blk_u hrd bb
        replace hob := blk_u hob bb
        replace hac := blk_u hac bb
        replace hb198 := blk_u hb198 bb
        replace sF := sF.below bb
        replace sO := sO.below bb
        replace wt := wt.below bb
        replace lw := lw.below bb
        replace kp := kp_below kp bb
        replace bel := bel.trans (bb.mono (Nat.le_trans hlo bel.size))
        clear hh lt ge bb
        have av_l0_rd := (owk_sle (by decide) opf_len l0w).2.av y_l0_rd.out
        have av_l0_ob := (owk_sle (by decide) opf_len l0w).2.av y_l0_ob.out
        have av_l0_ac := (owk_sle (by decide) opf_len l0w).2.av y_l0_ac.out
        have av_l0_b198 := (owk_sle (by decide) opf_len l0w).2.av y_l0_b198.out
        refine hK.out _ _ hob (fun hH122 => ?_)
        clear hK K
        simp only [sq4]
        refine wpAnyH_ready (rs := [6]) (by kernel_rfl) (by simp) ?_
        refine AllReadyH.cons (o := _) rfl (fun K hK => ?_) AllReadyH.nil
        simp only [sq3]
        rw [if_pos (by rfl)]
        refine wp_append_sle (.tmp 191) (.tmp 195) 38 rfl (w118.heap.size) 71 ih (.agg #[.int .i64 0, .int .i64 0, .int .u8 0, .int .u8 0, .int .u8 0, .int .u8 0, .int .i64 0]) 32 Try.underlying38 hih hih0 hih1 hih2 rfl opf_one _ (0) ([]) rfl l0w (Ox) (nx) (cx) (c.opens) rfl sO (by unfold maxLen; omega) (by omega) lz_l0 ?_
        intro v196 w123 own_ bb gw ofw
        clear ofw
        replace sF := sF.under bl_sF_l0 bb
        replace sO := sO.under bl_sO_l0 bb
        replace wt := wt.under bl_wt_l0 bb
        replace lw := lw.under bl_lw_l0 bb
        replace hrd := blk_under hrd bb y_l0_rd.out
        replace hob := blk_under hob bb y_l0_ob.out
        replace hac := blk_under hac bb y_l0_ac.out
        replace hb198 := blk_under hb198 bb y_l0_b198.out
        clear gw
        replace kp := kp_under kp bb p_l0
        replace bel := bel.trans (bb.mono l0lo)
        have lz_sO1 := Nat.le_trans lz_l0 bb.size
        clear bb
        clear l0 l0w lz_l0
        replace own_ : w123.ownsRow (w118.heap.size) 71 7 v196 (nx) ((c.opens : List (Int × Int × Ad4 × Int)).flatMap opf) := (by have h_ := own_; rw [Nat.zero_add, List.nil_append] at h_; exact h_)
        obtain ⟨A196, c196, rfl⟩ := owk_val own_
        have sO1w := own_
        have sO1 := (owk_sle (by decide) opf_len own_).1
        have fr_sO1 := (owk_sle (by decide) opf_len own_).2
        clear own_
        have av_sO1_rd := fr_sO1.av y_l0_rd.out
        have av_sO1_ob := fr_sO1.av y_l0_ob.out
        have av_sO1_ac := fr_sO1.av y_l0_ac.out
        have av_sO1_b198 := fr_sO1.av y_l0_b198.out
        refine hK.out _ _ hob (fun hH124 => ?_)
        clear hK K
        simp only [sq4]
        refine wpAnyH_ready (rs := [9]) (by kernel_rfl) (by simp) ?_
        refine AllReadyH.cons (o := _) rfl (fun K hK => ?_) AllReadyH.nil
        simp only [sq3]
        rw [if_pos (by rfl)]
        refine wp_append_sle (.tmp 196) (.tmp 198) 38 rfl (w118.heap.size) 71 ih (.agg #[.int .i64 0, .int .i64 0, .int .u8 0, .int .u8 0, .int .u8 0, .int .u8 0, .int .i64 0]) 32 Try.underlying38 hih hih0 hih1 hih2 rfl opf_one _ (nx) (c.opens) rfl sO1w (some ⟨g198, 0, none⟩) (1) (1) ([(p, ny, p4 z, nu)]) rfl lw (by unfold maxLen; omega) (by omega) lz_sO1 ?_
        intro v199 w125 own_ bb gw ofw
        clear ofw
        replace sF := sF.under bl_sF_l0 bb
        replace sO := sO.under bl_sO_l0 bb
        replace wt := wt.under bl_wt_l0 bb
        replace lw := lw.under bl_lw_l0 bb
        replace hrd := blk_under hrd bb y_l0_rd.out
        replace hob := blk_under hob bb y_l0_ob.out
        replace hac := blk_under hac bb y_l0_ac.out
        replace hb198 := blk_under hb198 bb y_l0_b198.out
        clear gw
        replace kp := kp_under kp bb p_l0
        replace bel := bel.trans (bb.mono l0lo)
        have lz_sO2 := Nat.le_trans lz_sO1 bb.size
        clear bb
        clear sO1 sO1w lz_sO1
        replace own_ : w125.ownsRow (w118.heap.size) 71 7 v199 (nx + 1) ((c.opens ++ [(p, ny, p4 z, nu)] : List (Int × Int × Ad4 × Int)).flatMap opf) := own_
        obtain ⟨A199, c199, rfl⟩ := owk_val own_
        have sO2w := own_
        have sO2 := (owk_sle (by decide) opf_len own_).1
        have fr_sO2 := (owk_sle (by decide) opf_len own_).2
        clear own_
        have av_sO2_rd := fr_sO2.av y_l0_rd.out
        have av_sO2_ob := fr_sO2.av y_l0_ob.out
        have av_sO2_ac := fr_sO2.av y_l0_ac.out
        have av_sO2_b198 := fr_sO2.av y_l0_b198.out
        clear lw
        clear hb198
        have fw_sO2 := fr_sO2.mono p_l0
        refine hK.out _ _ hob (fun hH126 => ?_)
        clear hK K
        simp only [sq4]
        refine wpAnyH_take (i := 10) (v := ?_) rfl (by kernel_rfl) (by kernel_rfl) (by kernel_rfl) (fun _ _ _ h => h) (Or.inl ⟨by rfl, ?_⟩) hH126 ?_
        rotate_left
        · ((intro W hW; clear hW; go_simp) <;> with_reducible rfl)
        simp only [sq3, sq4]
        refine wpAnyH_take (i := 11) (v := ?_) rfl (by kernel_rfl) (by kernel_rfl) (by kernel_rfl) (fun _ _ _ h => h) (Or.inl ⟨by rfl, ?_⟩) hH126 ?_
        rotate_left
        · ((intro W hW; clear hW; go_simp) <;> with_reducible rfl)
        simp only [sq3, sq4]
        refine wpAnyH_ready (rs := [12]) (by kernel_rfl) (by simp) ?_
        refine AllReadyH.cons (o := _) rfl (fun K hK => ?_) AllReadyH.nil
        simp only [sq3]
        rw [if_pos (by rfl)]
        refine wp_store_part 38 (.tmp 201) (.tmp 199) rfl gr 39 rfl [.slice A199 (nx + 1) c199] rfl (cfl c Fx nf cf Ox nx cx) 40 hrd (by simp) [.int .u8 (c.own.a.toNat : Int), .int .u8 (c.own.b.toNat : Int), .int .u8 (c.own.c.toNat : Int), .int .u8 (c.own.d.toNat : Int), .int .u8 (c.lan.a.toNat : Int), .int .u8 (c.lan.b.toNat : Int), .int .u8 (c.lan.c.toNat : Int), .int .u8 (c.lan.d.toNat : Int), .int .i64 c.bits, .int .u8 (c.lanmac.a.toNat : Int), .int .u8 (c.lanmac.b.toNat : Int), .int .u8 (c.lanmac.c.toNat : Int), .int .u8 (c.lanmac.d.toNat : Int), .int .u8 (c.lanmac.e.toNat : Int), .int .u8 (c.lanmac.f.toNat : Int), .int .u8 (c.wanmac.a.toNat : Int), .int .u8 (c.wanmac.b.toNat : Int), .int .u8 (c.wanmac.c.toNat : Int), .int .u8 (c.wanmac.d.toNat : Int), .int .u8 (c.wanmac.e.toNat : Int), .int .u8 (c.wanmac.f.toNat : Int), .int .u8 (c.first.a.toNat : Int), .int .u8 (c.first.b.toNat : Int), .int .u8 (c.first.c.toNat : Int), .int .u8 (c.first.d.toNat : Int), .int .u8 (c.last.a.toNat : Int), .int .u8 (c.last.b.toNat : Int), .int .u8 (c.last.c.toNat : Int), .int .u8 (c.last.d.toNat : Int), .int .i64 c.time, .int .u8 (c.dns.a.toNat : Int), .int .u8 (c.dns.b.toNat : Int), .int .u8 (c.dns.c.toNat : Int), .int .u8 (c.dns.d.toNat : Int), .int .i64 c.udp, .int .i64 c.tcp, .int .i64 c.icmp, .int .i64 c.low, .slice Fx nf cf, .slice A199 (nx + 1) c199] rfl (by kernel_rfl) (by rfl) ?_
        intro w127 hq gr
        replace sF := sF.away av_sF_rd gr
        replace sO := sO.away av_sO_rd gr
        replace wt := wt.away av_wt_rd gr
        replace sO2 := sO2.away av_sO2_rd gr
        replace sO2w := owk_away sO2w y_l0_rd.out gr
        replace lz_sO2 := Nat.le_trans lz_sO2 gr.size
        replace hob := blk_a hob gr d_ob_rd
        replace hac := blk_a hac gr (ne_symm d_rd_ac)
        replace kp := kp.trans gr
        replace bel := below_grown bel gr ord (Nat.le_trans hlo bel.size)
        clear hrd
        have hrd := hq
        clear hq gr
        refine hK.out _ _ hob (fun hH128 => ?_)
        clear hK K
        simp only [Act.put]
        refine wpAnyH_done (by kernel_rfl) ?_ _
        go_wp2_with fail
        go_meet
        case rel => exact ⟨A199, c199, hrd, hob, hac, (ne_symm d_ob_ac), (ne_symm d_rd_ac), d_ob_rd, sF, av_sF_ac, av_sF_ob, av_sF_rd, sO, av_sO_ac, av_sO_ob, av_sO_rd, wt, av_wt_ac, av_wt_ob, av_wt_rd, sO2, av_sO2_ac, av_sO2_ob, av_sO2_rd, fw_sO2, kp, bel⟩
      simp only [sq3]
      rw [if_pos (by rfl)]
      refine wp_lit_n 38 71 0 _ rfl #[] (.agg #[.int .i64 0, .int .i64 0, .int .u8 0, .int .u8 0, .int .u8 0, .int .u8 0, .int .i64 0]) Try.underlying38 (by kernel_rfl) 7 (by kernel_rfl) (by decide) (by kernel_rfl) ?_
      intro g191 w120 ge lt hh bb
      have l0w := owk_lit (B := w118.heap.size) ([] : List (Int × Int × Ad4 × Int)) opf_len (show w120.heap[g191]? = some (.cells (([] : List (Int × Int × Ad4 × Int)).flatMap opf).toArray 71 (0, 0)) from hh) ge 0 rfl (by simp [maxLen])
      have l0 := (owk_sle (by decide) opf_len l0w).1
      have l0lo := (Nat.le_trans hlo bel.size)
      have l0ge := ge
      have lz_l0 := bb.size
      have p_l0 := kp.size
      have y_l0_rd := Lib.hid (hlt hrd)
      have y_l0_ob := Lib.hid (hlt hob)
      have y_l0_ac := Lib.hid (hlt hac)
      have y_l0_b198 := Lib.hid (hlt hb198)
      have bl_sF_l0 := sF.bl_new
      have bl_sO_l0 := sO.bl_new
      have bl_wt_l0 := wt.bl_new
      have bl_lw_l0 := lw.bl_new
      replace hrd := blk_u hrd bb
      replace hob := blk_u hob bb
      replace hac := blk_u hac bb
      replace hb198 := blk_u hb198 bb
      replace sF := sF.below bb
      replace sO := sO.below bb
      replace wt := wt.below bb
      replace lw := lw.below bb
      replace kp := kp_below kp bb
      replace bel := bel.trans (bb.mono (Nat.le_trans hlo bel.size))
      clear hh lt ge bb
      have av_l0_rd := (owk_sle (by decide) opf_len l0w).2.av y_l0_rd.out
      have av_l0_ob := (owk_sle (by decide) opf_len l0w).2.av y_l0_ob.out
      have av_l0_ac := (owk_sle (by decide) opf_len l0w).2.av y_l0_ac.out
      have av_l0_b198 := (owk_sle (by decide) opf_len l0w).2.av y_l0_b198.out
      refine hK.out _ _ hob (fun hH121 => ?_)
      clear hK K
      simp only [sq4]
      refine wpAnyH_ready (rs := [5]) (by kernel_rfl) (by simp) ?_
      refine AllReadyH.cons (o := _) rfl (fun K hK => ?_) AllReadyH.nil
      simp only [sq3]
      rw [if_pos (by rfl)]
      have hk_ := cell_lit hrd 39 _ rfl
      refine wp_val (v := .slice Ox nx cx) (by (go_simp) <;> with_reducible rfl) ?_
      clear hk_
      refine hK.out _ _ hob (fun hH122 => ?_)
      clear hK K
      simp only [sq4]
      refine wpAnyH_ready (rs := [6]) (by kernel_rfl) (by simp) ?_
      refine AllReadyH.cons (o := _) rfl (fun K hK => ?_) AllReadyH.nil
      simp only [sq3]
      rw [if_pos (by rfl)]
      refine wp_append_sle (.tmp 191) (.tmp 195) 38 rfl (w118.heap.size) 71 ih (.agg #[.int .i64 0, .int .i64 0, .int .u8 0, .int .u8 0, .int .u8 0, .int .u8 0, .int .i64 0]) 32 Try.underlying38 hih hih0 hih1 hih2 rfl opf_one _ (0) ([]) rfl l0w (Ox) (nx) (cx) (c.opens) rfl sO (by unfold maxLen; omega) (by omega) lz_l0 ?_
      intro v196 w123 own_ bb gw ofw
      clear ofw
      replace sF := sF.under bl_sF_l0 bb
      replace sO := sO.under bl_sO_l0 bb
      replace wt := wt.under bl_wt_l0 bb
      replace lw := lw.under bl_lw_l0 bb
      replace hrd := blk_under hrd bb y_l0_rd.out
      replace hob := blk_under hob bb y_l0_ob.out
      replace hac := blk_under hac bb y_l0_ac.out
      replace hb198 := blk_under hb198 bb y_l0_b198.out
      clear gw
      replace kp := kp_under kp bb p_l0
      replace bel := bel.trans (bb.mono l0lo)
      have lz_sO1 := Nat.le_trans lz_l0 bb.size
      clear bb
      clear l0 l0w lz_l0
      replace own_ : w123.ownsRow (w118.heap.size) 71 7 v196 (nx) ((c.opens : List (Int × Int × Ad4 × Int)).flatMap opf) := (by have h_ := own_; rw [Nat.zero_add, List.nil_append] at h_; exact h_)
      obtain ⟨A196, c196, rfl⟩ := owk_val own_
      have sO1w := own_
      have sO1 := (owk_sle (by decide) opf_len own_).1
      have fr_sO1 := (owk_sle (by decide) opf_len own_).2
      clear own_
      have av_sO1_rd := fr_sO1.av y_l0_rd.out
      have av_sO1_ob := fr_sO1.av y_l0_ob.out
      have av_sO1_ac := fr_sO1.av y_l0_ac.out
      have av_sO1_b198 := fr_sO1.av y_l0_b198.out
      refine hK.out _ _ hob (fun hH124 => ?_)
      clear hK K
      simp only [sq4]
      refine wpAnyH_ready (rs := [9]) (by kernel_rfl) (by simp) ?_
      refine AllReadyH.cons (o := _) rfl (fun K hK => ?_) AllReadyH.nil
      simp only [sq3]
      rw [if_pos (by rfl)]
      refine wp_append_sle (.tmp 196) (.tmp 198) 38 rfl (w118.heap.size) 71 ih (.agg #[.int .i64 0, .int .i64 0, .int .u8 0, .int .u8 0, .int .u8 0, .int .u8 0, .int .i64 0]) 32 Try.underlying38 hih hih0 hih1 hih2 rfl opf_one _ (nx) (c.opens) rfl sO1w (some ⟨g198, 0, none⟩) (1) (1) ([(p, ny, p4 z, nu)]) rfl lw (by unfold maxLen; omega) (by omega) lz_sO1 ?_
      intro v199 w125 own_ bb gw ofw
      clear ofw
      replace sF := sF.under bl_sF_l0 bb
      replace sO := sO.under bl_sO_l0 bb
      replace wt := wt.under bl_wt_l0 bb
      replace lw := lw.under bl_lw_l0 bb
      replace hrd := blk_under hrd bb y_l0_rd.out
      replace hob := blk_under hob bb y_l0_ob.out
      replace hac := blk_under hac bb y_l0_ac.out
      replace hb198 := blk_under hb198 bb y_l0_b198.out
      clear gw
      replace kp := kp_under kp bb p_l0
      replace bel := bel.trans (bb.mono l0lo)
      have lz_sO2 := Nat.le_trans lz_sO1 bb.size
      clear bb
      clear sO1 sO1w lz_sO1
      replace own_ : w125.ownsRow (w118.heap.size) 71 7 v199 (nx + 1) ((c.opens ++ [(p, ny, p4 z, nu)] : List (Int × Int × Ad4 × Int)).flatMap opf) := own_
      obtain ⟨A199, c199, rfl⟩ := owk_val own_
      have sO2w := own_
      have sO2 := (owk_sle (by decide) opf_len own_).1
      have fr_sO2 := (owk_sle (by decide) opf_len own_).2
      clear own_
      have av_sO2_rd := fr_sO2.av y_l0_rd.out
      have av_sO2_ob := fr_sO2.av y_l0_ob.out
      have av_sO2_ac := fr_sO2.av y_l0_ac.out
      have av_sO2_b198 := fr_sO2.av y_l0_b198.out
      clear lw
      clear hb198
      have fw_sO2 := fr_sO2.mono p_l0
      refine hK.out _ _ hob (fun hH126 => ?_)
      clear hK K
      simp only [sq4]
      refine wpAnyH_take (i := 10) (v := ?_) rfl (by kernel_rfl) (by kernel_rfl) (by kernel_rfl) (fun _ _ _ h => h) (Or.inl ⟨by rfl, ?_⟩) hH126 ?_
      rotate_left
      · ((intro W hW; clear hW; go_simp) <;> with_reducible rfl)
      simp only [sq3, sq4]
      refine wpAnyH_take (i := 11) (v := ?_) rfl (by kernel_rfl) (by kernel_rfl) (by kernel_rfl) (fun _ _ _ h => h) (Or.inl ⟨by rfl, ?_⟩) hH126 ?_
      rotate_left
      · ((intro W hW; clear hW; go_simp) <;> with_reducible rfl)
      simp only [sq3, sq4]
      refine wpAnyH_ready (rs := [12]) (by kernel_rfl) (by simp) ?_
      refine AllReadyH.cons (o := _) rfl (fun K hK => ?_) AllReadyH.nil
      simp only [sq3]
      rw [if_pos (by rfl)]
      refine wp_store_part 38 (.tmp 201) (.tmp 199) rfl gr 39 rfl [.slice A199 (nx + 1) c199] rfl (cfl c Fx nf cf Ox nx cx) 40 hrd (by simp) [.int .u8 (c.own.a.toNat : Int), .int .u8 (c.own.b.toNat : Int), .int .u8 (c.own.c.toNat : Int), .int .u8 (c.own.d.toNat : Int), .int .u8 (c.lan.a.toNat : Int), .int .u8 (c.lan.b.toNat : Int), .int .u8 (c.lan.c.toNat : Int), .int .u8 (c.lan.d.toNat : Int), .int .i64 c.bits, .int .u8 (c.lanmac.a.toNat : Int), .int .u8 (c.lanmac.b.toNat : Int), .int .u8 (c.lanmac.c.toNat : Int), .int .u8 (c.lanmac.d.toNat : Int), .int .u8 (c.lanmac.e.toNat : Int), .int .u8 (c.lanmac.f.toNat : Int), .int .u8 (c.wanmac.a.toNat : Int), .int .u8 (c.wanmac.b.toNat : Int), .int .u8 (c.wanmac.c.toNat : Int), .int .u8 (c.wanmac.d.toNat : Int), .int .u8 (c.wanmac.e.toNat : Int), .int .u8 (c.wanmac.f.toNat : Int), .int .u8 (c.first.a.toNat : Int), .int .u8 (c.first.b.toNat : Int), .int .u8 (c.first.c.toNat : Int), .int .u8 (c.first.d.toNat : Int), .int .u8 (c.last.a.toNat : Int), .int .u8 (c.last.b.toNat : Int), .int .u8 (c.last.c.toNat : Int), .int .u8 (c.last.d.toNat : Int), .int .i64 c.time, .int .u8 (c.dns.a.toNat : Int), .int .u8 (c.dns.b.toNat : Int), .int .u8 (c.dns.c.toNat : Int), .int .u8 (c.dns.d.toNat : Int), .int .i64 c.udp, .int .i64 c.tcp, .int .i64 c.icmp, .int .i64 c.low, .slice Fx nf cf, .slice A199 (nx + 1) c199] rfl (by kernel_rfl) (by rfl) ?_
      intro w127 hq gr
      replace sF := sF.away av_sF_rd gr
      replace sO := sO.away av_sO_rd gr
      replace wt := wt.away av_wt_rd gr
      replace sO2 := sO2.away av_sO2_rd gr
      replace sO2w := owk_away sO2w y_l0_rd.out gr
      replace lz_sO2 := Nat.le_trans lz_sO2 gr.size
      replace hob := blk_a hob gr d_ob_rd
      replace hac := blk_a hac gr (ne_symm d_rd_ac)
      replace kp := kp.trans gr
      replace bel := below_grown bel gr ord (Nat.le_trans hlo bel.size)
      clear hrd
      have hrd := hq
      clear hq gr
      refine hK.out _ _ hob (fun hH128 => ?_)
      clear hK K
      simp only [Act.put]
      refine wpAnyH_done (by kernel_rfl) ?_ _
      go_wp2_with fail
      go_meet
      case rel => exact ⟨A199, c199, hrd, hob, hac, (ne_symm d_ob_ac), (ne_symm d_rd_ac), d_ob_rd, sF, av_sF_ac, av_sF_ob, av_sF_rd, sO, av_sO_ac, av_sO_ob, av_sO_rd, wt, av_wt_ac, av_wt_ob, av_wt_rd, sO2, av_sO2_ac, av_sO2_ob, av_sO2_rd, fw_sO2, kp, bel⟩
    · simp only [sq3]
      rw [if_pos (by rfl)]
      refine wp_lit_n 38 71 0 _ rfl #[] (.agg #[.int .i64 0, .int .i64 0, .int .u8 0, .int .u8 0, .int .u8 0, .int .u8 0, .int .i64 0]) Try.underlying38 (by kernel_rfl) 7 (by kernel_rfl) (by decide) (by kernel_rfl) ?_
      intro g191 w118 ge lt hh bb
      have l0w := owk_lit (B := w117.heap.size) ([] : List (Int × Int × Ad4 × Int)) opf_len (show w118.heap[g191]? = some (.cells (([] : List (Int × Int × Ad4 × Int)).flatMap opf).toArray 71 (0, 0)) from hh) ge 0 rfl (by simp [maxLen])
      have l0 := (owk_sle (by decide) opf_len l0w).1
      have l0lo := (Nat.le_trans hlo bel.size)
      have l0ge := ge
      have lz_l0 := bb.size
      have p_l0 := kp.size
      have y_l0_rd := Lib.hid (hlt hrd)
      have y_l0_ob := Lib.hid (hlt hob)
      have y_l0_ac := Lib.hid (hlt hac)
      have bl_sF_l0 := sF.bl_new
      have bl_sO_l0 := sO.bl_new
      have bl_wt_l0 := wt.bl_new
      replace hrd := blk_u hrd bb
      replace hob := blk_u hob bb
      replace hac := blk_u hac bb
      replace sF := sF.below bb
      replace sO := sO.below bb
      replace wt := wt.below bb
      replace kp := kp_below kp bb
      replace bel := bel.trans (bb.mono (Nat.le_trans hlo bel.size))
      clear hh lt ge bb
      have av_l0_rd := (owk_sle (by decide) opf_len l0w).2.av y_l0_rd.out
      have av_l0_ob := (owk_sle (by decide) opf_len l0w).2.av y_l0_ob.out
      have av_l0_ac := (owk_sle (by decide) opf_len l0w).2.av y_l0_ac.out
      refine hK.out _ _ hob (fun hH119 => ?_)
      clear hK K
      simp only [sq4]
      refine wpAnyH_ready (rs := [5, 8]) (by kernel_rfl) (by simp) ?_
      refine AllReadyH.cons (o := _) rfl (fun K hK => ?_) (AllReadyH.cons (o := _) rfl (fun K hK => ?_) AllReadyH.nil)
      rotate_left
      · simp only [sq3]
        rw [if_pos (by rfl)]
        refine wp_lit_n 38 71 1 _ rfl #[.int .i64 p, .int .i64 ny, .int .u8 ((p4 z).a.toNat : Int), .int .u8 ((p4 z).b.toNat : Int), .int .u8 ((p4 z).c.toNat : Int), .int .u8 ((p4 z).d.toNat : Int), .int .i64 nu] (.agg #[.int .i64 0, .int .i64 0, .int .u8 0, .int .u8 0, .int .u8 0, .int .u8 0, .int .i64 0]) Try.underlying38 (by kernel_rfl) 7 (by kernel_rfl) (by decide) (by kernel_rfl) ?_
        intro g198 w120 ge lt hh bb
        have d_rd_b198 := ne_new (hlt hrd) ge
        have d_ob_b198 := ne_new (hlt hob) ge
        have d_ac_b198 := ne_new (hlt hac) ge
        have av_sF_b198 := sF.av_new ge
        have av_sO_b198 := sO.av_new ge
        have av_wt_b198 := wt.av_new ge
        have av_l0_b198 := l0.av_new ge
        have of_l0_b198 := owk_new l0w ge
        have ob198 := Nat.le_trans (Nat.le_trans hlo bel.size) ge
        have pb198 := Nat.le_trans kp.size ge
        replace hrd := blk_u hrd bb
        replace hob := blk_u hob bb
        replace hac := blk_u hac bb
        replace sF := sF.below bb
        replace sO := sO.below bb
        replace wt := wt.below bb
        replace l0 := l0.below bb
        replace l0w := owk_under l0w bb
        replace lz_l0 := Nat.le_trans lz_l0 bb.size
        replace kp := kp_below kp bb
        replace bel := bel.trans (bb.mono (Nat.le_trans hlo bel.size))
        have hb198 := hh
        clear hh lt ge bb
        have lw : Sle opf 7 w120 (some ⟨g198, 0, none⟩) (1) (1) ([(p, ny, p4 z, nu)]) := sle_lit ([(p, ny, p4 z, nu)]) (by decide) opf_len hb198 rfl (by simp [maxLen])
        refine hK.out _ _ hob (fun hH121 => ?_)
        clear hK K
        simp only [sq4]
        refine wpAnyH_ready (rs := [5]) (by kernel_rfl) (by simp) ?_
        refine AllReadyH.cons (o := _) rfl (fun K hK => ?_) AllReadyH.nil
        simp only [sq3]
        rw [if_pos (by rfl)]
        have hk_ := cell_lit hrd 39 _ rfl
        refine wp_val (v := .slice Ox nx cx) (by (go_simp) <;> with_reducible rfl) ?_
        clear hk_
        refine hK.out _ _ hob (fun hH122 => ?_)
        clear hK K
        simp only [sq4]
        refine wpAnyH_ready (rs := [6]) (by kernel_rfl) (by simp) ?_
        refine AllReadyH.cons (o := _) rfl (fun K hK => ?_) AllReadyH.nil
        simp only [sq3]
        rw [if_pos (by rfl)]
        refine wp_append_sle (.tmp 191) (.tmp 195) 38 rfl (w117.heap.size) 71 ih (.agg #[.int .i64 0, .int .i64 0, .int .u8 0, .int .u8 0, .int .u8 0, .int .u8 0, .int .i64 0]) 32 Try.underlying38 hih hih0 hih1 hih2 rfl opf_one _ (0) ([]) rfl l0w (Ox) (nx) (cx) (c.opens) rfl sO (by unfold maxLen; omega) (by omega) lz_l0 ?_
        intro v196 w123 own_ bb gw ofw
        have of196_b198 := ofw _ (hlt hb198) of_l0_b198
        clear ofw
        replace sF := sF.under bl_sF_l0 bb
        replace sO := sO.under bl_sO_l0 bb
        replace wt := wt.under bl_wt_l0 bb
        replace lw := Sle.off lw of_l0_b198 gw
        replace hrd := blk_under hrd bb y_l0_rd.out
        replace hob := blk_under hob bb y_l0_ob.out
        replace hac := blk_under hac bb y_l0_ac.out
        replace hb198 := blk_own hb198 gw of_l0_b198
        clear gw
        replace kp := kp_under kp bb p_l0
        replace bel := bel.trans (bb.mono l0lo)
        have lz_sO1 := Nat.le_trans lz_l0 bb.size
        clear bb
        clear l0 l0w lz_l0
        replace own_ : w123.ownsRow (w117.heap.size) 71 7 v196 (nx) ((c.opens : List (Int × Int × Ad4 × Int)).flatMap opf) := (by have h_ := own_; rw [Nat.zero_add, List.nil_append] at h_; exact h_)
        obtain ⟨A196, c196, rfl⟩ := owk_val own_
        have sO1w := own_
        have sO1 := (owk_sle (by decide) opf_len own_).1
        have fr_sO1 := (owk_sle (by decide) opf_len own_).2
        clear own_
        have av_sO1_rd := fr_sO1.av y_l0_rd.out
        have av_sO1_ob := fr_sO1.av y_l0_ob.out
        have av_sO1_ac := fr_sO1.av y_l0_ac.out
        have av_sO1_b198 := owk_av sO1w of196_b198
        refine hK.out _ _ hob (fun hH124 => ?_)
        clear hK K
        simp only [sq4]
        refine wpAnyH_ready (rs := [9]) (by kernel_rfl) (by simp) ?_
        refine AllReadyH.cons (o := _) rfl (fun K hK => ?_) AllReadyH.nil
        simp only [sq3]
        rw [if_pos (by rfl)]
        refine wp_append_sle (.tmp 196) (.tmp 198) 38 rfl (w117.heap.size) 71 ih (.agg #[.int .i64 0, .int .i64 0, .int .u8 0, .int .u8 0, .int .u8 0, .int .u8 0, .int .i64 0]) 32 Try.underlying38 hih hih0 hih1 hih2 rfl opf_one _ (nx) (c.opens) rfl sO1w (some ⟨g198, 0, none⟩) (1) (1) ([(p, ny, p4 z, nu)]) rfl lw (by unfold maxLen; omega) (by omega) lz_sO1 ?_
        intro v199 w125 own_ bb gw ofw
        have of199_b198 := ofw _ (hlt hb198) of196_b198
        clear ofw
        replace sF := sF.under bl_sF_l0 bb
        replace sO := sO.under bl_sO_l0 bb
        replace wt := wt.under bl_wt_l0 bb
        replace lw := Sle.off lw of196_b198 gw
        replace hrd := blk_under hrd bb y_l0_rd.out
        replace hob := blk_under hob bb y_l0_ob.out
        replace hac := blk_under hac bb y_l0_ac.out
        replace hb198 := blk_own hb198 gw of196_b198
        clear gw
        replace kp := kp_under kp bb p_l0
        replace bel := bel.trans (bb.mono l0lo)
        have lz_sO2 := Nat.le_trans lz_sO1 bb.size
        clear bb
        clear sO1 sO1w lz_sO1
        replace own_ : w125.ownsRow (w117.heap.size) 71 7 v199 (nx + 1) ((c.opens ++ [(p, ny, p4 z, nu)] : List (Int × Int × Ad4 × Int)).flatMap opf) := own_
        obtain ⟨A199, c199, rfl⟩ := owk_val own_
        have sO2w := own_
        have sO2 := (owk_sle (by decide) opf_len own_).1
        have fr_sO2 := (owk_sle (by decide) opf_len own_).2
        clear own_
        have av_sO2_rd := fr_sO2.av y_l0_rd.out
        have av_sO2_ob := fr_sO2.av y_l0_ob.out
        have av_sO2_ac := fr_sO2.av y_l0_ac.out
        have av_sO2_b198 := owk_av sO2w of199_b198
        clear lw
        clear hb198
        have fw_sO2 := fr_sO2.mono p_l0
        refine hK.out _ _ hob (fun hH126 => ?_)
        clear hK K
        simp only [sq4]
        refine wpAnyH_take (i := 10) (v := ?_) rfl (by kernel_rfl) (by kernel_rfl) (by kernel_rfl) (fun _ _ _ h => h) (Or.inl ⟨by rfl, ?_⟩) hH126 ?_
        rotate_left
        · ((intro W hW; clear hW; go_simp) <;> with_reducible rfl)
        simp only [sq3, sq4]
        refine wpAnyH_take (i := 11) (v := ?_) rfl (by kernel_rfl) (by kernel_rfl) (by kernel_rfl) (fun _ _ _ h => h) (Or.inl ⟨by rfl, ?_⟩) hH126 ?_
        rotate_left
        · ((intro W hW; clear hW; go_simp) <;> with_reducible rfl)
        simp only [sq3, sq4]
        refine wpAnyH_ready (rs := [12]) (by kernel_rfl) (by simp) ?_
        refine AllReadyH.cons (o := _) rfl (fun K hK => ?_) AllReadyH.nil
        simp only [sq3]
        rw [if_pos (by rfl)]
        refine wp_store_part 38 (.tmp 201) (.tmp 199) rfl gr 39 rfl [.slice A199 (nx + 1) c199] rfl (cfl c Fx nf cf Ox nx cx) 40 hrd (by simp) [.int .u8 (c.own.a.toNat : Int), .int .u8 (c.own.b.toNat : Int), .int .u8 (c.own.c.toNat : Int), .int .u8 (c.own.d.toNat : Int), .int .u8 (c.lan.a.toNat : Int), .int .u8 (c.lan.b.toNat : Int), .int .u8 (c.lan.c.toNat : Int), .int .u8 (c.lan.d.toNat : Int), .int .i64 c.bits, .int .u8 (c.lanmac.a.toNat : Int), .int .u8 (c.lanmac.b.toNat : Int), .int .u8 (c.lanmac.c.toNat : Int), .int .u8 (c.lanmac.d.toNat : Int), .int .u8 (c.lanmac.e.toNat : Int), .int .u8 (c.lanmac.f.toNat : Int), .int .u8 (c.wanmac.a.toNat : Int), .int .u8 (c.wanmac.b.toNat : Int), .int .u8 (c.wanmac.c.toNat : Int), .int .u8 (c.wanmac.d.toNat : Int), .int .u8 (c.wanmac.e.toNat : Int), .int .u8 (c.wanmac.f.toNat : Int), .int .u8 (c.first.a.toNat : Int), .int .u8 (c.first.b.toNat : Int), .int .u8 (c.first.c.toNat : Int), .int .u8 (c.first.d.toNat : Int), .int .u8 (c.last.a.toNat : Int), .int .u8 (c.last.b.toNat : Int), .int .u8 (c.last.c.toNat : Int), .int .u8 (c.last.d.toNat : Int), .int .i64 c.time, .int .u8 (c.dns.a.toNat : Int), .int .u8 (c.dns.b.toNat : Int), .int .u8 (c.dns.c.toNat : Int), .int .u8 (c.dns.d.toNat : Int), .int .i64 c.udp, .int .i64 c.tcp, .int .i64 c.icmp, .int .i64 c.low, .slice Fx nf cf, .slice A199 (nx + 1) c199] rfl (by kernel_rfl) (by rfl) ?_
        intro w127 hq gr
        replace sF := sF.away av_sF_rd gr
        replace sO := sO.away av_sO_rd gr
        replace wt := wt.away av_wt_rd gr
        replace sO2 := sO2.away av_sO2_rd gr
        replace sO2w := owk_away sO2w y_l0_rd.out gr
        replace lz_sO2 := Nat.le_trans lz_sO2 gr.size
        replace hob := blk_a hob gr d_ob_rd
        replace hac := blk_a hac gr (ne_symm d_rd_ac)
        replace kp := kp.trans gr
        replace bel := below_grown bel gr ord (Nat.le_trans hlo bel.size)
        clear hrd
        have hrd := hq
        clear hq gr
        refine hK.out _ _ hob (fun hH128 => ?_)
        clear hK K
        simp only [Act.put]
        refine wpAnyH_done (by kernel_rfl) ?_ _
        go_wp2_with fail
        go_meet
        case rel => exact ⟨A199, c199, hrd, hob, hac, (ne_symm d_ob_ac), (ne_symm d_rd_ac), d_ob_rd, sF, av_sF_ac, av_sF_ob, av_sF_rd, sO, av_sO_ac, av_sO_ob, av_sO_rd, wt, av_wt_ac, av_wt_ob, av_wt_rd, sO2, av_sO2_ac, av_sO2_ob, av_sO2_rd, fw_sO2, kp, bel⟩
      simp only [sq3]
      rw [if_pos (by rfl)]
      have hk_ := cell_lit hrd 39 _ rfl
      refine wp_val (v := .slice Ox nx cx) (by (go_simp) <;> with_reducible rfl) ?_
      clear hk_
      refine hK.out _ _ hob (fun hH120 => ?_)
      clear hK K
      simp only [sq4]
      refine wpAnyH_ready (rs := [6, 8]) (by kernel_rfl) (by simp) ?_
      refine AllReadyH.cons (o := _) rfl (fun K hK => ?_) (AllReadyH.cons (o := _) rfl (fun K hK => ?_) AllReadyH.nil)
      · simp only [sq3]
        rw [if_pos (by rfl)]
        refine wp_append_sle (.tmp 191) (.tmp 195) 38 rfl (w117.heap.size) 71 ih (.agg #[.int .i64 0, .int .i64 0, .int .u8 0, .int .u8 0, .int .u8 0, .int .u8 0, .int .i64 0]) 32 Try.underlying38 hih hih0 hih1 hih2 rfl opf_one _ (0) ([]) rfl l0w (Ox) (nx) (cx) (c.opens) rfl sO (by unfold maxLen; omega) (by omega) lz_l0 ?_
        intro v196 w121 own_ bb gw ofw
        clear ofw
        replace sF := sF.under bl_sF_l0 bb
        replace sO := sO.under bl_sO_l0 bb
        replace wt := wt.under bl_wt_l0 bb
        replace hrd := blk_under hrd bb y_l0_rd.out
        replace hob := blk_under hob bb y_l0_ob.out
        replace hac := blk_under hac bb y_l0_ac.out
        clear gw
        replace kp := kp_under kp bb p_l0
        replace bel := bel.trans (bb.mono l0lo)
        have lz_sO1 := Nat.le_trans lz_l0 bb.size
        clear bb
        clear l0 l0w lz_l0
        replace own_ : w121.ownsRow (w117.heap.size) 71 7 v196 (nx) ((c.opens : List (Int × Int × Ad4 × Int)).flatMap opf) := (by have h_ := own_; rw [Nat.zero_add, List.nil_append] at h_; exact h_)
        obtain ⟨A196, c196, rfl⟩ := owk_val own_
        have sO1w := own_
        have sO1 := (owk_sle (by decide) opf_len own_).1
        have fr_sO1 := (owk_sle (by decide) opf_len own_).2
        clear own_
        have av_sO1_rd := fr_sO1.av y_l0_rd.out
        have av_sO1_ob := fr_sO1.av y_l0_ob.out
        have av_sO1_ac := fr_sO1.av y_l0_ac.out
        refine hK.out _ _ hob (fun hH122 => ?_)
        clear hK K
        simp only [sq4]
        refine wpAnyH_ready (rs := [8]) (by kernel_rfl) (by simp) ?_
        refine AllReadyH.cons (o := _) rfl (fun K hK => ?_) AllReadyH.nil
        simp only [sq3]
        rw [if_pos (by rfl)]
        refine wp_lit_n 38 71 1 _ rfl #[.int .i64 p, .int .i64 ny, .int .u8 ((p4 z).a.toNat : Int), .int .u8 ((p4 z).b.toNat : Int), .int .u8 ((p4 z).c.toNat : Int), .int .u8 ((p4 z).d.toNat : Int), .int .i64 nu] (.agg #[.int .i64 0, .int .i64 0, .int .u8 0, .int .u8 0, .int .u8 0, .int .u8 0, .int .i64 0]) Try.underlying38 (by kernel_rfl) 7 (by kernel_rfl) (by decide) (by kernel_rfl) ?_
        intro g198 w123 ge lt hh bb
        have d_rd_b198 := ne_new (hlt hrd) ge
        have d_ob_b198 := ne_new (hlt hob) ge
        have d_ac_b198 := ne_new (hlt hac) ge
        have av_sF_b198 := sF.av_new ge
        have av_sO_b198 := sO.av_new ge
        have av_wt_b198 := wt.av_new ge
        have av_sO1_b198 := sO1.av_new ge
        have of_sO1_b198 := owk_new sO1w ge
        have ob198 := Nat.le_trans (Nat.le_trans hlo bel.size) ge
        have pb198 := Nat.le_trans kp.size ge
        replace hrd := blk_u hrd bb
        replace hob := blk_u hob bb
        replace hac := blk_u hac bb
        replace sF := sF.below bb
        replace sO := sO.below bb
        replace wt := wt.below bb
        replace sO1 := sO1.below bb
        replace sO1w := owk_under sO1w bb
        replace lz_sO1 := Nat.le_trans lz_sO1 bb.size
        replace kp := kp_below kp bb
        replace bel := bel.trans (bb.mono (Nat.le_trans hlo bel.size))
        have hb198 := hh
        clear hh lt ge bb
        have lw : Sle opf 7 w123 (some ⟨g198, 0, none⟩) (1) (1) ([(p, ny, p4 z, nu)]) := sle_lit ([(p, ny, p4 z, nu)]) (by decide) opf_len hb198 rfl (by simp [maxLen])
        refine hK.out _ _ hob (fun hH124 => ?_)
        clear hK K
        simp only [sq4]
        refine wpAnyH_ready (rs := [9]) (by kernel_rfl) (by simp) ?_
        refine AllReadyH.cons (o := _) rfl (fun K hK => ?_) AllReadyH.nil
        simp only [sq3]
        rw [if_pos (by rfl)]
        refine wp_append_sle (.tmp 196) (.tmp 198) 38 rfl (w117.heap.size) 71 ih (.agg #[.int .i64 0, .int .i64 0, .int .u8 0, .int .u8 0, .int .u8 0, .int .u8 0, .int .i64 0]) 32 Try.underlying38 hih hih0 hih1 hih2 rfl opf_one _ (nx) (c.opens) rfl sO1w (some ⟨g198, 0, none⟩) (1) (1) ([(p, ny, p4 z, nu)]) rfl lw (by unfold maxLen; omega) (by omega) lz_sO1 ?_
        intro v199 w125 own_ bb gw ofw
        have of199_b198 := ofw _ (hlt hb198) of_sO1_b198
        clear ofw
        replace sF := sF.under bl_sF_l0 bb
        replace sO := sO.under bl_sO_l0 bb
        replace wt := wt.under bl_wt_l0 bb
        replace lw := Sle.off lw of_sO1_b198 gw
        replace hrd := blk_under hrd bb y_l0_rd.out
        replace hob := blk_under hob bb y_l0_ob.out
        replace hac := blk_under hac bb y_l0_ac.out
        replace hb198 := blk_own hb198 gw of_sO1_b198
        clear gw
        replace kp := kp_under kp bb p_l0
        replace bel := bel.trans (bb.mono l0lo)
        have lz_sO2 := Nat.le_trans lz_sO1 bb.size
        clear bb
        clear sO1 sO1w lz_sO1
        replace own_ : w125.ownsRow (w117.heap.size) 71 7 v199 (nx + 1) ((c.opens ++ [(p, ny, p4 z, nu)] : List (Int × Int × Ad4 × Int)).flatMap opf) := own_
        obtain ⟨A199, c199, rfl⟩ := owk_val own_
        have sO2w := own_
        have sO2 := (owk_sle (by decide) opf_len own_).1
        have fr_sO2 := (owk_sle (by decide) opf_len own_).2
        clear own_
        have av_sO2_rd := fr_sO2.av y_l0_rd.out
        have av_sO2_ob := fr_sO2.av y_l0_ob.out
        have av_sO2_ac := fr_sO2.av y_l0_ac.out
        have av_sO2_b198 := owk_av sO2w of199_b198
        clear lw
        clear hb198
        have fw_sO2 := fr_sO2.mono p_l0
        refine hK.out _ _ hob (fun hH126 => ?_)
        clear hK K
        simp only [sq4]
        refine wpAnyH_take (i := 10) (v := ?_) rfl (by kernel_rfl) (by kernel_rfl) (by kernel_rfl) (fun _ _ _ h => h) (Or.inl ⟨by rfl, ?_⟩) hH126 ?_
        rotate_left
        · ((intro W hW; clear hW; go_simp) <;> with_reducible rfl)
        simp only [sq3, sq4]
        refine wpAnyH_take (i := 11) (v := ?_) rfl (by kernel_rfl) (by kernel_rfl) (by kernel_rfl) (fun _ _ _ h => h) (Or.inl ⟨by rfl, ?_⟩) hH126 ?_
        rotate_left
        · ((intro W hW; clear hW; go_simp) <;> with_reducible rfl)
        simp only [sq3, sq4]
        refine wpAnyH_ready (rs := [12]) (by kernel_rfl) (by simp) ?_
        refine AllReadyH.cons (o := _) rfl (fun K hK => ?_) AllReadyH.nil
        simp only [sq3]
        rw [if_pos (by rfl)]
        refine wp_store_part 38 (.tmp 201) (.tmp 199) rfl gr 39 rfl [.slice A199 (nx + 1) c199] rfl (cfl c Fx nf cf Ox nx cx) 40 hrd (by simp) [.int .u8 (c.own.a.toNat : Int), .int .u8 (c.own.b.toNat : Int), .int .u8 (c.own.c.toNat : Int), .int .u8 (c.own.d.toNat : Int), .int .u8 (c.lan.a.toNat : Int), .int .u8 (c.lan.b.toNat : Int), .int .u8 (c.lan.c.toNat : Int), .int .u8 (c.lan.d.toNat : Int), .int .i64 c.bits, .int .u8 (c.lanmac.a.toNat : Int), .int .u8 (c.lanmac.b.toNat : Int), .int .u8 (c.lanmac.c.toNat : Int), .int .u8 (c.lanmac.d.toNat : Int), .int .u8 (c.lanmac.e.toNat : Int), .int .u8 (c.lanmac.f.toNat : Int), .int .u8 (c.wanmac.a.toNat : Int), .int .u8 (c.wanmac.b.toNat : Int), .int .u8 (c.wanmac.c.toNat : Int), .int .u8 (c.wanmac.d.toNat : Int), .int .u8 (c.wanmac.e.toNat : Int), .int .u8 (c.wanmac.f.toNat : Int), .int .u8 (c.first.a.toNat : Int), .int .u8 (c.first.b.toNat : Int), .int .u8 (c.first.c.toNat : Int), .int .u8 (c.first.d.toNat : Int), .int .u8 (c.last.a.toNat : Int), .int .u8 (c.last.b.toNat : Int), .int .u8 (c.last.c.toNat : Int), .int .u8 (c.last.d.toNat : Int), .int .i64 c.time, .int .u8 (c.dns.a.toNat : Int), .int .u8 (c.dns.b.toNat : Int), .int .u8 (c.dns.c.toNat : Int), .int .u8 (c.dns.d.toNat : Int), .int .i64 c.udp, .int .i64 c.tcp, .int .i64 c.icmp, .int .i64 c.low, .slice Fx nf cf, .slice A199 (nx + 1) c199] rfl (by kernel_rfl) (by rfl) ?_
        intro w127 hq gr
        replace sF := sF.away av_sF_rd gr
        replace sO := sO.away av_sO_rd gr
        replace wt := wt.away av_wt_rd gr
        replace sO2 := sO2.away av_sO2_rd gr
        replace sO2w := owk_away sO2w y_l0_rd.out gr
        replace lz_sO2 := Nat.le_trans lz_sO2 gr.size
        replace hob := blk_a hob gr d_ob_rd
        replace hac := blk_a hac gr (ne_symm d_rd_ac)
        replace kp := kp.trans gr
        replace bel := below_grown bel gr ord (Nat.le_trans hlo bel.size)
        clear hrd
        have hrd := hq
        clear hq gr
        refine hK.out _ _ hob (fun hH128 => ?_)
        clear hK K
        simp only [Act.put]
        refine wpAnyH_done (by kernel_rfl) ?_ _
        go_wp2_with fail
        go_meet
        case rel => exact ⟨A199, c199, hrd, hob, hac, (ne_symm d_ob_ac), (ne_symm d_rd_ac), d_ob_rd, sF, av_sF_ac, av_sF_ob, av_sF_rd, sO, av_sO_ac, av_sO_ob, av_sO_rd, wt, av_wt_ac, av_wt_ob, av_wt_rd, sO2, av_sO2_ac, av_sO2_ob, av_sO2_rd, fw_sO2, kp, bel⟩
      simp only [sq3]
      rw [if_pos (by rfl)]
      refine wp_lit_n 38 71 1 _ rfl #[.int .i64 p, .int .i64 ny, .int .u8 ((p4 z).a.toNat : Int), .int .u8 ((p4 z).b.toNat : Int), .int .u8 ((p4 z).c.toNat : Int), .int .u8 ((p4 z).d.toNat : Int), .int .i64 nu] (.agg #[.int .i64 0, .int .i64 0, .int .u8 0, .int .u8 0, .int .u8 0, .int .u8 0, .int .i64 0]) Try.underlying38 (by kernel_rfl) 7 (by kernel_rfl) (by decide) (by kernel_rfl) ?_
      intro g198 w121 ge lt hh bb
      have d_rd_b198 := ne_new (hlt hrd) ge
      have d_ob_b198 := ne_new (hlt hob) ge
      have d_ac_b198 := ne_new (hlt hac) ge
      have av_sF_b198 := sF.av_new ge
      have av_sO_b198 := sO.av_new ge
      have av_wt_b198 := wt.av_new ge
      have av_l0_b198 := l0.av_new ge
      have of_l0_b198 := owk_new l0w ge
      have ob198 := Nat.le_trans (Nat.le_trans hlo bel.size) ge
      have pb198 := Nat.le_trans kp.size ge
      replace hrd := blk_u hrd bb
      replace hob := blk_u hob bb
      replace hac := blk_u hac bb
      replace sF := sF.below bb
      replace sO := sO.below bb
      replace wt := wt.below bb
      replace l0 := l0.below bb
      replace l0w := owk_under l0w bb
      replace lz_l0 := Nat.le_trans lz_l0 bb.size
      replace kp := kp_below kp bb
      replace bel := bel.trans (bb.mono (Nat.le_trans hlo bel.size))
      have hb198 := hh
      clear hh lt ge bb
      have lw : Sle opf 7 w121 (some ⟨g198, 0, none⟩) (1) (1) ([(p, ny, p4 z, nu)]) := sle_lit ([(p, ny, p4 z, nu)]) (by decide) opf_len hb198 rfl (by simp [maxLen])
      refine hK.out _ _ hob (fun hH122 => ?_)
      clear hK K
      simp only [sq4]
      refine wpAnyH_ready (rs := [6]) (by kernel_rfl) (by simp) ?_
      refine AllReadyH.cons (o := _) rfl (fun K hK => ?_) AllReadyH.nil
      simp only [sq3]
      rw [if_pos (by rfl)]
      refine wp_append_sle (.tmp 191) (.tmp 195) 38 rfl (w117.heap.size) 71 ih (.agg #[.int .i64 0, .int .i64 0, .int .u8 0, .int .u8 0, .int .u8 0, .int .u8 0, .int .i64 0]) 32 Try.underlying38 hih hih0 hih1 hih2 rfl opf_one _ (0) ([]) rfl l0w (Ox) (nx) (cx) (c.opens) rfl sO (by unfold maxLen; omega) (by omega) lz_l0 ?_
      intro v196 w123 own_ bb gw ofw
      have of196_b198 := ofw _ (hlt hb198) of_l0_b198
      clear ofw
      replace sF := sF.under bl_sF_l0 bb
      replace sO := sO.under bl_sO_l0 bb
      replace wt := wt.under bl_wt_l0 bb
      replace lw := Sle.off lw of_l0_b198 gw
      replace hrd := blk_under hrd bb y_l0_rd.out
      replace hob := blk_under hob bb y_l0_ob.out
      replace hac := blk_under hac bb y_l0_ac.out
      replace hb198 := blk_own hb198 gw of_l0_b198
      clear gw
      replace kp := kp_under kp bb p_l0
      replace bel := bel.trans (bb.mono l0lo)
      have lz_sO1 := Nat.le_trans lz_l0 bb.size
      clear bb
      clear l0 l0w lz_l0
      replace own_ : w123.ownsRow (w117.heap.size) 71 7 v196 (nx) ((c.opens : List (Int × Int × Ad4 × Int)).flatMap opf) := (by have h_ := own_; rw [Nat.zero_add, List.nil_append] at h_; exact h_)
      obtain ⟨A196, c196, rfl⟩ := owk_val own_
      have sO1w := own_
      have sO1 := (owk_sle (by decide) opf_len own_).1
      have fr_sO1 := (owk_sle (by decide) opf_len own_).2
      clear own_
      have av_sO1_rd := fr_sO1.av y_l0_rd.out
      have av_sO1_ob := fr_sO1.av y_l0_ob.out
      have av_sO1_ac := fr_sO1.av y_l0_ac.out
      have av_sO1_b198 := owk_av sO1w of196_b198
      refine hK.out _ _ hob (fun hH124 => ?_)
      clear hK K
      simp only [sq4]
      refine wpAnyH_ready (rs := [9]) (by kernel_rfl) (by simp) ?_
      refine AllReadyH.cons (o := _) rfl (fun K hK => ?_) AllReadyH.nil
      simp only [sq3]
      rw [if_pos (by rfl)]
      refine wp_append_sle (.tmp 196) (.tmp 198) 38 rfl (w117.heap.size) 71 ih (.agg #[.int .i64 0, .int .i64 0, .int .u8 0, .int .u8 0, .int .u8 0, .int .u8 0, .int .i64 0]) 32 Try.underlying38 hih hih0 hih1 hih2 rfl opf_one _ (nx) (c.opens) rfl sO1w (some ⟨g198, 0, none⟩) (1) (1) ([(p, ny, p4 z, nu)]) rfl lw (by unfold maxLen; omega) (by omega) lz_sO1 ?_
      intro v199 w125 own_ bb gw ofw
      have of199_b198 := ofw _ (hlt hb198) of196_b198
      clear ofw
      replace sF := sF.under bl_sF_l0 bb
      replace sO := sO.under bl_sO_l0 bb
      replace wt := wt.under bl_wt_l0 bb
      replace lw := Sle.off lw of196_b198 gw
      replace hrd := blk_under hrd bb y_l0_rd.out
      replace hob := blk_under hob bb y_l0_ob.out
      replace hac := blk_under hac bb y_l0_ac.out
      replace hb198 := blk_own hb198 gw of196_b198
      clear gw
      replace kp := kp_under kp bb p_l0
      replace bel := bel.trans (bb.mono l0lo)
      have lz_sO2 := Nat.le_trans lz_sO1 bb.size
      clear bb
      clear sO1 sO1w lz_sO1
      replace own_ : w125.ownsRow (w117.heap.size) 71 7 v199 (nx + 1) ((c.opens ++ [(p, ny, p4 z, nu)] : List (Int × Int × Ad4 × Int)).flatMap opf) := own_
      obtain ⟨A199, c199, rfl⟩ := owk_val own_
      have sO2w := own_
      have sO2 := (owk_sle (by decide) opf_len own_).1
      have fr_sO2 := (owk_sle (by decide) opf_len own_).2
      clear own_
      have av_sO2_rd := fr_sO2.av y_l0_rd.out
      have av_sO2_ob := fr_sO2.av y_l0_ob.out
      have av_sO2_ac := fr_sO2.av y_l0_ac.out
      have av_sO2_b198 := owk_av sO2w of199_b198
      clear lw
      clear hb198
      have fw_sO2 := fr_sO2.mono p_l0
      refine hK.out _ _ hob (fun hH126 => ?_)
      clear hK K
      simp only [sq4]
      refine wpAnyH_take (i := 10) (v := ?_) rfl (by kernel_rfl) (by kernel_rfl) (by kernel_rfl) (fun _ _ _ h => h) (Or.inl ⟨by rfl, ?_⟩) hH126 ?_
      rotate_left
      · ((intro W hW; clear hW; go_simp) <;> with_reducible rfl)
      simp only [sq3, sq4]
      refine wpAnyH_take (i := 11) (v := ?_) rfl (by kernel_rfl) (by kernel_rfl) (by kernel_rfl) (fun _ _ _ h => h) (Or.inl ⟨by rfl, ?_⟩) hH126 ?_
      rotate_left
      · ((intro W hW; clear hW; go_simp) <;> with_reducible rfl)
      simp only [sq3, sq4]
      refine wpAnyH_ready (rs := [12]) (by kernel_rfl) (by simp) ?_
      refine AllReadyH.cons (o := _) rfl (fun K hK => ?_) AllReadyH.nil
      simp only [sq3]
      rw [if_pos (by rfl)]
      refine wp_store_part 38 (.tmp 201) (.tmp 199) rfl gr 39 rfl [.slice A199 (nx + 1) c199] rfl (cfl c Fx nf cf Ox nx cx) 40 hrd (by simp) [.int .u8 (c.own.a.toNat : Int), .int .u8 (c.own.b.toNat : Int), .int .u8 (c.own.c.toNat : Int), .int .u8 (c.own.d.toNat : Int), .int .u8 (c.lan.a.toNat : Int), .int .u8 (c.lan.b.toNat : Int), .int .u8 (c.lan.c.toNat : Int), .int .u8 (c.lan.d.toNat : Int), .int .i64 c.bits, .int .u8 (c.lanmac.a.toNat : Int), .int .u8 (c.lanmac.b.toNat : Int), .int .u8 (c.lanmac.c.toNat : Int), .int .u8 (c.lanmac.d.toNat : Int), .int .u8 (c.lanmac.e.toNat : Int), .int .u8 (c.lanmac.f.toNat : Int), .int .u8 (c.wanmac.a.toNat : Int), .int .u8 (c.wanmac.b.toNat : Int), .int .u8 (c.wanmac.c.toNat : Int), .int .u8 (c.wanmac.d.toNat : Int), .int .u8 (c.wanmac.e.toNat : Int), .int .u8 (c.wanmac.f.toNat : Int), .int .u8 (c.first.a.toNat : Int), .int .u8 (c.first.b.toNat : Int), .int .u8 (c.first.c.toNat : Int), .int .u8 (c.first.d.toNat : Int), .int .u8 (c.last.a.toNat : Int), .int .u8 (c.last.b.toNat : Int), .int .u8 (c.last.c.toNat : Int), .int .u8 (c.last.d.toNat : Int), .int .i64 c.time, .int .u8 (c.dns.a.toNat : Int), .int .u8 (c.dns.b.toNat : Int), .int .u8 (c.dns.c.toNat : Int), .int .u8 (c.dns.d.toNat : Int), .int .i64 c.udp, .int .i64 c.tcp, .int .i64 c.icmp, .int .i64 c.low, .slice Fx nf cf, .slice A199 (nx + 1) c199] rfl (by kernel_rfl) (by rfl) ?_
      intro w127 hq gr
      replace sF := sF.away av_sF_rd gr
      replace sO := sO.away av_sO_rd gr
      replace wt := wt.away av_wt_rd gr
      replace sO2 := sO2.away av_sO2_rd gr
      replace sO2w := owk_away sO2w y_l0_rd.out gr
      replace lz_sO2 := Nat.le_trans lz_sO2 gr.size
      replace hob := blk_a hob gr d_ob_rd
      replace hac := blk_a hac gr (ne_symm d_rd_ac)
      replace kp := kp.trans gr
      replace bel := below_grown bel gr ord (Nat.le_trans hlo bel.size)
      clear hrd
      have hrd := hq
      clear hq gr
      refine hK.out _ _ hob (fun hH128 => ?_)
      clear hK K
      simp only [Act.put]
      refine wpAnyH_done (by kernel_rfl) ?_ _
      go_wp2_with fail
      go_meet
      case rel => exact ⟨A199, c199, hrd, hob, hac, (ne_symm d_ob_ac), (ne_symm d_rd_ac), d_ob_rd, sF, av_sF_ac, av_sF_ob, av_sF_rd, sO, av_sO_ac, av_sO_ob, av_sO_rd, wt, av_wt_ac, av_wt_ob, av_wt_rd, sO2, av_sO2_ac, av_sO2_ob, av_sO2_rd, fw_sO2, kp, bel⟩
    simp only [sq3]
    rw [if_pos (by rfl)]
    have hk_ := cell_lit hrd 39 _ rfl
    refine wp_val (v := .slice Ox nx cx) (by (go_simp) <;> with_reducible rfl) ?_
    clear hk_
    refine hK.out _ _ hob (fun hH118 => ?_)
    clear hK K
    simp only [sq4]
    refine wpAnyH_ready (rs := [1, 8]) (by kernel_rfl) (by simp) ?_
    refine AllReadyH.cons (o := _) rfl (fun K hK => ?_) (AllReadyH.cons (o := _) rfl (fun K hK => ?_) AllReadyH.nil)
    rotate_left
    · simp only [sq3]
      rw [if_pos (by rfl)]
      refine wp_lit_n 38 71 1 _ rfl #[.int .i64 p, .int .i64 ny, .int .u8 ((p4 z).a.toNat : Int), .int .u8 ((p4 z).b.toNat : Int), .int .u8 ((p4 z).c.toNat : Int), .int .u8 ((p4 z).d.toNat : Int), .int .i64 nu] (.agg #[.int .i64 0, .int .i64 0, .int .u8 0, .int .u8 0, .int .u8 0, .int .u8 0, .int .i64 0]) Try.underlying38 (by kernel_rfl) 7 (by kernel_rfl) (by decide) (by kernel_rfl) ?_
      intro g198 w119 ge lt hh bb
      have d_rd_b198 := ne_new (hlt hrd) ge
      have d_ob_b198 := ne_new (hlt hob) ge
      have d_ac_b198 := ne_new (hlt hac) ge
      have av_sF_b198 := sF.av_new ge
      have av_sO_b198 := sO.av_new ge
      have av_wt_b198 := wt.av_new ge
      have ob198 := Nat.le_trans (Nat.le_trans hlo bel.size) ge
      have pb198 := Nat.le_trans kp.size ge
      replace hrd := blk_u hrd bb
      replace hob := blk_u hob bb
      replace hac := blk_u hac bb
      replace sF := sF.below bb
      replace sO := sO.below bb
      replace wt := wt.below bb
      replace kp := kp_below kp bb
      replace bel := bel.trans (bb.mono (Nat.le_trans hlo bel.size))
      have hb198 := hh
      clear hh lt ge bb
      have lw : Sle opf 7 w119 (some ⟨g198, 0, none⟩) (1) (1) ([(p, ny, p4 z, nu)]) := sle_lit ([(p, ny, p4 z, nu)]) (by decide) opf_len hb198 rfl (by simp [maxLen])
      refine hK.out _ _ hob (fun hH120 => ?_)
      clear hK K
      simp only [sq4]
      refine wpAnyH_ready (rs := [1]) (by kernel_rfl) (by simp) ?_
      refine AllReadyH.cons (o := _) rfl (fun K hK => ?_) AllReadyH.nil
      simp only [sq3]
      rw [if_pos (by rfl)]
      refine wp_lit_n 38 71 0 _ rfl #[] (.agg #[.int .i64 0, .int .i64 0, .int .u8 0, .int .u8 0, .int .u8 0, .int .u8 0, .int .i64 0]) Try.underlying38 (by kernel_rfl) 7 (by kernel_rfl) (by decide) (by kernel_rfl) ?_
      intro g191 w121 ge lt hh bb
      have l0w := owk_lit (B := w119.heap.size) ([] : List (Int × Int × Ad4 × Int)) opf_len (show w121.heap[g191]? = some (.cells (([] : List (Int × Int × Ad4 × Int)).flatMap opf).toArray 71 (0, 0)) from hh) ge 0 rfl (by simp [maxLen])
      have l0 := (owk_sle (by decide) opf_len l0w).1
      have l0lo := (Nat.le_trans hlo bel.size)
      have l0ge := ge
      have lz_l0 := bb.size
      have p_l0 := kp.size
      have y_l0_rd := Lib.hid (hlt hrd)
      have y_l0_ob := Lib.hid (hlt hob)
      have y_l0_ac := Lib.hid (hlt hac)
      have y_l0_b198 := Lib.hid (hlt hb198)
      have bl_sF_l0 := sF.bl_new
      have bl_sO_l0 := sO.bl_new
      have bl_wt_l0 := wt.bl_new
      have bl_lw_l0 := lw.bl_new
      replace hrd := blk_u hrd bb
      replace hob := blk_u hob bb
      replace hac := blk_u hac bb
      replace hb198 := blk_u hb198 bb
      replace sF := sF.below bb
      replace sO := sO.below bb
      replace wt := wt.below bb
      replace lw := lw.below bb
      replace kp := kp_below kp bb
      replace bel := bel.trans (bb.mono (Nat.le_trans hlo bel.size))
      clear hh lt ge bb
      have av_l0_rd := (owk_sle (by decide) opf_len l0w).2.av y_l0_rd.out
      have av_l0_ob := (owk_sle (by decide) opf_len l0w).2.av y_l0_ob.out
      have av_l0_ac := (owk_sle (by decide) opf_len l0w).2.av y_l0_ac.out
      have av_l0_b198 := (owk_sle (by decide) opf_len l0w).2.av y_l0_b198.out
      refine hK.out _ _ hob (fun hH122 => ?_)
      clear hK K
      simp only [sq4]
      refine wpAnyH_ready (rs := [6]) (by kernel_rfl) (by simp) ?_
      refine AllReadyH.cons (o := _) rfl (fun K hK => ?_) AllReadyH.nil
      simp only [sq3]
      rw [if_pos (by rfl)]
      refine wp_append_sle (.tmp 191) (.tmp 195) 38 rfl (w119.heap.size) 71 ih (.agg #[.int .i64 0, .int .i64 0, .int .u8 0, .int .u8 0, .int .u8 0, .int .u8 0, .int .i64 0]) 32 Try.underlying38 hih hih0 hih1 hih2 rfl opf_one _ (0) ([]) rfl l0w (Ox) (nx) (cx) (c.opens) rfl sO (by unfold maxLen; omega) (by omega) lz_l0 ?_
      intro v196 w123 own_ bb gw ofw
      clear ofw
      replace sF := sF.under bl_sF_l0 bb
      replace sO := sO.under bl_sO_l0 bb
      replace wt := wt.under bl_wt_l0 bb
      replace lw := lw.under bl_lw_l0 bb
      replace hrd := blk_under hrd bb y_l0_rd.out
      replace hob := blk_under hob bb y_l0_ob.out
      replace hac := blk_under hac bb y_l0_ac.out
      replace hb198 := blk_under hb198 bb y_l0_b198.out
      clear gw
      replace kp := kp_under kp bb p_l0
      replace bel := bel.trans (bb.mono l0lo)
      have lz_sO1 := Nat.le_trans lz_l0 bb.size
      clear bb
      clear l0 l0w lz_l0
      replace own_ : w123.ownsRow (w119.heap.size) 71 7 v196 (nx) ((c.opens : List (Int × Int × Ad4 × Int)).flatMap opf) := (by have h_ := own_; rw [Nat.zero_add, List.nil_append] at h_; exact h_)
      obtain ⟨A196, c196, rfl⟩ := owk_val own_
      have sO1w := own_
      have sO1 := (owk_sle (by decide) opf_len own_).1
      have fr_sO1 := (owk_sle (by decide) opf_len own_).2
      clear own_
      have av_sO1_rd := fr_sO1.av y_l0_rd.out
      have av_sO1_ob := fr_sO1.av y_l0_ob.out
      have av_sO1_ac := fr_sO1.av y_l0_ac.out
      have av_sO1_b198 := fr_sO1.av y_l0_b198.out
      refine hK.out _ _ hob (fun hH124 => ?_)
      clear hK K
      simp only [sq4]
      refine wpAnyH_ready (rs := [9]) (by kernel_rfl) (by simp) ?_
      refine AllReadyH.cons (o := _) rfl (fun K hK => ?_) AllReadyH.nil
      simp only [sq3]
      rw [if_pos (by rfl)]
      refine wp_append_sle (.tmp 196) (.tmp 198) 38 rfl (w119.heap.size) 71 ih (.agg #[.int .i64 0, .int .i64 0, .int .u8 0, .int .u8 0, .int .u8 0, .int .u8 0, .int .i64 0]) 32 Try.underlying38 hih hih0 hih1 hih2 rfl opf_one _ (nx) (c.opens) rfl sO1w (some ⟨g198, 0, none⟩) (1) (1) ([(p, ny, p4 z, nu)]) rfl lw (by unfold maxLen; omega) (by omega) lz_sO1 ?_
      intro v199 w125 own_ bb gw ofw
      clear ofw
      replace sF := sF.under bl_sF_l0 bb
      replace sO := sO.under bl_sO_l0 bb
      replace wt := wt.under bl_wt_l0 bb
      replace lw := lw.under bl_lw_l0 bb
      replace hrd := blk_under hrd bb y_l0_rd.out
      replace hob := blk_under hob bb y_l0_ob.out
      replace hac := blk_under hac bb y_l0_ac.out
      replace hb198 := blk_under hb198 bb y_l0_b198.out
      clear gw
      replace kp := kp_under kp bb p_l0
      replace bel := bel.trans (bb.mono l0lo)
      have lz_sO2 := Nat.le_trans lz_sO1 bb.size
      clear bb
      clear sO1 sO1w lz_sO1
      replace own_ : w125.ownsRow (w119.heap.size) 71 7 v199 (nx + 1) ((c.opens ++ [(p, ny, p4 z, nu)] : List (Int × Int × Ad4 × Int)).flatMap opf) := own_
      obtain ⟨A199, c199, rfl⟩ := owk_val own_
      have sO2w := own_
      have sO2 := (owk_sle (by decide) opf_len own_).1
      have fr_sO2 := (owk_sle (by decide) opf_len own_).2
      clear own_
      have av_sO2_rd := fr_sO2.av y_l0_rd.out
      have av_sO2_ob := fr_sO2.av y_l0_ob.out
      have av_sO2_ac := fr_sO2.av y_l0_ac.out
      have av_sO2_b198 := fr_sO2.av y_l0_b198.out
      clear lw
      clear hb198
      have fw_sO2 := fr_sO2.mono p_l0
      refine hK.out _ _ hob (fun hH126 => ?_)
      clear hK K
      simp only [sq4]
      refine wpAnyH_take (i := 10) (v := ?_) rfl (by kernel_rfl) (by kernel_rfl) (by kernel_rfl) (fun _ _ _ h => h) (Or.inl ⟨by rfl, ?_⟩) hH126 ?_
      rotate_left
      · ((intro W hW; clear hW; go_simp) <;> with_reducible rfl)
      simp only [sq3, sq4]
      refine wpAnyH_take (i := 11) (v := ?_) rfl (by kernel_rfl) (by kernel_rfl) (by kernel_rfl) (fun _ _ _ h => h) (Or.inl ⟨by rfl, ?_⟩) hH126 ?_
      rotate_left
      · ((intro W hW; clear hW; go_simp) <;> with_reducible rfl)
      simp only [sq3, sq4]
      refine wpAnyH_ready (rs := [12]) (by kernel_rfl) (by simp) ?_
      refine AllReadyH.cons (o := _) rfl (fun K hK => ?_) AllReadyH.nil
      simp only [sq3]
      rw [if_pos (by rfl)]
      refine wp_store_part 38 (.tmp 201) (.tmp 199) rfl gr 39 rfl [.slice A199 (nx + 1) c199] rfl (cfl c Fx nf cf Ox nx cx) 40 hrd (by simp) [.int .u8 (c.own.a.toNat : Int), .int .u8 (c.own.b.toNat : Int), .int .u8 (c.own.c.toNat : Int), .int .u8 (c.own.d.toNat : Int), .int .u8 (c.lan.a.toNat : Int), .int .u8 (c.lan.b.toNat : Int), .int .u8 (c.lan.c.toNat : Int), .int .u8 (c.lan.d.toNat : Int), .int .i64 c.bits, .int .u8 (c.lanmac.a.toNat : Int), .int .u8 (c.lanmac.b.toNat : Int), .int .u8 (c.lanmac.c.toNat : Int), .int .u8 (c.lanmac.d.toNat : Int), .int .u8 (c.lanmac.e.toNat : Int), .int .u8 (c.lanmac.f.toNat : Int), .int .u8 (c.wanmac.a.toNat : Int), .int .u8 (c.wanmac.b.toNat : Int), .int .u8 (c.wanmac.c.toNat : Int), .int .u8 (c.wanmac.d.toNat : Int), .int .u8 (c.wanmac.e.toNat : Int), .int .u8 (c.wanmac.f.toNat : Int), .int .u8 (c.first.a.toNat : Int), .int .u8 (c.first.b.toNat : Int), .int .u8 (c.first.c.toNat : Int), .int .u8 (c.first.d.toNat : Int), .int .u8 (c.last.a.toNat : Int), .int .u8 (c.last.b.toNat : Int), .int .u8 (c.last.c.toNat : Int), .int .u8 (c.last.d.toNat : Int), .int .i64 c.time, .int .u8 (c.dns.a.toNat : Int), .int .u8 (c.dns.b.toNat : Int), .int .u8 (c.dns.c.toNat : Int), .int .u8 (c.dns.d.toNat : Int), .int .i64 c.udp, .int .i64 c.tcp, .int .i64 c.icmp, .int .i64 c.low, .slice Fx nf cf, .slice A199 (nx + 1) c199] rfl (by kernel_rfl) (by rfl) ?_
      intro w127 hq gr
      replace sF := sF.away av_sF_rd gr
      replace sO := sO.away av_sO_rd gr
      replace wt := wt.away av_wt_rd gr
      replace sO2 := sO2.away av_sO2_rd gr
      replace sO2w := owk_away sO2w y_l0_rd.out gr
      replace lz_sO2 := Nat.le_trans lz_sO2 gr.size
      replace hob := blk_a hob gr d_ob_rd
      replace hac := blk_a hac gr (ne_symm d_rd_ac)
      replace kp := kp.trans gr
      replace bel := below_grown bel gr ord (Nat.le_trans hlo bel.size)
      clear hrd
      have hrd := hq
      clear hq gr
      refine hK.out _ _ hob (fun hH128 => ?_)
      clear hK K
      simp only [Act.put]
      refine wpAnyH_done (by kernel_rfl) ?_ _
      go_wp2_with fail
      go_meet
      case rel => exact ⟨A199, c199, hrd, hob, hac, (ne_symm d_ob_ac), (ne_symm d_rd_ac), d_ob_rd, sF, av_sF_ac, av_sF_ob, av_sF_rd, sO, av_sO_ac, av_sO_ob, av_sO_rd, wt, av_wt_ac, av_wt_ob, av_wt_rd, sO2, av_sO2_ac, av_sO2_ob, av_sO2_rd, fw_sO2, kp, bel⟩
    simp only [sq3]
    rw [if_pos (by rfl)]
    refine wp_lit_n 38 71 0 _ rfl #[] (.agg #[.int .i64 0, .int .i64 0, .int .u8 0, .int .u8 0, .int .u8 0, .int .u8 0, .int .i64 0]) Try.underlying38 (by kernel_rfl) 7 (by kernel_rfl) (by decide) (by kernel_rfl) ?_
    intro g191 w119 ge lt hh bb
    have l0w := owk_lit (B := w117.heap.size) ([] : List (Int × Int × Ad4 × Int)) opf_len (show w119.heap[g191]? = some (.cells (([] : List (Int × Int × Ad4 × Int)).flatMap opf).toArray 71 (0, 0)) from hh) ge 0 rfl (by simp [maxLen])
    have l0 := (owk_sle (by decide) opf_len l0w).1
    have l0lo := (Nat.le_trans hlo bel.size)
    have l0ge := ge
    have lz_l0 := bb.size
    have p_l0 := kp.size
    have y_l0_rd := Lib.hid (hlt hrd)
    have y_l0_ob := Lib.hid (hlt hob)
    have y_l0_ac := Lib.hid (hlt hac)
    have bl_sF_l0 := sF.bl_new
    have bl_sO_l0 := sO.bl_new
    have bl_wt_l0 := wt.bl_new
    replace hrd := blk_u hrd bb
    replace hob := blk_u hob bb
    replace hac := blk_u hac bb
    replace sF := sF.below bb
    replace sO := sO.below bb
    replace wt := wt.below bb
    replace kp := kp_below kp bb
    replace bel := bel.trans (bb.mono (Nat.le_trans hlo bel.size))
    clear hh lt ge bb
    have av_l0_rd := (owk_sle (by decide) opf_len l0w).2.av y_l0_rd.out
    have av_l0_ob := (owk_sle (by decide) opf_len l0w).2.av y_l0_ob.out
    have av_l0_ac := (owk_sle (by decide) opf_len l0w).2.av y_l0_ac.out
    refine hK.out _ _ hob (fun hH120 => ?_)
    clear hK K
    simp only [sq4]
    refine wpAnyH_ready (rs := [6, 8]) (by kernel_rfl) (by simp) ?_
    refine AllReadyH.cons (o := _) rfl (fun K hK => ?_) (AllReadyH.cons (o := _) rfl (fun K hK => ?_) AllReadyH.nil)
    · simp only [sq3]
      rw [if_pos (by rfl)]
      refine wp_append_sle (.tmp 191) (.tmp 195) 38 rfl (w117.heap.size) 71 ih (.agg #[.int .i64 0, .int .i64 0, .int .u8 0, .int .u8 0, .int .u8 0, .int .u8 0, .int .i64 0]) 32 Try.underlying38 hih hih0 hih1 hih2 rfl opf_one _ (0) ([]) rfl l0w (Ox) (nx) (cx) (c.opens) rfl sO (by unfold maxLen; omega) (by omega) lz_l0 ?_
      intro v196 w121 own_ bb gw ofw
      clear ofw
      replace sF := sF.under bl_sF_l0 bb
      replace sO := sO.under bl_sO_l0 bb
      replace wt := wt.under bl_wt_l0 bb
      replace hrd := blk_under hrd bb y_l0_rd.out
      replace hob := blk_under hob bb y_l0_ob.out
      replace hac := blk_under hac bb y_l0_ac.out
      clear gw
      replace kp := kp_under kp bb p_l0
      replace bel := bel.trans (bb.mono l0lo)
      have lz_sO1 := Nat.le_trans lz_l0 bb.size
      clear bb
      clear l0 l0w lz_l0
      replace own_ : w121.ownsRow (w117.heap.size) 71 7 v196 (nx) ((c.opens : List (Int × Int × Ad4 × Int)).flatMap opf) := (by have h_ := own_; rw [Nat.zero_add, List.nil_append] at h_; exact h_)
      obtain ⟨A196, c196, rfl⟩ := owk_val own_
      have sO1w := own_
      have sO1 := (owk_sle (by decide) opf_len own_).1
      have fr_sO1 := (owk_sle (by decide) opf_len own_).2
      clear own_
      have av_sO1_rd := fr_sO1.av y_l0_rd.out
      have av_sO1_ob := fr_sO1.av y_l0_ob.out
      have av_sO1_ac := fr_sO1.av y_l0_ac.out
      refine hK.out _ _ hob (fun hH122 => ?_)
      clear hK K
      simp only [sq4]
      refine wpAnyH_ready (rs := [8]) (by kernel_rfl) (by simp) ?_
      refine AllReadyH.cons (o := _) rfl (fun K hK => ?_) AllReadyH.nil
      simp only [sq3]
      rw [if_pos (by rfl)]
      refine wp_lit_n 38 71 1 _ rfl #[.int .i64 p, .int .i64 ny, .int .u8 ((p4 z).a.toNat : Int), .int .u8 ((p4 z).b.toNat : Int), .int .u8 ((p4 z).c.toNat : Int), .int .u8 ((p4 z).d.toNat : Int), .int .i64 nu] (.agg #[.int .i64 0, .int .i64 0, .int .u8 0, .int .u8 0, .int .u8 0, .int .u8 0, .int .i64 0]) Try.underlying38 (by kernel_rfl) 7 (by kernel_rfl) (by decide) (by kernel_rfl) ?_
      intro g198 w123 ge lt hh bb
      have d_rd_b198 := ne_new (hlt hrd) ge
      have d_ob_b198 := ne_new (hlt hob) ge
      have d_ac_b198 := ne_new (hlt hac) ge
      have av_sF_b198 := sF.av_new ge
      have av_sO_b198 := sO.av_new ge
      have av_wt_b198 := wt.av_new ge
      have av_sO1_b198 := sO1.av_new ge
      have of_sO1_b198 := owk_new sO1w ge
      have ob198 := Nat.le_trans (Nat.le_trans hlo bel.size) ge
      have pb198 := Nat.le_trans kp.size ge
      replace hrd := blk_u hrd bb
      replace hob := blk_u hob bb
      replace hac := blk_u hac bb
      replace sF := sF.below bb
      replace sO := sO.below bb
      replace wt := wt.below bb
      replace sO1 := sO1.below bb
      replace sO1w := owk_under sO1w bb
      replace lz_sO1 := Nat.le_trans lz_sO1 bb.size
      replace kp := kp_below kp bb
      replace bel := bel.trans (bb.mono (Nat.le_trans hlo bel.size))
      have hb198 := hh
      clear hh lt ge bb
      have lw : Sle opf 7 w123 (some ⟨g198, 0, none⟩) (1) (1) ([(p, ny, p4 z, nu)]) := sle_lit ([(p, ny, p4 z, nu)]) (by decide) opf_len hb198 rfl (by simp [maxLen])
      refine hK.out _ _ hob (fun hH124 => ?_)
      clear hK K
      simp only [sq4]
      refine wpAnyH_ready (rs := [9]) (by kernel_rfl) (by simp) ?_
      refine AllReadyH.cons (o := _) rfl (fun K hK => ?_) AllReadyH.nil
      simp only [sq3]
      rw [if_pos (by rfl)]
      refine wp_append_sle (.tmp 196) (.tmp 198) 38 rfl (w117.heap.size) 71 ih (.agg #[.int .i64 0, .int .i64 0, .int .u8 0, .int .u8 0, .int .u8 0, .int .u8 0, .int .i64 0]) 32 Try.underlying38 hih hih0 hih1 hih2 rfl opf_one _ (nx) (c.opens) rfl sO1w (some ⟨g198, 0, none⟩) (1) (1) ([(p, ny, p4 z, nu)]) rfl lw (by unfold maxLen; omega) (by omega) lz_sO1 ?_
      intro v199 w125 own_ bb gw ofw
      have of199_b198 := ofw _ (hlt hb198) of_sO1_b198
      clear ofw
      replace sF := sF.under bl_sF_l0 bb
      replace sO := sO.under bl_sO_l0 bb
      replace wt := wt.under bl_wt_l0 bb
      replace lw := Sle.off lw of_sO1_b198 gw
      replace hrd := blk_under hrd bb y_l0_rd.out
      replace hob := blk_under hob bb y_l0_ob.out
      replace hac := blk_under hac bb y_l0_ac.out
      replace hb198 := blk_own hb198 gw of_sO1_b198
      clear gw
      replace kp := kp_under kp bb p_l0
      replace bel := bel.trans (bb.mono l0lo)
      have lz_sO2 := Nat.le_trans lz_sO1 bb.size
      clear bb
      clear sO1 sO1w lz_sO1
      replace own_ : w125.ownsRow (w117.heap.size) 71 7 v199 (nx + 1) ((c.opens ++ [(p, ny, p4 z, nu)] : List (Int × Int × Ad4 × Int)).flatMap opf) := own_
      obtain ⟨A199, c199, rfl⟩ := owk_val own_
      have sO2w := own_
      have sO2 := (owk_sle (by decide) opf_len own_).1
      have fr_sO2 := (owk_sle (by decide) opf_len own_).2
      clear own_
      have av_sO2_rd := fr_sO2.av y_l0_rd.out
      have av_sO2_ob := fr_sO2.av y_l0_ob.out
      have av_sO2_ac := fr_sO2.av y_l0_ac.out
      have av_sO2_b198 := owk_av sO2w of199_b198
      clear lw
      clear hb198
      have fw_sO2 := fr_sO2.mono p_l0
      refine hK.out _ _ hob (fun hH126 => ?_)
      clear hK K
      simp only [sq4]
      refine wpAnyH_take (i := 10) (v := ?_) rfl (by kernel_rfl) (by kernel_rfl) (by kernel_rfl) (fun _ _ _ h => h) (Or.inl ⟨by rfl, ?_⟩) hH126 ?_
      rotate_left
      · ((intro W hW; clear hW; go_simp) <;> with_reducible rfl)
      simp only [sq3, sq4]
      refine wpAnyH_take (i := 11) (v := ?_) rfl (by kernel_rfl) (by kernel_rfl) (by kernel_rfl) (fun _ _ _ h => h) (Or.inl ⟨by rfl, ?_⟩) hH126 ?_
      rotate_left
      · ((intro W hW; clear hW; go_simp) <;> with_reducible rfl)
      simp only [sq3, sq4]
      refine wpAnyH_ready (rs := [12]) (by kernel_rfl) (by simp) ?_
      refine AllReadyH.cons (o := _) rfl (fun K hK => ?_) AllReadyH.nil
      simp only [sq3]
      rw [if_pos (by rfl)]
      refine wp_store_part 38 (.tmp 201) (.tmp 199) rfl gr 39 rfl [.slice A199 (nx + 1) c199] rfl (cfl c Fx nf cf Ox nx cx) 40 hrd (by simp) [.int .u8 (c.own.a.toNat : Int), .int .u8 (c.own.b.toNat : Int), .int .u8 (c.own.c.toNat : Int), .int .u8 (c.own.d.toNat : Int), .int .u8 (c.lan.a.toNat : Int), .int .u8 (c.lan.b.toNat : Int), .int .u8 (c.lan.c.toNat : Int), .int .u8 (c.lan.d.toNat : Int), .int .i64 c.bits, .int .u8 (c.lanmac.a.toNat : Int), .int .u8 (c.lanmac.b.toNat : Int), .int .u8 (c.lanmac.c.toNat : Int), .int .u8 (c.lanmac.d.toNat : Int), .int .u8 (c.lanmac.e.toNat : Int), .int .u8 (c.lanmac.f.toNat : Int), .int .u8 (c.wanmac.a.toNat : Int), .int .u8 (c.wanmac.b.toNat : Int), .int .u8 (c.wanmac.c.toNat : Int), .int .u8 (c.wanmac.d.toNat : Int), .int .u8 (c.wanmac.e.toNat : Int), .int .u8 (c.wanmac.f.toNat : Int), .int .u8 (c.first.a.toNat : Int), .int .u8 (c.first.b.toNat : Int), .int .u8 (c.first.c.toNat : Int), .int .u8 (c.first.d.toNat : Int), .int .u8 (c.last.a.toNat : Int), .int .u8 (c.last.b.toNat : Int), .int .u8 (c.last.c.toNat : Int), .int .u8 (c.last.d.toNat : Int), .int .i64 c.time, .int .u8 (c.dns.a.toNat : Int), .int .u8 (c.dns.b.toNat : Int), .int .u8 (c.dns.c.toNat : Int), .int .u8 (c.dns.d.toNat : Int), .int .i64 c.udp, .int .i64 c.tcp, .int .i64 c.icmp, .int .i64 c.low, .slice Fx nf cf, .slice A199 (nx + 1) c199] rfl (by kernel_rfl) (by rfl) ?_
      intro w127 hq gr
      replace sF := sF.away av_sF_rd gr
      replace sO := sO.away av_sO_rd gr
      replace wt := wt.away av_wt_rd gr
      replace sO2 := sO2.away av_sO2_rd gr
      replace sO2w := owk_away sO2w y_l0_rd.out gr
      replace lz_sO2 := Nat.le_trans lz_sO2 gr.size
      replace hob := blk_a hob gr d_ob_rd
      replace hac := blk_a hac gr (ne_symm d_rd_ac)
      replace kp := kp.trans gr
      replace bel := below_grown bel gr ord (Nat.le_trans hlo bel.size)
      clear hrd
      have hrd := hq
      clear hq gr
      refine hK.out _ _ hob (fun hH128 => ?_)
      clear hK K
      simp only [Act.put]
      refine wpAnyH_done (by kernel_rfl) ?_ _
      go_wp2_with fail
      go_meet
      case rel => exact ⟨A199, c199, hrd, hob, hac, (ne_symm d_ob_ac), (ne_symm d_rd_ac), d_ob_rd, sF, av_sF_ac, av_sF_ob, av_sF_rd, sO, av_sO_ac, av_sO_ob, av_sO_rd, wt, av_wt_ac, av_wt_ob, av_wt_rd, sO2, av_sO2_ac, av_sO2_ob, av_sO2_rd, fw_sO2, kp, bel⟩
    simp only [sq3]
    rw [if_pos (by rfl)]
    refine wp_lit_n 38 71 1 _ rfl #[.int .i64 p, .int .i64 ny, .int .u8 ((p4 z).a.toNat : Int), .int .u8 ((p4 z).b.toNat : Int), .int .u8 ((p4 z).c.toNat : Int), .int .u8 ((p4 z).d.toNat : Int), .int .i64 nu] (.agg #[.int .i64 0, .int .i64 0, .int .u8 0, .int .u8 0, .int .u8 0, .int .u8 0, .int .i64 0]) Try.underlying38 (by kernel_rfl) 7 (by kernel_rfl) (by decide) (by kernel_rfl) ?_
    intro g198 w121 ge lt hh bb
    have d_rd_b198 := ne_new (hlt hrd) ge
    have d_ob_b198 := ne_new (hlt hob) ge
    have d_ac_b198 := ne_new (hlt hac) ge
    have av_sF_b198 := sF.av_new ge
    have av_sO_b198 := sO.av_new ge
    have av_wt_b198 := wt.av_new ge
    have av_l0_b198 := l0.av_new ge
    have of_l0_b198 := owk_new l0w ge
    have ob198 := Nat.le_trans (Nat.le_trans hlo bel.size) ge
    have pb198 := Nat.le_trans kp.size ge
    replace hrd := blk_u hrd bb
    replace hob := blk_u hob bb
    replace hac := blk_u hac bb
    replace sF := sF.below bb
    replace sO := sO.below bb
    replace wt := wt.below bb
    replace l0 := l0.below bb
    replace l0w := owk_under l0w bb
    replace lz_l0 := Nat.le_trans lz_l0 bb.size
    replace kp := kp_below kp bb
    replace bel := bel.trans (bb.mono (Nat.le_trans hlo bel.size))
    have hb198 := hh
    clear hh lt ge bb
    have lw : Sle opf 7 w121 (some ⟨g198, 0, none⟩) (1) (1) ([(p, ny, p4 z, nu)]) := sle_lit ([(p, ny, p4 z, nu)]) (by decide) opf_len hb198 rfl (by simp [maxLen])
    refine hK.out _ _ hob (fun hH122 => ?_)
    clear hK K
    simp only [sq4]
    refine wpAnyH_ready (rs := [6]) (by kernel_rfl) (by simp) ?_
    refine AllReadyH.cons (o := _) rfl (fun K hK => ?_) AllReadyH.nil
    simp only [sq3]
    rw [if_pos (by rfl)]
    refine wp_append_sle (.tmp 191) (.tmp 195) 38 rfl (w117.heap.size) 71 ih (.agg #[.int .i64 0, .int .i64 0, .int .u8 0, .int .u8 0, .int .u8 0, .int .u8 0, .int .i64 0]) 32 Try.underlying38 hih hih0 hih1 hih2 rfl opf_one _ (0) ([]) rfl l0w (Ox) (nx) (cx) (c.opens) rfl sO (by unfold maxLen; omega) (by omega) lz_l0 ?_
    intro v196 w123 own_ bb gw ofw
    have of196_b198 := ofw _ (hlt hb198) of_l0_b198
    clear ofw
    replace sF := sF.under bl_sF_l0 bb
    replace sO := sO.under bl_sO_l0 bb
    replace wt := wt.under bl_wt_l0 bb
    replace lw := Sle.off lw of_l0_b198 gw
    replace hrd := blk_under hrd bb y_l0_rd.out
    replace hob := blk_under hob bb y_l0_ob.out
    replace hac := blk_under hac bb y_l0_ac.out
    replace hb198 := blk_own hb198 gw of_l0_b198
    clear gw
    replace kp := kp_under kp bb p_l0
    replace bel := bel.trans (bb.mono l0lo)
    have lz_sO1 := Nat.le_trans lz_l0 bb.size
    clear bb
    clear l0 l0w lz_l0
    replace own_ : w123.ownsRow (w117.heap.size) 71 7 v196 (nx) ((c.opens : List (Int × Int × Ad4 × Int)).flatMap opf) := (by have h_ := own_; rw [Nat.zero_add, List.nil_append] at h_; exact h_)
    obtain ⟨A196, c196, rfl⟩ := owk_val own_
    have sO1w := own_
    have sO1 := (owk_sle (by decide) opf_len own_).1
    have fr_sO1 := (owk_sle (by decide) opf_len own_).2
    clear own_
    have av_sO1_rd := fr_sO1.av y_l0_rd.out
    have av_sO1_ob := fr_sO1.av y_l0_ob.out
    have av_sO1_ac := fr_sO1.av y_l0_ac.out
    have av_sO1_b198 := owk_av sO1w of196_b198
    refine hK.out _ _ hob (fun hH124 => ?_)
    clear hK K
    simp only [sq4]
    refine wpAnyH_ready (rs := [9]) (by kernel_rfl) (by simp) ?_
    refine AllReadyH.cons (o := _) rfl (fun K hK => ?_) AllReadyH.nil
    simp only [sq3]
    rw [if_pos (by rfl)]
    refine wp_append_sle (.tmp 196) (.tmp 198) 38 rfl (w117.heap.size) 71 ih (.agg #[.int .i64 0, .int .i64 0, .int .u8 0, .int .u8 0, .int .u8 0, .int .u8 0, .int .i64 0]) 32 Try.underlying38 hih hih0 hih1 hih2 rfl opf_one _ (nx) (c.opens) rfl sO1w (some ⟨g198, 0, none⟩) (1) (1) ([(p, ny, p4 z, nu)]) rfl lw (by unfold maxLen; omega) (by omega) lz_sO1 ?_
    intro v199 w125 own_ bb gw ofw
    have of199_b198 := ofw _ (hlt hb198) of196_b198
    clear ofw
    replace sF := sF.under bl_sF_l0 bb
    replace sO := sO.under bl_sO_l0 bb
    replace wt := wt.under bl_wt_l0 bb
    replace lw := Sle.off lw of196_b198 gw
    replace hrd := blk_under hrd bb y_l0_rd.out
    replace hob := blk_under hob bb y_l0_ob.out
    replace hac := blk_under hac bb y_l0_ac.out
    replace hb198 := blk_own hb198 gw of196_b198
    clear gw
    replace kp := kp_under kp bb p_l0
    replace bel := bel.trans (bb.mono l0lo)
    have lz_sO2 := Nat.le_trans lz_sO1 bb.size
    clear bb
    clear sO1 sO1w lz_sO1
    replace own_ : w125.ownsRow (w117.heap.size) 71 7 v199 (nx + 1) ((c.opens ++ [(p, ny, p4 z, nu)] : List (Int × Int × Ad4 × Int)).flatMap opf) := own_
    obtain ⟨A199, c199, rfl⟩ := owk_val own_
    have sO2w := own_
    have sO2 := (owk_sle (by decide) opf_len own_).1
    have fr_sO2 := (owk_sle (by decide) opf_len own_).2
    clear own_
    have av_sO2_rd := fr_sO2.av y_l0_rd.out
    have av_sO2_ob := fr_sO2.av y_l0_ob.out
    have av_sO2_ac := fr_sO2.av y_l0_ac.out
    have av_sO2_b198 := owk_av sO2w of199_b198
    clear lw
    clear hb198
    have fw_sO2 := fr_sO2.mono p_l0
    refine hK.out _ _ hob (fun hH126 => ?_)
    clear hK K
    simp only [sq4]
    refine wpAnyH_take (i := 10) (v := ?_) rfl (by kernel_rfl) (by kernel_rfl) (by kernel_rfl) (fun _ _ _ h => h) (Or.inl ⟨by rfl, ?_⟩) hH126 ?_
    rotate_left
    · ((intro W hW; clear hW; go_simp) <;> with_reducible rfl)
    simp only [sq3, sq4]
    refine wpAnyH_take (i := 11) (v := ?_) rfl (by kernel_rfl) (by kernel_rfl) (by kernel_rfl) (fun _ _ _ h => h) (Or.inl ⟨by rfl, ?_⟩) hH126 ?_
    rotate_left
    · ((intro W hW; clear hW; go_simp) <;> with_reducible rfl)
    simp only [sq3, sq4]
    refine wpAnyH_ready (rs := [12]) (by kernel_rfl) (by simp) ?_
    refine AllReadyH.cons (o := _) rfl (fun K hK => ?_) AllReadyH.nil
    simp only [sq3]
    rw [if_pos (by rfl)]
    refine wp_store_part 38 (.tmp 201) (.tmp 199) rfl gr 39 rfl [.slice A199 (nx + 1) c199] rfl (cfl c Fx nf cf Ox nx cx) 40 hrd (by simp) [.int .u8 (c.own.a.toNat : Int), .int .u8 (c.own.b.toNat : Int), .int .u8 (c.own.c.toNat : Int), .int .u8 (c.own.d.toNat : Int), .int .u8 (c.lan.a.toNat : Int), .int .u8 (c.lan.b.toNat : Int), .int .u8 (c.lan.c.toNat : Int), .int .u8 (c.lan.d.toNat : Int), .int .i64 c.bits, .int .u8 (c.lanmac.a.toNat : Int), .int .u8 (c.lanmac.b.toNat : Int), .int .u8 (c.lanmac.c.toNat : Int), .int .u8 (c.lanmac.d.toNat : Int), .int .u8 (c.lanmac.e.toNat : Int), .int .u8 (c.lanmac.f.toNat : Int), .int .u8 (c.wanmac.a.toNat : Int), .int .u8 (c.wanmac.b.toNat : Int), .int .u8 (c.wanmac.c.toNat : Int), .int .u8 (c.wanmac.d.toNat : Int), .int .u8 (c.wanmac.e.toNat : Int), .int .u8 (c.wanmac.f.toNat : Int), .int .u8 (c.first.a.toNat : Int), .int .u8 (c.first.b.toNat : Int), .int .u8 (c.first.c.toNat : Int), .int .u8 (c.first.d.toNat : Int), .int .u8 (c.last.a.toNat : Int), .int .u8 (c.last.b.toNat : Int), .int .u8 (c.last.c.toNat : Int), .int .u8 (c.last.d.toNat : Int), .int .i64 c.time, .int .u8 (c.dns.a.toNat : Int), .int .u8 (c.dns.b.toNat : Int), .int .u8 (c.dns.c.toNat : Int), .int .u8 (c.dns.d.toNat : Int), .int .i64 c.udp, .int .i64 c.tcp, .int .i64 c.icmp, .int .i64 c.low, .slice Fx nf cf, .slice A199 (nx + 1) c199] rfl (by kernel_rfl) (by rfl) ?_
    intro w127 hq gr
    replace sF := sF.away av_sF_rd gr
    replace sO := sO.away av_sO_rd gr
    replace wt := wt.away av_wt_rd gr
    replace sO2 := sO2.away av_sO2_rd gr
    replace sO2w := owk_away sO2w y_l0_rd.out gr
    replace lz_sO2 := Nat.le_trans lz_sO2 gr.size
    replace hob := blk_a hob gr d_ob_rd
    replace hac := blk_a hac gr (ne_symm d_rd_ac)
    replace kp := kp.trans gr
    replace bel := below_grown bel gr ord (Nat.le_trans hlo bel.size)
    clear hrd
    have hrd := hq
    clear hq gr
    refine hK.out _ _ hob (fun hH128 => ?_)
    clear hK K
    simp only [Act.put]
    refine wpAnyH_done (by kernel_rfl) ?_ _
    go_wp2_with fail
    go_meet
    case rel => exact ⟨A199, c199, hrd, hob, hac, (ne_symm d_ob_ac), (ne_symm d_rd_ac), d_ob_rd, sF, av_sF_ac, av_sF_ob, av_sF_rd, sO, av_sO_ac, av_sO_ob, av_sO_rd, wt, av_wt_ac, av_wt_ob, av_wt_rd, sO2, av_sO2_ac, av_sO2_ob, av_sO2_rd, fw_sO2, kp, bel⟩
  obtain ⟨w129, hw_⟩ : ∃ x, x = wc := ⟨_, rfl⟩
  subst hw_
  obtain ⟨A199, c199, hrd, hob, hac, d_ac_ob, d_ac_rd, d_ob_rd, sF, av_sF_ac, av_sF_ob, av_sF_rd, sO, av_sO_ac, av_sO_ob, av_sO_rd, wt, av_wt_ac, av_wt_ob, av_wt_rd, sO2, av_sO2_ac, av_sO2_ob, av_sO2_rd, fw_sO2, kp, bel⟩ := hcut
  rcases bp with _ | _
  · have HP : Hid (valOk s v = false) := Lib.hid (by rw [HVK.out, HPR.out]; simp)
    go_wp2_with fail
    go_ret
    exact ⟨(by rw [HP.out] <;> rfl), fun hv_ => (by rw [HP.out] at hv_; cases hv_), kp⟩
  by_cases hny : (0 : Int) ≤ ny
  rotate_left
  · have hny_ : decide ((0 : Int) ≤ ny) = false := decide_eq_false hny
    have HP : Hid (valOk s v = false) := Lib.hid (by rw [HVK.out, HPR.out]; rw [decide_eq_false hny]; simp)
    have R205 := cell_lit hob 1 _ rfl
    go_wp2_with fail
    clear R205
    go_ret
    exact ⟨(by rw [HP.out] <;> rfl), fun hv_ => (by rw [HP.out] at hv_; cases hv_), kp⟩
  by_cases hnu : (0 : Int) ≤ nu
  rotate_left
  · have hnu_ : decide ((0 : Int) ≤ nu) = false := decide_eq_false hnu
    have HP : Hid (valOk s v = false) := Lib.hid (by rw [HVK.out, HPR.out]; rw [decide_eq_false hnu]; simp)
    have R205 := cell_lit hob 1 _ rfl
    have R210 := cell_lit hob 6 _ rfl
    go_wp2_with fail
    clear R205 R210
    go_ret
    exact ⟨(by rw [HP.out] <;> rfl), fun hv_ => (by rw [HP.out] at hv_; cases hv_), kp⟩
  have HP : Hid (valOk s v = true) := Lib.hid (by rw [HVK.out, HPR.out, decide_eq_true hny, decide_eq_true hnu]; rfl)
  have HC : Hid (valC c s v = { c with opens := c.opens ++ [(p, ny, p4 z, nu)] }) := Lib.hid (by rw [HVC.out, HPR.out, dec_nat (by rw [HNY.out]; exact hny), dec_nat (by rw [HNU.out]; exact hnu), HNY.out, HNU.out]; rfl)
  have R205 := cell_lit hob 1 _ rfl
  have R210 := cell_lit hob 6 _ rfl
  go_wp2_with fail
  clear R205 R210
  go_ret
  exact ⟨(by rw [HP.out] <;> rfl), fun hv_ => (by rw [HC.out]; exact ⟨Fx, nf, cf, A199, nx + 1, c199, hrd, sF, sO2, fun _ _ h_ => h_, fun _ hg_ _ => fw_sO2.av hg_⟩), kp⟩
end Go.Proofs.Ytdfobilagidmfaa
