/- Layer 9: IcmpNone. -/
import Derived.Test.YtfmllopeeiecjaaLaw9
import Derived.Test.YtfmllopeeiecjaaIc4
import Derived.Test.YtfmllopeeiecjaaIpf
import Derived.Deep.CutRange
namespace Go.Proofs.Ytfmllopeeiecjaa
open Go.RowKit

theorem ipget_opts {l : List UInt8} {fs : List Int} {ad lo lb : List UInt8} (h : ipGet l = ((fs, ad), (lo, lb), 0)) : lo.length ≤ 40 := by
  have he : ipErr l = 0 := by
    by_cases he : ipErr l = 0
    · exact he
    · exfalso
      unfold ipGet at h
      rw [if_pos he] at h
      simp only [Prod.mk.injEq] at h
      exact he h.2.2
  have h20 : 20 ≤ l.length := Nat.le_of_not_lt fun g => by unfold ipErr at he; rw [if_pos g] at he; cases he
  obtain ⟨h0, h1, h2, h3, h4, h5, h6, h7, h8, h9, h10, h11, h12, h13, h14, h15, h16, h17, h18, h19, r, rfl⟩ := list20 l h20
  rw [ipGet_at he] at h
  simp only [Prod.mk.injEq] at h
  obtain ⟨_, ⟨rfl, rfl⟩, _⟩ := h
  rw [List.length_take]
  unfold hlen
  omega
/-- A message about a packet: what it is in. -/
theorem icAbout_ok {o0 o1 o2 o3 : UInt8} {l : List UInt8} {ty cd : Int} (h : (icAbout o0 o1 o2 o3 l ty cd).2.2 = 0) : ∃ (p0 p1 p2 p3 : UInt8) (k : Nat), k ≤ 68 ∧ k ≤ l.length ∧ byteOk ty = true ∧ byteOk cd = true ∧ icAbout o0 o1 o2 o3 l ty cd = (([0, 0, 0, 0, 64, 1], [o0, o1, o2, o3, p0, p1, p2, p3]), ([], icBytes ty cd 0 (l.take k)), 0) := by
  obtain ⟨f0, f1, f2, f3, f4, f5, a0, a1, a2, a3, a4, a5, a6, a7, lo, lb, er, hg⟩ := ipget_form l
  rw [icAbout_eq _ _ _ _ _ _ hg] at h ⊢
  unfold icAb at h ⊢
  by_cases he : er = 0
  · subst he
    rw [if_neg (by decide)] at h ⊢
    rcases (by decide : ∀ b : Bool, b = true ∨ b = false) (icMay f3 f5 a0 a1 a2 a3 a4 a5 a6 a7 lb) with hy | hy
    · rw [if_neg (by rw [hy]; decide)] at h ⊢
      obtain ⟨g1, g2, g3⟩ := icput_pos h
      have q1 := ipget_opts hg
      have q2 := ipget_len hg
      exact ⟨a0, a1, a2, a3, _, by omega, by omega, g1, g2, icput_eq g1 g2 g3⟩
    · rw [if_pos hy] at h
      simp [pkNone] at h
  · rw [if_pos he] at h
    simp only [pkNone] at h
    exact absurd h he
/-- No message about an error message. -/
theorem icAbout_no {o0 o1 o2 o3 : UInt8} {l : List UInt8} {ty cd : Int} {f0 f1 f2 f3 f4 : Int} {a0 a1 a2 a3 a4 a5 a6 a7 x : UInt8} {lo r : List UInt8} (hg : ipGet l = (([f0, f1, f2, f3, f4, 1], [a0, a1, a2, a3, a4, a5, a6, a7]), (lo, x :: r), 0)) (hx : echoT (x.toNat : Int) = false) : icAbout o0 o1 o2 o3 l ty cd = pkNone 11 := by
  rw [icAbout_eq _ _ _ _ _ _ hg]
  unfold icAb
  rw [if_neg (by decide), if_pos]
  unfold icMay
  rw [show ((x :: r).getD 0 0) = x from rfl, hx, decide_eq_true rfl]
  simp
theorem ipFits_64 : ipFits 0 0 0 0 64 1 [] = true := by decide
theorem icmp_around {o0 o1 o2 o3 p0 p1 p2 p3 : UInt8} {typ : Int} {q : List UInt8} (hq : q.length ≤ 68) (h1 : byteOk typ = true) (h2 : echoT typ = false) :
    ipPut 0 0 0 0 64 1 o0 o1 o2 o3 p0 p1 p2 p3 [] (icBytes typ 0 0 q) = (ipBytes 0 0 0 0 64 1 o0 o1 o2 o3 p0 p1 p2 p3 [] (icBytes typ 0 0 q), 0) ∧ (ipBytes 0 0 0 0 64 1 o0 o1 o2 o3 p0 p1 p2 p3 [] (icBytes typ 0 0 q)).length ≤ 96 ∧
      icAbout o0 o1 o2 o3 (ipBytes 0 0 0 0 64 1 o0 o1 o2 o3 p0 p1 p2 p3 [] (icBytes typ 0 0 q)) 3 0 = pkNone 11 := by
  have hl : (icBytes typ 0 0 q).length = 8 + q.length := icBytes_len _ _ _ _
  have hg := put_good (tos := 0) (id := 0) (fl := 0) (pt := 0) (ttl := 64) (pr := 1) (a0 := o0) (a1 := o1) (a2 := o2) (a3 := o3) (a4 := p0) (a5 := p1) (a6 := p2) (a7 := p3) (op := []) (body := icBytes typ 0 0 q) ipFits_64 (by rw [hl]; simp; omega) []
  rw [List.append_nil] at hg
  refine ⟨?_, by rw [hg.2.2.1, hl]; simp; omega, ?_⟩
  · unfold ipPut
    rw [if_neg (by rw [ipFits_64]; decide), if_neg (by rw [hl]; simp; omega)]
  · have h3 := hg.2.1
    rw [icBytes_eq] at h3 ⊢
    exact icAbout_no h3 (by rw [byte_back h1]; exact h2)
theorem ipput_n (tos id fl pt ttl pr : Int) (a0 a1 a2 a3 a4 a5 a6 a7 : UInt8) (So Sb : Option Addr) (no co nb cb : Nat) (lo lb r : List UInt8) (n : Nat) (er : Int) (w : World) (ho : Sl w So no co lo) (hb : Sl w Sb nb cb lb) (hm : nb ≤ 140737488355328) (hr : ipPut tos id fl pt ttl pr a0 a1 a2 a3 a4 a5 a6 a7 lo lb = (r, er)) (hn : r.length = n) : Calls Try.prog 13 #[.agg #[.int .i64 tos, .int .i64 id, .int .i64 fl, .int .i64 pt, .int .i64 ttl, .int .i64 pr, .int .u8 (a0.toNat : Int), .int .u8 (a1.toNat : Int), .int .u8 (a2.toNat : Int), .int .u8 (a3.toNat : Int), .int .u8 (a4.toNat : Int), .int .u8 (a5.toNat : Int), .int .u8 (a6.toNat : Int), .int .u8 (a7.toNat : Int), .slice So no co, .slice Sb nb cb]] w fun e w' => ∃ v, e = .returned (.tuple #[v, .int .i64 er]) ∧ w'.ownsRow w.heap.size 5 1 v n (r.map u8v) ∧ Below w.heap.size w w' := by
  subst hn
  refine (ipput_any tos id fl pt ttl pr a0 a1 a2 a3 a4 a5 a6 a7 So Sb no co nb cb lo lb w ho hb hm).mono ?_
  rintro e w' ⟨v, r', er', rfl, hw, bel, hq⟩
  rw [hr] at hq
  simp only [Prod.mk.injEq] at hq
  obtain ⟨rfl, rfl⟩ := hq
  exact ⟨v, rfl, hw, bel⟩
theorem icabout_n (o0 o1 o2 o3 : UInt8) (B : Option Addr) (nB cB : Nat) (l : List UInt8) (ty cd : Int) (p0 p1 p2 p3 : UInt8) (r : List UInt8) (n : Nat) (w : World) (hB : Sl w B nB cB l) (hm : nB ≤ 100000) (hr : icAbout o0 o1 o2 o3 l ty cd = (([0, 0, 0, 0, 64, 1], [o0, o1, o2, o3, p0, p1, p2, p3]), ([], r), 0)) (hn : r.length = n) : Calls Try.prog 14 #[.agg #[.int .u8 (o0.toNat : Int), .int .u8 (o1.toNat : Int), .int .u8 (o2.toNat : Int), .int .u8 (o3.toNat : Int)], .slice B nB cB, .int .i64 ty, .int .i64 cd] w fun e w' => ∃ Ao co Ab cb, e = .returned (.tuple #[.agg #[.int .i64 0, .int .i64 0, .int .i64 0, .int .i64 0, .int .i64 64, .int .i64 1, .int .u8 (o0.toNat : Int), .int .u8 (o1.toNat : Int), .int .u8 (o2.toNat : Int), .int .u8 (o3.toNat : Int), .int .u8 (p0.toNat : Int), .int .u8 (p1.toNat : Int), .int .u8 (p2.toNat : Int), .int .u8 (p3.toNat : Int), .slice Ao 0 co, .slice Ab n cb], .int .i64 0]) ∧ Sl w' Ao 0 co [] ∧ Sl w' Ab n cb r ∧ Fr w.heap.size Ao 0 ∧ Fr w.heap.size Ab n ∧ Below w.heap.size w w' := by
  subst hn
  refine (icabout_any o0 o1 o2 o3 B nB cB l ty cd w hB hm).mono ?_
  rintro e w' ⟨f0, f1, f2, f3, f4, f5, g0, g1, g2, g3, g4, g5, g6, g7, lo, lb, Ao, Ab, co, cb, er, rfl, ho, hbb, fo, fb, bel, hq⟩
  rw [hr] at hq
  simp only [Prod.mk.injEq, List.cons.injEq, and_true] at hq
  obtain ⟨⟨⟨rfl, rfl, rfl, rfl, rfl, rfl⟩, rfl, rfl, rfl, rfl, rfl, rfl, rfl, rfl⟩, ⟨rfl, rfl⟩, rfl⟩ := hq
  exact ⟨Ao, co, Ab, cb, rfl, ho, hbb, fo, fb, bel⟩
theorem icabout_er (o0 o1 o2 o3 : UInt8) (B : Option Addr) (nB cB : Nat) (l : List UInt8) (ty cd : Int) (er : Int) (w : World) (hB : Sl w B nB cB l) (hm : nB ≤ 100000) (hr : (icAbout o0 o1 o2 o3 l ty cd).2.2 = er) : Calls Try.prog 14 #[.agg #[.int .u8 (o0.toNat : Int), .int .u8 (o1.toNat : Int), .int .u8 (o2.toNat : Int), .int .u8 (o3.toNat : Int)], .slice B nB cB, .int .i64 ty, .int .i64 cd] w fun e w' => ∃ (f0 f1 f2 f3 f4 f5 : Int) (g0 g1 g2 g3 g4 g5 g6 g7 : UInt8) (Ao : Option Addr) (no co : Nat) (Ab : Option Addr) (nb cb : Nat), e = .returned (.tuple #[.agg #[.int .i64 f0, .int .i64 f1, .int .i64 f2, .int .i64 f3, .int .i64 f4, .int .i64 f5, .int .u8 (g0.toNat : Int), .int .u8 (g1.toNat : Int), .int .u8 (g2.toNat : Int), .int .u8 (g3.toNat : Int), .int .u8 (g4.toNat : Int), .int .u8 (g5.toNat : Int), .int .u8 (g6.toNat : Int), .int .u8 (g7.toNat : Int), .slice Ao no co, .slice Ab nb cb], .int .i64 er]) ∧ Below w.heap.size w w' := by
  refine (icabout_any o0 o1 o2 o3 B nB cB l ty cd w hB hm).mono ?_
  rintro e w' ⟨f0, f1, f2, f3, f4, f5, g0, g1, g2, g3, g4, g5, g6, g7, lo, lb, Ao, Ab, co, cb, er', rfl, ho, hbb, fo, fb, bel, hq⟩
  rw [← hq] at hr
  subst hr
  exact ⟨_, _, _, _, _, _, _, _, _, _, _, _, _, _, _, _, _, _, _, _, rfl, bel⟩
set_option linter.unusedVariables false in
set_option maxRecDepth 100000 in
set_option maxHeartbeats 16000000 in
theorem icmpNone_1 (o0 o1 o2 o3 : UInt8) (tos id fl pt ttl pr : Int) (a0 a1 a2 a3 a4 a5 a6 a7 : UInt8) (So : Option Addr) (no co : Nat) (lo : List UInt8) (Sb : Option Addr) (nb cb : Nat) (lb : List UInt8) (typ : Int) (w : World) (h1 : 1400 < nb) : Calls Try.prog 7 #[.agg #[.int .u8 (o0.toNat : Int), .int .u8 (o1.toNat : Int), .int .u8 (o2.toNat : Int), .int .u8 (o3.toNat : Int)], .agg #[.int .i64 tos, .int .i64 id, .int .i64 fl, .int .i64 pt, .int .i64 ttl, .int .i64 pr, .int .u8 (a0.toNat : Int), .int .u8 (a1.toNat : Int), .int .u8 (a2.toNat : Int), .int .u8 (a3.toNat : Int), .int .u8 (a4.toNat : Int), .int .u8 (a5.toNat : Int), .int .u8 (a6.toNat : Int), .int .u8 (a7.toNat : Int), .slice So no co, .slice Sb nb cb], .int .i64 typ] w fun e w' => e = .returned (.bool true) ∧ Below w.heap.size w w' := by
  obtain ⟨ii, hii, hz0, hz1, hz2⟩ := info_parts Try.info5
  have t1 : (1400 : Int) < nb := by omega
  clear h1
  have bel := Below.refl w.heap.size w
  go_enter Try.func7, Try.ntmps7
  go_wp2_with (first | ((with_reducible show wpList _ _ _ (⟨some 3, _, _, _, _, _⟩ :: _) _ _); refine wpList_box_n rfl 24 (.tmp 0) rfl #[.int .u8 (o0.toNat : Int), .int .u8 (o1.toNat : Int), .int .u8 (o2.toNat : Int), .int .u8 (o3.toNat : Int)] rfl ?_; intro g3 w1 ge lt hh bb; have oow := Nat.le_trans bel.size ge; replace bel := bel.trans (bb.mono bel.size); have how := hh; clear hh lt ge bb) | ((with_reducible show wpList _ _ _ (⟨some 4, _, _, _, _, _⟩ :: _) _ _); refine wpList_box_n rfl 27 (.tmp 1) rfl #[.int .i64 tos, .int .i64 id, .int .i64 fl, .int .i64 pt, .int .i64 ttl, .int .i64 pr, .int .u8 (a0.toNat : Int), .int .u8 (a1.toNat : Int), .int .u8 (a2.toNat : Int), .int .u8 (a3.toNat : Int), .int .u8 (a4.toNat : Int), .int .u8 (a5.toNat : Int), .int .u8 (a6.toNat : Int), .int .u8 (a7.toNat : Int), .slice So no co, .slice Sb nb cb] rfl ?_; intro g4 w2 ge lt hh bb; have d_ow_p := ne_new (hlt how) ge; have op := Nat.le_trans bel.size ge; replace how := blk_u how bb; replace bel := bel.trans (bb.mono bel.size); have hp := hh; clear hh lt ge bb))
  with_reducible refine (awake9 _).mono ?_
  rintro e w3 ⟨rfl, b3⟩
  replace how := blk_u how b3
  replace hp := blk_u hp b3
  replace bel := bel.trans (b3.mono bel.size)
  clear b3
  have R20 := cell_lit hp 15 _ rfl
  go_wp2_with fail
  clear R20
  go_ret
  exact ⟨rfl, bel⟩
set_option linter.unusedVariables false in
set_option maxRecDepth 100000 in
set_option maxHeartbeats 16000000 in
theorem icmpNone_2 (o0 o1 o2 o3 : UInt8) (tos id fl pt ttl pr : Int) (a0 a1 a2 a3 a4 a5 a6 a7 : UInt8) (So : Option Addr) (no co : Nat) (lo : List UInt8) (Sb : Option Addr) (nb cb : Nat) (lb : List UInt8) (typ : Int) (w : World) (h1 : nb ≤ 1400) (h2 : 40 < no) : Calls Try.prog 7 #[.agg #[.int .u8 (o0.toNat : Int), .int .u8 (o1.toNat : Int), .int .u8 (o2.toNat : Int), .int .u8 (o3.toNat : Int)], .agg #[.int .i64 tos, .int .i64 id, .int .i64 fl, .int .i64 pt, .int .i64 ttl, .int .i64 pr, .int .u8 (a0.toNat : Int), .int .u8 (a1.toNat : Int), .int .u8 (a2.toNat : Int), .int .u8 (a3.toNat : Int), .int .u8 (a4.toNat : Int), .int .u8 (a5.toNat : Int), .int .u8 (a6.toNat : Int), .int .u8 (a7.toNat : Int), .slice So no co, .slice Sb nb cb], .int .i64 typ] w fun e w' => e = .returned (.bool true) ∧ Below w.heap.size w w' := by
  obtain ⟨ii, hii, hz0, hz1, hz2⟩ := info_parts Try.info5
  have t1 : decide ((1400 : Int) < nb) = false := decide_eq_false (by omega)
  have t2 : (40 : Int) < no := by omega
  clear h1 h2
  have bel := Below.refl w.heap.size w
  go_enter Try.func7, Try.ntmps7
  go_wp2_with (first | ((with_reducible show wpList _ _ _ (⟨some 3, _, _, _, _, _⟩ :: _) _ _); refine wpList_box_n rfl 24 (.tmp 0) rfl #[.int .u8 (o0.toNat : Int), .int .u8 (o1.toNat : Int), .int .u8 (o2.toNat : Int), .int .u8 (o3.toNat : Int)] rfl ?_; intro g3 w1 ge lt hh bb; have oow := Nat.le_trans bel.size ge; replace bel := bel.trans (bb.mono bel.size); have how := hh; clear hh lt ge bb) | ((with_reducible show wpList _ _ _ (⟨some 4, _, _, _, _, _⟩ :: _) _ _); refine wpList_box_n rfl 27 (.tmp 1) rfl #[.int .i64 tos, .int .i64 id, .int .i64 fl, .int .i64 pt, .int .i64 ttl, .int .i64 pr, .int .u8 (a0.toNat : Int), .int .u8 (a1.toNat : Int), .int .u8 (a2.toNat : Int), .int .u8 (a3.toNat : Int), .int .u8 (a4.toNat : Int), .int .u8 (a5.toNat : Int), .int .u8 (a6.toNat : Int), .int .u8 (a7.toNat : Int), .slice So no co, .slice Sb nb cb] rfl ?_; intro g4 w2 ge lt hh bb; have d_ow_p := ne_new (hlt how) ge; have op := Nat.le_trans bel.size ge; replace how := blk_u how bb; replace bel := bel.trans (bb.mono bel.size); have hp := hh; clear hh lt ge bb))
  with_reducible refine (awake9 _).mono ?_
  rintro e w3 ⟨rfl, b3⟩
  replace how := blk_u how b3
  replace hp := blk_u hp b3
  replace bel := bel.trans (b3.mono bel.size)
  clear b3
  have R20 := cell_lit hp 15 _ rfl
  have R25 := cell_lit hp 14 _ rfl
  go_wp2_with fail
  clear R20 R25
  go_ret
  exact ⟨rfl, bel⟩
set_option linter.unusedVariables false in
set_option maxRecDepth 100000 in
set_option maxHeartbeats 16000000 in
theorem icmpNone_3 (o0 o1 o2 o3 : UInt8) (tos id fl pt ttl pr : Int) (a0 a1 a2 a3 a4 a5 a6 a7 : UInt8) (So : Option Addr) (no co : Nat) (lo : List UInt8) (Sb : Option Addr) (nb cb : Nat) (lb : List UInt8) (typ : Int) (w : World) (h1 : nb ≤ 1400) (h2 : no ≤ 40) (g3 : typ ≠ 3) (g4 : typ ≠ 11) (g5 : typ ≠ 12) : Calls Try.prog 7 #[.agg #[.int .u8 (o0.toNat : Int), .int .u8 (o1.toNat : Int), .int .u8 (o2.toNat : Int), .int .u8 (o3.toNat : Int)], .agg #[.int .i64 tos, .int .i64 id, .int .i64 fl, .int .i64 pt, .int .i64 ttl, .int .i64 pr, .int .u8 (a0.toNat : Int), .int .u8 (a1.toNat : Int), .int .u8 (a2.toNat : Int), .int .u8 (a3.toNat : Int), .int .u8 (a4.toNat : Int), .int .u8 (a5.toNat : Int), .int .u8 (a6.toNat : Int), .int .u8 (a7.toNat : Int), .slice So no co, .slice Sb nb cb], .int .i64 typ] w fun e w' => e = .returned (.bool true) ∧ Below w.heap.size w w' := by
  obtain ⟨ii, hii, hz0, hz1, hz2⟩ := info_parts Try.info5
  have t1 : decide ((1400 : Int) < nb) = false := decide_eq_false (by omega)
  have t2 : decide ((40 : Int) < no) = false := decide_eq_false (by omega)
  have t3 : (typ == 3) = false := by simpa using g3
  have u3 : (typ != 3) = true := by simpa using g3
  have t4 : (typ == 11) = false := by simpa using g4
  have u4 : (typ != 11) = true := by simpa using g4
  have t5 : (typ == 12) = false := by simpa using g5
  have u5 : (typ != 12) = true := by simpa using g5
  clear h1 h2 g3 g4 g5
  have bel := Below.refl w.heap.size w
  go_enter Try.func7, Try.ntmps7
  go_wp2_with (first | ((with_reducible show wpList _ _ _ (⟨some 3, _, _, _, _, _⟩ :: _) _ _); refine wpList_box_n rfl 24 (.tmp 0) rfl #[.int .u8 (o0.toNat : Int), .int .u8 (o1.toNat : Int), .int .u8 (o2.toNat : Int), .int .u8 (o3.toNat : Int)] rfl ?_; intro g3 w1 ge lt hh bb; have oow := Nat.le_trans bel.size ge; replace bel := bel.trans (bb.mono bel.size); have how := hh; clear hh lt ge bb) | ((with_reducible show wpList _ _ _ (⟨some 4, _, _, _, _, _⟩ :: _) _ _); refine wpList_box_n rfl 27 (.tmp 1) rfl #[.int .i64 tos, .int .i64 id, .int .i64 fl, .int .i64 pt, .int .i64 ttl, .int .i64 pr, .int .u8 (a0.toNat : Int), .int .u8 (a1.toNat : Int), .int .u8 (a2.toNat : Int), .int .u8 (a3.toNat : Int), .int .u8 (a4.toNat : Int), .int .u8 (a5.toNat : Int), .int .u8 (a6.toNat : Int), .int .u8 (a7.toNat : Int), .slice So no co, .slice Sb nb cb] rfl ?_; intro g4 w2 ge lt hh bb; have d_ow_p := ne_new (hlt how) ge; have op := Nat.le_trans bel.size ge; replace how := blk_u how bb; replace bel := bel.trans (bb.mono bel.size); have hp := hh; clear hh lt ge bb))
  with_reducible refine (awake9 _).mono ?_
  rintro e w3 ⟨rfl, b3⟩
  replace how := blk_u how b3
  replace hp := blk_u hp b3
  replace bel := bel.trans (b3.mono bel.size)
  clear b3
  have R20 := cell_lit hp 15 _ rfl
  have R25 := cell_lit hp 14 _ rfl
  go_wp2_with fail
  clear R20 R25
  go_ret
  exact ⟨rfl, bel⟩
set_option linter.unusedVariables false in
set_option maxRecDepth 100000 in
set_option maxHeartbeats 16000000 in
theorem icmpNone_4_3 (o0 o1 o2 o3 : UInt8) (tos id fl pt ttl pr : Int) (a0 a1 a2 a3 a4 a5 a6 a7 : UInt8) (So : Option Addr) (no co : Nat) (lo : List UInt8) (Sb : Option Addr) (nb cb : Nat) (lb : List UInt8) (w : World) (ho : Sl w So no co lo) (hb : Sl w Sb nb cb lb) (h1 : nb ≤ 1400) (h2 : no ≤ 40) (r : List UInt8) (n : Nat) (er : Int) (hr : ipPut tos id fl pt ttl pr a0 a1 a2 a3 a4 a5 a6 a7 lo lb = (r, er)) (hn : r.length = n) (hz : er ≠ 0) : Calls Try.prog 7 #[.agg #[.int .u8 (o0.toNat : Int), .int .u8 (o1.toNat : Int), .int .u8 (o2.toNat : Int), .int .u8 (o3.toNat : Int)], .agg #[.int .i64 tos, .int .i64 id, .int .i64 fl, .int .i64 pt, .int .i64 ttl, .int .i64 pr, .int .u8 (a0.toNat : Int), .int .u8 (a1.toNat : Int), .int .u8 (a2.toNat : Int), .int .u8 (a3.toNat : Int), .int .u8 (a4.toNat : Int), .int .u8 (a5.toNat : Int), .int .u8 (a6.toNat : Int), .int .u8 (a7.toNat : Int), .slice So no co, .slice Sb nb cb], .int .i64 3] w fun e w' => e = .returned (.bool true) ∧ Below w.heap.size w w' := by
  obtain ⟨ii, hii, hz0, hz1, hz2⟩ := info_parts Try.info5
  have t1 : decide ((1400 : Int) < nb) = false := decide_eq_false (by omega)
  have t2 : decide ((40 : Int) < no) = false := decide_eq_false (by omega)
  have H1 := Lib.hid h1
  have H2 := Lib.hid h2
  clear h1 h2
  have HPUT := Lib.hid hr
  have HN := Lib.hid hn
  have t5 : (er == 0) = false := by simpa using hz
  have t6 : (er != 0) = true := by simpa using hz
  clear hr hn hz
  have bel := Below.refl w.heap.size w
  go_enter Try.func7, Try.ntmps7
  go_wp2_with (first | ((with_reducible show wpList _ _ _ (⟨some 3, _, _, _, _, _⟩ :: _) _ _); refine wpList_box_n rfl 24 (.tmp 0) rfl #[.int .u8 (o0.toNat : Int), .int .u8 (o1.toNat : Int), .int .u8 (o2.toNat : Int), .int .u8 (o3.toNat : Int)] rfl ?_; intro g3 w1 ge lt hh bb; have av_ho_ow := ho.av_new ge; have av_hb_ow := hb.av_new ge; have oow := Nat.le_trans bel.size ge; replace ho := ho.below bb; replace hb := hb.below bb; replace bel := bel.trans (bb.mono bel.size); have how := hh; clear hh lt ge bb) | ((with_reducible show wpList _ _ _ (⟨some 4, _, _, _, _, _⟩ :: _) _ _); refine wpList_box_n rfl 27 (.tmp 1) rfl #[.int .i64 tos, .int .i64 id, .int .i64 fl, .int .i64 pt, .int .i64 ttl, .int .i64 pr, .int .u8 (a0.toNat : Int), .int .u8 (a1.toNat : Int), .int .u8 (a2.toNat : Int), .int .u8 (a3.toNat : Int), .int .u8 (a4.toNat : Int), .int .u8 (a5.toNat : Int), .int .u8 (a6.toNat : Int), .int .u8 (a7.toNat : Int), .slice So no co, .slice Sb nb cb] rfl ?_; intro g4 w2 ge lt hh bb; have d_ow_p := ne_new (hlt how) ge; have av_ho_p := ho.av_new ge; have av_hb_p := hb.av_new ge; have op := Nat.le_trans bel.size ge; replace how := blk_u how bb; replace ho := ho.below bb; replace hb := hb.below bb; replace bel := bel.trans (bb.mono bel.size); have hp := hh; clear hh lt ge bb))
  with_reducible refine (awake9 _).mono ?_
  rintro e w3 ⟨rfl, b3⟩
  replace how := blk_u how b3
  replace hp := blk_u hp b3
  replace ho := ho.below b3
  replace hb := hb.below b3
  replace bel := bel.trans (b3.mono bel.size)
  clear b3
  have R20 := cell_lit hp 15 _ rfl
  have R25 := cell_lit hp 14 _ rfl
  have R42 := Lib.hid (range_lit hp 0 16 [.int .i64 tos, .int .i64 id, .int .i64 fl, .int .i64 pt, .int .i64 ttl, .int .i64 pr, .int .u8 (a0.toNat : Int), .int .u8 (a1.toNat : Int), .int .u8 (a2.toNat : Int), .int .u8 (a3.toNat : Int), .int .u8 (a4.toNat : Int), .int .u8 (a5.toNat : Int), .int .u8 (a6.toNat : Int), .int .u8 (a7.toNat : Int), .slice So no co, .slice Sb nb cb] rfl)
  go_wp2_with (first | ((with_reducible show wpList _ _ _ (⟨some 42, _, _, _, _, _⟩ :: _) _ _); refine wpList_load_rng 27 (.tmp 4) rfl (by kernel_rfl) _ _ rfl _ R42.out _ Try.underlying27 rfl (by kernel_rfl) ?_))
  try clear R20
  try clear R25
  try clear R42
  with_reducible refine (ipput_n _ _ _ _ _ _ _ _ _ _ _ _ _ _ _ _ _ _ _ _ _ _ r n er _ ho hb (by have := H1.out; omega) HPUT.out HN.out).mono ?_
  rintro e w4 ⟨v, rfl, b7w, b4⟩
  have y_b7_ow := Lib.hid (hlt how)
  have y_b7_p := Lib.hid (hlt hp)
  have bl_ho_b7 := ho.bl_new
  have bl_hb_b7 := hb.bl_new
  have b7lo := bel.size
  have lz_b7 := b4.size
  replace how := blk_u how b4
  replace hp := blk_u hp b4
  replace ho := ho.below b4
  replace hb := hb.below b4
  replace bel := bel.trans (b4.mono bel.size)
  clear b4
  obtain ⟨Ab7, cb7, rfl⟩ := own_val b7w
  have b7 := (own_sl b7w).1
  have fr_b7 := (own_sl b7w).2
  have av_b7_ow := fr_b7.av y_b7_ow.out
  have av_b7_p := fr_b7.av y_b7_p.out
  go_wp2_with fail
  go_ret
  exact ⟨rfl, bel⟩
set_option linter.unusedVariables false in
set_option maxRecDepth 100000 in
set_option maxHeartbeats 16000000 in
theorem icmpNone_5_3 (o0 o1 o2 o3 : UInt8) (tos id fl pt ttl pr : Int) (a0 a1 a2 a3 a4 a5 a6 a7 : UInt8) (So : Option Addr) (no co : Nat) (lo : List UInt8) (Sb : Option Addr) (nb cb : Nat) (lb : List UInt8) (w : World) (ho : Sl w So no co lo) (hb : Sl w Sb nb cb lb) (h1 : nb ≤ 1400) (h2 : no ≤ 40) (r : List UInt8) (n : Nat) (hr : ipPut tos id fl pt ttl pr a0 a1 a2 a3 a4 a5 a6 a7 lo lb = (r, 0)) (hn : r.length = n) (hnl : n ≤ 1500) (er : Int) (ha : (icAbout o0 o1 o2 o3 r 3 0).2.2 = er) (hz : er ≠ 0) : Calls Try.prog 7 #[.agg #[.int .u8 (o0.toNat : Int), .int .u8 (o1.toNat : Int), .int .u8 (o2.toNat : Int), .int .u8 (o3.toNat : Int)], .agg #[.int .i64 tos, .int .i64 id, .int .i64 fl, .int .i64 pt, .int .i64 ttl, .int .i64 pr, .int .u8 (a0.toNat : Int), .int .u8 (a1.toNat : Int), .int .u8 (a2.toNat : Int), .int .u8 (a3.toNat : Int), .int .u8 (a4.toNat : Int), .int .u8 (a5.toNat : Int), .int .u8 (a6.toNat : Int), .int .u8 (a7.toNat : Int), .slice So no co, .slice Sb nb cb], .int .i64 3] w fun e w' => e = .returned (.bool true) ∧ Below w.heap.size w w' := by
  obtain ⟨ii, hii, hz0, hz1, hz2⟩ := info_parts Try.info5
  have t1 : decide ((1400 : Int) < nb) = false := decide_eq_false (by omega)
  have t2 : decide ((40 : Int) < no) = false := decide_eq_false (by omega)
  have H1 := Lib.hid h1
  have H2 := Lib.hid h2
  clear h1 h2
  have HPUT := Lib.hid hr
  have HN := Lib.hid hn
  have HNL := Lib.hid hnl
  have HA := Lib.hid ha
  have t5 : (er == 0) = false := by simpa using hz
  have t6 : (er != 0) = true := by simpa using hz
  clear hr hn hz ha hnl
  have bel := Below.refl w.heap.size w
  go_enter Try.func7, Try.ntmps7
  go_wp2_with (first | ((with_reducible show wpList _ _ _ (⟨some 3, _, _, _, _, _⟩ :: _) _ _); refine wpList_box_n rfl 24 (.tmp 0) rfl #[.int .u8 (o0.toNat : Int), .int .u8 (o1.toNat : Int), .int .u8 (o2.toNat : Int), .int .u8 (o3.toNat : Int)] rfl ?_; intro g3 w1 ge lt hh bb; have av_ho_ow := ho.av_new ge; have av_hb_ow := hb.av_new ge; have oow := Nat.le_trans bel.size ge; replace ho := ho.below bb; replace hb := hb.below bb; replace bel := bel.trans (bb.mono bel.size); have how := hh; clear hh lt ge bb) | ((with_reducible show wpList _ _ _ (⟨some 4, _, _, _, _, _⟩ :: _) _ _); refine wpList_box_n rfl 27 (.tmp 1) rfl #[.int .i64 tos, .int .i64 id, .int .i64 fl, .int .i64 pt, .int .i64 ttl, .int .i64 pr, .int .u8 (a0.toNat : Int), .int .u8 (a1.toNat : Int), .int .u8 (a2.toNat : Int), .int .u8 (a3.toNat : Int), .int .u8 (a4.toNat : Int), .int .u8 (a5.toNat : Int), .int .u8 (a6.toNat : Int), .int .u8 (a7.toNat : Int), .slice So no co, .slice Sb nb cb] rfl ?_; intro g4 w2 ge lt hh bb; have d_ow_p := ne_new (hlt how) ge; have av_ho_p := ho.av_new ge; have av_hb_p := hb.av_new ge; have op := Nat.le_trans bel.size ge; replace how := blk_u how bb; replace ho := ho.below bb; replace hb := hb.below bb; replace bel := bel.trans (bb.mono bel.size); have hp := hh; clear hh lt ge bb))
  with_reducible refine (awake9 _).mono ?_
  rintro e w3 ⟨rfl, b3⟩
  replace how := blk_u how b3
  replace hp := blk_u hp b3
  replace ho := ho.below b3
  replace hb := hb.below b3
  replace bel := bel.trans (b3.mono bel.size)
  clear b3
  have R20 := cell_lit hp 15 _ rfl
  have R25 := cell_lit hp 14 _ rfl
  have R42 := Lib.hid (range_lit hp 0 16 [.int .i64 tos, .int .i64 id, .int .i64 fl, .int .i64 pt, .int .i64 ttl, .int .i64 pr, .int .u8 (a0.toNat : Int), .int .u8 (a1.toNat : Int), .int .u8 (a2.toNat : Int), .int .u8 (a3.toNat : Int), .int .u8 (a4.toNat : Int), .int .u8 (a5.toNat : Int), .int .u8 (a6.toNat : Int), .int .u8 (a7.toNat : Int), .slice So no co, .slice Sb nb cb] rfl)
  go_wp2_with (first | ((with_reducible show wpList _ _ _ (⟨some 42, _, _, _, _, _⟩ :: _) _ _); refine wpList_load_rng 27 (.tmp 4) rfl (by kernel_rfl) _ _ rfl _ R42.out _ Try.underlying27 rfl (by kernel_rfl) ?_))
  try clear R20
  try clear R25
  try clear R42
  with_reducible refine (ipput_n _ _ _ _ _ _ _ _ _ _ _ _ _ _ _ _ _ _ _ _ _ _ r n 0 _ ho hb (by have := H1.out; omega) HPUT.out HN.out).mono ?_
  rintro e w4 ⟨v, rfl, b7w, b4⟩
  have y_b7_ow := Lib.hid (hlt how)
  have y_b7_p := Lib.hid (hlt hp)
  have bl_ho_b7 := ho.bl_new
  have bl_hb_b7 := hb.bl_new
  have b7lo := bel.size
  have lz_b7 := b4.size
  replace how := blk_u how b4
  replace hp := blk_u hp b4
  replace ho := ho.below b4
  replace hb := hb.below b4
  replace bel := bel.trans (b4.mono bel.size)
  clear b4
  obtain ⟨Ab7, cb7, rfl⟩ := own_val b7w
  have b7 := (own_sl b7w).1
  have fr_b7 := (own_sl b7w).2
  have av_b7_ow := fr_b7.av y_b7_ow.out
  have av_b7_p := fr_b7.av y_b7_p.out
  have R49 := Lib.hid (range_lit how 0 4 [.int .u8 (o0.toNat : Int), .int .u8 (o1.toNat : Int), .int .u8 (o2.toNat : Int), .int .u8 (o3.toNat : Int)] rfl)
  go_wp2_with (first | ((with_reducible show wpList _ _ _ (⟨some 49, _, _, _, _, _⟩ :: _) _ _); refine wpList_load_rng 24 (.tmp 3) rfl (by kernel_rfl) _ _ rfl _ R49.out _ Try.underlying24 rfl (by kernel_rfl) ?_))
  try clear R49
  with_reducible refine (icabout_er _ _ _ _ _ _ _ _ _ _ er _ b7 (by have := HNL.out; omega) HA.out).mono ?_
  rintro e w5 ⟨f0, f1, f2, f3, f4, f5, g0, g1, g2, g3, g4, g5, g6, g7, Ao, n1, co1, Ab, n2, cb1, rfl, b5⟩
  replace how := blk_u how b5
  replace hp := blk_u hp b5
  replace ho := ho.below b5
  replace hb := hb.below b5
  replace b7 := b7.below b5
  replace b7w := own_under b7w b5
  replace lz_b7 := Nat.le_trans lz_b7 b5.size
  replace bel := bel.trans (b5.mono bel.size)
  clear b5
  go_wp2_with (first | ((with_reducible show wpList _ _ _ (⟨some 9, _, _, _, _, _⟩ :: _) _ _); refine wpList_new_a rfl 27 rfl #[.int .i64 0, .int .i64 0, .int .i64 0, .int .i64 0, .int .i64 0, .int .i64 0, .int .u8 0, .int .u8 0, .int .u8 0, .int .u8 0, .int .u8 0, .int .u8 0, .int .u8 0, .int .u8 0, .slice none 0 0, .slice none 0 0] (by kernel_rfl) ?_; intro g9 w6 ge hh bb; have d_ow_pq := ne_new (hlt how) ge; have d_p_pq := ne_new (hlt hp) ge; have av_ho_pq := ho.av_new ge; have av_hb_pq := hb.av_new ge; have av_b7_pq := b7.av_new ge; have of_b7_pq := own_new b7w ge; have opq := Nat.le_trans bel.size ge; replace how := blk_u how bb; replace hp := blk_u hp bb; replace ho := ho.below bb; replace hb := hb.below bb; replace b7 := b7.below bb; replace b7w := own_under b7w bb; replace lz_b7 := Nat.le_trans lz_b7 bb.size; replace bel := bel.trans (bb.mono bel.size); have hpq := hh; clear hh ge bb) | ((with_reducible show wpList _ _ _ (⟨none, Op.store _ (.tmp 9) _, _, _, _, _⟩ :: _) _ _); refine wpList_store_blk rfl 27 (.tmp 9) (.tmp 53) rfl g9 rfl _ rfl _ 27 hpq (by rfl) (by kernel_rfl) (by kernel_rfl) ?_; intro w7 hq gr; replace ho := ho.away av_ho_pq gr; replace hb := hb.away av_hb_pq gr; replace b7 := b7.away av_b7_pq gr; replace b7w := own_off b7w of_b7_pq gr; replace lz_b7 := Nat.le_trans lz_b7 gr.size; replace how := blk_a how gr d_ow_pq; replace hp := blk_a hp gr d_p_pq; replace bel := below_grown bel gr opq bel.size; clear hpq; have hpq := hq; clear hq gr))
  go_ret
  exact ⟨rfl, bel⟩
set_option linter.unusedVariables false in
set_option maxRecDepth 100000 in
set_option maxHeartbeats 16000000 in
theorem icmpNone_6_3 (o0 o1 o2 o3 : UInt8) (tos id fl pt ttl pr : Int) (a0 a1 a2 a3 a4 a5 a6 a7 : UInt8) (So : Option Addr) (no co : Nat) (lo : List UInt8) (Sb : Option Addr) (nb cb : Nat) (lb : List UInt8) (w : World) (ho : Sl w So no co lo) (hb : Sl w Sb nb cb lb) (h1 : nb ≤ 1400) (h2 : no ≤ 40) (r : List UInt8) (n : Nat) (hr : ipPut tos id fl pt ttl pr a0 a1 a2 a3 a4 a5 a6 a7 lo lb = (r, 0)) (hn : r.length = n) (hnl : n ≤ 1500) (p0 p1 p2 p3 : UInt8) (k : Nat) (hk : k ≤ 68) (hkn : k ≤ r.length) (ha : icAbout o0 o1 o2 o3 r 3 0 = (([0, 0, 0, 0, 64, 1], [o0, o1, o2, o3, p0, p1, p2, p3]), ([], icBytes 3 0 0 (r.take k)), 0)) : Calls Try.prog 7 #[.agg #[.int .u8 (o0.toNat : Int), .int .u8 (o1.toNat : Int), .int .u8 (o2.toNat : Int), .int .u8 (o3.toNat : Int)], .agg #[.int .i64 tos, .int .i64 id, .int .i64 fl, .int .i64 pt, .int .i64 ttl, .int .i64 pr, .int .u8 (a0.toNat : Int), .int .u8 (a1.toNat : Int), .int .u8 (a2.toNat : Int), .int .u8 (a3.toNat : Int), .int .u8 (a4.toNat : Int), .int .u8 (a5.toNat : Int), .int .u8 (a6.toNat : Int), .int .u8 (a7.toNat : Int), .slice So no co, .slice Sb nb cb], .int .i64 3] w fun e w' => e = .returned (.bool true) ∧ Below w.heap.size w w' := by
  obtain ⟨ii, hii, hz0, hz1, hz2⟩ := info_parts Try.info5
  have t1 : decide ((1400 : Int) < nb) = false := decide_eq_false (by omega)
  have t2 : decide ((40 : Int) < no) = false := decide_eq_false (by omega)
  have H1 := Lib.hid h1
  have H2 := Lib.hid h2
  clear h1 h2
  have HPUT := Lib.hid hr
  have HN := Lib.hid hn
  have HNL := Lib.hid hnl
  have HA := Lib.hid ha
  have HK := Lib.hid hk
  have HKN : Hid (k ≤ n) := Lib.hid (by omega)
  have HTK : Hid ((r.take k).length = k) := Lib.hid (by rw [List.length_take]; omega)
  have HIB : Hid ((icBytes 3 0 0 (r.take k)).length = 8 + k) := Lib.hid (by rw [icBytes_len, HTK.out])
  have hq := icmp_around (o0 := o0) (o1 := o1) (o2 := o2) (o3 := o3) (p0 := p0) (p1 := p1) (p2 := p2) (p3 := p3) (typ := 3) (q := r.take k) (by rw [HTK.out]; exact hk) (by decide) (by decide)
  have HP2 := Lib.hid hq.1
  obtain ⟨m, hm⟩ : ∃ m, (ipBytes 0 0 0 0 64 1 o0 o1 o2 o3 p0 p1 p2 p3 [] (icBytes 3 0 0 (r.take k))).length = m := ⟨_, rfl⟩
  have HM := Lib.hid hm
  have HM9 : Hid (m ≤ 96) := Lib.hid (by rw [← hm]; exact hq.2.1)
  have HA2 : Hid ((icAbout o0 o1 o2 o3 (ipBytes 0 0 0 0 64 1 o0 o1 o2 o3 p0 p1 p2 p3 [] (icBytes 3 0 0 (r.take k))) 3 0).2.2 = 11) := Lib.hid (by rw [hq.2.2]; rfl)
  have t7 : (k : Int) ≤ 68 := by omega
  clear hr hn ha hnl hk hkn hq hm
  have bel := Below.refl w.heap.size w
  go_enter Try.func7, Try.ntmps7
  go_wp2_with (first | ((with_reducible show wpList _ _ _ (⟨some 3, _, _, _, _, _⟩ :: _) _ _); refine wpList_box_n rfl 24 (.tmp 0) rfl #[.int .u8 (o0.toNat : Int), .int .u8 (o1.toNat : Int), .int .u8 (o2.toNat : Int), .int .u8 (o3.toNat : Int)] rfl ?_; intro g3 w1 ge lt hh bb; have av_ho_ow := ho.av_new ge; have av_hb_ow := hb.av_new ge; have oow := Nat.le_trans bel.size ge; replace ho := ho.below bb; replace hb := hb.below bb; replace bel := bel.trans (bb.mono bel.size); have how := hh; clear hh lt ge bb) | ((with_reducible show wpList _ _ _ (⟨some 4, _, _, _, _, _⟩ :: _) _ _); refine wpList_box_n rfl 27 (.tmp 1) rfl #[.int .i64 tos, .int .i64 id, .int .i64 fl, .int .i64 pt, .int .i64 ttl, .int .i64 pr, .int .u8 (a0.toNat : Int), .int .u8 (a1.toNat : Int), .int .u8 (a2.toNat : Int), .int .u8 (a3.toNat : Int), .int .u8 (a4.toNat : Int), .int .u8 (a5.toNat : Int), .int .u8 (a6.toNat : Int), .int .u8 (a7.toNat : Int), .slice So no co, .slice Sb nb cb] rfl ?_; intro g4 w2 ge lt hh bb; have d_ow_p := ne_new (hlt how) ge; have av_ho_p := ho.av_new ge; have av_hb_p := hb.av_new ge; have op := Nat.le_trans bel.size ge; replace how := blk_u how bb; replace ho := ho.below bb; replace hb := hb.below bb; replace bel := bel.trans (bb.mono bel.size); have hp := hh; clear hh lt ge bb))
  with_reducible refine (awake9 _).mono ?_
  rintro e w3 ⟨rfl, b3⟩
  replace how := blk_u how b3
  replace hp := blk_u hp b3
  replace ho := ho.below b3
  replace hb := hb.below b3
  replace bel := bel.trans (b3.mono bel.size)
  clear b3
  have R20 := cell_lit hp 15 _ rfl
  have R25 := cell_lit hp 14 _ rfl
  have R42 := Lib.hid (range_lit hp 0 16 [.int .i64 tos, .int .i64 id, .int .i64 fl, .int .i64 pt, .int .i64 ttl, .int .i64 pr, .int .u8 (a0.toNat : Int), .int .u8 (a1.toNat : Int), .int .u8 (a2.toNat : Int), .int .u8 (a3.toNat : Int), .int .u8 (a4.toNat : Int), .int .u8 (a5.toNat : Int), .int .u8 (a6.toNat : Int), .int .u8 (a7.toNat : Int), .slice So no co, .slice Sb nb cb] rfl)
  go_wp2_with (first | ((with_reducible show wpList _ _ _ (⟨some 42, _, _, _, _, _⟩ :: _) _ _); refine wpList_load_rng 27 (.tmp 4) rfl (by kernel_rfl) _ _ rfl _ R42.out _ Try.underlying27 rfl (by kernel_rfl) ?_))
  try clear R20
  try clear R25
  try clear R42
  with_reducible refine (ipput_n _ _ _ _ _ _ _ _ _ _ _ _ _ _ _ _ _ _ _ _ _ _ r n 0 _ ho hb (by have := H1.out; omega) HPUT.out HN.out).mono ?_
  rintro e w4 ⟨v, rfl, b7w, b4⟩
  have y_b7_ow := Lib.hid (hlt how)
  have y_b7_p := Lib.hid (hlt hp)
  have bl_ho_b7 := ho.bl_new
  have bl_hb_b7 := hb.bl_new
  have b7lo := bel.size
  have lz_b7 := b4.size
  replace how := blk_u how b4
  replace hp := blk_u hp b4
  replace ho := ho.below b4
  replace hb := hb.below b4
  replace bel := bel.trans (b4.mono bel.size)
  clear b4
  obtain ⟨Ab7, cb7, rfl⟩ := own_val b7w
  have b7 := (own_sl b7w).1
  have fr_b7 := (own_sl b7w).2
  have av_b7_ow := fr_b7.av y_b7_ow.out
  have av_b7_p := fr_b7.av y_b7_p.out
  have R49 := Lib.hid (range_lit how 0 4 [.int .u8 (o0.toNat : Int), .int .u8 (o1.toNat : Int), .int .u8 (o2.toNat : Int), .int .u8 (o3.toNat : Int)] rfl)
  go_wp2_with (first | ((with_reducible show wpList _ _ _ (⟨some 49, _, _, _, _, _⟩ :: _) _ _); refine wpList_load_rng 24 (.tmp 3) rfl (by kernel_rfl) _ _ rfl _ R49.out _ Try.underlying24 rfl (by kernel_rfl) ?_))
  try clear R49
  with_reducible refine (icabout_n _ _ _ _ _ _ _ _ _ _ p0 p1 p2 p3 (icBytes 3 0 0 (r.take k)) (8 + k) _ b7 (by have := HNL.out; omega) HA.out HIB.out).mono ?_
  rintro e w5 ⟨Ao, co1, Ab, cb1, rfl, qo, qb, fo, fb, b5⟩
  have av_qo_ow := fo.av (hlt how)
  have av_qo_p := fo.av (hlt hp)
  have av_qb_ow := fb.av (hlt how)
  have av_qb_p := fb.av (hlt hp)
  replace how := blk_u how b5
  replace hp := blk_u hp b5
  replace ho := ho.below b5
  replace hb := hb.below b5
  replace b7 := b7.below b5
  replace b7w := own_under b7w b5
  replace lz_b7 := Nat.le_trans lz_b7 b5.size
  replace bel := bel.trans (b5.mono bel.size)
  clear b5
  replace qo : Sl w5 (Ao) (0) (co1) ([]) := qo
  replace qb : Sl w5 (Ab) (8 + k) (cb1) (icBytes 3 0 0 (r.take k)) := qb
  go_wp2_with (first | ((with_reducible show wpList _ _ _ (⟨some 9, _, _, _, _, _⟩ :: _) _ _); refine wpList_new_a rfl 27 rfl #[.int .i64 0, .int .i64 0, .int .i64 0, .int .i64 0, .int .i64 0, .int .i64 0, .int .u8 0, .int .u8 0, .int .u8 0, .int .u8 0, .int .u8 0, .int .u8 0, .int .u8 0, .int .u8 0, .slice none 0 0, .slice none 0 0] (by kernel_rfl) ?_; intro g9 w6 ge hh bb; have d_ow_pq := ne_new (hlt how) ge; have d_p_pq := ne_new (hlt hp) ge; have av_ho_pq := ho.av_new ge; have av_hb_pq := hb.av_new ge; have av_b7_pq := b7.av_new ge; have of_b7_pq := own_new b7w ge; have av_qo_pq := qo.av_new ge; have av_qb_pq := qb.av_new ge; have opq := Nat.le_trans bel.size ge; replace how := blk_u how bb; replace hp := blk_u hp bb; replace ho := ho.below bb; replace hb := hb.below bb; replace b7 := b7.below bb; replace b7w := own_under b7w bb; replace qo := qo.below bb; replace qb := qb.below bb; replace lz_b7 := Nat.le_trans lz_b7 bb.size; replace bel := bel.trans (bb.mono bel.size); have hpq := hh; clear hh ge bb) | ((with_reducible show wpList _ _ _ (⟨none, Op.store _ (.tmp 9) _, _, _, _, _⟩ :: _) _ _); refine wpList_store_blk rfl 27 (.tmp 9) (.tmp 53) rfl g9 rfl _ rfl _ 27 hpq (by rfl) (by kernel_rfl) (by kernel_rfl) ?_; intro w7 hq gr; replace ho := ho.away av_ho_pq gr; replace hb := hb.away av_hb_pq gr; replace b7 := b7.away av_b7_pq gr; replace b7w := own_off b7w of_b7_pq gr; replace qo := qo.away av_qo_pq gr; replace qb := qb.away av_qb_pq gr; replace lz_b7 := Nat.le_trans lz_b7 gr.size; replace how := blk_a how gr d_ow_pq; replace hp := blk_a hp gr d_p_pq; replace bel := below_grown bel gr opq bel.size; clear hpq; have hpq := hq; clear hq gr; have R58 := Lib.hid (range_lit hpq 0 16 [.int .i64 0, .int .i64 0, .int .i64 0, .int .i64 0, .int .i64 64, .int .i64 1, .int .u8 (o0.toNat : Int), .int .u8 (o1.toNat : Int), .int .u8 (o2.toNat : Int), .int .u8 (o3.toNat : Int), .int .u8 (p0.toNat : Int), .int .u8 (p1.toNat : Int), .int .u8 (p2.toNat : Int), .int .u8 (p3.toNat : Int), .slice Ao 0 co1, .slice Ab (8 + k) cb1] rfl)) | ((with_reducible show wpList _ _ _ (⟨some 58, _, _, _, _, _⟩ :: _) _ _); refine wpList_load_rng 27 (.tmp 9) rfl (by kernel_rfl) _ _ rfl _ R58.out _ Try.underlying27 rfl (by kernel_rfl) ?_))
  try clear R58
  with_reducible refine (ipput_n _ _ _ _ _ _ _ _ _ _ _ _ _ _ _ _ _ _ _ _ [] (icBytes 3 0 0 (r.take k)) (ipBytes 0 0 0 0 64 1 o0 o1 o2 o3 p0 p1 p2 p3 [] (icBytes 3 0 0 (r.take k))) m 0 _ qo qb (by have := HK.out; omega) HP2.out HM.out).mono ?_
  rintro e w8 ⟨v, rfl, c7w, b8⟩
  have y_c7_ow := Lib.hid (hlt how)
  have y_c7_p := Lib.hid (hlt hp)
  have y_c7_pq := Lib.hid (hlt hpq)
  have bl_ho_c7 := ho.bl_new
  have bl_hb_c7 := hb.bl_new
  have bl_b7_c7 := b7.bl_new
  have bl_qo_c7 := qo.bl_new
  have bl_qb_c7 := qb.bl_new
  have c7lo := bel.size
  have lz_c7 := b8.size
  replace how := blk_u how b8
  replace hp := blk_u hp b8
  replace hpq := blk_u hpq b8
  replace ho := ho.below b8
  replace hb := hb.below b8
  replace b7 := b7.below b8
  replace b7w := own_under b7w b8
  replace qo := qo.below b8
  replace qb := qb.below b8
  replace lz_b7 := Nat.le_trans lz_b7 b8.size
  replace bel := bel.trans (b8.mono bel.size)
  clear b8
  obtain ⟨Ac7, cc7, rfl⟩ := own_val c7w
  have c7 := (own_sl c7w).1
  have fr_c7 := (own_sl c7w).2
  have av_c7_ow := fr_c7.av y_c7_ow.out
  have av_c7_p := fr_c7.av y_c7_p.out
  have av_c7_pq := fr_c7.av y_c7_pq.out
  have R63 := Lib.hid (range_lit how 0 4 [.int .u8 (o0.toNat : Int), .int .u8 (o1.toNat : Int), .int .u8 (o2.toNat : Int), .int .u8 (o3.toNat : Int)] rfl)
  go_wp2_with (first | ((with_reducible show wpList _ _ _ (⟨some 63, _, _, _, _, _⟩ :: _) _ _); refine wpList_load_rng 24 (.tmp 3) rfl (by kernel_rfl) _ _ rfl _ R63.out _ Try.underlying24 rfl (by kernel_rfl) ?_))
  try clear R63
  with_reducible refine (icabout_er _ _ _ _ _ _ _ _ _ _ 11 _ c7 (by have := HM9.out; omega) HA2.out).mono ?_
  rintro e w9 ⟨y0, y1, y2, y3, y4, y5, z0, z1, z2, z3, z4, z5, z6, z7, Ao2, n3, co2, Ab2, n4, cb2, rfl, b9⟩
  replace how := blk_u how b9
  replace hp := blk_u hp b9
  replace hpq := blk_u hpq b9
  replace ho := ho.below b9
  replace hb := hb.below b9
  replace b7 := b7.below b9
  replace b7w := own_under b7w b9
  replace qo := qo.below b9
  replace qb := qb.below b9
  replace c7 := c7.below b9
  replace c7w := own_under c7w b9
  replace lz_b7 := Nat.le_trans lz_b7 b9.size
  replace lz_c7 := Nat.le_trans lz_c7 b9.size
  replace bel := bel.trans (b9.mono bel.size)
  clear b9
  go_wp2_with (first | ((with_reducible show wpList _ _ _ (⟨some 13, _, _, _, _, _⟩ :: _) _ _); refine wpList_new_a rfl 27 rfl #[.int .i64 0, .int .i64 0, .int .i64 0, .int .i64 0, .int .i64 0, .int .i64 0, .int .u8 0, .int .u8 0, .int .u8 0, .int .u8 0, .int .u8 0, .int .u8 0, .int .u8 0, .int .u8 0, .slice none 0 0, .slice none 0 0] (by kernel_rfl) ?_; intro g13 w10 ge hh bb; have d_ow_px := ne_new (hlt how) ge; have d_p_px := ne_new (hlt hp) ge; have d_pq_px := ne_new (hlt hpq) ge; have av_ho_px := ho.av_new ge; have av_hb_px := hb.av_new ge; have av_b7_px := b7.av_new ge; have of_b7_px := own_new b7w ge; have av_qo_px := qo.av_new ge; have av_qb_px := qb.av_new ge; have av_c7_px := c7.av_new ge; have of_c7_px := own_new c7w ge; have opx := Nat.le_trans bel.size ge; replace how := blk_u how bb; replace hp := blk_u hp bb; replace hpq := blk_u hpq bb; replace ho := ho.below bb; replace hb := hb.below bb; replace b7 := b7.below bb; replace b7w := own_under b7w bb; replace qo := qo.below bb; replace qb := qb.below bb; replace c7 := c7.below bb; replace c7w := own_under c7w bb; replace lz_b7 := Nat.le_trans lz_b7 bb.size; replace lz_c7 := Nat.le_trans lz_c7 bb.size; replace bel := bel.trans (bb.mono bel.size); have hpx := hh; clear hh ge bb) | ((with_reducible show wpList _ _ _ (⟨none, Op.store _ (.tmp 13) _, _, _, _, _⟩ :: _) _ _); refine wpList_store_blk rfl 27 (.tmp 13) (.tmp 66) rfl g13 rfl _ rfl _ 27 hpx (by rfl) (by kernel_rfl) (by kernel_rfl) ?_; intro w11 hq gr; replace ho := ho.away av_ho_px gr; replace hb := hb.away av_hb_px gr; replace b7 := b7.away av_b7_px gr; replace b7w := own_off b7w of_b7_px gr; replace qo := qo.away av_qo_px gr; replace qb := qb.away av_qb_px gr; replace c7 := c7.away av_c7_px gr; replace c7w := own_off c7w of_c7_px gr; replace lz_b7 := Nat.le_trans lz_b7 gr.size; replace lz_c7 := Nat.le_trans lz_c7 gr.size; replace how := blk_a how gr d_ow_px; replace hp := blk_a hp gr d_p_px; replace hpq := blk_a hpq gr d_pq_px; replace bel := below_grown bel gr opx bel.size; clear hpx; have hpx := hq; clear hq gr; have R69 := Lib.hid (range_lit hpq 0 16 [.int .i64 0, .int .i64 0, .int .i64 0, .int .i64 0, .int .i64 64, .int .i64 1, .int .u8 (o0.toNat : Int), .int .u8 (o1.toNat : Int), .int .u8 (o2.toNat : Int), .int .u8 (o3.toNat : Int), .int .u8 (p0.toNat : Int), .int .u8 (p1.toNat : Int), .int .u8 (p2.toNat : Int), .int .u8 (p3.toNat : Int), .slice Ao 0 co1, .slice Ab (8 + k) cb1] rfl)) | ((with_reducible show wpList _ _ _ (⟨some 69, _, _, _, _, _⟩ :: _) _ _); refine wpList_load_rng 27 (.tmp 9) rfl (by kernel_rfl) _ _ rfl _ R69.out _ Try.underlying27 rfl (by kernel_rfl) ?_))
  try clear R69
  with_reducible refine (icget_good _ _ _ _ _ _ _ _ _ _ _ _ _ _ _ _ _ _ _ _ _ (r.take k) 3 0 0 k _ qb (by have := HK.out; omega) (ic_back (fl := 0) (pt := 0) (by decide) (by decide) (by decide) (by decide) (by decide) (r.take k)) HTK.out).mono ?_
  rintro e w12 ⟨Bm, dm, rfl, mb, fm, b12⟩
  have av_mb_ow := fm.av (hlt how)
  have av_mb_p := fm.av (hlt hp)
  have av_mb_pq := fm.av (hlt hpq)
  have av_mb_px := fm.av (hlt hpx)
  replace how := blk_u how b12
  replace hp := blk_u hp b12
  replace hpq := blk_u hpq b12
  replace hpx := blk_u hpx b12
  replace ho := ho.below b12
  replace hb := hb.below b12
  replace b7 := b7.below b12
  replace b7w := own_under b7w b12
  replace qo := qo.below b12
  replace qb := qb.below b12
  replace c7 := c7.below b12
  replace c7w := own_under c7w b12
  replace lz_b7 := Nat.le_trans lz_b7 b12.size
  replace lz_c7 := Nat.le_trans lz_c7 b12.size
  replace bel := bel.trans (b12.mono bel.size)
  clear b12
  replace mb : Sl w12 (Bm) (k) (dm) (r.take k) := mb
  go_wp2_with (first | ((with_reducible show wpList _ _ _ (⟨some 15, _, _, _, _, _⟩ :: _) _ _); refine wpList_new_a rfl 34 rfl #[.int .i64 0, .int .i64 0, .int .u32 0, .slice none 0 0] (by kernel_rfl) ?_; intro g15 w13 ge hh bb; have d_ow_py := ne_new (hlt how) ge; have d_p_py := ne_new (hlt hp) ge; have d_pq_py := ne_new (hlt hpq) ge; have d_px_py := ne_new (hlt hpx) ge; have av_ho_py := ho.av_new ge; have av_hb_py := hb.av_new ge; have av_b7_py := b7.av_new ge; have of_b7_py := own_new b7w ge; have av_qo_py := qo.av_new ge; have av_qb_py := qb.av_new ge; have av_c7_py := c7.av_new ge; have of_c7_py := own_new c7w ge; have av_mb_py := mb.av_new ge; have opy := Nat.le_trans bel.size ge; replace how := blk_u how bb; replace hp := blk_u hp bb; replace hpq := blk_u hpq bb; replace hpx := blk_u hpx bb; replace ho := ho.below bb; replace hb := hb.below bb; replace b7 := b7.below bb; replace b7w := own_under b7w bb; replace qo := qo.below bb; replace qb := qb.below bb; replace c7 := c7.below bb; replace c7w := own_under c7w bb; replace mb := mb.below bb; replace lz_b7 := Nat.le_trans lz_b7 bb.size; replace lz_c7 := Nat.le_trans lz_c7 bb.size; replace bel := bel.trans (bb.mono bel.size); have hpy := hh; clear hh ge bb) | ((with_reducible show wpList _ _ _ (⟨none, Op.store _ (.tmp 15) _, _, _, _, _⟩ :: _) _ _); refine wpList_store_blk rfl 34 (.tmp 15) (.tmp 71) rfl g15 rfl _ rfl _ 34 hpy (by rfl) (by kernel_rfl) (by kernel_rfl) ?_; intro w14 hq gr; replace ho := ho.away av_ho_py gr; replace hb := hb.away av_hb_py gr; replace b7 := b7.away av_b7_py gr; replace b7w := own_off b7w of_b7_py gr; replace qo := qo.away av_qo_py gr; replace qb := qb.away av_qb_py gr; replace c7 := c7.away av_c7_py gr; replace c7w := own_off c7w of_c7_py gr; replace mb := mb.away av_mb_py gr; replace lz_b7 := Nat.le_trans lz_b7 gr.size; replace lz_c7 := Nat.le_trans lz_c7 gr.size; replace how := blk_a how gr d_ow_py; replace hp := blk_a hp gr d_p_py; replace hpq := blk_a hpq gr d_pq_py; replace hpx := blk_a hpx gr d_px_py; replace bel := below_grown bel gr opy bel.size; clear hpy; have hpy := hq; clear hq gr))
  obtain ⟨A97, c97, r97, f97, u97⟩ := piece_front b7 (k := k) HKN.out
  have pc := f97 _ b7
  clear f97 u97
  go_wp2_with fail
  replace bel := bel.drew
  replace how : w14.drew.heap[g3]? = _ := how
  replace hp : w14.drew.heap[g4]? = _ := hp
  replace hpq : w14.drew.heap[g9]? = _ := hpq
  replace hpx : w14.drew.heap[g13]? = _ := hpx
  replace hpy : w14.drew.heap[g15]? = _ := hpy
  replace ho := ho.drew
  replace hb := hb.drew
  replace b7 := b7.drew
  replace b7w : w14.drew.ownsRow _ _ _ _ _ _ := b7w
  replace lz_b7 : _ ≤ w14.drew.heap.size := lz_b7
  replace qo := qo.drew
  replace qb := qb.drew
  replace c7 := c7.drew
  replace c7w : w14.drew.ownsRow _ _ _ _ _ _ := c7w
  replace lz_c7 : _ ≤ w14.drew.heap.size := lz_c7
  replace mb := mb.drew
  replace pc := pc.drew
  refine wp_region_held_drew (S := fun W => W.heap[g15]? = some (.cells #[.int .i64 3, .int .i64 0, .int .u32 0, .slice Bm k dm] 34 (0, 0)) ∧ Sl W (Bm) (k) (dm) (r.take k) ∧ Sl W (A97) (k) (c97) (r.take k)) (by kernel_rfl) ⟨hpy, mb, pc⟩ (fun hH => ?_)
  generalize w14.drew = w15 at bel how hp hpq hpx hpy ho hb b7 qo qb c7 mb pc b7w c7w lz_b7 lz_c7 hH ⊢
  refine wpAnyH_take (i := 0) (v := ?_) rfl (by kernel_rfl) (by kernel_rfl) (by kernel_rfl) (fun _ _ _ h => h) (Or.inl ⟨by rfl, ?_⟩) hH ?_
  rotate_left
  · ((intro W hW; clear hW; go_simp) <;> with_reducible rfl)
  simp only [Act.put, List.getElem_toArray, List.getElem_cons_zero, List.setIfInBounds_toArray, List.set_cons_zero, List.set_cons_succ]
  refine wpAnyH_take (i := 1) (v := ?_) rfl (by kernel_rfl) (by kernel_rfl) (by kernel_rfl) (fun _ _ _ h => h) (Or.inl ⟨by rfl, ?_⟩) hH ?_
  rotate_left
  · ((intro W hW; clear hW; go_simp) <;> with_reducible rfl)
  simp only [Act.put, List.getElem_toArray, List.getElem_cons_zero, List.getElem_cons_succ, List.setIfInBounds_toArray, List.set_cons_zero, List.set_cons_succ]
  refine wpAnyH_take (i := 2) (v := ?_) rfl (by kernel_rfl) (by kernel_rfl) (by kernel_rfl) (fun _ _ _ h => h) (Or.inl ⟨by rfl, ?_⟩) hH ?_
  rotate_left
  · ((intro W hW; clear hW; go_simp) <;> with_reducible rfl)
  simp only [Act.put, List.getElem_toArray, List.getElem_cons_zero, List.getElem_cons_succ, List.setIfInBounds_toArray, List.set_cons_zero, List.set_cons_succ]
  refine wpAnyH_take (i := 3) (v := ?_) rfl (by kernel_rfl) (by kernel_rfl) (by kernel_rfl) (fun _ _ _ h => h) (Or.inl ⟨by rfl, ?_⟩) hH ?_
  rotate_left
  · ((intro W hW; clear hW; go_simp) <;> with_reducible rfl)
  simp only [Act.put, List.getElem_toArray, List.getElem_cons_zero, List.getElem_cons_succ, List.setIfInBounds_toArray, List.set_cons_zero, List.set_cons_succ]
  refine wpAnyH_take (i := 4) (v := ?_) rfl (by kernel_rfl) (by kernel_rfl) (by kernel_rfl) (fun _ _ _ h => h) (Or.inl ⟨by rfl, ?_⟩) hH ?_
  rotate_left
  · ((intro W hW; clear hW; go_simp) <;> with_reducible rfl)
  simp only [Act.put, List.getElem_toArray, List.getElem_cons_zero, List.getElem_cons_succ, List.setIfInBounds_toArray, List.set_cons_zero, List.set_cons_succ]
  refine wpAnyH_take (i := 5) (v := ?_) rfl (by kernel_rfl) (by kernel_rfl) (by kernel_rfl) (fun _ _ _ h => h) (Or.inl ⟨by rfl, ?_⟩) hH ?_
  rotate_left
  · ((intro W hW; clear hW; go_simp) <;> with_reducible rfl)
  simp only [Act.put, List.getElem_toArray, List.getElem_cons_zero, List.getElem_cons_succ, List.setIfInBounds_toArray, List.set_cons_zero, List.set_cons_succ]
  refine wpAnyH_take (i := 6) (v := ?_) rfl (by kernel_rfl) (by kernel_rfl) (by kernel_rfl) (fun _ _ _ h => h) (Or.inl ⟨by rfl, ?_⟩) hH ?_
  rotate_left
  · ((intro W hW; clear hW; go_simp) <;> with_reducible rfl)
  simp only [Act.put, List.getElem_toArray, List.getElem_cons_zero, List.getElem_cons_succ, List.setIfInBounds_toArray, List.set_cons_zero, List.set_cons_succ]
  refine wpAnyH_take (i := 7) (v := ?_) rfl (by kernel_rfl) (by kernel_rfl) (by kernel_rfl) (fun _ _ _ h => h) (Or.inl ⟨by rfl, ?_⟩) hH ?_
  rotate_left
  · ((intro W hW; clear hW; go_simp) <;> with_reducible rfl)
  simp only [Act.put, List.getElem_toArray, List.getElem_cons_zero, List.getElem_cons_succ, List.setIfInBounds_toArray, List.set_cons_zero, List.set_cons_succ]
  refine wpAnyH_take (i := 8) (v := ?_) rfl (by kernel_rfl) (by kernel_rfl) (by kernel_rfl) (fun _ _ _ h => h) (Or.inl ⟨by rfl, ?_⟩) hH ?_
  rotate_left
  · ((intro W hW; clear hW; go_simp) <;> with_reducible rfl)
  simp only [Act.put, List.getElem_toArray, List.getElem_cons_zero, List.getElem_cons_succ, List.setIfInBounds_toArray, List.set_cons_zero, List.set_cons_succ]
  refine wpAnyH_take (i := 9) (v := ?_) rfl (by kernel_rfl) (by kernel_rfl) (by kernel_rfl) (fun _ _ _ h => h) (Or.inl ⟨by rfl, ?_⟩) hH ?_
  rotate_left
  · ((intro W hW; clear hW; go_simp) <;> with_reducible rfl)
  simp only [Act.put, List.getElem_toArray, List.getElem_cons_zero, List.getElem_cons_succ, List.setIfInBounds_toArray, List.set_cons_zero, List.set_cons_succ]
  refine wpAnyH_take (i := 10) (v := ?_) rfl (by kernel_rfl) (by kernel_rfl) (by kernel_rfl) (fun _ _ _ h => h) (Or.inl ⟨by rfl, ?_⟩) hH ?_
  rotate_left
  · ((intro W hW; clear hW; go_simp) <;> with_reducible rfl)
  simp only [Act.put, List.getElem_toArray, List.getElem_cons_zero, List.getElem_cons_succ, List.setIfInBounds_toArray, List.set_cons_zero, List.set_cons_succ]
  refine wpAnyH_take (i := 11) (v := ?_) rfl (by kernel_rfl) (by kernel_rfl) (by kernel_rfl) (fun _ _ _ h => h) (Or.inl ⟨by rfl, ?_⟩) hH ?_
  rotate_left
  · ((intro W hW; clear hW; go_simp) <;> with_reducible rfl)
  simp only [Act.put, List.getElem_toArray, List.getElem_cons_zero, List.getElem_cons_succ, List.setIfInBounds_toArray, List.set_cons_zero, List.set_cons_succ]
  refine wpAnyH_take (i := 12) (v := ?_) rfl (by kernel_rfl) (by kernel_rfl) (by kernel_rfl) (fun _ _ _ h => h) (Or.inl ⟨by rfl, ?_⟩) hH ?_
  rotate_left
  · ((intro W hW; have hk := cell_lit (hW.1) 3 _ rfl; clear hW; go_simp) <;> with_reducible rfl)
  simp only [Act.put, List.getElem_toArray, List.getElem_cons_zero, List.getElem_cons_succ, List.setIfInBounds_toArray, List.set_cons_zero, List.set_cons_succ]
  refine wpAnyH_take (i := 13) (v := ?_) rfl (by kernel_rfl) (by kernel_rfl) (by kernel_rfl) (fun _ _ _ h => h) (Or.inl ⟨by rfl, ?_⟩) hH ?_
  rotate_left
  · ((intro W hW; clear hW; go_simp) <;> with_reducible rfl)
  simp only [Act.put, List.getElem_toArray, List.getElem_cons_zero, List.getElem_cons_succ, List.setIfInBounds_toArray, List.set_cons_zero, List.set_cons_succ]
  refine wpAnyH_take (i := 14) (v := ?_) rfl (by kernel_rfl) (by kernel_rfl) (by kernel_rfl) (fun _ _ _ h => h) (Or.inl ⟨by rfl, ?_⟩) hH ?_
  rotate_left
  · ((intro W hW; clear hW; go_simp) <;> with_reducible rfl)
  simp only [Act.put, List.getElem_toArray, List.getElem_cons_zero, List.getElem_cons_succ, List.setIfInBounds_toArray, List.set_cons_zero, List.set_cons_succ]
  refine wpAnyH_take (i := 15) (v := ?_) rfl (by kernel_rfl) (by kernel_rfl) (by kernel_rfl) (fun _ _ _ h => h) (Or.inl ⟨by rfl, ?_⟩) hH ?_
  rotate_left
  · ((intro W hW; clear hW; go_simp) <;> with_reducible rfl)
  simp only [Act.put, List.getElem_toArray, List.getElem_cons_zero, List.getElem_cons_succ, List.setIfInBounds_toArray, List.set_cons_zero, List.set_cons_succ]
  refine wpAnyH_take (i := 16) (v := ?_) rfl (by kernel_rfl) (by kernel_rfl) (by kernel_rfl) (fun _ _ _ h => h) (Or.inl ⟨by rfl, ?_⟩) hH ?_
  rotate_left
  · ((intro W hW; clear hW; go_simp) <;> with_reducible rfl)
  simp only [Act.put, List.getElem_toArray, List.getElem_cons_zero, List.getElem_cons_succ, List.setIfInBounds_toArray, List.set_cons_zero, List.set_cons_succ]
  refine wpAnyH_take (i := 17) (v := ?_) rfl (by kernel_rfl) (by kernel_rfl) (by kernel_rfl) (fun _ _ _ h => h) (Or.inl ⟨by rfl, ?_⟩) hH ?_
  rotate_left
  · ((intro W hW; clear hW; go_simp) <;> with_reducible rfl)
  simp only [Act.put, List.getElem_toArray, List.getElem_cons_zero, List.getElem_cons_succ, List.setIfInBounds_toArray, List.set_cons_zero, List.set_cons_succ]
  refine wpAnyH_take (i := 18) (v := ?_) rfl (by kernel_rfl) (by kernel_rfl) (by kernel_rfl) (fun _ _ _ h => h) (Or.inl ⟨by rfl, ?_⟩) hH ?_
  rotate_left
  · ((intro W hW; have hk := cell_lit (hW.1) 3 _ rfl; clear hW; go_simp) <;> with_reducible rfl)
  simp only [Act.put, List.getElem_toArray, List.getElem_cons_zero, List.getElem_cons_succ, List.setIfInBounds_toArray, List.set_cons_zero, List.set_cons_succ]
  refine wpAnyH_take (i := 19) (v := ?_) rfl (by kernel_rfl) (by kernel_rfl) (by kernel_rfl) (fun _ _ _ h => h) (Or.inl ⟨by rfl, ?_⟩) hH ?_
  rotate_left
  · ((intro W hW; have st0 := (hW.2.1).str (P := Try.prog) 25 5 9 Try.underlying25 Try.underlying5 Try.underlying9; clear hW; go_simp) <;> with_reducible rfl)
  simp only [Act.put, List.getElem_toArray, List.getElem_cons_zero, List.getElem_cons_succ, List.setIfInBounds_toArray, List.set_cons_zero, List.set_cons_succ]
  refine wpAnyH_take (i := 20) (v := ?_) rfl (by kernel_rfl) (by kernel_rfl) (by kernel_rfl) (fun _ _ _ h => h) (Or.inl ⟨by rfl, ?_⟩) hH ?_
  rotate_left
  · ((intro W hW; clear hW; go_simp) <;> with_reducible rfl)
  simp only [Act.put, List.getElem_toArray, List.getElem_cons_zero, List.getElem_cons_succ, List.setIfInBounds_toArray, List.set_cons_zero, List.set_cons_succ]
  refine wpAnyH_take (i := 21) (v := ?_) rfl (by kernel_rfl) (by kernel_rfl) (by kernel_rfl) (fun _ _ _ h => h) (Or.inl ⟨by rfl, ?_⟩) hH ?_
  rotate_left
  · ((intro W hW; clear hW; go_simp) <;> with_reducible rfl)
  simp only [Act.put, List.getElem_toArray, List.getElem_cons_zero, List.getElem_cons_succ, List.setIfInBounds_toArray, List.set_cons_zero, List.set_cons_succ]
  refine wpAnyH_take (i := 22) (v := ?_) rfl (by kernel_rfl) (by kernel_rfl) (by kernel_rfl) (fun _ _ _ h => h) (Or.inl ⟨by rfl, ?_⟩) hH ?_
  rotate_left
  · ((intro W hW; have hk := cell_lit (hW.1) 3 _ rfl; clear hW; go_simp) <;> with_reducible rfl)
  simp only [Act.put, List.getElem_toArray, List.getElem_cons_zero, List.getElem_cons_succ, List.setIfInBounds_toArray, List.set_cons_zero, List.set_cons_succ]
  refine wpAnyH_take (i := 23) (v := ?_) rfl (by kernel_rfl) (by kernel_rfl) (by kernel_rfl) (fun _ _ _ h => h) (Or.inl ⟨by rfl, ?_⟩) hH ?_
  rotate_left
  · ((intro W hW; clear hW; go_simp) <;> with_reducible rfl)
  simp only [Act.put, List.getElem_toArray, List.getElem_cons_zero, List.getElem_cons_succ, List.setIfInBounds_toArray, List.set_cons_zero, List.set_cons_succ]
  refine wpAnyH_take (i := 24) (v := ?_) rfl (by kernel_rfl) (by kernel_rfl) (by kernel_rfl) (fun _ _ _ h => h) (Or.inl ⟨by rfl, ?_⟩) hH ?_
  rotate_left
  · ((intro W hW; clear hW; go_simp) <;> with_reducible rfl)
  simp only [Act.put, List.getElem_toArray, List.getElem_cons_zero, List.getElem_cons_succ, List.setIfInBounds_toArray, List.set_cons_zero, List.set_cons_succ]
  refine wpAnyH_take (i := 25) (v := ?_) rfl (by kernel_rfl) (by kernel_rfl) (by kernel_rfl) (fun _ _ _ h => h) (Or.inl ⟨by rfl, ?_⟩) hH ?_
  rotate_left
  · ((intro W hW; have st0 := (hW.2.2).str (P := Try.prog) 25 5 9 Try.underlying25 Try.underlying5 Try.underlying9; clear hW; go_simp) <;> with_reducible rfl)
  simp only [Act.put, List.getElem_toArray, List.getElem_cons_zero, List.getElem_cons_succ, List.setIfInBounds_toArray, List.set_cons_zero, List.set_cons_succ]
  refine wpAnyH_take (i := 26) (v := ?_) rfl (by kernel_rfl) (by kernel_rfl) (by kernel_rfl) (fun _ _ _ h => h) (Or.inl ⟨by rfl, ?_⟩) hH ?_
  rotate_left
  · ((intro W hW; clear hW; go_simp) <;> with_reducible rfl)
  simp only [Act.put, List.getElem_toArray, List.getElem_cons_zero, List.getElem_cons_succ, List.setIfInBounds_toArray, List.set_cons_zero, List.set_cons_succ]
  refine wpAnyH_take (i := 27) (v := ?_) rfl (by kernel_rfl) (by kernel_rfl) (by kernel_rfl) (fun _ _ _ h => h) (Or.inl ⟨by rfl, ?_⟩) hH ?_
  rotate_left
  · ((intro W hW; clear hW; go_simp) <;> with_reducible rfl)
  simp only [Act.put, List.getElem_toArray, List.getElem_cons_zero, List.getElem_cons_succ, List.setIfInBounds_toArray, List.set_cons_zero, List.set_cons_succ]
  refine wpAnyH_take (i := 28) (v := ?_) rfl (by kernel_rfl) (by kernel_rfl) (by kernel_rfl) (fun _ _ _ h => h) (Or.inl ⟨by rfl, ?_⟩) hH ?_
  rotate_left
  · ((intro W hW; clear hW; go_simp) <;> with_reducible rfl)
  simp only [Act.put, List.getElem_toArray, List.getElem_cons_zero, List.getElem_cons_succ, List.setIfInBounds_toArray, List.set_cons_zero, List.set_cons_succ]
  refine wpAnyH_done (by kernel_rfl) ?_ _
  go_wp2_with fail
  go_ret
  exact ⟨rfl, bel⟩
set_option linter.unusedVariables false in
set_option maxRecDepth 100000 in
set_option maxHeartbeats 16000000 in
theorem icmpNone_4_11 (o0 o1 o2 o3 : UInt8) (tos id fl pt ttl pr : Int) (a0 a1 a2 a3 a4 a5 a6 a7 : UInt8) (So : Option Addr) (no co : Nat) (lo : List UInt8) (Sb : Option Addr) (nb cb : Nat) (lb : List UInt8) (w : World) (ho : Sl w So no co lo) (hb : Sl w Sb nb cb lb) (h1 : nb ≤ 1400) (h2 : no ≤ 40) (r : List UInt8) (n : Nat) (er : Int) (hr : ipPut tos id fl pt ttl pr a0 a1 a2 a3 a4 a5 a6 a7 lo lb = (r, er)) (hn : r.length = n) (hz : er ≠ 0) : Calls Try.prog 7 #[.agg #[.int .u8 (o0.toNat : Int), .int .u8 (o1.toNat : Int), .int .u8 (o2.toNat : Int), .int .u8 (o3.toNat : Int)], .agg #[.int .i64 tos, .int .i64 id, .int .i64 fl, .int .i64 pt, .int .i64 ttl, .int .i64 pr, .int .u8 (a0.toNat : Int), .int .u8 (a1.toNat : Int), .int .u8 (a2.toNat : Int), .int .u8 (a3.toNat : Int), .int .u8 (a4.toNat : Int), .int .u8 (a5.toNat : Int), .int .u8 (a6.toNat : Int), .int .u8 (a7.toNat : Int), .slice So no co, .slice Sb nb cb], .int .i64 11] w fun e w' => e = .returned (.bool true) ∧ Below w.heap.size w w' := by
  obtain ⟨ii, hii, hz0, hz1, hz2⟩ := info_parts Try.info5
  have t1 : decide ((1400 : Int) < nb) = false := decide_eq_false (by omega)
  have t2 : decide ((40 : Int) < no) = false := decide_eq_false (by omega)
  have H1 := Lib.hid h1
  have H2 := Lib.hid h2
  clear h1 h2
  have HPUT := Lib.hid hr
  have HN := Lib.hid hn
  have t5 : (er == 0) = false := by simpa using hz
  have t6 : (er != 0) = true := by simpa using hz
  clear hr hn hz
  have bel := Below.refl w.heap.size w
  go_enter Try.func7, Try.ntmps7
  go_wp2_with (first | ((with_reducible show wpList _ _ _ (⟨some 3, _, _, _, _, _⟩ :: _) _ _); refine wpList_box_n rfl 24 (.tmp 0) rfl #[.int .u8 (o0.toNat : Int), .int .u8 (o1.toNat : Int), .int .u8 (o2.toNat : Int), .int .u8 (o3.toNat : Int)] rfl ?_; intro g3 w1 ge lt hh bb; have av_ho_ow := ho.av_new ge; have av_hb_ow := hb.av_new ge; have oow := Nat.le_trans bel.size ge; replace ho := ho.below bb; replace hb := hb.below bb; replace bel := bel.trans (bb.mono bel.size); have how := hh; clear hh lt ge bb) | ((with_reducible show wpList _ _ _ (⟨some 4, _, _, _, _, _⟩ :: _) _ _); refine wpList_box_n rfl 27 (.tmp 1) rfl #[.int .i64 tos, .int .i64 id, .int .i64 fl, .int .i64 pt, .int .i64 ttl, .int .i64 pr, .int .u8 (a0.toNat : Int), .int .u8 (a1.toNat : Int), .int .u8 (a2.toNat : Int), .int .u8 (a3.toNat : Int), .int .u8 (a4.toNat : Int), .int .u8 (a5.toNat : Int), .int .u8 (a6.toNat : Int), .int .u8 (a7.toNat : Int), .slice So no co, .slice Sb nb cb] rfl ?_; intro g4 w2 ge lt hh bb; have d_ow_p := ne_new (hlt how) ge; have av_ho_p := ho.av_new ge; have av_hb_p := hb.av_new ge; have op := Nat.le_trans bel.size ge; replace how := blk_u how bb; replace ho := ho.below bb; replace hb := hb.below bb; replace bel := bel.trans (bb.mono bel.size); have hp := hh; clear hh lt ge bb))
  with_reducible refine (awake9 _).mono ?_
  rintro e w3 ⟨rfl, b3⟩
  replace how := blk_u how b3
  replace hp := blk_u hp b3
  replace ho := ho.below b3
  replace hb := hb.below b3
  replace bel := bel.trans (b3.mono bel.size)
  clear b3
  have R20 := cell_lit hp 15 _ rfl
  have R25 := cell_lit hp 14 _ rfl
  have R42 := Lib.hid (range_lit hp 0 16 [.int .i64 tos, .int .i64 id, .int .i64 fl, .int .i64 pt, .int .i64 ttl, .int .i64 pr, .int .u8 (a0.toNat : Int), .int .u8 (a1.toNat : Int), .int .u8 (a2.toNat : Int), .int .u8 (a3.toNat : Int), .int .u8 (a4.toNat : Int), .int .u8 (a5.toNat : Int), .int .u8 (a6.toNat : Int), .int .u8 (a7.toNat : Int), .slice So no co, .slice Sb nb cb] rfl)
  go_wp2_with (first | ((with_reducible show wpList _ _ _ (⟨some 42, _, _, _, _, _⟩ :: _) _ _); refine wpList_load_rng 27 (.tmp 4) rfl (by kernel_rfl) _ _ rfl _ R42.out _ Try.underlying27 rfl (by kernel_rfl) ?_))
  try clear R20
  try clear R25
  try clear R42
  with_reducible refine (ipput_n _ _ _ _ _ _ _ _ _ _ _ _ _ _ _ _ _ _ _ _ _ _ r n er _ ho hb (by have := H1.out; omega) HPUT.out HN.out).mono ?_
  rintro e w4 ⟨v, rfl, b7w, b4⟩
  have y_b7_ow := Lib.hid (hlt how)
  have y_b7_p := Lib.hid (hlt hp)
  have bl_ho_b7 := ho.bl_new
  have bl_hb_b7 := hb.bl_new
  have b7lo := bel.size
  have lz_b7 := b4.size
  replace how := blk_u how b4
  replace hp := blk_u hp b4
  replace ho := ho.below b4
  replace hb := hb.below b4
  replace bel := bel.trans (b4.mono bel.size)
  clear b4
  obtain ⟨Ab7, cb7, rfl⟩ := own_val b7w
  have b7 := (own_sl b7w).1
  have fr_b7 := (own_sl b7w).2
  have av_b7_ow := fr_b7.av y_b7_ow.out
  have av_b7_p := fr_b7.av y_b7_p.out
  go_wp2_with fail
  go_ret
  exact ⟨rfl, bel⟩
set_option linter.unusedVariables false in
set_option maxRecDepth 100000 in
set_option maxHeartbeats 16000000 in
theorem icmpNone_5_11 (o0 o1 o2 o3 : UInt8) (tos id fl pt ttl pr : Int) (a0 a1 a2 a3 a4 a5 a6 a7 : UInt8) (So : Option Addr) (no co : Nat) (lo : List UInt8) (Sb : Option Addr) (nb cb : Nat) (lb : List UInt8) (w : World) (ho : Sl w So no co lo) (hb : Sl w Sb nb cb lb) (h1 : nb ≤ 1400) (h2 : no ≤ 40) (r : List UInt8) (n : Nat) (hr : ipPut tos id fl pt ttl pr a0 a1 a2 a3 a4 a5 a6 a7 lo lb = (r, 0)) (hn : r.length = n) (hnl : n ≤ 1500) (er : Int) (ha : (icAbout o0 o1 o2 o3 r 11 0).2.2 = er) (hz : er ≠ 0) : Calls Try.prog 7 #[.agg #[.int .u8 (o0.toNat : Int), .int .u8 (o1.toNat : Int), .int .u8 (o2.toNat : Int), .int .u8 (o3.toNat : Int)], .agg #[.int .i64 tos, .int .i64 id, .int .i64 fl, .int .i64 pt, .int .i64 ttl, .int .i64 pr, .int .u8 (a0.toNat : Int), .int .u8 (a1.toNat : Int), .int .u8 (a2.toNat : Int), .int .u8 (a3.toNat : Int), .int .u8 (a4.toNat : Int), .int .u8 (a5.toNat : Int), .int .u8 (a6.toNat : Int), .int .u8 (a7.toNat : Int), .slice So no co, .slice Sb nb cb], .int .i64 11] w fun e w' => e = .returned (.bool true) ∧ Below w.heap.size w w' := by
  obtain ⟨ii, hii, hz0, hz1, hz2⟩ := info_parts Try.info5
  have t1 : decide ((1400 : Int) < nb) = false := decide_eq_false (by omega)
  have t2 : decide ((40 : Int) < no) = false := decide_eq_false (by omega)
  have H1 := Lib.hid h1
  have H2 := Lib.hid h2
  clear h1 h2
  have HPUT := Lib.hid hr
  have HN := Lib.hid hn
  have HNL := Lib.hid hnl
  have HA := Lib.hid ha
  have t5 : (er == 0) = false := by simpa using hz
  have t6 : (er != 0) = true := by simpa using hz
  clear hr hn hz ha hnl
  have bel := Below.refl w.heap.size w
  go_enter Try.func7, Try.ntmps7
  go_wp2_with (first | ((with_reducible show wpList _ _ _ (⟨some 3, _, _, _, _, _⟩ :: _) _ _); refine wpList_box_n rfl 24 (.tmp 0) rfl #[.int .u8 (o0.toNat : Int), .int .u8 (o1.toNat : Int), .int .u8 (o2.toNat : Int), .int .u8 (o3.toNat : Int)] rfl ?_; intro g3 w1 ge lt hh bb; have av_ho_ow := ho.av_new ge; have av_hb_ow := hb.av_new ge; have oow := Nat.le_trans bel.size ge; replace ho := ho.below bb; replace hb := hb.below bb; replace bel := bel.trans (bb.mono bel.size); have how := hh; clear hh lt ge bb) | ((with_reducible show wpList _ _ _ (⟨some 4, _, _, _, _, _⟩ :: _) _ _); refine wpList_box_n rfl 27 (.tmp 1) rfl #[.int .i64 tos, .int .i64 id, .int .i64 fl, .int .i64 pt, .int .i64 ttl, .int .i64 pr, .int .u8 (a0.toNat : Int), .int .u8 (a1.toNat : Int), .int .u8 (a2.toNat : Int), .int .u8 (a3.toNat : Int), .int .u8 (a4.toNat : Int), .int .u8 (a5.toNat : Int), .int .u8 (a6.toNat : Int), .int .u8 (a7.toNat : Int), .slice So no co, .slice Sb nb cb] rfl ?_; intro g4 w2 ge lt hh bb; have d_ow_p := ne_new (hlt how) ge; have av_ho_p := ho.av_new ge; have av_hb_p := hb.av_new ge; have op := Nat.le_trans bel.size ge; replace how := blk_u how bb; replace ho := ho.below bb; replace hb := hb.below bb; replace bel := bel.trans (bb.mono bel.size); have hp := hh; clear hh lt ge bb))
  with_reducible refine (awake9 _).mono ?_
  rintro e w3 ⟨rfl, b3⟩
  replace how := blk_u how b3
  replace hp := blk_u hp b3
  replace ho := ho.below b3
  replace hb := hb.below b3
  replace bel := bel.trans (b3.mono bel.size)
  clear b3
  have R20 := cell_lit hp 15 _ rfl
  have R25 := cell_lit hp 14 _ rfl
  have R42 := Lib.hid (range_lit hp 0 16 [.int .i64 tos, .int .i64 id, .int .i64 fl, .int .i64 pt, .int .i64 ttl, .int .i64 pr, .int .u8 (a0.toNat : Int), .int .u8 (a1.toNat : Int), .int .u8 (a2.toNat : Int), .int .u8 (a3.toNat : Int), .int .u8 (a4.toNat : Int), .int .u8 (a5.toNat : Int), .int .u8 (a6.toNat : Int), .int .u8 (a7.toNat : Int), .slice So no co, .slice Sb nb cb] rfl)
  go_wp2_with (first | ((with_reducible show wpList _ _ _ (⟨some 42, _, _, _, _, _⟩ :: _) _ _); refine wpList_load_rng 27 (.tmp 4) rfl (by kernel_rfl) _ _ rfl _ R42.out _ Try.underlying27 rfl (by kernel_rfl) ?_))
  try clear R20
  try clear R25
  try clear R42
  with_reducible refine (ipput_n _ _ _ _ _ _ _ _ _ _ _ _ _ _ _ _ _ _ _ _ _ _ r n 0 _ ho hb (by have := H1.out; omega) HPUT.out HN.out).mono ?_
  rintro e w4 ⟨v, rfl, b7w, b4⟩
  have y_b7_ow := Lib.hid (hlt how)
  have y_b7_p := Lib.hid (hlt hp)
  have bl_ho_b7 := ho.bl_new
  have bl_hb_b7 := hb.bl_new
  have b7lo := bel.size
  have lz_b7 := b4.size
  replace how := blk_u how b4
  replace hp := blk_u hp b4
  replace ho := ho.below b4
  replace hb := hb.below b4
  replace bel := bel.trans (b4.mono bel.size)
  clear b4
  obtain ⟨Ab7, cb7, rfl⟩ := own_val b7w
  have b7 := (own_sl b7w).1
  have fr_b7 := (own_sl b7w).2
  have av_b7_ow := fr_b7.av y_b7_ow.out
  have av_b7_p := fr_b7.av y_b7_p.out
  have R49 := Lib.hid (range_lit how 0 4 [.int .u8 (o0.toNat : Int), .int .u8 (o1.toNat : Int), .int .u8 (o2.toNat : Int), .int .u8 (o3.toNat : Int)] rfl)
  go_wp2_with (first | ((with_reducible show wpList _ _ _ (⟨some 49, _, _, _, _, _⟩ :: _) _ _); refine wpList_load_rng 24 (.tmp 3) rfl (by kernel_rfl) _ _ rfl _ R49.out _ Try.underlying24 rfl (by kernel_rfl) ?_))
  try clear R49
  with_reducible refine (icabout_er _ _ _ _ _ _ _ _ _ _ er _ b7 (by have := HNL.out; omega) HA.out).mono ?_
  rintro e w5 ⟨f0, f1, f2, f3, f4, f5, g0, g1, g2, g3, g4, g5, g6, g7, Ao, n1, co1, Ab, n2, cb1, rfl, b5⟩
  replace how := blk_u how b5
  replace hp := blk_u hp b5
  replace ho := ho.below b5
  replace hb := hb.below b5
  replace b7 := b7.below b5
  replace b7w := own_under b7w b5
  replace lz_b7 := Nat.le_trans lz_b7 b5.size
  replace bel := bel.trans (b5.mono bel.size)
  clear b5
  go_wp2_with (first | ((with_reducible show wpList _ _ _ (⟨some 9, _, _, _, _, _⟩ :: _) _ _); refine wpList_new_a rfl 27 rfl #[.int .i64 0, .int .i64 0, .int .i64 0, .int .i64 0, .int .i64 0, .int .i64 0, .int .u8 0, .int .u8 0, .int .u8 0, .int .u8 0, .int .u8 0, .int .u8 0, .int .u8 0, .int .u8 0, .slice none 0 0, .slice none 0 0] (by kernel_rfl) ?_; intro g9 w6 ge hh bb; have d_ow_pq := ne_new (hlt how) ge; have d_p_pq := ne_new (hlt hp) ge; have av_ho_pq := ho.av_new ge; have av_hb_pq := hb.av_new ge; have av_b7_pq := b7.av_new ge; have of_b7_pq := own_new b7w ge; have opq := Nat.le_trans bel.size ge; replace how := blk_u how bb; replace hp := blk_u hp bb; replace ho := ho.below bb; replace hb := hb.below bb; replace b7 := b7.below bb; replace b7w := own_under b7w bb; replace lz_b7 := Nat.le_trans lz_b7 bb.size; replace bel := bel.trans (bb.mono bel.size); have hpq := hh; clear hh ge bb) | ((with_reducible show wpList _ _ _ (⟨none, Op.store _ (.tmp 9) _, _, _, _, _⟩ :: _) _ _); refine wpList_store_blk rfl 27 (.tmp 9) (.tmp 53) rfl g9 rfl _ rfl _ 27 hpq (by rfl) (by kernel_rfl) (by kernel_rfl) ?_; intro w7 hq gr; replace ho := ho.away av_ho_pq gr; replace hb := hb.away av_hb_pq gr; replace b7 := b7.away av_b7_pq gr; replace b7w := own_off b7w of_b7_pq gr; replace lz_b7 := Nat.le_trans lz_b7 gr.size; replace how := blk_a how gr d_ow_pq; replace hp := blk_a hp gr d_p_pq; replace bel := below_grown bel gr opq bel.size; clear hpq; have hpq := hq; clear hq gr))
  go_ret
  exact ⟨rfl, bel⟩
set_option linter.unusedVariables false in
set_option maxRecDepth 100000 in
set_option maxHeartbeats 16000000 in
theorem icmpNone_6_11 (o0 o1 o2 o3 : UInt8) (tos id fl pt ttl pr : Int) (a0 a1 a2 a3 a4 a5 a6 a7 : UInt8) (So : Option Addr) (no co : Nat) (lo : List UInt8) (Sb : Option Addr) (nb cb : Nat) (lb : List UInt8) (w : World) (ho : Sl w So no co lo) (hb : Sl w Sb nb cb lb) (h1 : nb ≤ 1400) (h2 : no ≤ 40) (r : List UInt8) (n : Nat) (hr : ipPut tos id fl pt ttl pr a0 a1 a2 a3 a4 a5 a6 a7 lo lb = (r, 0)) (hn : r.length = n) (hnl : n ≤ 1500) (p0 p1 p2 p3 : UInt8) (k : Nat) (hk : k ≤ 68) (hkn : k ≤ r.length) (ha : icAbout o0 o1 o2 o3 r 11 0 = (([0, 0, 0, 0, 64, 1], [o0, o1, o2, o3, p0, p1, p2, p3]), ([], icBytes 11 0 0 (r.take k)), 0)) : Calls Try.prog 7 #[.agg #[.int .u8 (o0.toNat : Int), .int .u8 (o1.toNat : Int), .int .u8 (o2.toNat : Int), .int .u8 (o3.toNat : Int)], .agg #[.int .i64 tos, .int .i64 id, .int .i64 fl, .int .i64 pt, .int .i64 ttl, .int .i64 pr, .int .u8 (a0.toNat : Int), .int .u8 (a1.toNat : Int), .int .u8 (a2.toNat : Int), .int .u8 (a3.toNat : Int), .int .u8 (a4.toNat : Int), .int .u8 (a5.toNat : Int), .int .u8 (a6.toNat : Int), .int .u8 (a7.toNat : Int), .slice So no co, .slice Sb nb cb], .int .i64 11] w fun e w' => e = .returned (.bool true) ∧ Below w.heap.size w w' := by
  obtain ⟨ii, hii, hz0, hz1, hz2⟩ := info_parts Try.info5
  have t1 : decide ((1400 : Int) < nb) = false := decide_eq_false (by omega)
  have t2 : decide ((40 : Int) < no) = false := decide_eq_false (by omega)
  have H1 := Lib.hid h1
  have H2 := Lib.hid h2
  clear h1 h2
  have HPUT := Lib.hid hr
  have HN := Lib.hid hn
  have HNL := Lib.hid hnl
  have HA := Lib.hid ha
  have HK := Lib.hid hk
  have HKN : Hid (k ≤ n) := Lib.hid (by omega)
  have HTK : Hid ((r.take k).length = k) := Lib.hid (by rw [List.length_take]; omega)
  have HIB : Hid ((icBytes 11 0 0 (r.take k)).length = 8 + k) := Lib.hid (by rw [icBytes_len, HTK.out])
  have hq := icmp_around (o0 := o0) (o1 := o1) (o2 := o2) (o3 := o3) (p0 := p0) (p1 := p1) (p2 := p2) (p3 := p3) (typ := 11) (q := r.take k) (by rw [HTK.out]; exact hk) (by decide) (by decide)
  have HP2 := Lib.hid hq.1
  obtain ⟨m, hm⟩ : ∃ m, (ipBytes 0 0 0 0 64 1 o0 o1 o2 o3 p0 p1 p2 p3 [] (icBytes 11 0 0 (r.take k))).length = m := ⟨_, rfl⟩
  have HM := Lib.hid hm
  have HM9 : Hid (m ≤ 96) := Lib.hid (by rw [← hm]; exact hq.2.1)
  have HA2 : Hid ((icAbout o0 o1 o2 o3 (ipBytes 0 0 0 0 64 1 o0 o1 o2 o3 p0 p1 p2 p3 [] (icBytes 11 0 0 (r.take k))) 3 0).2.2 = 11) := Lib.hid (by rw [hq.2.2]; rfl)
  have t7 : (k : Int) ≤ 68 := by omega
  clear hr hn ha hnl hk hkn hq hm
  have bel := Below.refl w.heap.size w
  go_enter Try.func7, Try.ntmps7
  go_wp2_with (first | ((with_reducible show wpList _ _ _ (⟨some 3, _, _, _, _, _⟩ :: _) _ _); refine wpList_box_n rfl 24 (.tmp 0) rfl #[.int .u8 (o0.toNat : Int), .int .u8 (o1.toNat : Int), .int .u8 (o2.toNat : Int), .int .u8 (o3.toNat : Int)] rfl ?_; intro g3 w1 ge lt hh bb; have av_ho_ow := ho.av_new ge; have av_hb_ow := hb.av_new ge; have oow := Nat.le_trans bel.size ge; replace ho := ho.below bb; replace hb := hb.below bb; replace bel := bel.trans (bb.mono bel.size); have how := hh; clear hh lt ge bb) | ((with_reducible show wpList _ _ _ (⟨some 4, _, _, _, _, _⟩ :: _) _ _); refine wpList_box_n rfl 27 (.tmp 1) rfl #[.int .i64 tos, .int .i64 id, .int .i64 fl, .int .i64 pt, .int .i64 ttl, .int .i64 pr, .int .u8 (a0.toNat : Int), .int .u8 (a1.toNat : Int), .int .u8 (a2.toNat : Int), .int .u8 (a3.toNat : Int), .int .u8 (a4.toNat : Int), .int .u8 (a5.toNat : Int), .int .u8 (a6.toNat : Int), .int .u8 (a7.toNat : Int), .slice So no co, .slice Sb nb cb] rfl ?_; intro g4 w2 ge lt hh bb; have d_ow_p := ne_new (hlt how) ge; have av_ho_p := ho.av_new ge; have av_hb_p := hb.av_new ge; have op := Nat.le_trans bel.size ge; replace how := blk_u how bb; replace ho := ho.below bb; replace hb := hb.below bb; replace bel := bel.trans (bb.mono bel.size); have hp := hh; clear hh lt ge bb))
  with_reducible refine (awake9 _).mono ?_
  rintro e w3 ⟨rfl, b3⟩
  replace how := blk_u how b3
  replace hp := blk_u hp b3
  replace ho := ho.below b3
  replace hb := hb.below b3
  replace bel := bel.trans (b3.mono bel.size)
  clear b3
  have R20 := cell_lit hp 15 _ rfl
  have R25 := cell_lit hp 14 _ rfl
  have R42 := Lib.hid (range_lit hp 0 16 [.int .i64 tos, .int .i64 id, .int .i64 fl, .int .i64 pt, .int .i64 ttl, .int .i64 pr, .int .u8 (a0.toNat : Int), .int .u8 (a1.toNat : Int), .int .u8 (a2.toNat : Int), .int .u8 (a3.toNat : Int), .int .u8 (a4.toNat : Int), .int .u8 (a5.toNat : Int), .int .u8 (a6.toNat : Int), .int .u8 (a7.toNat : Int), .slice So no co, .slice Sb nb cb] rfl)
  go_wp2_with (first | ((with_reducible show wpList _ _ _ (⟨some 42, _, _, _, _, _⟩ :: _) _ _); refine wpList_load_rng 27 (.tmp 4) rfl (by kernel_rfl) _ _ rfl _ R42.out _ Try.underlying27 rfl (by kernel_rfl) ?_))
  try clear R20
  try clear R25
  try clear R42
  with_reducible refine (ipput_n _ _ _ _ _ _ _ _ _ _ _ _ _ _ _ _ _ _ _ _ _ _ r n 0 _ ho hb (by have := H1.out; omega) HPUT.out HN.out).mono ?_
  rintro e w4 ⟨v, rfl, b7w, b4⟩
  have y_b7_ow := Lib.hid (hlt how)
  have y_b7_p := Lib.hid (hlt hp)
  have bl_ho_b7 := ho.bl_new
  have bl_hb_b7 := hb.bl_new
  have b7lo := bel.size
  have lz_b7 := b4.size
  replace how := blk_u how b4
  replace hp := blk_u hp b4
  replace ho := ho.below b4
  replace hb := hb.below b4
  replace bel := bel.trans (b4.mono bel.size)
  clear b4
  obtain ⟨Ab7, cb7, rfl⟩ := own_val b7w
  have b7 := (own_sl b7w).1
  have fr_b7 := (own_sl b7w).2
  have av_b7_ow := fr_b7.av y_b7_ow.out
  have av_b7_p := fr_b7.av y_b7_p.out
  have R49 := Lib.hid (range_lit how 0 4 [.int .u8 (o0.toNat : Int), .int .u8 (o1.toNat : Int), .int .u8 (o2.toNat : Int), .int .u8 (o3.toNat : Int)] rfl)
  go_wp2_with (first | ((with_reducible show wpList _ _ _ (⟨some 49, _, _, _, _, _⟩ :: _) _ _); refine wpList_load_rng 24 (.tmp 3) rfl (by kernel_rfl) _ _ rfl _ R49.out _ Try.underlying24 rfl (by kernel_rfl) ?_))
  try clear R49
  with_reducible refine (icabout_n _ _ _ _ _ _ _ _ _ _ p0 p1 p2 p3 (icBytes 11 0 0 (r.take k)) (8 + k) _ b7 (by have := HNL.out; omega) HA.out HIB.out).mono ?_
  rintro e w5 ⟨Ao, co1, Ab, cb1, rfl, qo, qb, fo, fb, b5⟩
  have av_qo_ow := fo.av (hlt how)
  have av_qo_p := fo.av (hlt hp)
  have av_qb_ow := fb.av (hlt how)
  have av_qb_p := fb.av (hlt hp)
  replace how := blk_u how b5
  replace hp := blk_u hp b5
  replace ho := ho.below b5
  replace hb := hb.below b5
  replace b7 := b7.below b5
  replace b7w := own_under b7w b5
  replace lz_b7 := Nat.le_trans lz_b7 b5.size
  replace bel := bel.trans (b5.mono bel.size)
  clear b5
  replace qo : Sl w5 (Ao) (0) (co1) ([]) := qo
  replace qb : Sl w5 (Ab) (8 + k) (cb1) (icBytes 11 0 0 (r.take k)) := qb
  go_wp2_with (first | ((with_reducible show wpList _ _ _ (⟨some 9, _, _, _, _, _⟩ :: _) _ _); refine wpList_new_a rfl 27 rfl #[.int .i64 0, .int .i64 0, .int .i64 0, .int .i64 0, .int .i64 0, .int .i64 0, .int .u8 0, .int .u8 0, .int .u8 0, .int .u8 0, .int .u8 0, .int .u8 0, .int .u8 0, .int .u8 0, .slice none 0 0, .slice none 0 0] (by kernel_rfl) ?_; intro g9 w6 ge hh bb; have d_ow_pq := ne_new (hlt how) ge; have d_p_pq := ne_new (hlt hp) ge; have av_ho_pq := ho.av_new ge; have av_hb_pq := hb.av_new ge; have av_b7_pq := b7.av_new ge; have of_b7_pq := own_new b7w ge; have av_qo_pq := qo.av_new ge; have av_qb_pq := qb.av_new ge; have opq := Nat.le_trans bel.size ge; replace how := blk_u how bb; replace hp := blk_u hp bb; replace ho := ho.below bb; replace hb := hb.below bb; replace b7 := b7.below bb; replace b7w := own_under b7w bb; replace qo := qo.below bb; replace qb := qb.below bb; replace lz_b7 := Nat.le_trans lz_b7 bb.size; replace bel := bel.trans (bb.mono bel.size); have hpq := hh; clear hh ge bb) | ((with_reducible show wpList _ _ _ (⟨none, Op.store _ (.tmp 9) _, _, _, _, _⟩ :: _) _ _); refine wpList_store_blk rfl 27 (.tmp 9) (.tmp 53) rfl g9 rfl _ rfl _ 27 hpq (by rfl) (by kernel_rfl) (by kernel_rfl) ?_; intro w7 hq gr; replace ho := ho.away av_ho_pq gr; replace hb := hb.away av_hb_pq gr; replace b7 := b7.away av_b7_pq gr; replace b7w := own_off b7w of_b7_pq gr; replace qo := qo.away av_qo_pq gr; replace qb := qb.away av_qb_pq gr; replace lz_b7 := Nat.le_trans lz_b7 gr.size; replace how := blk_a how gr d_ow_pq; replace hp := blk_a hp gr d_p_pq; replace bel := below_grown bel gr opq bel.size; clear hpq; have hpq := hq; clear hq gr; have R58 := Lib.hid (range_lit hpq 0 16 [.int .i64 0, .int .i64 0, .int .i64 0, .int .i64 0, .int .i64 64, .int .i64 1, .int .u8 (o0.toNat : Int), .int .u8 (o1.toNat : Int), .int .u8 (o2.toNat : Int), .int .u8 (o3.toNat : Int), .int .u8 (p0.toNat : Int), .int .u8 (p1.toNat : Int), .int .u8 (p2.toNat : Int), .int .u8 (p3.toNat : Int), .slice Ao 0 co1, .slice Ab (8 + k) cb1] rfl)) | ((with_reducible show wpList _ _ _ (⟨some 58, _, _, _, _, _⟩ :: _) _ _); refine wpList_load_rng 27 (.tmp 9) rfl (by kernel_rfl) _ _ rfl _ R58.out _ Try.underlying27 rfl (by kernel_rfl) ?_))
  try clear R58
  with_reducible refine (ipput_n _ _ _ _ _ _ _ _ _ _ _ _ _ _ _ _ _ _ _ _ [] (icBytes 11 0 0 (r.take k)) (ipBytes 0 0 0 0 64 1 o0 o1 o2 o3 p0 p1 p2 p3 [] (icBytes 11 0 0 (r.take k))) m 0 _ qo qb (by have := HK.out; omega) HP2.out HM.out).mono ?_
  rintro e w8 ⟨v, rfl, c7w, b8⟩
  have y_c7_ow := Lib.hid (hlt how)
  have y_c7_p := Lib.hid (hlt hp)
  have y_c7_pq := Lib.hid (hlt hpq)
  have bl_ho_c7 := ho.bl_new
  have bl_hb_c7 := hb.bl_new
  have bl_b7_c7 := b7.bl_new
  have bl_qo_c7 := qo.bl_new
  have bl_qb_c7 := qb.bl_new
  have c7lo := bel.size
  have lz_c7 := b8.size
  replace how := blk_u how b8
  replace hp := blk_u hp b8
  replace hpq := blk_u hpq b8
  replace ho := ho.below b8
  replace hb := hb.below b8
  replace b7 := b7.below b8
  replace b7w := own_under b7w b8
  replace qo := qo.below b8
  replace qb := qb.below b8
  replace lz_b7 := Nat.le_trans lz_b7 b8.size
  replace bel := bel.trans (b8.mono bel.size)
  clear b8
  obtain ⟨Ac7, cc7, rfl⟩ := own_val c7w
  have c7 := (own_sl c7w).1
  have fr_c7 := (own_sl c7w).2
  have av_c7_ow := fr_c7.av y_c7_ow.out
  have av_c7_p := fr_c7.av y_c7_p.out
  have av_c7_pq := fr_c7.av y_c7_pq.out
  have R63 := Lib.hid (range_lit how 0 4 [.int .u8 (o0.toNat : Int), .int .u8 (o1.toNat : Int), .int .u8 (o2.toNat : Int), .int .u8 (o3.toNat : Int)] rfl)
  go_wp2_with (first | ((with_reducible show wpList _ _ _ (⟨some 63, _, _, _, _, _⟩ :: _) _ _); refine wpList_load_rng 24 (.tmp 3) rfl (by kernel_rfl) _ _ rfl _ R63.out _ Try.underlying24 rfl (by kernel_rfl) ?_))
  try clear R63
  with_reducible refine (icabout_er _ _ _ _ _ _ _ _ _ _ 11 _ c7 (by have := HM9.out; omega) HA2.out).mono ?_
  rintro e w9 ⟨y0, y1, y2, y3, y4, y5, z0, z1, z2, z3, z4, z5, z6, z7, Ao2, n3, co2, Ab2, n4, cb2, rfl, b9⟩
  replace how := blk_u how b9
  replace hp := blk_u hp b9
  replace hpq := blk_u hpq b9
  replace ho := ho.below b9
  replace hb := hb.below b9
  replace b7 := b7.below b9
  replace b7w := own_under b7w b9
  replace qo := qo.below b9
  replace qb := qb.below b9
  replace c7 := c7.below b9
  replace c7w := own_under c7w b9
  replace lz_b7 := Nat.le_trans lz_b7 b9.size
  replace lz_c7 := Nat.le_trans lz_c7 b9.size
  replace bel := bel.trans (b9.mono bel.size)
  clear b9
  go_wp2_with (first | ((with_reducible show wpList _ _ _ (⟨some 13, _, _, _, _, _⟩ :: _) _ _); refine wpList_new_a rfl 27 rfl #[.int .i64 0, .int .i64 0, .int .i64 0, .int .i64 0, .int .i64 0, .int .i64 0, .int .u8 0, .int .u8 0, .int .u8 0, .int .u8 0, .int .u8 0, .int .u8 0, .int .u8 0, .int .u8 0, .slice none 0 0, .slice none 0 0] (by kernel_rfl) ?_; intro g13 w10 ge hh bb; have d_ow_px := ne_new (hlt how) ge; have d_p_px := ne_new (hlt hp) ge; have d_pq_px := ne_new (hlt hpq) ge; have av_ho_px := ho.av_new ge; have av_hb_px := hb.av_new ge; have av_b7_px := b7.av_new ge; have of_b7_px := own_new b7w ge; have av_qo_px := qo.av_new ge; have av_qb_px := qb.av_new ge; have av_c7_px := c7.av_new ge; have of_c7_px := own_new c7w ge; have opx := Nat.le_trans bel.size ge; replace how := blk_u how bb; replace hp := blk_u hp bb; replace hpq := blk_u hpq bb; replace ho := ho.below bb; replace hb := hb.below bb; replace b7 := b7.below bb; replace b7w := own_under b7w bb; replace qo := qo.below bb; replace qb := qb.below bb; replace c7 := c7.below bb; replace c7w := own_under c7w bb; replace lz_b7 := Nat.le_trans lz_b7 bb.size; replace lz_c7 := Nat.le_trans lz_c7 bb.size; replace bel := bel.trans (bb.mono bel.size); have hpx := hh; clear hh ge bb) | ((with_reducible show wpList _ _ _ (⟨none, Op.store _ (.tmp 13) _, _, _, _, _⟩ :: _) _ _); refine wpList_store_blk rfl 27 (.tmp 13) (.tmp 66) rfl g13 rfl _ rfl _ 27 hpx (by rfl) (by kernel_rfl) (by kernel_rfl) ?_; intro w11 hq gr; replace ho := ho.away av_ho_px gr; replace hb := hb.away av_hb_px gr; replace b7 := b7.away av_b7_px gr; replace b7w := own_off b7w of_b7_px gr; replace qo := qo.away av_qo_px gr; replace qb := qb.away av_qb_px gr; replace c7 := c7.away av_c7_px gr; replace c7w := own_off c7w of_c7_px gr; replace lz_b7 := Nat.le_trans lz_b7 gr.size; replace lz_c7 := Nat.le_trans lz_c7 gr.size; replace how := blk_a how gr d_ow_px; replace hp := blk_a hp gr d_p_px; replace hpq := blk_a hpq gr d_pq_px; replace bel := below_grown bel gr opx bel.size; clear hpx; have hpx := hq; clear hq gr; have R69 := Lib.hid (range_lit hpq 0 16 [.int .i64 0, .int .i64 0, .int .i64 0, .int .i64 0, .int .i64 64, .int .i64 1, .int .u8 (o0.toNat : Int), .int .u8 (o1.toNat : Int), .int .u8 (o2.toNat : Int), .int .u8 (o3.toNat : Int), .int .u8 (p0.toNat : Int), .int .u8 (p1.toNat : Int), .int .u8 (p2.toNat : Int), .int .u8 (p3.toNat : Int), .slice Ao 0 co1, .slice Ab (8 + k) cb1] rfl)) | ((with_reducible show wpList _ _ _ (⟨some 69, _, _, _, _, _⟩ :: _) _ _); refine wpList_load_rng 27 (.tmp 9) rfl (by kernel_rfl) _ _ rfl _ R69.out _ Try.underlying27 rfl (by kernel_rfl) ?_))
  try clear R69
  with_reducible refine (icget_good _ _ _ _ _ _ _ _ _ _ _ _ _ _ _ _ _ _ _ _ _ (r.take k) 11 0 0 k _ qb (by have := HK.out; omega) (ic_back (fl := 0) (pt := 0) (by decide) (by decide) (by decide) (by decide) (by decide) (r.take k)) HTK.out).mono ?_
  rintro e w12 ⟨Bm, dm, rfl, mb, fm, b12⟩
  have av_mb_ow := fm.av (hlt how)
  have av_mb_p := fm.av (hlt hp)
  have av_mb_pq := fm.av (hlt hpq)
  have av_mb_px := fm.av (hlt hpx)
  replace how := blk_u how b12
  replace hp := blk_u hp b12
  replace hpq := blk_u hpq b12
  replace hpx := blk_u hpx b12
  replace ho := ho.below b12
  replace hb := hb.below b12
  replace b7 := b7.below b12
  replace b7w := own_under b7w b12
  replace qo := qo.below b12
  replace qb := qb.below b12
  replace c7 := c7.below b12
  replace c7w := own_under c7w b12
  replace lz_b7 := Nat.le_trans lz_b7 b12.size
  replace lz_c7 := Nat.le_trans lz_c7 b12.size
  replace bel := bel.trans (b12.mono bel.size)
  clear b12
  replace mb : Sl w12 (Bm) (k) (dm) (r.take k) := mb
  go_wp2_with (first | ((with_reducible show wpList _ _ _ (⟨some 15, _, _, _, _, _⟩ :: _) _ _); refine wpList_new_a rfl 34 rfl #[.int .i64 0, .int .i64 0, .int .u32 0, .slice none 0 0] (by kernel_rfl) ?_; intro g15 w13 ge hh bb; have d_ow_py := ne_new (hlt how) ge; have d_p_py := ne_new (hlt hp) ge; have d_pq_py := ne_new (hlt hpq) ge; have d_px_py := ne_new (hlt hpx) ge; have av_ho_py := ho.av_new ge; have av_hb_py := hb.av_new ge; have av_b7_py := b7.av_new ge; have of_b7_py := own_new b7w ge; have av_qo_py := qo.av_new ge; have av_qb_py := qb.av_new ge; have av_c7_py := c7.av_new ge; have of_c7_py := own_new c7w ge; have av_mb_py := mb.av_new ge; have opy := Nat.le_trans bel.size ge; replace how := blk_u how bb; replace hp := blk_u hp bb; replace hpq := blk_u hpq bb; replace hpx := blk_u hpx bb; replace ho := ho.below bb; replace hb := hb.below bb; replace b7 := b7.below bb; replace b7w := own_under b7w bb; replace qo := qo.below bb; replace qb := qb.below bb; replace c7 := c7.below bb; replace c7w := own_under c7w bb; replace mb := mb.below bb; replace lz_b7 := Nat.le_trans lz_b7 bb.size; replace lz_c7 := Nat.le_trans lz_c7 bb.size; replace bel := bel.trans (bb.mono bel.size); have hpy := hh; clear hh ge bb) | ((with_reducible show wpList _ _ _ (⟨none, Op.store _ (.tmp 15) _, _, _, _, _⟩ :: _) _ _); refine wpList_store_blk rfl 34 (.tmp 15) (.tmp 71) rfl g15 rfl _ rfl _ 34 hpy (by rfl) (by kernel_rfl) (by kernel_rfl) ?_; intro w14 hq gr; replace ho := ho.away av_ho_py gr; replace hb := hb.away av_hb_py gr; replace b7 := b7.away av_b7_py gr; replace b7w := own_off b7w of_b7_py gr; replace qo := qo.away av_qo_py gr; replace qb := qb.away av_qb_py gr; replace c7 := c7.away av_c7_py gr; replace c7w := own_off c7w of_c7_py gr; replace mb := mb.away av_mb_py gr; replace lz_b7 := Nat.le_trans lz_b7 gr.size; replace lz_c7 := Nat.le_trans lz_c7 gr.size; replace how := blk_a how gr d_ow_py; replace hp := blk_a hp gr d_p_py; replace hpq := blk_a hpq gr d_pq_py; replace hpx := blk_a hpx gr d_px_py; replace bel := below_grown bel gr opy bel.size; clear hpy; have hpy := hq; clear hq gr))
  obtain ⟨A97, c97, r97, f97, u97⟩ := piece_front b7 (k := k) HKN.out
  have pc := f97 _ b7
  clear f97 u97
  go_wp2_with fail
  replace bel := bel.drew
  replace how : w14.drew.heap[g3]? = _ := how
  replace hp : w14.drew.heap[g4]? = _ := hp
  replace hpq : w14.drew.heap[g9]? = _ := hpq
  replace hpx : w14.drew.heap[g13]? = _ := hpx
  replace hpy : w14.drew.heap[g15]? = _ := hpy
  replace ho := ho.drew
  replace hb := hb.drew
  replace b7 := b7.drew
  replace b7w : w14.drew.ownsRow _ _ _ _ _ _ := b7w
  replace lz_b7 : _ ≤ w14.drew.heap.size := lz_b7
  replace qo := qo.drew
  replace qb := qb.drew
  replace c7 := c7.drew
  replace c7w : w14.drew.ownsRow _ _ _ _ _ _ := c7w
  replace lz_c7 : _ ≤ w14.drew.heap.size := lz_c7
  replace mb := mb.drew
  replace pc := pc.drew
  refine wp_region_held_drew (S := fun W => W.heap[g15]? = some (.cells #[.int .i64 11, .int .i64 0, .int .u32 0, .slice Bm k dm] 34 (0, 0)) ∧ Sl W (Bm) (k) (dm) (r.take k) ∧ Sl W (A97) (k) (c97) (r.take k)) (by kernel_rfl) ⟨hpy, mb, pc⟩ (fun hH => ?_)
  generalize w14.drew = w15 at bel how hp hpq hpx hpy ho hb b7 qo qb c7 mb pc b7w c7w lz_b7 lz_c7 hH ⊢
  refine wpAnyH_take (i := 0) (v := ?_) rfl (by kernel_rfl) (by kernel_rfl) (by kernel_rfl) (fun _ _ _ h => h) (Or.inl ⟨by rfl, ?_⟩) hH ?_
  rotate_left
  · ((intro W hW; clear hW; go_simp) <;> with_reducible rfl)
  simp only [Act.put, List.getElem_toArray, List.getElem_cons_zero, List.setIfInBounds_toArray, List.set_cons_zero, List.set_cons_succ]
  refine wpAnyH_take (i := 1) (v := ?_) rfl (by kernel_rfl) (by kernel_rfl) (by kernel_rfl) (fun _ _ _ h => h) (Or.inl ⟨by rfl, ?_⟩) hH ?_
  rotate_left
  · ((intro W hW; clear hW; go_simp) <;> with_reducible rfl)
  simp only [Act.put, List.getElem_toArray, List.getElem_cons_zero, List.getElem_cons_succ, List.setIfInBounds_toArray, List.set_cons_zero, List.set_cons_succ]
  refine wpAnyH_take (i := 2) (v := ?_) rfl (by kernel_rfl) (by kernel_rfl) (by kernel_rfl) (fun _ _ _ h => h) (Or.inl ⟨by rfl, ?_⟩) hH ?_
  rotate_left
  · ((intro W hW; clear hW; go_simp) <;> with_reducible rfl)
  simp only [Act.put, List.getElem_toArray, List.getElem_cons_zero, List.getElem_cons_succ, List.setIfInBounds_toArray, List.set_cons_zero, List.set_cons_succ]
  refine wpAnyH_take (i := 3) (v := ?_) rfl (by kernel_rfl) (by kernel_rfl) (by kernel_rfl) (fun _ _ _ h => h) (Or.inl ⟨by rfl, ?_⟩) hH ?_
  rotate_left
  · ((intro W hW; clear hW; go_simp) <;> with_reducible rfl)
  simp only [Act.put, List.getElem_toArray, List.getElem_cons_zero, List.getElem_cons_succ, List.setIfInBounds_toArray, List.set_cons_zero, List.set_cons_succ]
  refine wpAnyH_take (i := 4) (v := ?_) rfl (by kernel_rfl) (by kernel_rfl) (by kernel_rfl) (fun _ _ _ h => h) (Or.inl ⟨by rfl, ?_⟩) hH ?_
  rotate_left
  · ((intro W hW; clear hW; go_simp) <;> with_reducible rfl)
  simp only [Act.put, List.getElem_toArray, List.getElem_cons_zero, List.getElem_cons_succ, List.setIfInBounds_toArray, List.set_cons_zero, List.set_cons_succ]
  refine wpAnyH_take (i := 5) (v := ?_) rfl (by kernel_rfl) (by kernel_rfl) (by kernel_rfl) (fun _ _ _ h => h) (Or.inl ⟨by rfl, ?_⟩) hH ?_
  rotate_left
  · ((intro W hW; clear hW; go_simp) <;> with_reducible rfl)
  simp only [Act.put, List.getElem_toArray, List.getElem_cons_zero, List.getElem_cons_succ, List.setIfInBounds_toArray, List.set_cons_zero, List.set_cons_succ]
  refine wpAnyH_take (i := 6) (v := ?_) rfl (by kernel_rfl) (by kernel_rfl) (by kernel_rfl) (fun _ _ _ h => h) (Or.inl ⟨by rfl, ?_⟩) hH ?_
  rotate_left
  · ((intro W hW; clear hW; go_simp) <;> with_reducible rfl)
  simp only [Act.put, List.getElem_toArray, List.getElem_cons_zero, List.getElem_cons_succ, List.setIfInBounds_toArray, List.set_cons_zero, List.set_cons_succ]
  refine wpAnyH_take (i := 7) (v := ?_) rfl (by kernel_rfl) (by kernel_rfl) (by kernel_rfl) (fun _ _ _ h => h) (Or.inl ⟨by rfl, ?_⟩) hH ?_
  rotate_left
  · ((intro W hW; clear hW; go_simp) <;> with_reducible rfl)
  simp only [Act.put, List.getElem_toArray, List.getElem_cons_zero, List.getElem_cons_succ, List.setIfInBounds_toArray, List.set_cons_zero, List.set_cons_succ]
  refine wpAnyH_take (i := 8) (v := ?_) rfl (by kernel_rfl) (by kernel_rfl) (by kernel_rfl) (fun _ _ _ h => h) (Or.inl ⟨by rfl, ?_⟩) hH ?_
  rotate_left
  · ((intro W hW; clear hW; go_simp) <;> with_reducible rfl)
  simp only [Act.put, List.getElem_toArray, List.getElem_cons_zero, List.getElem_cons_succ, List.setIfInBounds_toArray, List.set_cons_zero, List.set_cons_succ]
  refine wpAnyH_take (i := 9) (v := ?_) rfl (by kernel_rfl) (by kernel_rfl) (by kernel_rfl) (fun _ _ _ h => h) (Or.inl ⟨by rfl, ?_⟩) hH ?_
  rotate_left
  · ((intro W hW; clear hW; go_simp) <;> with_reducible rfl)
  simp only [Act.put, List.getElem_toArray, List.getElem_cons_zero, List.getElem_cons_succ, List.setIfInBounds_toArray, List.set_cons_zero, List.set_cons_succ]
  refine wpAnyH_take (i := 10) (v := ?_) rfl (by kernel_rfl) (by kernel_rfl) (by kernel_rfl) (fun _ _ _ h => h) (Or.inl ⟨by rfl, ?_⟩) hH ?_
  rotate_left
  · ((intro W hW; clear hW; go_simp) <;> with_reducible rfl)
  simp only [Act.put, List.getElem_toArray, List.getElem_cons_zero, List.getElem_cons_succ, List.setIfInBounds_toArray, List.set_cons_zero, List.set_cons_succ]
  refine wpAnyH_take (i := 11) (v := ?_) rfl (by kernel_rfl) (by kernel_rfl) (by kernel_rfl) (fun _ _ _ h => h) (Or.inl ⟨by rfl, ?_⟩) hH ?_
  rotate_left
  · ((intro W hW; clear hW; go_simp) <;> with_reducible rfl)
  simp only [Act.put, List.getElem_toArray, List.getElem_cons_zero, List.getElem_cons_succ, List.setIfInBounds_toArray, List.set_cons_zero, List.set_cons_succ]
  refine wpAnyH_take (i := 12) (v := ?_) rfl (by kernel_rfl) (by kernel_rfl) (by kernel_rfl) (fun _ _ _ h => h) (Or.inl ⟨by rfl, ?_⟩) hH ?_
  rotate_left
  · ((intro W hW; have hk := cell_lit (hW.1) 3 _ rfl; clear hW; go_simp) <;> with_reducible rfl)
  simp only [Act.put, List.getElem_toArray, List.getElem_cons_zero, List.getElem_cons_succ, List.setIfInBounds_toArray, List.set_cons_zero, List.set_cons_succ]
  refine wpAnyH_take (i := 13) (v := ?_) rfl (by kernel_rfl) (by kernel_rfl) (by kernel_rfl) (fun _ _ _ h => h) (Or.inl ⟨by rfl, ?_⟩) hH ?_
  rotate_left
  · ((intro W hW; clear hW; go_simp) <;> with_reducible rfl)
  simp only [Act.put, List.getElem_toArray, List.getElem_cons_zero, List.getElem_cons_succ, List.setIfInBounds_toArray, List.set_cons_zero, List.set_cons_succ]
  refine wpAnyH_take (i := 14) (v := ?_) rfl (by kernel_rfl) (by kernel_rfl) (by kernel_rfl) (fun _ _ _ h => h) (Or.inl ⟨by rfl, ?_⟩) hH ?_
  rotate_left
  · ((intro W hW; clear hW; go_simp) <;> with_reducible rfl)
  simp only [Act.put, List.getElem_toArray, List.getElem_cons_zero, List.getElem_cons_succ, List.setIfInBounds_toArray, List.set_cons_zero, List.set_cons_succ]
  refine wpAnyH_take (i := 15) (v := ?_) rfl (by kernel_rfl) (by kernel_rfl) (by kernel_rfl) (fun _ _ _ h => h) (Or.inl ⟨by rfl, ?_⟩) hH ?_
  rotate_left
  · ((intro W hW; clear hW; go_simp) <;> with_reducible rfl)
  simp only [Act.put, List.getElem_toArray, List.getElem_cons_zero, List.getElem_cons_succ, List.setIfInBounds_toArray, List.set_cons_zero, List.set_cons_succ]
  refine wpAnyH_take (i := 16) (v := ?_) rfl (by kernel_rfl) (by kernel_rfl) (by kernel_rfl) (fun _ _ _ h => h) (Or.inl ⟨by rfl, ?_⟩) hH ?_
  rotate_left
  · ((intro W hW; clear hW; go_simp) <;> with_reducible rfl)
  simp only [Act.put, List.getElem_toArray, List.getElem_cons_zero, List.getElem_cons_succ, List.setIfInBounds_toArray, List.set_cons_zero, List.set_cons_succ]
  refine wpAnyH_take (i := 17) (v := ?_) rfl (by kernel_rfl) (by kernel_rfl) (by kernel_rfl) (fun _ _ _ h => h) (Or.inl ⟨by rfl, ?_⟩) hH ?_
  rotate_left
  · ((intro W hW; clear hW; go_simp) <;> with_reducible rfl)
  simp only [Act.put, List.getElem_toArray, List.getElem_cons_zero, List.getElem_cons_succ, List.setIfInBounds_toArray, List.set_cons_zero, List.set_cons_succ]
  refine wpAnyH_take (i := 18) (v := ?_) rfl (by kernel_rfl) (by kernel_rfl) (by kernel_rfl) (fun _ _ _ h => h) (Or.inl ⟨by rfl, ?_⟩) hH ?_
  rotate_left
  · ((intro W hW; have hk := cell_lit (hW.1) 3 _ rfl; clear hW; go_simp) <;> with_reducible rfl)
  simp only [Act.put, List.getElem_toArray, List.getElem_cons_zero, List.getElem_cons_succ, List.setIfInBounds_toArray, List.set_cons_zero, List.set_cons_succ]
  refine wpAnyH_take (i := 19) (v := ?_) rfl (by kernel_rfl) (by kernel_rfl) (by kernel_rfl) (fun _ _ _ h => h) (Or.inl ⟨by rfl, ?_⟩) hH ?_
  rotate_left
  · ((intro W hW; have st0 := (hW.2.1).str (P := Try.prog) 25 5 9 Try.underlying25 Try.underlying5 Try.underlying9; clear hW; go_simp) <;> with_reducible rfl)
  simp only [Act.put, List.getElem_toArray, List.getElem_cons_zero, List.getElem_cons_succ, List.setIfInBounds_toArray, List.set_cons_zero, List.set_cons_succ]
  refine wpAnyH_take (i := 20) (v := ?_) rfl (by kernel_rfl) (by kernel_rfl) (by kernel_rfl) (fun _ _ _ h => h) (Or.inl ⟨by rfl, ?_⟩) hH ?_
  rotate_left
  · ((intro W hW; clear hW; go_simp) <;> with_reducible rfl)
  simp only [Act.put, List.getElem_toArray, List.getElem_cons_zero, List.getElem_cons_succ, List.setIfInBounds_toArray, List.set_cons_zero, List.set_cons_succ]
  refine wpAnyH_take (i := 21) (v := ?_) rfl (by kernel_rfl) (by kernel_rfl) (by kernel_rfl) (fun _ _ _ h => h) (Or.inl ⟨by rfl, ?_⟩) hH ?_
  rotate_left
  · ((intro W hW; clear hW; go_simp) <;> with_reducible rfl)
  simp only [Act.put, List.getElem_toArray, List.getElem_cons_zero, List.getElem_cons_succ, List.setIfInBounds_toArray, List.set_cons_zero, List.set_cons_succ]
  refine wpAnyH_take (i := 22) (v := ?_) rfl (by kernel_rfl) (by kernel_rfl) (by kernel_rfl) (fun _ _ _ h => h) (Or.inl ⟨by rfl, ?_⟩) hH ?_
  rotate_left
  · ((intro W hW; have hk := cell_lit (hW.1) 3 _ rfl; clear hW; go_simp) <;> with_reducible rfl)
  simp only [Act.put, List.getElem_toArray, List.getElem_cons_zero, List.getElem_cons_succ, List.setIfInBounds_toArray, List.set_cons_zero, List.set_cons_succ]
  refine wpAnyH_take (i := 23) (v := ?_) rfl (by kernel_rfl) (by kernel_rfl) (by kernel_rfl) (fun _ _ _ h => h) (Or.inl ⟨by rfl, ?_⟩) hH ?_
  rotate_left
  · ((intro W hW; clear hW; go_simp) <;> with_reducible rfl)
  simp only [Act.put, List.getElem_toArray, List.getElem_cons_zero, List.getElem_cons_succ, List.setIfInBounds_toArray, List.set_cons_zero, List.set_cons_succ]
  refine wpAnyH_take (i := 24) (v := ?_) rfl (by kernel_rfl) (by kernel_rfl) (by kernel_rfl) (fun _ _ _ h => h) (Or.inl ⟨by rfl, ?_⟩) hH ?_
  rotate_left
  · ((intro W hW; clear hW; go_simp) <;> with_reducible rfl)
  simp only [Act.put, List.getElem_toArray, List.getElem_cons_zero, List.getElem_cons_succ, List.setIfInBounds_toArray, List.set_cons_zero, List.set_cons_succ]
  refine wpAnyH_take (i := 25) (v := ?_) rfl (by kernel_rfl) (by kernel_rfl) (by kernel_rfl) (fun _ _ _ h => h) (Or.inl ⟨by rfl, ?_⟩) hH ?_
  rotate_left
  · ((intro W hW; have st0 := (hW.2.2).str (P := Try.prog) 25 5 9 Try.underlying25 Try.underlying5 Try.underlying9; clear hW; go_simp) <;> with_reducible rfl)
  simp only [Act.put, List.getElem_toArray, List.getElem_cons_zero, List.getElem_cons_succ, List.setIfInBounds_toArray, List.set_cons_zero, List.set_cons_succ]
  refine wpAnyH_take (i := 26) (v := ?_) rfl (by kernel_rfl) (by kernel_rfl) (by kernel_rfl) (fun _ _ _ h => h) (Or.inl ⟨by rfl, ?_⟩) hH ?_
  rotate_left
  · ((intro W hW; clear hW; go_simp) <;> with_reducible rfl)
  simp only [Act.put, List.getElem_toArray, List.getElem_cons_zero, List.getElem_cons_succ, List.setIfInBounds_toArray, List.set_cons_zero, List.set_cons_succ]
  refine wpAnyH_take (i := 27) (v := ?_) rfl (by kernel_rfl) (by kernel_rfl) (by kernel_rfl) (fun _ _ _ h => h) (Or.inl ⟨by rfl, ?_⟩) hH ?_
  rotate_left
  · ((intro W hW; clear hW; go_simp) <;> with_reducible rfl)
  simp only [Act.put, List.getElem_toArray, List.getElem_cons_zero, List.getElem_cons_succ, List.setIfInBounds_toArray, List.set_cons_zero, List.set_cons_succ]
  refine wpAnyH_take (i := 28) (v := ?_) rfl (by kernel_rfl) (by kernel_rfl) (by kernel_rfl) (fun _ _ _ h => h) (Or.inl ⟨by rfl, ?_⟩) hH ?_
  rotate_left
  · ((intro W hW; clear hW; go_simp) <;> with_reducible rfl)
  simp only [Act.put, List.getElem_toArray, List.getElem_cons_zero, List.getElem_cons_succ, List.setIfInBounds_toArray, List.set_cons_zero, List.set_cons_succ]
  refine wpAnyH_done (by kernel_rfl) ?_ _
  go_wp2_with fail
  go_ret
  exact ⟨rfl, bel⟩
set_option linter.unusedVariables false in
set_option maxRecDepth 100000 in
set_option maxHeartbeats 16000000 in
theorem icmpNone_4_12 (o0 o1 o2 o3 : UInt8) (tos id fl pt ttl pr : Int) (a0 a1 a2 a3 a4 a5 a6 a7 : UInt8) (So : Option Addr) (no co : Nat) (lo : List UInt8) (Sb : Option Addr) (nb cb : Nat) (lb : List UInt8) (w : World) (ho : Sl w So no co lo) (hb : Sl w Sb nb cb lb) (h1 : nb ≤ 1400) (h2 : no ≤ 40) (r : List UInt8) (n : Nat) (er : Int) (hr : ipPut tos id fl pt ttl pr a0 a1 a2 a3 a4 a5 a6 a7 lo lb = (r, er)) (hn : r.length = n) (hz : er ≠ 0) : Calls Try.prog 7 #[.agg #[.int .u8 (o0.toNat : Int), .int .u8 (o1.toNat : Int), .int .u8 (o2.toNat : Int), .int .u8 (o3.toNat : Int)], .agg #[.int .i64 tos, .int .i64 id, .int .i64 fl, .int .i64 pt, .int .i64 ttl, .int .i64 pr, .int .u8 (a0.toNat : Int), .int .u8 (a1.toNat : Int), .int .u8 (a2.toNat : Int), .int .u8 (a3.toNat : Int), .int .u8 (a4.toNat : Int), .int .u8 (a5.toNat : Int), .int .u8 (a6.toNat : Int), .int .u8 (a7.toNat : Int), .slice So no co, .slice Sb nb cb], .int .i64 12] w fun e w' => e = .returned (.bool true) ∧ Below w.heap.size w w' := by
  obtain ⟨ii, hii, hz0, hz1, hz2⟩ := info_parts Try.info5
  have t1 : decide ((1400 : Int) < nb) = false := decide_eq_false (by omega)
  have t2 : decide ((40 : Int) < no) = false := decide_eq_false (by omega)
  have H1 := Lib.hid h1
  have H2 := Lib.hid h2
  clear h1 h2
  have HPUT := Lib.hid hr
  have HN := Lib.hid hn
  have t5 : (er == 0) = false := by simpa using hz
  have t6 : (er != 0) = true := by simpa using hz
  clear hr hn hz
  have bel := Below.refl w.heap.size w
  go_enter Try.func7, Try.ntmps7
  go_wp2_with (first | ((with_reducible show wpList _ _ _ (⟨some 3, _, _, _, _, _⟩ :: _) _ _); refine wpList_box_n rfl 24 (.tmp 0) rfl #[.int .u8 (o0.toNat : Int), .int .u8 (o1.toNat : Int), .int .u8 (o2.toNat : Int), .int .u8 (o3.toNat : Int)] rfl ?_; intro g3 w1 ge lt hh bb; have av_ho_ow := ho.av_new ge; have av_hb_ow := hb.av_new ge; have oow := Nat.le_trans bel.size ge; replace ho := ho.below bb; replace hb := hb.below bb; replace bel := bel.trans (bb.mono bel.size); have how := hh; clear hh lt ge bb) | ((with_reducible show wpList _ _ _ (⟨some 4, _, _, _, _, _⟩ :: _) _ _); refine wpList_box_n rfl 27 (.tmp 1) rfl #[.int .i64 tos, .int .i64 id, .int .i64 fl, .int .i64 pt, .int .i64 ttl, .int .i64 pr, .int .u8 (a0.toNat : Int), .int .u8 (a1.toNat : Int), .int .u8 (a2.toNat : Int), .int .u8 (a3.toNat : Int), .int .u8 (a4.toNat : Int), .int .u8 (a5.toNat : Int), .int .u8 (a6.toNat : Int), .int .u8 (a7.toNat : Int), .slice So no co, .slice Sb nb cb] rfl ?_; intro g4 w2 ge lt hh bb; have d_ow_p := ne_new (hlt how) ge; have av_ho_p := ho.av_new ge; have av_hb_p := hb.av_new ge; have op := Nat.le_trans bel.size ge; replace how := blk_u how bb; replace ho := ho.below bb; replace hb := hb.below bb; replace bel := bel.trans (bb.mono bel.size); have hp := hh; clear hh lt ge bb))
  with_reducible refine (awake9 _).mono ?_
  rintro e w3 ⟨rfl, b3⟩
  replace how := blk_u how b3
  replace hp := blk_u hp b3
  replace ho := ho.below b3
  replace hb := hb.below b3
  replace bel := bel.trans (b3.mono bel.size)
  clear b3
  have R20 := cell_lit hp 15 _ rfl
  have R25 := cell_lit hp 14 _ rfl
  have R42 := Lib.hid (range_lit hp 0 16 [.int .i64 tos, .int .i64 id, .int .i64 fl, .int .i64 pt, .int .i64 ttl, .int .i64 pr, .int .u8 (a0.toNat : Int), .int .u8 (a1.toNat : Int), .int .u8 (a2.toNat : Int), .int .u8 (a3.toNat : Int), .int .u8 (a4.toNat : Int), .int .u8 (a5.toNat : Int), .int .u8 (a6.toNat : Int), .int .u8 (a7.toNat : Int), .slice So no co, .slice Sb nb cb] rfl)
  go_wp2_with (first | ((with_reducible show wpList _ _ _ (⟨some 42, _, _, _, _, _⟩ :: _) _ _); refine wpList_load_rng 27 (.tmp 4) rfl (by kernel_rfl) _ _ rfl _ R42.out _ Try.underlying27 rfl (by kernel_rfl) ?_))
  try clear R20
  try clear R25
  try clear R42
  with_reducible refine (ipput_n _ _ _ _ _ _ _ _ _ _ _ _ _ _ _ _ _ _ _ _ _ _ r n er _ ho hb (by have := H1.out; omega) HPUT.out HN.out).mono ?_
  rintro e w4 ⟨v, rfl, b7w, b4⟩
  have y_b7_ow := Lib.hid (hlt how)
  have y_b7_p := Lib.hid (hlt hp)
  have bl_ho_b7 := ho.bl_new
  have bl_hb_b7 := hb.bl_new
  have b7lo := bel.size
  have lz_b7 := b4.size
  replace how := blk_u how b4
  replace hp := blk_u hp b4
  replace ho := ho.below b4
  replace hb := hb.below b4
  replace bel := bel.trans (b4.mono bel.size)
  clear b4
  obtain ⟨Ab7, cb7, rfl⟩ := own_val b7w
  have b7 := (own_sl b7w).1
  have fr_b7 := (own_sl b7w).2
  have av_b7_ow := fr_b7.av y_b7_ow.out
  have av_b7_p := fr_b7.av y_b7_p.out
  go_wp2_with fail
  go_ret
  exact ⟨rfl, bel⟩
set_option linter.unusedVariables false in
set_option maxRecDepth 100000 in
set_option maxHeartbeats 16000000 in
theorem icmpNone_5_12 (o0 o1 o2 o3 : UInt8) (tos id fl pt ttl pr : Int) (a0 a1 a2 a3 a4 a5 a6 a7 : UInt8) (So : Option Addr) (no co : Nat) (lo : List UInt8) (Sb : Option Addr) (nb cb : Nat) (lb : List UInt8) (w : World) (ho : Sl w So no co lo) (hb : Sl w Sb nb cb lb) (h1 : nb ≤ 1400) (h2 : no ≤ 40) (r : List UInt8) (n : Nat) (hr : ipPut tos id fl pt ttl pr a0 a1 a2 a3 a4 a5 a6 a7 lo lb = (r, 0)) (hn : r.length = n) (hnl : n ≤ 1500) (er : Int) (ha : (icAbout o0 o1 o2 o3 r 12 0).2.2 = er) (hz : er ≠ 0) : Calls Try.prog 7 #[.agg #[.int .u8 (o0.toNat : Int), .int .u8 (o1.toNat : Int), .int .u8 (o2.toNat : Int), .int .u8 (o3.toNat : Int)], .agg #[.int .i64 tos, .int .i64 id, .int .i64 fl, .int .i64 pt, .int .i64 ttl, .int .i64 pr, .int .u8 (a0.toNat : Int), .int .u8 (a1.toNat : Int), .int .u8 (a2.toNat : Int), .int .u8 (a3.toNat : Int), .int .u8 (a4.toNat : Int), .int .u8 (a5.toNat : Int), .int .u8 (a6.toNat : Int), .int .u8 (a7.toNat : Int), .slice So no co, .slice Sb nb cb], .int .i64 12] w fun e w' => e = .returned (.bool true) ∧ Below w.heap.size w w' := by
  obtain ⟨ii, hii, hz0, hz1, hz2⟩ := info_parts Try.info5
  have t1 : decide ((1400 : Int) < nb) = false := decide_eq_false (by omega)
  have t2 : decide ((40 : Int) < no) = false := decide_eq_false (by omega)
  have H1 := Lib.hid h1
  have H2 := Lib.hid h2
  clear h1 h2
  have HPUT := Lib.hid hr
  have HN := Lib.hid hn
  have HNL := Lib.hid hnl
  have HA := Lib.hid ha
  have t5 : (er == 0) = false := by simpa using hz
  have t6 : (er != 0) = true := by simpa using hz
  clear hr hn hz ha hnl
  have bel := Below.refl w.heap.size w
  go_enter Try.func7, Try.ntmps7
  go_wp2_with (first | ((with_reducible show wpList _ _ _ (⟨some 3, _, _, _, _, _⟩ :: _) _ _); refine wpList_box_n rfl 24 (.tmp 0) rfl #[.int .u8 (o0.toNat : Int), .int .u8 (o1.toNat : Int), .int .u8 (o2.toNat : Int), .int .u8 (o3.toNat : Int)] rfl ?_; intro g3 w1 ge lt hh bb; have av_ho_ow := ho.av_new ge; have av_hb_ow := hb.av_new ge; have oow := Nat.le_trans bel.size ge; replace ho := ho.below bb; replace hb := hb.below bb; replace bel := bel.trans (bb.mono bel.size); have how := hh; clear hh lt ge bb) | ((with_reducible show wpList _ _ _ (⟨some 4, _, _, _, _, _⟩ :: _) _ _); refine wpList_box_n rfl 27 (.tmp 1) rfl #[.int .i64 tos, .int .i64 id, .int .i64 fl, .int .i64 pt, .int .i64 ttl, .int .i64 pr, .int .u8 (a0.toNat : Int), .int .u8 (a1.toNat : Int), .int .u8 (a2.toNat : Int), .int .u8 (a3.toNat : Int), .int .u8 (a4.toNat : Int), .int .u8 (a5.toNat : Int), .int .u8 (a6.toNat : Int), .int .u8 (a7.toNat : Int), .slice So no co, .slice Sb nb cb] rfl ?_; intro g4 w2 ge lt hh bb; have d_ow_p := ne_new (hlt how) ge; have av_ho_p := ho.av_new ge; have av_hb_p := hb.av_new ge; have op := Nat.le_trans bel.size ge; replace how := blk_u how bb; replace ho := ho.below bb; replace hb := hb.below bb; replace bel := bel.trans (bb.mono bel.size); have hp := hh; clear hh lt ge bb))
  with_reducible refine (awake9 _).mono ?_
  rintro e w3 ⟨rfl, b3⟩
  replace how := blk_u how b3
  replace hp := blk_u hp b3
  replace ho := ho.below b3
  replace hb := hb.below b3
  replace bel := bel.trans (b3.mono bel.size)
  clear b3
  have R20 := cell_lit hp 15 _ rfl
  have R25 := cell_lit hp 14 _ rfl
  have R42 := Lib.hid (range_lit hp 0 16 [.int .i64 tos, .int .i64 id, .int .i64 fl, .int .i64 pt, .int .i64 ttl, .int .i64 pr, .int .u8 (a0.toNat : Int), .int .u8 (a1.toNat : Int), .int .u8 (a2.toNat : Int), .int .u8 (a3.toNat : Int), .int .u8 (a4.toNat : Int), .int .u8 (a5.toNat : Int), .int .u8 (a6.toNat : Int), .int .u8 (a7.toNat : Int), .slice So no co, .slice Sb nb cb] rfl)
  go_wp2_with (first | ((with_reducible show wpList _ _ _ (⟨some 42, _, _, _, _, _⟩ :: _) _ _); refine wpList_load_rng 27 (.tmp 4) rfl (by kernel_rfl) _ _ rfl _ R42.out _ Try.underlying27 rfl (by kernel_rfl) ?_))
  try clear R20
  try clear R25
  try clear R42
  with_reducible refine (ipput_n _ _ _ _ _ _ _ _ _ _ _ _ _ _ _ _ _ _ _ _ _ _ r n 0 _ ho hb (by have := H1.out; omega) HPUT.out HN.out).mono ?_
  rintro e w4 ⟨v, rfl, b7w, b4⟩
  have y_b7_ow := Lib.hid (hlt how)
  have y_b7_p := Lib.hid (hlt hp)
  have bl_ho_b7 := ho.bl_new
  have bl_hb_b7 := hb.bl_new
  have b7lo := bel.size
  have lz_b7 := b4.size
  replace how := blk_u how b4
  replace hp := blk_u hp b4
  replace ho := ho.below b4
  replace hb := hb.below b4
  replace bel := bel.trans (b4.mono bel.size)
  clear b4
  obtain ⟨Ab7, cb7, rfl⟩ := own_val b7w
  have b7 := (own_sl b7w).1
  have fr_b7 := (own_sl b7w).2
  have av_b7_ow := fr_b7.av y_b7_ow.out
  have av_b7_p := fr_b7.av y_b7_p.out
  have R49 := Lib.hid (range_lit how 0 4 [.int .u8 (o0.toNat : Int), .int .u8 (o1.toNat : Int), .int .u8 (o2.toNat : Int), .int .u8 (o3.toNat : Int)] rfl)
  go_wp2_with (first | ((with_reducible show wpList _ _ _ (⟨some 49, _, _, _, _, _⟩ :: _) _ _); refine wpList_load_rng 24 (.tmp 3) rfl (by kernel_rfl) _ _ rfl _ R49.out _ Try.underlying24 rfl (by kernel_rfl) ?_))
  try clear R49
  with_reducible refine (icabout_er _ _ _ _ _ _ _ _ _ _ er _ b7 (by have := HNL.out; omega) HA.out).mono ?_
  rintro e w5 ⟨f0, f1, f2, f3, f4, f5, g0, g1, g2, g3, g4, g5, g6, g7, Ao, n1, co1, Ab, n2, cb1, rfl, b5⟩
  replace how := blk_u how b5
  replace hp := blk_u hp b5
  replace ho := ho.below b5
  replace hb := hb.below b5
  replace b7 := b7.below b5
  replace b7w := own_under b7w b5
  replace lz_b7 := Nat.le_trans lz_b7 b5.size
  replace bel := bel.trans (b5.mono bel.size)
  clear b5
  go_wp2_with (first | ((with_reducible show wpList _ _ _ (⟨some 9, _, _, _, _, _⟩ :: _) _ _); refine wpList_new_a rfl 27 rfl #[.int .i64 0, .int .i64 0, .int .i64 0, .int .i64 0, .int .i64 0, .int .i64 0, .int .u8 0, .int .u8 0, .int .u8 0, .int .u8 0, .int .u8 0, .int .u8 0, .int .u8 0, .int .u8 0, .slice none 0 0, .slice none 0 0] (by kernel_rfl) ?_; intro g9 w6 ge hh bb; have d_ow_pq := ne_new (hlt how) ge; have d_p_pq := ne_new (hlt hp) ge; have av_ho_pq := ho.av_new ge; have av_hb_pq := hb.av_new ge; have av_b7_pq := b7.av_new ge; have of_b7_pq := own_new b7w ge; have opq := Nat.le_trans bel.size ge; replace how := blk_u how bb; replace hp := blk_u hp bb; replace ho := ho.below bb; replace hb := hb.below bb; replace b7 := b7.below bb; replace b7w := own_under b7w bb; replace lz_b7 := Nat.le_trans lz_b7 bb.size; replace bel := bel.trans (bb.mono bel.size); have hpq := hh; clear hh ge bb) | ((with_reducible show wpList _ _ _ (⟨none, Op.store _ (.tmp 9) _, _, _, _, _⟩ :: _) _ _); refine wpList_store_blk rfl 27 (.tmp 9) (.tmp 53) rfl g9 rfl _ rfl _ 27 hpq (by rfl) (by kernel_rfl) (by kernel_rfl) ?_; intro w7 hq gr; replace ho := ho.away av_ho_pq gr; replace hb := hb.away av_hb_pq gr; replace b7 := b7.away av_b7_pq gr; replace b7w := own_off b7w of_b7_pq gr; replace lz_b7 := Nat.le_trans lz_b7 gr.size; replace how := blk_a how gr d_ow_pq; replace hp := blk_a hp gr d_p_pq; replace bel := below_grown bel gr opq bel.size; clear hpq; have hpq := hq; clear hq gr))
  go_ret
  exact ⟨rfl, bel⟩
set_option linter.unusedVariables false in
set_option maxRecDepth 100000 in
set_option maxHeartbeats 16000000 in
theorem icmpNone_6_12 (o0 o1 o2 o3 : UInt8) (tos id fl pt ttl pr : Int) (a0 a1 a2 a3 a4 a5 a6 a7 : UInt8) (So : Option Addr) (no co : Nat) (lo : List UInt8) (Sb : Option Addr) (nb cb : Nat) (lb : List UInt8) (w : World) (ho : Sl w So no co lo) (hb : Sl w Sb nb cb lb) (h1 : nb ≤ 1400) (h2 : no ≤ 40) (r : List UInt8) (n : Nat) (hr : ipPut tos id fl pt ttl pr a0 a1 a2 a3 a4 a5 a6 a7 lo lb = (r, 0)) (hn : r.length = n) (hnl : n ≤ 1500) (p0 p1 p2 p3 : UInt8) (k : Nat) (hk : k ≤ 68) (hkn : k ≤ r.length) (ha : icAbout o0 o1 o2 o3 r 12 0 = (([0, 0, 0, 0, 64, 1], [o0, o1, o2, o3, p0, p1, p2, p3]), ([], icBytes 12 0 0 (r.take k)), 0)) : Calls Try.prog 7 #[.agg #[.int .u8 (o0.toNat : Int), .int .u8 (o1.toNat : Int), .int .u8 (o2.toNat : Int), .int .u8 (o3.toNat : Int)], .agg #[.int .i64 tos, .int .i64 id, .int .i64 fl, .int .i64 pt, .int .i64 ttl, .int .i64 pr, .int .u8 (a0.toNat : Int), .int .u8 (a1.toNat : Int), .int .u8 (a2.toNat : Int), .int .u8 (a3.toNat : Int), .int .u8 (a4.toNat : Int), .int .u8 (a5.toNat : Int), .int .u8 (a6.toNat : Int), .int .u8 (a7.toNat : Int), .slice So no co, .slice Sb nb cb], .int .i64 12] w fun e w' => e = .returned (.bool true) ∧ Below w.heap.size w w' := by
  obtain ⟨ii, hii, hz0, hz1, hz2⟩ := info_parts Try.info5
  have t1 : decide ((1400 : Int) < nb) = false := decide_eq_false (by omega)
  have t2 : decide ((40 : Int) < no) = false := decide_eq_false (by omega)
  have H1 := Lib.hid h1
  have H2 := Lib.hid h2
  clear h1 h2
  have HPUT := Lib.hid hr
  have HN := Lib.hid hn
  have HNL := Lib.hid hnl
  have HA := Lib.hid ha
  have HK := Lib.hid hk
  have HKN : Hid (k ≤ n) := Lib.hid (by omega)
  have HTK : Hid ((r.take k).length = k) := Lib.hid (by rw [List.length_take]; omega)
  have HIB : Hid ((icBytes 12 0 0 (r.take k)).length = 8 + k) := Lib.hid (by rw [icBytes_len, HTK.out])
  have hq := icmp_around (o0 := o0) (o1 := o1) (o2 := o2) (o3 := o3) (p0 := p0) (p1 := p1) (p2 := p2) (p3 := p3) (typ := 12) (q := r.take k) (by rw [HTK.out]; exact hk) (by decide) (by decide)
  have HP2 := Lib.hid hq.1
  obtain ⟨m, hm⟩ : ∃ m, (ipBytes 0 0 0 0 64 1 o0 o1 o2 o3 p0 p1 p2 p3 [] (icBytes 12 0 0 (r.take k))).length = m := ⟨_, rfl⟩
  have HM := Lib.hid hm
  have HM9 : Hid (m ≤ 96) := Lib.hid (by rw [← hm]; exact hq.2.1)
  have HA2 : Hid ((icAbout o0 o1 o2 o3 (ipBytes 0 0 0 0 64 1 o0 o1 o2 o3 p0 p1 p2 p3 [] (icBytes 12 0 0 (r.take k))) 3 0).2.2 = 11) := Lib.hid (by rw [hq.2.2]; rfl)
  have t7 : (k : Int) ≤ 68 := by omega
  clear hr hn ha hnl hk hkn hq hm
  have bel := Below.refl w.heap.size w
  go_enter Try.func7, Try.ntmps7
  go_wp2_with (first | ((with_reducible show wpList _ _ _ (⟨some 3, _, _, _, _, _⟩ :: _) _ _); refine wpList_box_n rfl 24 (.tmp 0) rfl #[.int .u8 (o0.toNat : Int), .int .u8 (o1.toNat : Int), .int .u8 (o2.toNat : Int), .int .u8 (o3.toNat : Int)] rfl ?_; intro g3 w1 ge lt hh bb; have av_ho_ow := ho.av_new ge; have av_hb_ow := hb.av_new ge; have oow := Nat.le_trans bel.size ge; replace ho := ho.below bb; replace hb := hb.below bb; replace bel := bel.trans (bb.mono bel.size); have how := hh; clear hh lt ge bb) | ((with_reducible show wpList _ _ _ (⟨some 4, _, _, _, _, _⟩ :: _) _ _); refine wpList_box_n rfl 27 (.tmp 1) rfl #[.int .i64 tos, .int .i64 id, .int .i64 fl, .int .i64 pt, .int .i64 ttl, .int .i64 pr, .int .u8 (a0.toNat : Int), .int .u8 (a1.toNat : Int), .int .u8 (a2.toNat : Int), .int .u8 (a3.toNat : Int), .int .u8 (a4.toNat : Int), .int .u8 (a5.toNat : Int), .int .u8 (a6.toNat : Int), .int .u8 (a7.toNat : Int), .slice So no co, .slice Sb nb cb] rfl ?_; intro g4 w2 ge lt hh bb; have d_ow_p := ne_new (hlt how) ge; have av_ho_p := ho.av_new ge; have av_hb_p := hb.av_new ge; have op := Nat.le_trans bel.size ge; replace how := blk_u how bb; replace ho := ho.below bb; replace hb := hb.below bb; replace bel := bel.trans (bb.mono bel.size); have hp := hh; clear hh lt ge bb))
  with_reducible refine (awake9 _).mono ?_
  rintro e w3 ⟨rfl, b3⟩
  replace how := blk_u how b3
  replace hp := blk_u hp b3
  replace ho := ho.below b3
  replace hb := hb.below b3
  replace bel := bel.trans (b3.mono bel.size)
  clear b3
  have R20 := cell_lit hp 15 _ rfl
  have R25 := cell_lit hp 14 _ rfl
  have R42 := Lib.hid (range_lit hp 0 16 [.int .i64 tos, .int .i64 id, .int .i64 fl, .int .i64 pt, .int .i64 ttl, .int .i64 pr, .int .u8 (a0.toNat : Int), .int .u8 (a1.toNat : Int), .int .u8 (a2.toNat : Int), .int .u8 (a3.toNat : Int), .int .u8 (a4.toNat : Int), .int .u8 (a5.toNat : Int), .int .u8 (a6.toNat : Int), .int .u8 (a7.toNat : Int), .slice So no co, .slice Sb nb cb] rfl)
  go_wp2_with (first | ((with_reducible show wpList _ _ _ (⟨some 42, _, _, _, _, _⟩ :: _) _ _); refine wpList_load_rng 27 (.tmp 4) rfl (by kernel_rfl) _ _ rfl _ R42.out _ Try.underlying27 rfl (by kernel_rfl) ?_))
  try clear R20
  try clear R25
  try clear R42
  with_reducible refine (ipput_n _ _ _ _ _ _ _ _ _ _ _ _ _ _ _ _ _ _ _ _ _ _ r n 0 _ ho hb (by have := H1.out; omega) HPUT.out HN.out).mono ?_
  rintro e w4 ⟨v, rfl, b7w, b4⟩
  have y_b7_ow := Lib.hid (hlt how)
  have y_b7_p := Lib.hid (hlt hp)
  have bl_ho_b7 := ho.bl_new
  have bl_hb_b7 := hb.bl_new
  have b7lo := bel.size
  have lz_b7 := b4.size
  replace how := blk_u how b4
  replace hp := blk_u hp b4
  replace ho := ho.below b4
  replace hb := hb.below b4
  replace bel := bel.trans (b4.mono bel.size)
  clear b4
  obtain ⟨Ab7, cb7, rfl⟩ := own_val b7w
  have b7 := (own_sl b7w).1
  have fr_b7 := (own_sl b7w).2
  have av_b7_ow := fr_b7.av y_b7_ow.out
  have av_b7_p := fr_b7.av y_b7_p.out
  have R49 := Lib.hid (range_lit how 0 4 [.int .u8 (o0.toNat : Int), .int .u8 (o1.toNat : Int), .int .u8 (o2.toNat : Int), .int .u8 (o3.toNat : Int)] rfl)
  go_wp2_with (first | ((with_reducible show wpList _ _ _ (⟨some 49, _, _, _, _, _⟩ :: _) _ _); refine wpList_load_rng 24 (.tmp 3) rfl (by kernel_rfl) _ _ rfl _ R49.out _ Try.underlying24 rfl (by kernel_rfl) ?_))
  try clear R49
  with_reducible refine (icabout_n _ _ _ _ _ _ _ _ _ _ p0 p1 p2 p3 (icBytes 12 0 0 (r.take k)) (8 + k) _ b7 (by have := HNL.out; omega) HA.out HIB.out).mono ?_
  rintro e w5 ⟨Ao, co1, Ab, cb1, rfl, qo, qb, fo, fb, b5⟩
  have av_qo_ow := fo.av (hlt how)
  have av_qo_p := fo.av (hlt hp)
  have av_qb_ow := fb.av (hlt how)
  have av_qb_p := fb.av (hlt hp)
  replace how := blk_u how b5
  replace hp := blk_u hp b5
  replace ho := ho.below b5
  replace hb := hb.below b5
  replace b7 := b7.below b5
  replace b7w := own_under b7w b5
  replace lz_b7 := Nat.le_trans lz_b7 b5.size
  replace bel := bel.trans (b5.mono bel.size)
  clear b5
  replace qo : Sl w5 (Ao) (0) (co1) ([]) := qo
  replace qb : Sl w5 (Ab) (8 + k) (cb1) (icBytes 12 0 0 (r.take k)) := qb
  go_wp2_with (first | ((with_reducible show wpList _ _ _ (⟨some 9, _, _, _, _, _⟩ :: _) _ _); refine wpList_new_a rfl 27 rfl #[.int .i64 0, .int .i64 0, .int .i64 0, .int .i64 0, .int .i64 0, .int .i64 0, .int .u8 0, .int .u8 0, .int .u8 0, .int .u8 0, .int .u8 0, .int .u8 0, .int .u8 0, .int .u8 0, .slice none 0 0, .slice none 0 0] (by kernel_rfl) ?_; intro g9 w6 ge hh bb; have d_ow_pq := ne_new (hlt how) ge; have d_p_pq := ne_new (hlt hp) ge; have av_ho_pq := ho.av_new ge; have av_hb_pq := hb.av_new ge; have av_b7_pq := b7.av_new ge; have of_b7_pq := own_new b7w ge; have av_qo_pq := qo.av_new ge; have av_qb_pq := qb.av_new ge; have opq := Nat.le_trans bel.size ge; replace how := blk_u how bb; replace hp := blk_u hp bb; replace ho := ho.below bb; replace hb := hb.below bb; replace b7 := b7.below bb; replace b7w := own_under b7w bb; replace qo := qo.below bb; replace qb := qb.below bb; replace lz_b7 := Nat.le_trans lz_b7 bb.size; replace bel := bel.trans (bb.mono bel.size); have hpq := hh; clear hh ge bb) | ((with_reducible show wpList _ _ _ (⟨none, Op.store _ (.tmp 9) _, _, _, _, _⟩ :: _) _ _); refine wpList_store_blk rfl 27 (.tmp 9) (.tmp 53) rfl g9 rfl _ rfl _ 27 hpq (by rfl) (by kernel_rfl) (by kernel_rfl) ?_; intro w7 hq gr; replace ho := ho.away av_ho_pq gr; replace hb := hb.away av_hb_pq gr; replace b7 := b7.away av_b7_pq gr; replace b7w := own_off b7w of_b7_pq gr; replace qo := qo.away av_qo_pq gr; replace qb := qb.away av_qb_pq gr; replace lz_b7 := Nat.le_trans lz_b7 gr.size; replace how := blk_a how gr d_ow_pq; replace hp := blk_a hp gr d_p_pq; replace bel := below_grown bel gr opq bel.size; clear hpq; have hpq := hq; clear hq gr; have R58 := Lib.hid (range_lit hpq 0 16 [.int .i64 0, .int .i64 0, .int .i64 0, .int .i64 0, .int .i64 64, .int .i64 1, .int .u8 (o0.toNat : Int), .int .u8 (o1.toNat : Int), .int .u8 (o2.toNat : Int), .int .u8 (o3.toNat : Int), .int .u8 (p0.toNat : Int), .int .u8 (p1.toNat : Int), .int .u8 (p2.toNat : Int), .int .u8 (p3.toNat : Int), .slice Ao 0 co1, .slice Ab (8 + k) cb1] rfl)) | ((with_reducible show wpList _ _ _ (⟨some 58, _, _, _, _, _⟩ :: _) _ _); refine wpList_load_rng 27 (.tmp 9) rfl (by kernel_rfl) _ _ rfl _ R58.out _ Try.underlying27 rfl (by kernel_rfl) ?_))
  try clear R58
  with_reducible refine (ipput_n _ _ _ _ _ _ _ _ _ _ _ _ _ _ _ _ _ _ _ _ [] (icBytes 12 0 0 (r.take k)) (ipBytes 0 0 0 0 64 1 o0 o1 o2 o3 p0 p1 p2 p3 [] (icBytes 12 0 0 (r.take k))) m 0 _ qo qb (by have := HK.out; omega) HP2.out HM.out).mono ?_
  rintro e w8 ⟨v, rfl, c7w, b8⟩
  have y_c7_ow := Lib.hid (hlt how)
  have y_c7_p := Lib.hid (hlt hp)
  have y_c7_pq := Lib.hid (hlt hpq)
  have bl_ho_c7 := ho.bl_new
  have bl_hb_c7 := hb.bl_new
  have bl_b7_c7 := b7.bl_new
  have bl_qo_c7 := qo.bl_new
  have bl_qb_c7 := qb.bl_new
  have c7lo := bel.size
  have lz_c7 := b8.size
  replace how := blk_u how b8
  replace hp := blk_u hp b8
  replace hpq := blk_u hpq b8
  replace ho := ho.below b8
  replace hb := hb.below b8
  replace b7 := b7.below b8
  replace b7w := own_under b7w b8
  replace qo := qo.below b8
  replace qb := qb.below b8
  replace lz_b7 := Nat.le_trans lz_b7 b8.size
  replace bel := bel.trans (b8.mono bel.size)
  clear b8
  obtain ⟨Ac7, cc7, rfl⟩ := own_val c7w
  have c7 := (own_sl c7w).1
  have fr_c7 := (own_sl c7w).2
  have av_c7_ow := fr_c7.av y_c7_ow.out
  have av_c7_p := fr_c7.av y_c7_p.out
  have av_c7_pq := fr_c7.av y_c7_pq.out
  have R63 := Lib.hid (range_lit how 0 4 [.int .u8 (o0.toNat : Int), .int .u8 (o1.toNat : Int), .int .u8 (o2.toNat : Int), .int .u8 (o3.toNat : Int)] rfl)
  go_wp2_with (first | ((with_reducible show wpList _ _ _ (⟨some 63, _, _, _, _, _⟩ :: _) _ _); refine wpList_load_rng 24 (.tmp 3) rfl (by kernel_rfl) _ _ rfl _ R63.out _ Try.underlying24 rfl (by kernel_rfl) ?_))
  try clear R63
  with_reducible refine (icabout_er _ _ _ _ _ _ _ _ _ _ 11 _ c7 (by have := HM9.out; omega) HA2.out).mono ?_
  rintro e w9 ⟨y0, y1, y2, y3, y4, y5, z0, z1, z2, z3, z4, z5, z6, z7, Ao2, n3, co2, Ab2, n4, cb2, rfl, b9⟩
  replace how := blk_u how b9
  replace hp := blk_u hp b9
  replace hpq := blk_u hpq b9
  replace ho := ho.below b9
  replace hb := hb.below b9
  replace b7 := b7.below b9
  replace b7w := own_under b7w b9
  replace qo := qo.below b9
  replace qb := qb.below b9
  replace c7 := c7.below b9
  replace c7w := own_under c7w b9
  replace lz_b7 := Nat.le_trans lz_b7 b9.size
  replace lz_c7 := Nat.le_trans lz_c7 b9.size
  replace bel := bel.trans (b9.mono bel.size)
  clear b9
  go_wp2_with (first | ((with_reducible show wpList _ _ _ (⟨some 13, _, _, _, _, _⟩ :: _) _ _); refine wpList_new_a rfl 27 rfl #[.int .i64 0, .int .i64 0, .int .i64 0, .int .i64 0, .int .i64 0, .int .i64 0, .int .u8 0, .int .u8 0, .int .u8 0, .int .u8 0, .int .u8 0, .int .u8 0, .int .u8 0, .int .u8 0, .slice none 0 0, .slice none 0 0] (by kernel_rfl) ?_; intro g13 w10 ge hh bb; have d_ow_px := ne_new (hlt how) ge; have d_p_px := ne_new (hlt hp) ge; have d_pq_px := ne_new (hlt hpq) ge; have av_ho_px := ho.av_new ge; have av_hb_px := hb.av_new ge; have av_b7_px := b7.av_new ge; have of_b7_px := own_new b7w ge; have av_qo_px := qo.av_new ge; have av_qb_px := qb.av_new ge; have av_c7_px := c7.av_new ge; have of_c7_px := own_new c7w ge; have opx := Nat.le_trans bel.size ge; replace how := blk_u how bb; replace hp := blk_u hp bb; replace hpq := blk_u hpq bb; replace ho := ho.below bb; replace hb := hb.below bb; replace b7 := b7.below bb; replace b7w := own_under b7w bb; replace qo := qo.below bb; replace qb := qb.below bb; replace c7 := c7.below bb; replace c7w := own_under c7w bb; replace lz_b7 := Nat.le_trans lz_b7 bb.size; replace lz_c7 := Nat.le_trans lz_c7 bb.size; replace bel := bel.trans (bb.mono bel.size); have hpx := hh; clear hh ge bb) | ((with_reducible show wpList _ _ _ (⟨none, Op.store _ (.tmp 13) _, _, _, _, _⟩ :: _) _ _); refine wpList_store_blk rfl 27 (.tmp 13) (.tmp 66) rfl g13 rfl _ rfl _ 27 hpx (by rfl) (by kernel_rfl) (by kernel_rfl) ?_; intro w11 hq gr; replace ho := ho.away av_ho_px gr; replace hb := hb.away av_hb_px gr; replace b7 := b7.away av_b7_px gr; replace b7w := own_off b7w of_b7_px gr; replace qo := qo.away av_qo_px gr; replace qb := qb.away av_qb_px gr; replace c7 := c7.away av_c7_px gr; replace c7w := own_off c7w of_c7_px gr; replace lz_b7 := Nat.le_trans lz_b7 gr.size; replace lz_c7 := Nat.le_trans lz_c7 gr.size; replace how := blk_a how gr d_ow_px; replace hp := blk_a hp gr d_p_px; replace hpq := blk_a hpq gr d_pq_px; replace bel := below_grown bel gr opx bel.size; clear hpx; have hpx := hq; clear hq gr; have R69 := Lib.hid (range_lit hpq 0 16 [.int .i64 0, .int .i64 0, .int .i64 0, .int .i64 0, .int .i64 64, .int .i64 1, .int .u8 (o0.toNat : Int), .int .u8 (o1.toNat : Int), .int .u8 (o2.toNat : Int), .int .u8 (o3.toNat : Int), .int .u8 (p0.toNat : Int), .int .u8 (p1.toNat : Int), .int .u8 (p2.toNat : Int), .int .u8 (p3.toNat : Int), .slice Ao 0 co1, .slice Ab (8 + k) cb1] rfl)) | ((with_reducible show wpList _ _ _ (⟨some 69, _, _, _, _, _⟩ :: _) _ _); refine wpList_load_rng 27 (.tmp 9) rfl (by kernel_rfl) _ _ rfl _ R69.out _ Try.underlying27 rfl (by kernel_rfl) ?_))
  try clear R69
  with_reducible refine (icget_good _ _ _ _ _ _ _ _ _ _ _ _ _ _ _ _ _ _ _ _ _ (r.take k) 12 0 0 k _ qb (by have := HK.out; omega) (ic_back (fl := 0) (pt := 0) (by decide) (by decide) (by decide) (by decide) (by decide) (r.take k)) HTK.out).mono ?_
  rintro e w12 ⟨Bm, dm, rfl, mb, fm, b12⟩
  have av_mb_ow := fm.av (hlt how)
  have av_mb_p := fm.av (hlt hp)
  have av_mb_pq := fm.av (hlt hpq)
  have av_mb_px := fm.av (hlt hpx)
  replace how := blk_u how b12
  replace hp := blk_u hp b12
  replace hpq := blk_u hpq b12
  replace hpx := blk_u hpx b12
  replace ho := ho.below b12
  replace hb := hb.below b12
  replace b7 := b7.below b12
  replace b7w := own_under b7w b12
  replace qo := qo.below b12
  replace qb := qb.below b12
  replace c7 := c7.below b12
  replace c7w := own_under c7w b12
  replace lz_b7 := Nat.le_trans lz_b7 b12.size
  replace lz_c7 := Nat.le_trans lz_c7 b12.size
  replace bel := bel.trans (b12.mono bel.size)
  clear b12
  replace mb : Sl w12 (Bm) (k) (dm) (r.take k) := mb
  go_wp2_with (first | ((with_reducible show wpList _ _ _ (⟨some 15, _, _, _, _, _⟩ :: _) _ _); refine wpList_new_a rfl 34 rfl #[.int .i64 0, .int .i64 0, .int .u32 0, .slice none 0 0] (by kernel_rfl) ?_; intro g15 w13 ge hh bb; have d_ow_py := ne_new (hlt how) ge; have d_p_py := ne_new (hlt hp) ge; have d_pq_py := ne_new (hlt hpq) ge; have d_px_py := ne_new (hlt hpx) ge; have av_ho_py := ho.av_new ge; have av_hb_py := hb.av_new ge; have av_b7_py := b7.av_new ge; have of_b7_py := own_new b7w ge; have av_qo_py := qo.av_new ge; have av_qb_py := qb.av_new ge; have av_c7_py := c7.av_new ge; have of_c7_py := own_new c7w ge; have av_mb_py := mb.av_new ge; have opy := Nat.le_trans bel.size ge; replace how := blk_u how bb; replace hp := blk_u hp bb; replace hpq := blk_u hpq bb; replace hpx := blk_u hpx bb; replace ho := ho.below bb; replace hb := hb.below bb; replace b7 := b7.below bb; replace b7w := own_under b7w bb; replace qo := qo.below bb; replace qb := qb.below bb; replace c7 := c7.below bb; replace c7w := own_under c7w bb; replace mb := mb.below bb; replace lz_b7 := Nat.le_trans lz_b7 bb.size; replace lz_c7 := Nat.le_trans lz_c7 bb.size; replace bel := bel.trans (bb.mono bel.size); have hpy := hh; clear hh ge bb) | ((with_reducible show wpList _ _ _ (⟨none, Op.store _ (.tmp 15) _, _, _, _, _⟩ :: _) _ _); refine wpList_store_blk rfl 34 (.tmp 15) (.tmp 71) rfl g15 rfl _ rfl _ 34 hpy (by rfl) (by kernel_rfl) (by kernel_rfl) ?_; intro w14 hq gr; replace ho := ho.away av_ho_py gr; replace hb := hb.away av_hb_py gr; replace b7 := b7.away av_b7_py gr; replace b7w := own_off b7w of_b7_py gr; replace qo := qo.away av_qo_py gr; replace qb := qb.away av_qb_py gr; replace c7 := c7.away av_c7_py gr; replace c7w := own_off c7w of_c7_py gr; replace mb := mb.away av_mb_py gr; replace lz_b7 := Nat.le_trans lz_b7 gr.size; replace lz_c7 := Nat.le_trans lz_c7 gr.size; replace how := blk_a how gr d_ow_py; replace hp := blk_a hp gr d_p_py; replace hpq := blk_a hpq gr d_pq_py; replace hpx := blk_a hpx gr d_px_py; replace bel := below_grown bel gr opy bel.size; clear hpy; have hpy := hq; clear hq gr))
  obtain ⟨A97, c97, r97, f97, u97⟩ := piece_front b7 (k := k) HKN.out
  have pc := f97 _ b7
  clear f97 u97
  go_wp2_with fail
  replace bel := bel.drew
  replace how : w14.drew.heap[g3]? = _ := how
  replace hp : w14.drew.heap[g4]? = _ := hp
  replace hpq : w14.drew.heap[g9]? = _ := hpq
  replace hpx : w14.drew.heap[g13]? = _ := hpx
  replace hpy : w14.drew.heap[g15]? = _ := hpy
  replace ho := ho.drew
  replace hb := hb.drew
  replace b7 := b7.drew
  replace b7w : w14.drew.ownsRow _ _ _ _ _ _ := b7w
  replace lz_b7 : _ ≤ w14.drew.heap.size := lz_b7
  replace qo := qo.drew
  replace qb := qb.drew
  replace c7 := c7.drew
  replace c7w : w14.drew.ownsRow _ _ _ _ _ _ := c7w
  replace lz_c7 : _ ≤ w14.drew.heap.size := lz_c7
  replace mb := mb.drew
  replace pc := pc.drew
  refine wp_region_held_drew (S := fun W => W.heap[g15]? = some (.cells #[.int .i64 12, .int .i64 0, .int .u32 0, .slice Bm k dm] 34 (0, 0)) ∧ Sl W (Bm) (k) (dm) (r.take k) ∧ Sl W (A97) (k) (c97) (r.take k)) (by kernel_rfl) ⟨hpy, mb, pc⟩ (fun hH => ?_)
  generalize w14.drew = w15 at bel how hp hpq hpx hpy ho hb b7 qo qb c7 mb pc b7w c7w lz_b7 lz_c7 hH ⊢
  refine wpAnyH_take (i := 0) (v := ?_) rfl (by kernel_rfl) (by kernel_rfl) (by kernel_rfl) (fun _ _ _ h => h) (Or.inl ⟨by rfl, ?_⟩) hH ?_
  rotate_left
  · ((intro W hW; clear hW; go_simp) <;> with_reducible rfl)
  simp only [Act.put, List.getElem_toArray, List.getElem_cons_zero, List.setIfInBounds_toArray, List.set_cons_zero, List.set_cons_succ]
  refine wpAnyH_take (i := 1) (v := ?_) rfl (by kernel_rfl) (by kernel_rfl) (by kernel_rfl) (fun _ _ _ h => h) (Or.inl ⟨by rfl, ?_⟩) hH ?_
  rotate_left
  · ((intro W hW; clear hW; go_simp) <;> with_reducible rfl)
  simp only [Act.put, List.getElem_toArray, List.getElem_cons_zero, List.getElem_cons_succ, List.setIfInBounds_toArray, List.set_cons_zero, List.set_cons_succ]
  refine wpAnyH_take (i := 2) (v := ?_) rfl (by kernel_rfl) (by kernel_rfl) (by kernel_rfl) (fun _ _ _ h => h) (Or.inl ⟨by rfl, ?_⟩) hH ?_
  rotate_left
  · ((intro W hW; clear hW; go_simp) <;> with_reducible rfl)
  simp only [Act.put, List.getElem_toArray, List.getElem_cons_zero, List.getElem_cons_succ, List.setIfInBounds_toArray, List.set_cons_zero, List.set_cons_succ]
  refine wpAnyH_take (i := 3) (v := ?_) rfl (by kernel_rfl) (by kernel_rfl) (by kernel_rfl) (fun _ _ _ h => h) (Or.inl ⟨by rfl, ?_⟩) hH ?_
  rotate_left
  · ((intro W hW; clear hW; go_simp) <;> with_reducible rfl)
  simp only [Act.put, List.getElem_toArray, List.getElem_cons_zero, List.getElem_cons_succ, List.setIfInBounds_toArray, List.set_cons_zero, List.set_cons_succ]
  refine wpAnyH_take (i := 4) (v := ?_) rfl (by kernel_rfl) (by kernel_rfl) (by kernel_rfl) (fun _ _ _ h => h) (Or.inl ⟨by rfl, ?_⟩) hH ?_
  rotate_left
  · ((intro W hW; clear hW; go_simp) <;> with_reducible rfl)
  simp only [Act.put, List.getElem_toArray, List.getElem_cons_zero, List.getElem_cons_succ, List.setIfInBounds_toArray, List.set_cons_zero, List.set_cons_succ]
  refine wpAnyH_take (i := 5) (v := ?_) rfl (by kernel_rfl) (by kernel_rfl) (by kernel_rfl) (fun _ _ _ h => h) (Or.inl ⟨by rfl, ?_⟩) hH ?_
  rotate_left
  · ((intro W hW; clear hW; go_simp) <;> with_reducible rfl)
  simp only [Act.put, List.getElem_toArray, List.getElem_cons_zero, List.getElem_cons_succ, List.setIfInBounds_toArray, List.set_cons_zero, List.set_cons_succ]
  refine wpAnyH_take (i := 6) (v := ?_) rfl (by kernel_rfl) (by kernel_rfl) (by kernel_rfl) (fun _ _ _ h => h) (Or.inl ⟨by rfl, ?_⟩) hH ?_
  rotate_left
  · ((intro W hW; clear hW; go_simp) <;> with_reducible rfl)
  simp only [Act.put, List.getElem_toArray, List.getElem_cons_zero, List.getElem_cons_succ, List.setIfInBounds_toArray, List.set_cons_zero, List.set_cons_succ]
  refine wpAnyH_take (i := 7) (v := ?_) rfl (by kernel_rfl) (by kernel_rfl) (by kernel_rfl) (fun _ _ _ h => h) (Or.inl ⟨by rfl, ?_⟩) hH ?_
  rotate_left
  · ((intro W hW; clear hW; go_simp) <;> with_reducible rfl)
  simp only [Act.put, List.getElem_toArray, List.getElem_cons_zero, List.getElem_cons_succ, List.setIfInBounds_toArray, List.set_cons_zero, List.set_cons_succ]
  refine wpAnyH_take (i := 8) (v := ?_) rfl (by kernel_rfl) (by kernel_rfl) (by kernel_rfl) (fun _ _ _ h => h) (Or.inl ⟨by rfl, ?_⟩) hH ?_
  rotate_left
  · ((intro W hW; clear hW; go_simp) <;> with_reducible rfl)
  simp only [Act.put, List.getElem_toArray, List.getElem_cons_zero, List.getElem_cons_succ, List.setIfInBounds_toArray, List.set_cons_zero, List.set_cons_succ]
  refine wpAnyH_take (i := 9) (v := ?_) rfl (by kernel_rfl) (by kernel_rfl) (by kernel_rfl) (fun _ _ _ h => h) (Or.inl ⟨by rfl, ?_⟩) hH ?_
  rotate_left
  · ((intro W hW; clear hW; go_simp) <;> with_reducible rfl)
  simp only [Act.put, List.getElem_toArray, List.getElem_cons_zero, List.getElem_cons_succ, List.setIfInBounds_toArray, List.set_cons_zero, List.set_cons_succ]
  refine wpAnyH_take (i := 10) (v := ?_) rfl (by kernel_rfl) (by kernel_rfl) (by kernel_rfl) (fun _ _ _ h => h) (Or.inl ⟨by rfl, ?_⟩) hH ?_
  rotate_left
  · ((intro W hW; clear hW; go_simp) <;> with_reducible rfl)
  simp only [Act.put, List.getElem_toArray, List.getElem_cons_zero, List.getElem_cons_succ, List.setIfInBounds_toArray, List.set_cons_zero, List.set_cons_succ]
  refine wpAnyH_take (i := 11) (v := ?_) rfl (by kernel_rfl) (by kernel_rfl) (by kernel_rfl) (fun _ _ _ h => h) (Or.inl ⟨by rfl, ?_⟩) hH ?_
  rotate_left
  · ((intro W hW; clear hW; go_simp) <;> with_reducible rfl)
  simp only [Act.put, List.getElem_toArray, List.getElem_cons_zero, List.getElem_cons_succ, List.setIfInBounds_toArray, List.set_cons_zero, List.set_cons_succ]
  refine wpAnyH_take (i := 12) (v := ?_) rfl (by kernel_rfl) (by kernel_rfl) (by kernel_rfl) (fun _ _ _ h => h) (Or.inl ⟨by rfl, ?_⟩) hH ?_
  rotate_left
  · ((intro W hW; have hk := cell_lit (hW.1) 3 _ rfl; clear hW; go_simp) <;> with_reducible rfl)
  simp only [Act.put, List.getElem_toArray, List.getElem_cons_zero, List.getElem_cons_succ, List.setIfInBounds_toArray, List.set_cons_zero, List.set_cons_succ]
  refine wpAnyH_take (i := 13) (v := ?_) rfl (by kernel_rfl) (by kernel_rfl) (by kernel_rfl) (fun _ _ _ h => h) (Or.inl ⟨by rfl, ?_⟩) hH ?_
  rotate_left
  · ((intro W hW; clear hW; go_simp) <;> with_reducible rfl)
  simp only [Act.put, List.getElem_toArray, List.getElem_cons_zero, List.getElem_cons_succ, List.setIfInBounds_toArray, List.set_cons_zero, List.set_cons_succ]
  refine wpAnyH_take (i := 14) (v := ?_) rfl (by kernel_rfl) (by kernel_rfl) (by kernel_rfl) (fun _ _ _ h => h) (Or.inl ⟨by rfl, ?_⟩) hH ?_
  rotate_left
  · ((intro W hW; clear hW; go_simp) <;> with_reducible rfl)
  simp only [Act.put, List.getElem_toArray, List.getElem_cons_zero, List.getElem_cons_succ, List.setIfInBounds_toArray, List.set_cons_zero, List.set_cons_succ]
  refine wpAnyH_take (i := 15) (v := ?_) rfl (by kernel_rfl) (by kernel_rfl) (by kernel_rfl) (fun _ _ _ h => h) (Or.inl ⟨by rfl, ?_⟩) hH ?_
  rotate_left
  · ((intro W hW; clear hW; go_simp) <;> with_reducible rfl)
  simp only [Act.put, List.getElem_toArray, List.getElem_cons_zero, List.getElem_cons_succ, List.setIfInBounds_toArray, List.set_cons_zero, List.set_cons_succ]
  refine wpAnyH_take (i := 16) (v := ?_) rfl (by kernel_rfl) (by kernel_rfl) (by kernel_rfl) (fun _ _ _ h => h) (Or.inl ⟨by rfl, ?_⟩) hH ?_
  rotate_left
  · ((intro W hW; clear hW; go_simp) <;> with_reducible rfl)
  simp only [Act.put, List.getElem_toArray, List.getElem_cons_zero, List.getElem_cons_succ, List.setIfInBounds_toArray, List.set_cons_zero, List.set_cons_succ]
  refine wpAnyH_take (i := 17) (v := ?_) rfl (by kernel_rfl) (by kernel_rfl) (by kernel_rfl) (fun _ _ _ h => h) (Or.inl ⟨by rfl, ?_⟩) hH ?_
  rotate_left
  · ((intro W hW; clear hW; go_simp) <;> with_reducible rfl)
  simp only [Act.put, List.getElem_toArray, List.getElem_cons_zero, List.getElem_cons_succ, List.setIfInBounds_toArray, List.set_cons_zero, List.set_cons_succ]
  refine wpAnyH_take (i := 18) (v := ?_) rfl (by kernel_rfl) (by kernel_rfl) (by kernel_rfl) (fun _ _ _ h => h) (Or.inl ⟨by rfl, ?_⟩) hH ?_
  rotate_left
  · ((intro W hW; have hk := cell_lit (hW.1) 3 _ rfl; clear hW; go_simp) <;> with_reducible rfl)
  simp only [Act.put, List.getElem_toArray, List.getElem_cons_zero, List.getElem_cons_succ, List.setIfInBounds_toArray, List.set_cons_zero, List.set_cons_succ]
  refine wpAnyH_take (i := 19) (v := ?_) rfl (by kernel_rfl) (by kernel_rfl) (by kernel_rfl) (fun _ _ _ h => h) (Or.inl ⟨by rfl, ?_⟩) hH ?_
  rotate_left
  · ((intro W hW; have st0 := (hW.2.1).str (P := Try.prog) 25 5 9 Try.underlying25 Try.underlying5 Try.underlying9; clear hW; go_simp) <;> with_reducible rfl)
  simp only [Act.put, List.getElem_toArray, List.getElem_cons_zero, List.getElem_cons_succ, List.setIfInBounds_toArray, List.set_cons_zero, List.set_cons_succ]
  refine wpAnyH_take (i := 20) (v := ?_) rfl (by kernel_rfl) (by kernel_rfl) (by kernel_rfl) (fun _ _ _ h => h) (Or.inl ⟨by rfl, ?_⟩) hH ?_
  rotate_left
  · ((intro W hW; clear hW; go_simp) <;> with_reducible rfl)
  simp only [Act.put, List.getElem_toArray, List.getElem_cons_zero, List.getElem_cons_succ, List.setIfInBounds_toArray, List.set_cons_zero, List.set_cons_succ]
  refine wpAnyH_take (i := 21) (v := ?_) rfl (by kernel_rfl) (by kernel_rfl) (by kernel_rfl) (fun _ _ _ h => h) (Or.inl ⟨by rfl, ?_⟩) hH ?_
  rotate_left
  · ((intro W hW; clear hW; go_simp) <;> with_reducible rfl)
  simp only [Act.put, List.getElem_toArray, List.getElem_cons_zero, List.getElem_cons_succ, List.setIfInBounds_toArray, List.set_cons_zero, List.set_cons_succ]
  refine wpAnyH_take (i := 22) (v := ?_) rfl (by kernel_rfl) (by kernel_rfl) (by kernel_rfl) (fun _ _ _ h => h) (Or.inl ⟨by rfl, ?_⟩) hH ?_
  rotate_left
  · ((intro W hW; have hk := cell_lit (hW.1) 3 _ rfl; clear hW; go_simp) <;> with_reducible rfl)
  simp only [Act.put, List.getElem_toArray, List.getElem_cons_zero, List.getElem_cons_succ, List.setIfInBounds_toArray, List.set_cons_zero, List.set_cons_succ]
  refine wpAnyH_take (i := 23) (v := ?_) rfl (by kernel_rfl) (by kernel_rfl) (by kernel_rfl) (fun _ _ _ h => h) (Or.inl ⟨by rfl, ?_⟩) hH ?_
  rotate_left
  · ((intro W hW; clear hW; go_simp) <;> with_reducible rfl)
  simp only [Act.put, List.getElem_toArray, List.getElem_cons_zero, List.getElem_cons_succ, List.setIfInBounds_toArray, List.set_cons_zero, List.set_cons_succ]
  refine wpAnyH_take (i := 24) (v := ?_) rfl (by kernel_rfl) (by kernel_rfl) (by kernel_rfl) (fun _ _ _ h => h) (Or.inl ⟨by rfl, ?_⟩) hH ?_
  rotate_left
  · ((intro W hW; clear hW; go_simp) <;> with_reducible rfl)
  simp only [Act.put, List.getElem_toArray, List.getElem_cons_zero, List.getElem_cons_succ, List.setIfInBounds_toArray, List.set_cons_zero, List.set_cons_succ]
  refine wpAnyH_take (i := 25) (v := ?_) rfl (by kernel_rfl) (by kernel_rfl) (by kernel_rfl) (fun _ _ _ h => h) (Or.inl ⟨by rfl, ?_⟩) hH ?_
  rotate_left
  · ((intro W hW; have st0 := (hW.2.2).str (P := Try.prog) 25 5 9 Try.underlying25 Try.underlying5 Try.underlying9; clear hW; go_simp) <;> with_reducible rfl)
  simp only [Act.put, List.getElem_toArray, List.getElem_cons_zero, List.getElem_cons_succ, List.setIfInBounds_toArray, List.set_cons_zero, List.set_cons_succ]
  refine wpAnyH_take (i := 26) (v := ?_) rfl (by kernel_rfl) (by kernel_rfl) (by kernel_rfl) (fun _ _ _ h => h) (Or.inl ⟨by rfl, ?_⟩) hH ?_
  rotate_left
  · ((intro W hW; clear hW; go_simp) <;> with_reducible rfl)
  simp only [Act.put, List.getElem_toArray, List.getElem_cons_zero, List.getElem_cons_succ, List.setIfInBounds_toArray, List.set_cons_zero, List.set_cons_succ]
  refine wpAnyH_take (i := 27) (v := ?_) rfl (by kernel_rfl) (by kernel_rfl) (by kernel_rfl) (fun _ _ _ h => h) (Or.inl ⟨by rfl, ?_⟩) hH ?_
  rotate_left
  · ((intro W hW; clear hW; go_simp) <;> with_reducible rfl)
  simp only [Act.put, List.getElem_toArray, List.getElem_cons_zero, List.getElem_cons_succ, List.setIfInBounds_toArray, List.set_cons_zero, List.set_cons_succ]
  refine wpAnyH_take (i := 28) (v := ?_) rfl (by kernel_rfl) (by kernel_rfl) (by kernel_rfl) (fun _ _ _ h => h) (Or.inl ⟨by rfl, ?_⟩) hH ?_
  rotate_left
  · ((intro W hW; clear hW; go_simp) <;> with_reducible rfl)
  simp only [Act.put, List.getElem_toArray, List.getElem_cons_zero, List.getElem_cons_succ, List.setIfInBounds_toArray, List.set_cons_zero, List.set_cons_succ]
  refine wpAnyH_done (by kernel_rfl) ?_ _
  go_wp2_with fail
  go_ret
  exact ⟨rfl, bel⟩
theorem icmpNone_walk (o0 o1 o2 o3 : UInt8) (tos id fl pt ttl pr : Int) (a0 a1 a2 a3 a4 a5 a6 a7 : UInt8) (So : Option Addr) (no co : Nat) (lo : List UInt8) (Sb : Option Addr) (nb cb : Nat) (lb : List UInt8) (typ : Int) (w : World) (ho : Sl w So no co lo) (hb : Sl w Sb nb cb lb) : Calls Try.prog 7 #[.agg #[.int .u8 (o0.toNat : Int), .int .u8 (o1.toNat : Int), .int .u8 (o2.toNat : Int), .int .u8 (o3.toNat : Int)], .agg #[.int .i64 tos, .int .i64 id, .int .i64 fl, .int .i64 pt, .int .i64 ttl, .int .i64 pr, .int .u8 (a0.toNat : Int), .int .u8 (a1.toNat : Int), .int .u8 (a2.toNat : Int), .int .u8 (a3.toNat : Int), .int .u8 (a4.toNat : Int), .int .u8 (a5.toNat : Int), .int .u8 (a6.toNat : Int), .int .u8 (a7.toNat : Int), .slice So no co, .slice Sb nb cb], .int .i64 typ] w fun e w' => e = .returned (.bool true) ∧ Below w.heap.size w w' := by
  by_cases h1 : nb ≤ 1400
  · by_cases h2 : no ≤ 40
    · have hlen : ∀ r, ipPut tos id fl pt ttl pr a0 a1 a2 a3 a4 a5 a6 a7 lo lb = (r, 0) → r.length ≤ 1500 := by
        intro r hr
        unfold ipPut at hr
        split at hr
        · simp at hr
        · rename_i g1
          split at hr
          · simp at hr
          · rename_i g2
            simp only [Prod.mk.injEq, and_true] at hr
            subst hr
            rw [(put_good (by simpa using g1) (by omega) []).2.2.1]
            omega
      obtain ⟨r, er, hr⟩ : ∃ r er, ipPut tos id fl pt ttl pr a0 a1 a2 a3 a4 a5 a6 a7 lo lb = (r, er) := ⟨_, _, rfl⟩
      by_cases g3 : typ = 3
      · subst g3
        by_cases hz : er = 0
        · subst hz
          by_cases ha : (icAbout o0 o1 o2 o3 r 3 0).2.2 = 0
          · obtain ⟨p0, p1, p2, p3, k, hk, hkn, _, _, ha⟩ := icAbout_ok ha
            exact icmpNone_6_3 o0 o1 o2 o3 tos id fl pt ttl pr a0 a1 a2 a3 a4 a5 a6 a7 So no co lo Sb nb cb lb w ho hb h1 h2 r _ hr rfl (hlen r hr) p0 p1 p2 p3 k hk hkn ha
          · exact icmpNone_5_3 o0 o1 o2 o3 tos id fl pt ttl pr a0 a1 a2 a3 a4 a5 a6 a7 So no co lo Sb nb cb lb w ho hb h1 h2 r _ hr rfl (hlen r hr) _ rfl ha
        · exact icmpNone_4_3 o0 o1 o2 o3 tos id fl pt ttl pr a0 a1 a2 a3 a4 a5 a6 a7 So no co lo Sb nb cb lb w ho hb h1 h2 r _ er hr rfl hz
      by_cases g11 : typ = 11
      · subst g11
        by_cases hz : er = 0
        · subst hz
          by_cases ha : (icAbout o0 o1 o2 o3 r 11 0).2.2 = 0
          · obtain ⟨p0, p1, p2, p3, k, hk, hkn, _, _, ha⟩ := icAbout_ok ha
            exact icmpNone_6_11 o0 o1 o2 o3 tos id fl pt ttl pr a0 a1 a2 a3 a4 a5 a6 a7 So no co lo Sb nb cb lb w ho hb h1 h2 r _ hr rfl (hlen r hr) p0 p1 p2 p3 k hk hkn ha
          · exact icmpNone_5_11 o0 o1 o2 o3 tos id fl pt ttl pr a0 a1 a2 a3 a4 a5 a6 a7 So no co lo Sb nb cb lb w ho hb h1 h2 r _ hr rfl (hlen r hr) _ rfl ha
        · exact icmpNone_4_11 o0 o1 o2 o3 tos id fl pt ttl pr a0 a1 a2 a3 a4 a5 a6 a7 So no co lo Sb nb cb lb w ho hb h1 h2 r _ er hr rfl hz
      by_cases g12 : typ = 12
      · subst g12
        by_cases hz : er = 0
        · subst hz
          by_cases ha : (icAbout o0 o1 o2 o3 r 12 0).2.2 = 0
          · obtain ⟨p0, p1, p2, p3, k, hk, hkn, _, _, ha⟩ := icAbout_ok ha
            exact icmpNone_6_12 o0 o1 o2 o3 tos id fl pt ttl pr a0 a1 a2 a3 a4 a5 a6 a7 So no co lo Sb nb cb lb w ho hb h1 h2 r _ hr rfl (hlen r hr) p0 p1 p2 p3 k hk hkn ha
          · exact icmpNone_5_12 o0 o1 o2 o3 tos id fl pt ttl pr a0 a1 a2 a3 a4 a5 a6 a7 So no co lo Sb nb cb lb w ho hb h1 h2 r _ hr rfl (hlen r hr) _ rfl ha
        · exact icmpNone_4_12 o0 o1 o2 o3 tos id fl pt ttl pr a0 a1 a2 a3 a4 a5 a6 a7 So no co lo Sb nb cb lb w ho hb h1 h2 r _ er hr rfl hz
      exact icmpNone_3 o0 o1 o2 o3 tos id fl pt ttl pr a0 a1 a2 a3 a4 a5 a6 a7 So no co lo Sb nb cb lb typ w h1 h2 g3 g11 g12
    · exact icmpNone_2 o0 o1 o2 o3 tos id fl pt ttl pr a0 a1 a2 a3 a4 a5 a6 a7 So no co lo Sb nb cb lb typ w h1 (by omega)
  · exact icmpNone_1 o0 o1 o2 o3 tos id fl pt ttl pr a0 a1 a2 a3 a4 a5 a6 a7 So no co lo Sb nb cb lb typ w (by omega)
end Go.Proofs.Ytfmllopeeiecjaa
