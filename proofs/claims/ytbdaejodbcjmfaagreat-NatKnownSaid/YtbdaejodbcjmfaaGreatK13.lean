/- Texts put together: Dhc, Sla, Na4, Tcl, Ud3, Rd3, Tc1, Tc3, Icl, Ic1, Ic2. -/
import Derived.Test.YtbdaejodbcjmfaaGreatK1
import Derived.Test.YtbdaejodbcjmfaaGreatK6
import Derived.Test.YtbdaejodbcjmfaaGreatK7
import Derived.Test.YtbdaejodbcjmfaaGreatK8
import Derived.Test.YtbdaejodbcjmfaaGreatK9
import Derived.Deep.CutRange
import Derived.Deep.RegionHeld3
namespace Go.Proofs.YtbdaejodbcjmfaaGreat
open Go.RowKit
set_option linter.unusedVariables false
set_option linter.unusedSimpArgs false
set_option maxRecDepth 100000
set_option maxHeartbeats 16000000

theorem wp_copy_min {P : Program} {o : Oper} {a : Act} {w : World} {K : Act → World → Prop} {Q : Exit → Act → World → Prop} (d s : Operand) (dT sT : TypeId)
  (ho : o.op = .call { callee := .builtin .copy, args := #[d, s], argTypes := #[dT, sT] }) (elem : TypeId) (hu : P.underlying dT = some (.slice elem)) (hsz : (P.info? elem).map (·.size) = some 1)
  (g off dl dc m c k : Nat) (A : Option Addr) (l : List UInt8) (cs cs2 : List Value) (t : TypeId) (hd : a.eval d = .slice (some ⟨g, off, none⟩) dl dc) (hs : a.eval s = .slice A m c)
  (hg : w.heap[g]? = some (.cells cs.toArray t (0, 0))) (hfit : off + k ≤ cs.length) (hl : Sl w A k c l) (hk : k = Nat.min m dl) (hn : 0 < k) (hc2 : cs.take off ++ l.map u8v ++ cs.drop (off + k) = cs2)
  (h : ∀ w', w'.heap[g]? = some (.cells cs2.toArray t (0, 0)) → w.grownBy w' (some g) → K (a.put o.dst (goInt k)) w') : Oper.wp P o a w K Q := by
 obtain ⟨q, r, rfl, _⟩ := hl.2.2.2 hn
 have hlen : (l.map u8v).length = k := by rw [List.length_map, hl.1]
 have hrun := run_copy_row (P := P) w dT sT o.type elem g off dl dc ⟨q, r, none⟩ m c cs.toArray t (l.map u8v) hu hsz hg (by rw [hlen]; exact hk) (hl.cells _ rfl) (by rw [hlen]; simpa using hfit) (oneCell_u8 l)
 rw [hlen] at hrun
 have hrow : (cs.toArray.toList.take off ++ l.map u8v ++ cs.toArray.toList.drop (off + k)).toArray = cs2.toArray := by
  rw [← hc2]
 rw [hrow] at hrun
 unfold Oper.wp
 simp [execOp, ho, resolve, invoke, builtin, hd, hs, hrun, Result.andThen]
 exact h _ (setRow_heap w g _ _ t _ hg) ⟨rfl, rfl, rfl, by simp [World.setRow], fun j _ hj => setRow_other w g j _ (fun e => hj (by rw [e]))⟩
open Go.RowKit

theorem sl_at {w : World} {g o n c j : Nat} {l : List UInt8} {x : UInt8} (h : Sl w (some ⟨g, o, none⟩) n c l) (hx : l[j]? = some x) : w.cell? ⟨g, o + j, none⟩ = some (.int .u8 (x.toNat : Int)) := by
 obtain ⟨h1, h2, h3, h4⟩ := h
 have hj : j < l.length := by
  rcases Nat.lt_or_ge j l.length with h | h
  ·exact h
  ·rw [List.getElem?_eq_none h] at hx
   exact absurd hx (by simp)
 obtain ⟨g', o', e, hc⟩ := h4 (by omega)
 injection e with e
 injection e with e1 e2
 subst e1
 subst e2
 exact hc j x hx
theorem sl_some {w : World} {A : Option Addr} {n c : Nat} {l : List UInt8} (h : Sl w A n c l) (hn : 0 < n) : ∃ g o, A = some ⟨g, o, none⟩ := by
 obtain ⟨g, o, e, _⟩ := h.2.2.2 hn
 exact ⟨g, o, e⟩
open Go.RowKit

/-- How many bytes the header of the inner packet has, if there is one. -/
def inH (l : List UInt8) : Option Nat :=
 if l.length < 20 then none else if (l.getD 0 0).toNat / 16 ≠ 4 then none else if hlen (l.getD 0 0) < 20 then none else if l.length < hlen (l.getD 0 0) + 4 then none else if ck (l.take (hlen (l.getD 0 0))) ≠ 0 then none else some (hlen (l.getD 0 0))
theorem hlen_le (x : UInt8) : hlen x ≤ 60 := by unfold hlen; omega
theorem inner_y {gB oB h : Nat} {n c : Nat} {l : List UInt8} (w : World) (lb : Sl w (some ⟨gB, oB, none⟩) n c l) (hm : n ≤ 100000) (h1 : 20 ≤ n) (h2 : (l.getD 0 0).toNat / 16 = 4) (hh : hlen (l.getD 0 0) = h) (h3 : 20 ≤ h) (h4 : h + 4 ≤ n) (h5 : ck (l.take h) = 0) : Calls Tryz.prog 106 #[.slice (some ⟨gB, oB, none⟩) n c] w fun e w' => e = .returned (.tuple #[.agg #[.slice (some ⟨gB, oB, none⟩) n c, .int .i64 (h : Int)], .bool true]) ∧ Below w.heap.size w w' := by
 obtain ⟨x, hx⟩ : ∃ x, l[0]? = some x := ⟨_, List.getElem?_eq_getElem (by have h1_ := lb.1; omega)⟩
 have hxd : l.getD 0 0 = x := by rw [List.getD_eq_getElem?_getD, hx]; rfl
 rw [hxd] at h2 hh
 have HX := Lib.hid hx
 clear hx hxd
 have x0 : (0 : Int) ≤ x.toNat := by omega
 have x1 : (x.toNat : Int) < 256 := by have := x.toNat_lt; omega
 have e1 : ((x.toNat : Int) / 16 == 4) = true := by rw [beq_iff_eq]; omega
 have e2 : ((x.toNat : Int) / 16 != 4) = false := by rw [bne_eq_false_iff_eq]; omega
 have t1 : decide ((n : Int) < 20) = false := decide_eq_false (by omega)
 have n0 : (0 : Int) < n := by omega
 have ew : (x.toNat : Int) % 16 * 4 = (h : Int) := by rw [← hh]; unfold hlen; omega
 have ew2 : (x.toNat : Int) / 1 % 16 * 4 = (h : Int) := by rw [← hh]; unfold hlen; omega
 have h60 : (h : Int) ≤ 60 := by have := hlen_le x; omega
 have h00 : (0 : Int) ≤ h := by omega
 have eh4 : IntKind.i64.wrap ((h : Int) + 4) = (h : Int) + 4 := IntWalk.i64_in _ (by omega)
 have t2 : decide ((h : Int) < 20) = false := decide_eq_false (by omega)
 have t3 : decide ((n : Int) < (h : Int) + 4) = false := decide_eq_false (by omega)
 have HH4 := Lib.hid h4
 have HM := Lib.hid hm
 have HCK : Hid (decide (ck (l.take h) = 0) = true) := Lib.hid (decide_eq_true h5)
 clear h1 h2 h3 h4 h5 hh hm
 have bel := Below.refl w.heap.size w
 go_enter Tryz.func106, Tryz.ntmps106
 go_wp2_with (first | ((with_reducible show wpList _ _ _ (⟨some 2, _, _, _, _, _⟩ :: _) _ _); refine wpList_new_a rfl 160 rfl #[.slice none 0 0, .int .i64 0] (by kernel_rfl) ?_; intro g2 w1 ge hh bb; have av_lb_rB := lb.av_new ge; have orB := Nat.le_trans bel.size ge; replace lb := lb.below bb; replace bel := bel.trans (bb.mono bel.size); have hrB := hh; clear hh ge bb; have R11 := (by have h_ := sl_at lb (j := 0) HX.out; rw [Nat.add_zero] at h_; exact h_); have R18 := (by have h_ := sl_at lb (j := 0) HX.out; rw [Nat.add_zero] at h_; exact h_); obtain ⟨A34, c34, r34, f34, u34⟩ := piece_front lb (k := h) (by have := HH4.out; omega); have fr8 := f34 _ lb; have av_fr8_rB := av_lb_rB.sub u34; clear f34 u34))
 try clear R11
 try clear R18
 with_reducible refine (fitsd _ _ _ _ _ fr8).mono ?_
 rintro e w2 ⟨rfl, b2⟩
 replace hrB := blk_u hrB b2
 replace lb := lb.below b2
 replace fr8 := fr8.below b2
 replace bel := bel.trans (b2.mono bel.size)
 clear b2
 rw [HCK.out]
 go_wp2_with (first | ((with_reducible show wpList _ _ _ (⟨none, Op.store _ (.tmp 2) _, _, _, _, _⟩ :: _) _ _); refine wpList_store_blk rfl 160 (.tmp 2) (.tmp 41) rfl g2 rfl _ rfl _ 160 hrB (by rfl) (by kernel_rfl) (by kernel_rfl) ?_; intro w3 hq gr; replace lb := lb.away av_lb_rB gr; replace fr8 := fr8.away av_fr8_rB gr; replace bel := below_grown bel gr orB bel.size; clear hrB; have hrB := hq; clear hq gr))
 exact bodyPost_ret (results_cell_tmp_row rfl _ _ _ _ _ _ _ rfl hrB Tryz.underlying160 rfl (by kernel_rfl) (.bool true) rfl) rfl ⟨rfl, bel⟩
theorem inproto {gB oB n c h : Nat} {l : List UInt8} {x : UInt8} (w : World) (lb : Sl w (some ⟨gB, oB, none⟩) n c l) (hx : l[9]? = some x) : Calls Tryz.prog 131 #[.agg #[.slice (some ⟨gB, oB, none⟩) n c, .int .i64 (h : Int)]] w fun e w' => e = .returned (.int .i64 (x.toNat : Int)) ∧ Below w.heap.size w w' := by
 have HX := Lib.hid hx
 have n9 : (9 : Int) < n := by have h1_ := (List.getElem?_eq_some_iff.1 hx).1; have h2_ := lb.1; omega
 have x0 : (0 : Int) ≤ x.toNat := by omega
 have x1 : (x.toNat : Int) < 256 := by have := x.toNat_lt; omega
 clear hx
 have bel := Below.refl w.heap.size w
 go_enter Tryz.func131, Tryz.ntmps131
 go_wp2_with (first | ((with_reducible show wpList _ _ _ (⟨some 1, _, _, _, _, _⟩ :: _) _ _); refine wpList_box_n rfl 160 (.tmp 0) rfl #[.slice (some ⟨gB, oB, none⟩) n c, .int .i64 (h : Int)] rfl ?_; intro g1 w1 ge lt hh bb; have av_lb_iB := lb.av_new ge; have oiB := Nat.le_trans bel.size ge; replace lb := lb.below bb; replace bel := bel.trans (bb.mono bel.size); have hiB := hh; clear hh lt ge bb; have R4 := cell_lit hiB 0 _ rfl; have R6 := sl_at lb (j := 9) HX.out))
 try clear R4
 try clear R6
 go_ret
 exact ⟨rfl, bel⟩
def knB (p : Int) : Bool := (p == 17) || ((p == 6) || (p == 1))
theorem iskn_a {p : Int} (w : World) (e17 : (p == 17) = true) : Calls Tryz.prog 130 #[.int .i64 p] w fun e w' => e = .returned (.bool true) ∧ w = w' := by
 skip
 skip
 go_enter Tryz.func130, Tryz.ntmps130
 go_wp2_with fail
 go_ret
 exact ⟨rfl, rfl⟩
theorem iskn_b {p : Int} (w : World) (e17 : (p == 17) = false) (e6 : (p == 6) = true) : Calls Tryz.prog 130 #[.int .i64 p] w fun e w' => e = .returned (.bool true) ∧ w = w' := by
 skip
 skip
 go_enter Tryz.func130, Tryz.ntmps130
 go_wp2_with fail
 go_ret
 exact ⟨rfl, rfl⟩
theorem iskn_c {p : Int} (w : World) (e17 : (p == 17) = false) (e6 : (p == 6) = false) (e1 : (p == 1) = true) : Calls Tryz.prog 130 #[.int .i64 p] w fun e w' => e = .returned (.bool true) ∧ w = w' := by
 skip
 skip
 go_enter Tryz.func130, Tryz.ntmps130
 go_wp2_with fail
 go_ret
 exact ⟨rfl, rfl⟩
theorem iskn_d {p : Int} (w : World) (e17 : (p == 17) = false) (e6 : (p == 6) = false) (e1 : (p == 1) = false) : Calls Tryz.prog 130 #[.int .i64 p] w fun e w' => e = .returned (.bool false) ∧ w = w' := by
 skip
 skip
 go_enter Tryz.func130, Tryz.ntmps130
 go_wp2_with fail
 go_ret
 exact ⟨rfl, rfl⟩
theorem iskn_any (p : Int) (w : World) : Calls Tryz.prog 130 #[.int .i64 p] w fun e w' => e = .returned (.bool (knB p)) ∧ w = w' := by
 unfold knB
 rcases h1 : (p == 17) with _ | _
 ·rcases h2 : (p == 6) with _ | _
  ·rcases h3 : (p == 1) with _ | _
   ·exact iskn_d w h1 h2 h3
   ·exact iskn_c w h1 h2 h3
  ·exact iskn_b w h1 h2
 ·exact iskn_a w h1
theorem insender (w : World) : Calls Tryz.prog 108 #[] w fun e w' => e = .returned (.agg #[.int .i64 12, .int .i64 0]) ∧ Below w.heap.size w w' := by
 have bel := Below.refl w.heap.size w
 go_enter Tryz.func108, Tryz.ntmps108
 go_wp2_with (first | ((with_reducible show wpList _ _ _ (⟨some 0, _, _, _, _, _⟩ :: _) _ _); refine wpList_new_a rfl 168 rfl #[.int .i64 0, .int .i64 0] (by kernel_rfl) ?_; intro g0 w1 ge hh bb; have orB := Nat.le_trans bel.size ge; replace bel := bel.trans (bb.mono bel.size); have hrB := hh; clear hh ge bb) | ((with_reducible show wpList _ _ _ (⟨none, Op.store _ (.tmp 0) _, _, _, _, _⟩ :: _) _ _); refine wpList_store_blk rfl 168 (.tmp 0) (.tmp 1) rfl g0 rfl _ rfl _ 168 hrB (by rfl) (by kernel_rfl) (by kernel_rfl) ?_; intro w2 hq gr; replace bel := below_grown bel gr orB bel.size; clear hrB; have hrB := hq; clear hq gr))
 exact bodyPost_ret (results_cell_row' rfl _ _ _ _ _ _ _ rfl hrB Tryz.underlying168 rfl (by kernel_rfl)) rfl ⟨rfl, bel⟩
theorem inport_i {gB oB n c h : Nat} {l : List UInt8} {x : UInt8} (w : World) (lb : Sl w (some ⟨gB, oB, none⟩) n c l) (hx : l[9]? = some x) (h60 : h ≤ 60) (h1 : x.toNat = 1) : Calls Tryz.prog 132 #[.agg #[.slice (some ⟨gB, oB, none⟩) n c, .int .i64 (h : Int)], .agg #[.int .i64 12, .int .i64 0]] w fun e w' => e = .returned (.int .i64 ((h : Int) + 4)) ∧ Below w.heap.size w w' := by
 have hx1 : ((x.toNat : Int) == 1) = true := by rw [beq_iff_eq]; omega
 clear h1
 have eh4 : IntKind.i64.wrap ((h : Int) + 4) = (h : Int) + 4 := IntWalk.i64_in _ (by omega)
 have eh0 : IntKind.i64.wrap (h : Int) = (h : Int) := IntWalk.i64_in _ (by omega)
 have HX := Lib.hid hx
 clear hx
 have bel := Below.refl w.heap.size w
 go_enter Tryz.func132, Tryz.ntmps132
 go_wp2_with (first | ((with_reducible show wpList _ _ _ (⟨some 2, _, _, _, _, _⟩ :: _) _ _); refine wpList_box_n rfl 160 (.tmp 0) rfl #[.slice (some ⟨gB, oB, none⟩) n c, .int .i64 (h : Int)] rfl ?_; intro g2 w1 ge lt hh bb; have av_lb_iB := lb.av_new ge; have oiB := Nat.le_trans bel.size ge; replace lb := lb.below bb; replace bel := bel.trans (bb.mono bel.size); have hiB := hh; clear hh lt ge bb) | ((with_reducible show wpList _ _ _ (⟨some 3, _, _, _, _, _⟩ :: _) _ _); refine wpList_box_n rfl 168 (.tmp 1) rfl #[.int .i64 12, .int .i64 0] rfl ?_; intro g3 w2 ge lt hh bb; have d_iB_eB := ne_new (hlt hiB) ge; have av_lb_eB := lb.av_new ge; have oeB := Nat.le_trans bel.size ge; replace hiB := blk_u hiB bb; replace lb := lb.below bb; replace bel := bel.trans (bb.mono bel.size); have heB := hh; clear hh lt ge bb; have R5 := Lib.hid (range_lit hiB 0 2 [.slice (some ⟨gB, oB, none⟩) n c, .int .i64 (h : Int)] rfl)) | ((with_reducible show wpList _ _ _ (⟨some 5, _, _, _, _, _⟩ :: _) _ _); refine wpList_load_rng 160 (.tmp 2) rfl (by kernel_rfl) _ _ rfl _ R5.out _ Tryz.underlying160 rfl (by kernel_rfl) ?_))
 try clear R5
 with_reducible refine (inproto _ lb HX.out).mono ?_
 rintro e w3 ⟨rfl, b3⟩
 replace hiB := blk_u hiB b3
 replace heB := blk_u heB b3
 replace lb := lb.below b3
 replace bel := bel.trans (b3.mono bel.size)
 clear b3
 have R9 := cell_lit hiB 1 _ rfl
 go_wp2_with fail
 clear R9
 go_ret
 exact ⟨rfl, bel⟩
theorem inport_o {gB oB n c h : Nat} {l : List UInt8} {x : UInt8} (w : World) (lb : Sl w (some ⟨gB, oB, none⟩) n c l) (hx : l[9]? = some x) (h60 : h ≤ 60) (h1 : x.toNat ≠ 1) : Calls Tryz.prog 132 #[.agg #[.slice (some ⟨gB, oB, none⟩) n c, .int .i64 (h : Int)], .agg #[.int .i64 12, .int .i64 0]] w fun e w' => e = .returned (.int .i64 (h : Int)) ∧ Below w.heap.size w w' := by
 have hx1 : ((x.toNat : Int) == 1) = false := by rw [beq_eq_false_iff_ne]; omega
 clear h1
 have eh4 : IntKind.i64.wrap ((h : Int) + 4) = (h : Int) + 4 := IntWalk.i64_in _ (by omega)
 have eh0 : IntKind.i64.wrap (h : Int) = (h : Int) := IntWalk.i64_in _ (by omega)
 have HX := Lib.hid hx
 clear hx
 have bel := Below.refl w.heap.size w
 go_enter Tryz.func132, Tryz.ntmps132
 go_wp2_with (first | ((with_reducible show wpList _ _ _ (⟨some 2, _, _, _, _, _⟩ :: _) _ _); refine wpList_box_n rfl 160 (.tmp 0) rfl #[.slice (some ⟨gB, oB, none⟩) n c, .int .i64 (h : Int)] rfl ?_; intro g2 w1 ge lt hh bb; have av_lb_iB := lb.av_new ge; have oiB := Nat.le_trans bel.size ge; replace lb := lb.below bb; replace bel := bel.trans (bb.mono bel.size); have hiB := hh; clear hh lt ge bb) | ((with_reducible show wpList _ _ _ (⟨some 3, _, _, _, _, _⟩ :: _) _ _); refine wpList_box_n rfl 168 (.tmp 1) rfl #[.int .i64 12, .int .i64 0] rfl ?_; intro g3 w2 ge lt hh bb; have d_iB_eB := ne_new (hlt hiB) ge; have av_lb_eB := lb.av_new ge; have oeB := Nat.le_trans bel.size ge; replace hiB := blk_u hiB bb; replace lb := lb.below bb; replace bel := bel.trans (bb.mono bel.size); have heB := hh; clear hh lt ge bb; have R5 := Lib.hid (range_lit hiB 0 2 [.slice (some ⟨gB, oB, none⟩) n c, .int .i64 (h : Int)] rfl)) | ((with_reducible show wpList _ _ _ (⟨some 5, _, _, _, _, _⟩ :: _) _ _); refine wpList_load_rng 160 (.tmp 2) rfl (by kernel_rfl) _ _ rfl _ R5.out _ Tryz.underlying160 rfl (by kernel_rfl) ?_))
 try clear R5
 with_reducible refine (inproto _ lb HX.out).mono ?_
 rintro e w3 ⟨rfl, b3⟩
 replace hiB := blk_u hiB b3
 replace heB := blk_u heB b3
 replace lb := lb.below b3
 replace bel := bel.trans (b3.mono bel.size)
 clear b3
 have R12 := cell_lit hiB 1 _ rfl
 have R14 := cell_lit heB 1 _ rfl
 go_wp2_with fail
 clear R12 R14
 go_ret
 exact ⟨rfl, bel⟩
theorem inaddr {y0 y1 y2 y3 : UInt8} {gB oB n c h : Nat} {l : List UInt8} (w : World) (lb : Sl w (some ⟨gB, oB, none⟩) n c l) (hn : 16 ≤ n) (hy : (l.drop 12).take 4 = [y0, y1, y2, y3]) : Calls Tryz.prog 129 #[.agg #[.slice (some ⟨gB, oB, none⟩) n c, .int .i64 (h : Int)], .agg #[.int .i64 12, .int .i64 0]] w fun e w' => e = .returned (.agg #[.int .u8 (y0.toNat : Int), .int .u8 (y1.toNat : Int), .int .u8 (y2.toNat : Int), .int .u8 (y3.toNat : Int)]) ∧ Below w.heap.size w w' := by
 have HN12 : Hid (16 ≤ n) := Lib.hid hn
 have HY := Lib.hid hy
 have n12 : (12 : Int) ≤ n := by omega
 clear hn hy
 have bel := Below.refl w.heap.size w
 go_enter Tryz.func129, Tryz.ntmps129
 go_wp2_with (first | ((with_reducible show wpList _ _ _ (⟨some 2, _, _, _, _, _⟩ :: _) _ _); refine wpList_box_n rfl 160 (.tmp 0) rfl #[.slice (some ⟨gB, oB, none⟩) n c, .int .i64 (h : Int)] rfl ?_; intro g2 w1 ge lt hh bb; have av_lb_iB := lb.av_new ge; have oiB := Nat.le_trans bel.size ge; replace lb := lb.below bb; replace bel := bel.trans (bb.mono bel.size); have hiB := hh; clear hh lt ge bb) | ((with_reducible show wpList _ _ _ (⟨some 3, _, _, _, _, _⟩ :: _) _ _); refine wpList_box_n rfl 168 (.tmp 1) rfl #[.int .i64 12, .int .i64 0] rfl ?_; intro g3 w2 ge lt hh bb; have d_iB_eB := ne_new (hlt hiB) ge; have av_lb_eB := lb.av_new ge; have oeB := Nat.le_trans bel.size ge; replace hiB := blk_u hiB bb; replace lb := lb.below bb; replace bel := bel.trans (bb.mono bel.size); have heB := hh; clear hh lt ge bb) | ((with_reducible show wpList _ _ _ (⟨some 4, _, _, _, _, _⟩ :: _) _ _); refine wpList_new_a rfl 35 rfl #[.int .u8 0, .int .u8 0, .int .u8 0, .int .u8 0] (by kernel_rfl) ?_; intro g4 w3 ge hh bb; have d_iB_rB := ne_new (hlt hiB) ge; have d_eB_rB := ne_new (hlt heB) ge; have av_lb_rB := lb.av_new ge; have orB := Nat.le_trans bel.size ge; replace hiB := blk_u hiB bb; replace heB := blk_u heB bb; replace lb := lb.below bb; replace bel := bel.trans (bb.mono bel.size); have hrB := hh; clear hh ge bb) | ((with_reducible show wpList _ _ _ (⟨some 5, _, _, _, _, _⟩ :: _) _ _); refine wpList_new_a rfl 35 rfl #[.int .u8 0, .int .u8 0, .int .u8 0, .int .u8 0] (by kernel_rfl) ?_; intro g5 w4 ge hh bb; have d_iB_aB := ne_new (hlt hiB) ge; have d_eB_aB := ne_new (hlt heB) ge; have d_rB_aB := ne_new (hlt hrB) ge; have av_lb_aB := lb.av_new ge; have oaB := Nat.le_trans bel.size ge; replace hiB := blk_u hiB bb; replace heB := blk_u heB bb; replace hrB := blk_u hrB bb; replace lb := lb.below bb; replace bel := bel.trans (bb.mono bel.size); have haB := hh; clear hh ge bb))
 replace bel := bel.drew
 replace hiB : w4.drew.heap[g2]? = _ := hiB
 replace heB : w4.drew.heap[g3]? = _ := heB
 replace hrB : w4.drew.heap[g4]? = _ := hrB
 replace haB : w4.drew.heap[g5]? = _ := haB
 replace lb := lb.drew
 refine wp_region_held_drew (S := fun W => W.heap[g2]? = some (.cells #[.slice (some ⟨gB, oB, none⟩) n c, .int .i64 (h : Int)] 160 (0, 0)) ∧ W.heap[g3]? = some (.cells #[.int .i64 12, .int .i64 0] 168 (0, 0))) (by kernel_rfl) ⟨hiB, heB⟩ (fun hH => ?_)
 generalize w4.drew = w5 at bel hiB heB hrB haB lb hH ⊢
 refine wpAnyH_take (i := 0) (v := ?_) rfl (by kernel_rfl) (by kernel_rfl) (by kernel_rfl) (fun _ _ _ h => h) (Or.inl ⟨by rfl, ?_⟩) hH ?_
 rotate_left
 ·((intro W hW; clear hW; go_simp) <;> with_reducible rfl)
 simp only [Act.put, List.getElem_toArray, List.getElem_cons_zero, List.setIfInBounds_toArray, List.set_cons_zero, List.set_cons_succ]
 refine wpAnyH_take (i := 1) (v := ?_) rfl (by kernel_rfl) (by kernel_rfl) (by kernel_rfl) (fun _ _ _ h => h) (Or.inl ⟨by rfl, ?_⟩) hH ?_
 rotate_left
 ·((intro W hW; clear hW; go_simp) <;> with_reducible rfl)
 simp only [sq3, sq4]
 refine wpAnyH_take (i := 2) (v := ?_) rfl (by kernel_rfl) (by kernel_rfl) (by kernel_rfl) (fun _ _ _ h => h) (Or.inl ⟨by rfl, ?_⟩) hH ?_
 rotate_left
 ·((intro W hW; have hk := cell_lit (hW.1) 0 _ rfl; clear hW; go_simp) <;> with_reducible rfl)
 simp only [sq3, sq4]
 refine wpAnyH_take (i := 3) (v := ?_) rfl (by kernel_rfl) (by kernel_rfl) (by kernel_rfl) (fun _ _ _ h => h) (Or.inl ⟨by rfl, ?_⟩) hH ?_
 rotate_left
 ·((intro W hW; clear hW; go_simp) <;> with_reducible rfl)
 simp only [sq3, sq4]
 refine wpAnyH_take (i := 4) (v := ?_) rfl (by kernel_rfl) (by kernel_rfl) (by kernel_rfl) (fun _ _ _ h => h) (Or.inl ⟨by rfl, ?_⟩) hH ?_
 rotate_left
 ·((intro W hW; have hk := cell_lit (hW.2) 0 _ rfl; clear hW; go_simp) <;> with_reducible rfl)
 simp only [sq3, sq4]
 obtain ⟨A11, c11, r11, f11, u11⟩ := piece_back lb (k := 12) (by have := HN12.out; omega)
 replace r11 : ∀ W, (Instr.slice 36 (.slice (some ⟨gB, oB, none⟩) n c) (some (.int .i64 12)) none none).run Tryz.prog W = .ok (.slice A11 (n - 12) c11) W := r11
 have bk := f11 _ lb
 have av_bk_iB := av_lb_iB.sub u11
 have av_bk_eB := av_lb_eB.sub u11
 have av_bk_rB := av_lb_rB.sub u11
 have av_bk_aB := av_lb_aB.sub u11
 clear f11 u11
 have HB4 := bk.take (k := 4) (by have := HN12.out; omega)
 rw [HY.out] at HB4
 refine wpAnyH_take (i := 5) (v := ?_) rfl (by kernel_rfl) (by kernel_rfl) (by kernel_rfl) (fun _ _ _ h => h) (Or.inl ⟨by rfl, ?_⟩) hH ?_
 rotate_left
 ·((intro W hW; clear hW; go_simp) <;> with_reducible rfl)
 simp only [sq3, sq4]
 refine wpAnyH_ready (rs := [6]) (by kernel_rfl) (by simp) ?_
 refine AllReadyH.cons (o := _) rfl (fun K hK => ?_) AllReadyH.nil
 simp only [sq3]
 rw [if_pos (by rfl)]
 refine wp_copy_min (.tmp 6) (.tmp 11) 36 36 rfl 5 Tryz.underlying36 (by kernel_rfl) g5 0 4 4 (n - 12) c11 4 A11 [y0, y1, y2, y3] [.int .u8 0, .int .u8 0, .int .u8 0, .int .u8 0] [.int .u8 (y0.toNat : Int), .int .u8 (y1.toNat : Int), .int .u8 (y2.toNat : Int), .int .u8 (y3.toNat : Int)] 35 rfl rfl haB (by simp) HB4 (by have := HN12.out; show 4 = min (n - 12) 4; omega) (by decide) rfl ?_
 intro w6 hq gr_
 clear HB4
 clear bk
 replace lb := lb.away av_lb_aB gr_
 replace hiB := blk_a hiB gr_ d_iB_aB
 replace heB := blk_a heB gr_ d_eB_aB
 replace hrB := blk_a hrB gr_ d_rB_aB
 replace bel := below_grown bel gr_ oaB bel.size
 clear haB
 have haB := hq
 clear hq gr_
 refine hK.out _ _ ⟨hiB, heB⟩ (fun hH7 => ?_)
 clear hK K
 simp only [sq4]
 refine wpAnyH_done (by kernel_rfl) ?_ _
 have R13 := Lib.hid (range_lit haB 0 4 [.int .u8 (y0.toNat : Int), .int .u8 (y1.toNat : Int), .int .u8 (y2.toNat : Int), .int .u8 (y3.toNat : Int)] rfl)
 go_wp2_with (first | ((with_reducible show wpList _ _ _ (⟨some 13, _, _, _, _, _⟩ :: _) _ _); refine wpList_load_rng 35 (.tmp 5) rfl (by kernel_rfl) _ _ rfl _ R13.out _ Tryz.underlying35 rfl (by kernel_rfl) ?_) | ((with_reducible show wpList _ _ _ (⟨none, Op.store _ (.tmp 4) _, _, _, _, _⟩ :: _) _ _); refine wpList_store_blk rfl 35 (.tmp 4) (.tmp 13) rfl g4 rfl _ rfl _ 35 hrB (by rfl) (by kernel_rfl) (by kernel_rfl) ?_; intro w8 hq gr; replace lb := lb.away av_lb_rB gr; replace hiB := blk_a hiB gr d_iB_rB; replace heB := blk_a heB gr d_eB_rB; replace haB := blk_a haB gr (ne_symm d_rB_aB); replace bel := below_grown bel gr orB bel.size; clear hrB; have hrB := hq; clear hq gr))
 try clear R13
 exact bodyPost_ret (results_cell_row' rfl _ _ _ _ _ _ _ rfl hrB Tryz.underlying35 rfl (by kernel_rfl)) rfl ⟨rfl, bel⟩
theorem inport_any {x : UInt8} {at_ : Nat} {gB oB n c h : Nat} {l : List UInt8} (w : World) (lb : Sl w (some ⟨gB, oB, none⟩) n c l) (hx : l[9]? = some x) (h60 : h ≤ 60) (ha : (if x.toNat = 1 then h + 4 else h) = at_) : Calls Tryz.prog 132 #[.agg #[.slice (some ⟨gB, oB, none⟩) n c, .int .i64 (h : Int)], .agg #[.int .i64 12, .int .i64 0]] w fun e w' => e = .returned (.int .i64 (at_ : Int)) ∧ Below w.heap.size w w' := by
 by_cases h1 : x.toNat = 1
 ·rw [if_pos h1] at ha
  subst ha
  refine (inport_i w lb hx h60 h1).mono ?_
  rintro e w' ⟨rfl, b⟩
  exact ⟨rfl, b⟩
 ·rw [if_neg h1] at ha
  subst ha
  exact inport_o w lb hx h60 h1
theorem inflow_y {p0 p1 x y0 y1 y2 y3 : UInt8} {gB oB n c h at_ : Nat} {l : List UInt8} (w : World) (lb : Sl w (some ⟨gB, oB, none⟩) n c l) (hx : l[9]? = some x) (hn : 16 ≤ n) (hy : (l.drop 12).take 4 = [y0, y1, y2, y3]) (hk : knB (x.toNat : Int) = true) (h60 : h ≤ 60) (ha : (if x.toNat = 1 then h + 4 else h) = at_) (hs : at_ + 2 ≤ n) (hp : (l.drop at_).take 2 = [p0, p1]) : Calls Tryz.prog 107 #[.agg #[.slice (some ⟨gB, oB, none⟩) n c, .int .i64 (h : Int)], .agg #[.int .i64 12, .int .i64 0], .agg #[.int .u8 (y0.toNat : Int), .int .u8 (y1.toNat : Int), .int .u8 (y2.toNat : Int), .int .u8 (y3.toNat : Int)]] w fun e w' => e = .returned (.tuple #[.agg #[.int .i64 (x.toNat : Int), .int .u8 (y0.toNat : Int), .int .u8 (y1.toNat : Int), .int .u8 (y2.toNat : Int), .int .u8 (y3.toNat : Int), .int .i64 ((be [p0, p1] : Nat) : Int)], .int .i64 0]) ∧ Below w.heap.size w w' := by
 have hab : ∀ W, (binOp .neq 35 (.agg #[.int .u8 (y0.toNat : Int), .int .u8 (y1.toNat : Int), .int .u8 (y2.toNat : Int), .int .u8 (y3.toNat : Int)]) (.agg #[.int .u8 (y0.toNat : Int), .int .u8 (y1.toNat : Int), .int .u8 (y2.toNat : Int), .int .u8 (y3.toNat : Int)])).run Tryz.prog W = .ok (.bool false) W := fun W => by have h_ := nea_b ⟨y0, y1, y2, y3⟩ ⟨y0, y1, y2, y3⟩ W; rw [Ad4.eqB_self] at h_; exact h_
 have HX := Lib.hid hx
 have HN16 := Lib.hid hn
 have HY := Lib.hid hy
 clear hx hn hy
 have HK := Lib.hid hk
 clear hk
 have H60 := Lib.hid h60
 have HAT := Lib.hid ha
 have a64 : (at_ : Int) ≤ 64 := by rw [← ha]; split <;> omega
 have a0 : (0 : Int) ≤ at_ := by omega
 have ew2 : IntKind.i64.wrap ((at_ : Int) + 2) = (at_ : Int) + 2 := IntWalk.i64_in _ (by omega)
 have t3 : decide ((n : Int) < (at_ : Int) + 2) = false := decide_eq_false (by omega)
 have HS2 := Lib.hid hs
 have HP2 := Lib.hid hp
 clear hs h60 ha hp
 have bel := Below.refl w.heap.size w
 go_enter Tryz.func107, Tryz.ntmps107
 go_wp2_with (first | ((with_reducible show wpList _ _ _ (⟨some 3, _, _, _, _, _⟩ :: _) _ _); refine wpList_box_n rfl 160 (.tmp 0) rfl #[.slice (some ⟨gB, oB, none⟩) n c, .int .i64 (h : Int)] rfl ?_; intro g3 w1 ge lt hh bb; have av_lb_iB := lb.av_new ge; have oiB := Nat.le_trans bel.size ge; replace lb := lb.below bb; replace bel := bel.trans (bb.mono bel.size); have hiB := hh; clear hh lt ge bb) | ((with_reducible show wpList _ _ _ (⟨some 4, _, _, _, _, _⟩ :: _) _ _); refine wpList_box_n rfl 168 (.tmp 1) rfl #[.int .i64 12, .int .i64 0] rfl ?_; intro g4 w2 ge lt hh bb; have d_iB_eB := ne_new (hlt hiB) ge; have av_lb_eB := lb.av_new ge; have oeB := Nat.le_trans bel.size ge; replace hiB := blk_u hiB bb; replace lb := lb.below bb; replace bel := bel.trans (bb.mono bel.size); have heB := hh; clear hh lt ge bb) | ((with_reducible show wpList _ _ _ (⟨some 5, _, _, _, _, _⟩ :: _) _ _); refine wpList_box_n rfl 35 (.tmp 2) rfl #[.int .u8 (y0.toNat : Int), .int .u8 (y1.toNat : Int), .int .u8 (y2.toNat : Int), .int .u8 (y3.toNat : Int)] rfl ?_; intro g5 w3 ge lt hh bb; have d_iB_aB := ne_new (hlt hiB) ge; have d_eB_aB := ne_new (hlt heB) ge; have av_lb_aB := lb.av_new ge; have oaB := Nat.le_trans bel.size ge; replace hiB := blk_u hiB bb; replace heB := blk_u heB bb; replace lb := lb.below bb; replace bel := bel.trans (bb.mono bel.size); have haB := hh; clear hh lt ge bb) | ((with_reducible show wpList _ _ _ (⟨some 6, _, _, _, _, _⟩ :: _) _ _); refine wpList_new_a rfl 164 rfl #[.int .i64 0, .int .u8 0, .int .u8 0, .int .u8 0, .int .u8 0, .int .i64 0] (by kernel_rfl) ?_; intro g6 w4 ge hh bb; have d_iB_rB := ne_new (hlt hiB) ge; have d_eB_rB := ne_new (hlt heB) ge; have d_aB_rB := ne_new (hlt haB) ge; have av_lb_rB := lb.av_new ge; have orB := Nat.le_trans bel.size ge; replace hiB := blk_u hiB bb; replace heB := blk_u heB bb; replace haB := blk_u haB bb; replace lb := lb.below bb; replace bel := bel.trans (bb.mono bel.size); have hrB := hh; clear hh ge bb))
 replace bel := bel.drew
 replace hiB : w4.drew.heap[g3]? = _ := hiB
 replace heB : w4.drew.heap[g4]? = _ := heB
 replace haB : w4.drew.heap[g5]? = _ := haB
 replace hrB : w4.drew.heap[g6]? = _ := hrB
 replace lb := lb.drew
 refine wp_region_held_drew (S := fun W => W.heap[g3]? = some (.cells #[.slice (some ⟨gB, oB, none⟩) n c, .int .i64 (h : Int)] 160 (0, 0)) ∧ W.heap[g4]? = some (.cells #[.int .i64 12, .int .i64 0] 168 (0, 0)) ∧ W.heap[g5]? = some (.cells #[.int .u8 (y0.toNat : Int), .int .u8 (y1.toNat : Int), .int .u8 (y2.toNat : Int), .int .u8 (y3.toNat : Int)] 35 (0, 0))) (by kernel_rfl) ⟨hiB, heB, haB⟩ (fun hH => ?_)
 generalize w4.drew = w5 at bel hiB heB haB hrB lb hH ⊢
 refine wpAnyH_take (i := 0) (v := .agg #[.slice (some ⟨gB, oB, none⟩) n c, .int .i64 (h : Int)]) rfl (by kernel_rfl) (by kernel_rfl) (by kernel_rfl) (fun _ _ _ h => h) (yieldsIf_load_part (by kernel_rfl) 160 _ rfl g3 0 2 rfl _ 160 (0, 0) (fun W hW => hW.1) _ rfl _ Tryz.underlying160 rfl (by kernel_rfl)) hH ?_
 simp only [Act.put, List.getElem_toArray, List.getElem_cons_zero, List.setIfInBounds_toArray, List.set_cons_zero, List.set_cons_succ]
 refine wpAnyH_take (i := 1) (v := .agg #[.int .i64 12, .int .i64 0]) rfl (by kernel_rfl) (by kernel_rfl) (by kernel_rfl) (fun _ _ _ h => h) (yieldsIf_load_part (by kernel_rfl) 168 _ rfl g4 0 2 rfl _ 168 (0, 0) (fun W hW => hW.2.1) _ rfl _ Tryz.underlying168 rfl (by kernel_rfl)) hH ?_
 simp only [sq3, sq4]
 refine wpAnyH_take (i := 3) (v := .agg #[.int .u8 (y0.toNat : Int), .int .u8 (y1.toNat : Int), .int .u8 (y2.toNat : Int), .int .u8 (y3.toNat : Int)]) rfl (by kernel_rfl) (by kernel_rfl) (by kernel_rfl) (fun _ _ _ h => h) (yieldsIf_load_part (by kernel_rfl) 35 _ rfl g5 0 4 rfl _ 35 (0, 0) (fun W hW => hW.2.2) _ rfl _ Tryz.underlying35 rfl (by kernel_rfl)) hH ?_
 simp only [sq3, sq4]
 refine wpAnyH_ready (rs := [2]) (by kernel_rfl) (by simp) ?_
 refine AllReadyH.cons (o := _) rfl (fun K hK => ?_) AllReadyH.nil
 simp only [sq3]
 go_simp
 with_reducible refine (inaddr _ lb HN16.out HY.out).mono ?_
 rintro e w6 ⟨rfl, b6⟩
 dsimp only
 replace hiB := blk_u hiB b6
 replace heB := blk_u heB b6
 replace haB := blk_u haB b6
 replace hrB := blk_u hrB b6
 replace lb := lb.below b6
 replace bel := bel.trans (b6.mono bel.size)
 clear b6
 refine hK.out _ _ ⟨hiB, heB, haB⟩ (fun hH7 => ?_)
 clear hK K
 refine wpAnyH_take (i := 4) (v := ?_) rfl (by kernel_rfl) (by kernel_rfl) (by kernel_rfl) (fun _ _ _ h => h) (Or.inl ⟨by rfl, ?_⟩) hH7 ?_
 rotate_left
 ·((intro W hW; clear hW; go_simp) <;> with_reducible rfl)
 simp only [sq3, sq4]
 refine wpAnyH_take (i := 5) (v := ?_) rfl (by kernel_rfl) (by kernel_rfl) (by kernel_rfl) (fun _ _ _ h => h) (Or.inl ⟨by rfl, ?_⟩) hH7 ?_
 rotate_left
 ·((intro W hW; clear hW; go_simp) <;> with_reducible rfl)
 simp only [sq3, sq4]
 refine wpAnyH_take (i := 6) (v := .agg #[.slice (some ⟨gB, oB, none⟩) n c, .int .i64 (h : Int)]) rfl (by kernel_rfl) (by kernel_rfl) (by kernel_rfl) (fun _ _ _ h => h) (yieldsIf_load_part (by kernel_rfl) 160 _ rfl g3 0 2 rfl _ 160 (0, 0) (fun W hW => hW.1) _ rfl _ Tryz.underlying160 rfl (by kernel_rfl)) hH7 ?_
 simp only [sq3, sq4]
 refine wpAnyH_ready (rs := [7]) (by kernel_rfl) (by simp) ?_
 refine AllReadyH.cons (o := _) rfl (fun K hK => ?_) AllReadyH.nil
 simp only [sq3]
 go_simp
 with_reducible refine (inproto _ lb HX.out).mono ?_
 rintro e w8 ⟨rfl, b8⟩
 dsimp only
 replace hiB := blk_u hiB b8
 replace heB := blk_u heB b8
 replace haB := blk_u haB b8
 replace hrB := blk_u hrB b8
 replace lb := lb.below b8
 replace bel := bel.trans (b8.mono bel.size)
 clear b8
 refine hK.out _ _ ⟨hiB, heB, haB⟩ (fun hH9 => ?_)
 clear hK K
 refine wpAnyH_ready (rs := [8]) (by kernel_rfl) (by simp) ?_
 refine AllReadyH.cons (o := _) rfl (fun K hK => ?_) AllReadyH.nil
 simp only [sq3]
 go_simp
 with_reducible refine (iskn_any _ _).mono ?_
 rintro e _ ⟨rfl, rfl⟩
 dsimp only
 rw [HK.out]
 refine hK.out _ _ ⟨hiB, heB, haB⟩ (fun hH10 => ?_)
 clear hK K
 refine wpAnyH_take (i := 9) (v := ?_) rfl (by kernel_rfl) (by kernel_rfl) (by kernel_rfl) (fun _ _ _ h => h) (Or.inl ⟨by rfl, ?_⟩) hH10 ?_
 rotate_left
 ·((intro W hW; clear hW; go_simp) <;> with_reducible rfl)
 simp only [sq3, sq4]
 refine wpAnyH_take (i := 10) (v := ?_) rfl (by kernel_rfl) (by kernel_rfl) (by kernel_rfl) (fun _ _ _ h => h) (Or.inl ⟨by rfl, ?_⟩) hH10 ?_
 rotate_left
 ·((intro W hW; clear hW; go_simp) <;> with_reducible rfl)
 simp only [sq3, sq4]
 refine wpAnyH_done (by kernel_rfl) ?_ _
 have R22 := Lib.hid (range_lit hiB 0 2 [.slice (some ⟨gB, oB, none⟩) n c, .int .i64 (h : Int)] rfl)
 go_wp2_with (first | ((with_reducible show wpList _ _ _ (⟨some 22, _, _, _, _, _⟩ :: _) _ _); refine wpList_load_rng 160 (.tmp 3) rfl (by kernel_rfl) _ _ rfl _ R22.out _ Tryz.underlying160 rfl (by kernel_rfl) ?_; have R23 := Lib.hid (range_lit heB 0 2 [.int .i64 12, .int .i64 0] rfl)) | ((with_reducible show wpList _ _ _ (⟨some 23, _, _, _, _, _⟩ :: _) _ _); refine wpList_load_rng 168 (.tmp 4) rfl (by kernel_rfl) _ _ rfl _ R23.out _ Tryz.underlying168 rfl (by kernel_rfl) ?_))
 try clear R22
 try clear R23
 with_reducible refine (inport_any _ lb HX.out H60.out HAT.out).mono ?_
 rintro e w11 ⟨rfl, b11⟩
 replace hiB := blk_u hiB b11
 replace heB := blk_u heB b11
 replace haB := blk_u haB b11
 replace hrB := blk_u hrB b11
 replace lb := lb.below b11
 replace bel := bel.trans (b11.mono bel.size)
 clear b11
 have R26 := cell_lit hiB 0 _ rfl
 have R33 := cell_lit hiB 0 _ rfl
 obtain ⟨A37, c37, r37, f37, u37⟩ := piece_mid lb (p := at_) (k := 2) (by have := HS2.out; omega)
 replace r37 : ∀ W, (Instr.slice 36 (.slice (some ⟨gB, oB, none⟩) n c) (some (.int .i64 at_)) (some (.int .i64 ((at_ : Int) + 2))) none).run Tryz.prog W = .ok (.slice A37 2 c37) W := r37
 have mp : Sl w11 A37 2 c37 ([p0, p1]) := (by have h_ := f37 _ lb; rw [HP2.out] at h_; exact h_)
 have av_mp_iB := av_lb_iB.sub u37
 have av_mp_eB := av_lb_eB.sub u37
 have av_mp_aB := av_lb_aB.sub u37
 have av_mp_rB := av_lb_rB.sub u37
 clear f37 u37
 go_wp2_with fail
 clear R26 R33
 with_reducible refine (rd_read _ _ _ _ _ mp (by decide)).mono ?_
 rintro e w12 ⟨gr, Ar11, cr11, rfl, ge, hh, rest, frr, avr, b12⟩
 have av_rest_iB := frr.av (hlt hiB)
 have av_rest_eB := frr.av (hlt heB)
 have av_rest_aB := frr.av (hlt haB)
 have av_rest_rB := frr.av (hlt hrB)
 have d_iB_r := ne_new (hlt hiB) ge
 have d_eB_r := ne_new (hlt heB) ge
 have d_aB_r := ne_new (hlt haB) ge
 have d_rB_r := ne_new (hlt hrB) ge
 have av_lb_r := lb.av_new ge
 have av_mp_r := mp.av_new ge
 have or := Nat.le_trans bel.size ge
 replace hiB := blk_u hiB b12
 replace heB := blk_u heB b12
 replace haB := blk_u haB b12
 replace hrB := blk_u hrB b12
 replace lb := lb.below b12
 replace mp := mp.below b12
 replace bel := bel.trans (b12.mono bel.size)
 have hr := hh
 clear hh ge b12
 replace rest : Sl w12 (Ar11) (2) (cr11) ([p0, p1]) := rest
 go_wp2_with fail
 with_reducible refine (rd_u16c _ _ _ _ _ _ _ _ _ hr rest).mono ?_
 rintro e w13 ⟨A12, n12, c12, rfl, hq, sq, uq, b13⟩
 replace lb := lb.away av_lb_r b13
 replace mp := mp.away av_mp_r b13
 replace hiB := blk_a hiB b13 d_iB_r
 replace heB := blk_a heB b13 d_eB_r
 replace haB := blk_a haB b13 d_aB_r
 replace hrB := blk_a hrB b13 d_rB_r
 replace bel := below_grown bel b13 or bel.size
 clear b13
 clear hr rest
 have hr := hq
 have rest := sq
 clear hq sq
 have av12_rest_iB := av_rest_iB.sub uq
 have av12_rest_eB := av_rest_eB.sub uq
 have av12_rest_aB := av_rest_aB.sub uq
 have av12_rest_rB := av_rest_rB.sub uq
 have av12_rest_r := avr.sub uq
 clear uq
 go_wp2_with fail
 replace bel := bel.drew
 replace hiB : w13.drew.heap[g3]? = _ := hiB
 replace heB : w13.drew.heap[g4]? = _ := heB
 replace haB : w13.drew.heap[g5]? = _ := haB
 replace hrB : w13.drew.heap[g6]? = _ := hrB
 replace hr : w13.drew.heap[gr]? = _ := hr
 replace lb := lb.drew
 replace mp := mp.drew
 replace rest := rest.drew
 refine wp_region_held_drew (S := fun W => W.heap[g3]? = some (.cells #[.slice (some ⟨gB, oB, none⟩) n c, .int .i64 (h : Int)] 160 (0, 0)) ∧ W.heap[g5]? = some (.cells #[.int .u8 (y0.toNat : Int), .int .u8 (y1.toNat : Int), .int .u8 (y2.toNat : Int), .int .u8 (y3.toNat : Int)] 35 (0, 0))) (by kernel_rfl) ⟨hiB, haB⟩ (fun hH => ?_)
 generalize w13.drew = w14 at bel hiB heB haB hrB hr lb mp rest hH ⊢
 refine wpAnyH_take (i := 0) (v := .agg #[.slice (some ⟨gB, oB, none⟩) n c, .int .i64 (h : Int)]) rfl (by kernel_rfl) (by kernel_rfl) (by kernel_rfl) (fun _ _ _ h => h) (yieldsIf_load_part (by kernel_rfl) 160 _ rfl g3 0 2 rfl _ 160 (0, 0) (fun W hW => hW.1) _ rfl _ Tryz.underlying160 rfl (by kernel_rfl)) hH ?_
 simp only [Act.put, List.getElem_toArray, List.getElem_cons_zero, List.setIfInBounds_toArray, List.set_cons_zero, List.set_cons_succ]
 refine wpAnyH_take (i := 2) (v := .agg #[.int .u8 (y0.toNat : Int), .int .u8 (y1.toNat : Int), .int .u8 (y2.toNat : Int), .int .u8 (y3.toNat : Int)]) rfl (by kernel_rfl) (by kernel_rfl) (by kernel_rfl) (fun _ _ _ h => h) (yieldsIf_load_part (by kernel_rfl) 35 _ rfl g5 0 4 rfl _ 35 (0, 0) (fun W hW => hW.2) _ rfl _ Tryz.underlying35 rfl (by kernel_rfl)) hH ?_
 simp only [sq3, sq4]
 refine wpAnyH_take (i := 3) (v := ?_) rfl (by kernel_rfl) (by kernel_rfl) (by kernel_rfl) (fun _ _ _ h => h) (Or.inl ⟨by rfl, ?_⟩) hH ?_
 rotate_left
 ·((intro W hW; clear hW; go_simp) <;> with_reducible rfl)
 simp only [sq3, sq4]
 refine wpAnyH_ready (rs := [1]) (by kernel_rfl) (by simp) ?_
 refine AllReadyH.cons (o := _) rfl (fun K hK => ?_) AllReadyH.nil
 simp only [sq3]
 go_simp
 with_reducible refine (inproto _ lb HX.out).mono ?_
 rintro e w15 ⟨rfl, b15⟩
 dsimp only
 replace hiB := blk_u hiB b15
 replace heB := blk_u heB b15
 replace haB := blk_u haB b15
 replace hrB := blk_u hrB b15
 replace hr := blk_u hr b15
 replace lb := lb.below b15
 replace mp := mp.below b15
 replace rest := rest.below b15
 replace bel := bel.trans (b15.mono bel.size)
 clear b15
 refine hK.out _ _ ⟨hiB, haB⟩ (fun hH16 => ?_)
 clear hK K
 refine wpAnyH_take (i := 4) (v := ?_) rfl (by kernel_rfl) (by kernel_rfl) (by kernel_rfl) (fun _ _ _ h => h) (Or.inl ⟨by rfl, ?_⟩) hH16 ?_
 rotate_left
 ·((intro W hW; clear hW; go_simp) <;> with_reducible rfl)
 simp only [sq3, sq4]
 refine wpAnyH_ready (rs := [5]) (by kernel_rfl) (by simp) ?_
 refine AllReadyH.cons (o := _) rfl (fun K hK => ?_) AllReadyH.nil
 simp only [sq3]
 rw [if_pos (by rfl)]
 refine wp_store_blk 164 (.tmp 6) (.tmp 44) rfl g6 rfl _ rfl _ 164 hrB (by rfl) (by kernel_rfl) (by kernel_rfl) ?_
 intro w17 hq gr
 replace lb := lb.away av_lb_rB gr
 replace mp := mp.away av_mp_rB gr
 replace rest := rest.away av12_rest_rB gr
 replace hiB := blk_a hiB gr d_iB_rB
 replace heB := blk_a heB gr d_eB_rB
 replace haB := blk_a haB gr d_aB_rB
 replace hr := blk_a hr gr (ne_symm d_rB_r)
 replace bel := below_grown bel gr orB bel.size
 clear hrB
 have hrB := hq
 clear hq gr
 refine hK.out _ _ ⟨hiB, haB⟩ (fun hH18 => ?_)
 clear hK K
 simp only [Act.put]
 refine wpAnyH_take (i := 6) (v := ?_) rfl (by kernel_rfl) (by kernel_rfl) (by kernel_rfl) (fun _ _ _ h => h) (Or.inl ⟨by rfl, ?_⟩) hH18 ?_
 rotate_left
 ·((intro W hW; clear hW; go_simp) <;> with_reducible rfl)
 simp only [sq3, sq4]
 refine wpAnyH_done (by kernel_rfl) ?_ _
 go_wp2_with fail
 exact bodyPost_ret (results_cell_tmp_row rfl _ _ _ _ _ _ _ rfl hrB Tryz.underlying164 rfl (by kernel_rfl) (.int .i64 0) rfl) rfl ⟨rfl, bel⟩
open Go.RowKit

/-- A segment in lists: its numbers, its options, its body; an error. -/
abbrev SgL := List Int × (List UInt8 × List UInt8) × Int
def sgNone (er : Int) : SgL := ([0, 0, 0, 0, 0, 0, 0], ([], []), er)
/-- What Get answers. -/
def SgPost (R : SgL) (w : World) (e : Ending) (w' : World) : Prop :=
 ∃ (f0 f1 f2 f3 f4 f5 f6 : Int) (lq lb : List UInt8) (Aq Ab : Option Addr) (cq cb : Nat) (er : Int), e = .returned (.tuple #[.agg #[.int .i64 f0, .int .i64 f1, .int .u32 f2, .int .u32 f3, .int .i64 f4, .int .i64 f5, .int .i64 f6, .slice Aq lq.length cq, .slice Ab lb.length cb], .int .i64 er]) ∧ Sl w' Aq lq.length cq lq ∧ Sl w' Ab lb.length cb lb ∧ Fr w.heap.size Aq lq.length ∧ Fr w.heap.size Ab lb.length ∧ Below w.heap.size w w' ∧ ([f0, f1, f2, f3, f4, f5, f6], (lq, lb), er) = R
theorem SgPost.none {er : Int} {R : SgL} {w w' : World} (h : sgNone er = R) (b : Below w.heap.size w w') : SgPost R w (.returned (.tuple #[.agg #[.int .i64 0, .int .i64 0, .int .u32 0, .int .u32 0, .int .i64 0, .int .i64 0, .int .i64 0, .slice Option.none 0 0, .slice Option.none 0 0], .int .i64 er])) w' :=
 ⟨0, 0, 0, 0, 0, 0, 0, [], [], Option.none, Option.none, 0, 0, er, rfl, Sl.nil _, Sl.nil _, fun h => absurd h (by simp), fun h => absurd h (by simp), b, h⟩
open Go.RowKit
open Go.RowKit

theorem w32_oto (A : Option Addr) (n m c : Nat) (l : List UInt8) (v0 : Int) (w : World) (h0 : 0 ≤ v0) (h1 : v0 < 4294967296) (hm : n + 4 = m) (hl : Sl w A n c l) (hs : n + 4 ≤ 140737488355328) :
  Calls Tryz.prog 78 #[.slice A n c, .int .u32 v0] w fun e w' => ∃ v, e = .returned v ∧ w'.ownsRow w.heap.size 5 1 v m ((l ++ four v0).map u8v) ∧ Below w.heap.size w w' := by
 subst hm; exact w32_o A n c l v0 w h0 h1 hl hs
open Go.RowKit

open Go.RowKit

open Go.RowKit

def byteOk (v : Int) : Bool := decide (0 ≤ v) && decide (v ≤ 255)
/-- An echo message's Type; an error message's. -/
def echoT (v : Int) : Bool := decide (v = 8) || decide (v = 0)
def faultT (v : Int) : Bool := decide (v = 3) || (decide (v = 11) || decide (v = 12))
/-- The error of Get. -/
def icErr (fl pt pr : Int) (b : List UInt8) : Int :=
 if pr ≠ 1 then 1 else if ¬ (pt = 0 ∧ fl % 2 = 0) then 10 else if b.length < 8 then 3 else if ck b ≠ 0 then 5 else 0
/-- A message in lists: its numbers, its body; an error. -/
abbrev MsL := List Int × List UInt8 × Int
def msNone (er : Int) : MsL := ([0, 0, 0], [], er)
def icGet (fl pt pr : Int) (b : List UInt8) : MsL :=
 if icErr fl pt pr b ≠ 0 then msNone (icErr fl pt pr b)
 else ([((b.getD 0 0).toNat : Int), ((b.getD 1 0).toNat : Int), (be ((b.drop 4).take 4) : Nat)], b.drop 8, 0)
/-- The bytes of a message. -/
def icSum (ty co re : Int) (b : List UInt8) : Int := ck [[byteOf ty, byteOf co], four re ++ b].flatten
def icBytes (ty co re : Int) (b : List UInt8) : List UInt8 := [byteOf ty, byteOf co] ++ two (icSum ty co re b) ++ (four re ++ b)
def icPut (tos id fl pt ttl : Int) (a0 a1 a2 a3 a4 a5 a6 a7 : UInt8) (lo : List UInt8) (ty co re : Int) (b : List UInt8) : PkL :=
 if (byteOk ty && byteOk co) = false then pkNone 1 else if 1472 < b.length then pkNone 2 else (([tos, id, fl, pt, ttl, 1], [a0, a1, a2, a3, a4, a5, a6, a7]), (lo, icBytes ty co re b), 0)
theorem icBytes_len (ty co re : Int) (b : List UInt8) : (icBytes ty co re b).length = 8 + b.length := by
 simp [icBytes, two, four]
 omega
theorem icBytes_eq (ty co re : Int) (b : List UInt8) : icBytes ty co re b = byteOf ty :: byteOf co :: byteOf (icSum ty co re b / 256) :: byteOf (icSum ty co re b) :: byteOf (re / 16777216) :: byteOf (re / 65536) :: byteOf (re / 256) :: byteOf re :: b := rfl
/-- What Get answers. -/
def MsPost (R : MsL) (w : World) (e : Ending) (w' : World) : Prop :=
 ∃ (f0 f1 f2 : Int) (lb : List UInt8) (A : Option Addr) (c : Nat) (er : Int), e = .returned (.tuple #[.agg #[.int .i64 f0, .int .i64 f1, .int .u32 f2, .slice A lb.length c], .int .i64 er]) ∧ Sl w' A lb.length c lb ∧ Fr w.heap.size A lb.length ∧ Below w.heap.size w w' ∧ ([f0, f1, f2], lb, er) = R
theorem MsPost.none {er : Int} {R : MsL} {w w' : World} (h : msNone er = R) (b : Below w.heap.size w w') : MsPost R w (.returned (.tuple #[.agg #[.int .i64 0, .int .i64 0, .int .u32 0, .slice Option.none 0 0], .int .i64 er])) w' :=
 ⟨0, 0, 0, [], Option.none, 0, er, rfl, Sl.nil _, fun h => absurd h (by simp), b, h⟩
theorem ic_at {fl pt : Int} {b : List UInt8} (hn : 8 ≤ b.length) (hw : (decide (pt = 0) && decide (fl % 2 = 0)) = true) : icErr fl pt 1 b = if ck b ≠ 0 then 5 else 0 := by
 unfold icErr
 rw [if_neg (by decide), if_neg (by simpa using hw), if_neg (by omega)]
theorem ic_ok {fl pt pr : Int} {h0 h1 h2 h3 h4 h5 h6 h7 : UInt8} {r : List UInt8} (e : icErr fl pt pr (h0 :: h1 :: h2 :: h3 :: h4 :: h5 :: h6 :: h7 :: r) = 0) : icGet fl pt pr (h0 :: h1 :: h2 :: h3 :: h4 :: h5 :: h6 :: h7 :: r) = ([(h0.toNat : Int), (h1.toNat : Int), ((be [h4, h5, h6, h7] : Nat) : Int)], r, 0) := by
 unfold icGet
 rw [if_neg (by rw [e]; decide)]
 rfl
theorem icGet_er (fl pt pr : Int) (b : List UInt8) : (icGet fl pt pr b).2.2 = icErr fl pt pr b := by
 unfold icGet
 split
 ·rfl
 ·rename_i h
  simp only [ne_eq, Decidable.not_not] at h
  exact h.symm
/-- The whole of it fits. -/
theorem ic_sealed (ty co re : Int) (b : List UInt8) : ck (icBytes ty co re b) = 0 := by
 have hb := ck_bounds [[byteOf ty, byteOf co], four re ++ b].flatten
 have hv := two_val (icSum ty co re b) hb.1 hb.2
 have hs : icSum ty co re b = 65535 - (nrm (ws true ([byteOf ty, byteOf co] ++ (four re ++ b))) : Int) := by
  unfold icSum ck
  rw [show [[byteOf ty, byteOf co], four re ++ b].flatten = [byteOf ty, byteOf co] ++ (four re ++ b) by simp]
 rw [ck_zero]
 rw [show icBytes ty co re b = [byteOf ty, byteOf co] ++ byteOf (icSum ty co re b / 256) :: byteOf (icSum ty co re b) :: (four re ++ b) from rfl, ws_at _ _ _ _ (by simp)]
 rw [ws_even _ _ (by simp)] at hs
 generalize ws true [byteOf ty, byteOf co] = U at *
 generalize ws true (four re ++ b) = V at *
 have h1 := nrm_mod (U + V)
 have h2 := nrm_le (U + V)
 rcases Nat.eq_zero_or_pos (U + V) with h0 | h0
 ·rw [h0, nrm_zero] at hs
  omega
 ·have h3 := nrm_pos h0
  omega
theorem byte_of {v : Int} (h : byteOk v = true) : 0 ≤ v ∧ v ≤ 255 := by
 unfold byteOk at h
 simpa using h
theorem byte_back {v : Int} (h : byteOk v = true) : ((byteOf v).toNat : Int) = v := by
 have := byte_of h
 rw [byteOf_val]
 omega
theorem be4_four (v : Int) (h0 : 0 ≤ v) (h1 : v < 4294967296) : ((be [byteOf (v / 16777216), byteOf (v / 65536), byteOf (v / 256), byteOf v] : Nat) : Int) = v := by
 have h := be_four v
 unfold four at h
 omega
/-- What was put is read back. -/
theorem ic_back {fl pt : Int} (hw : (decide (pt = 0) && decide (fl % 2 = 0)) = true) {ty co re : Int} (h1 : byteOk ty = true) (h2 : byteOk co = true) (e0 : 0 ≤ re) (e1 : re < 4294967296) (b : List UInt8) : icGet fl pt 1 (icBytes ty co re b) = ([ty, co, re], b, 0) := by
 have hsl := ic_sealed ty co re b
 have e : icErr fl pt 1 (icBytes ty co re b) = 0 := by
  rw [ic_at (by rw [icBytes_len]; omega) hw, if_neg (fun h => h hsl)]
 rw [icBytes_eq] at e ⊢
 rw [ic_ok e, byte_back h1, byte_back h2, be4_four re e0 e1]
theorem icput_eq {tos id fl pt ttl : Int} {a0 a1 a2 a3 a4 a5 a6 a7 : UInt8} {lo : List UInt8} {ty co re : Int} {b : List UInt8} (h1 : byteOk ty = true) (h2 : byteOk co = true) (h3 : b.length ≤ 1472) : icPut tos id fl pt ttl a0 a1 a2 a3 a4 a5 a6 a7 lo ty co re b = (([tos, id, fl, pt, ttl, 1], [a0, a1, a2, a3, a4, a5, a6, a7]), (lo, icBytes ty co re b), 0) := by
 unfold icPut
 rw [if_neg (by rw [h1, h2]; decide), if_neg (by omega)]
/-- May a message be about a packet from or to an address; about a packet? -/
def hostOk (a b c d : UInt8) : Bool := !([a, b, c, d] == [0, 0, 0, 0]) && decide (a.toNat ≤ 223)
def icMay (pt pr : Int) (a0 a1 a2 a3 a4 a5 a6 a7 : UInt8) (lb : List UInt8) : Bool :=
 !decide (0 < pt) && (hostOk a0 a1 a2 a3 && (hostOk a4 a5 a6 a7 && (!decide (pr = 1) || (decide (8 ≤ lb.length) && echoT ((lb.getD 0 0).toNat : Int)))))
/-- What About answers, of a packet in lists. -/
def icAb (o0 o1 o2 o3 : UInt8) (l : List UInt8) (ty co pt pr : Int) (a0 a1 a2 a3 a4 a5 a6 a7 : UInt8) (lo lb : List UInt8) (er : Int) : PkL :=
 if er ≠ 0 then pkNone er else if icMay pt pr a0 a1 a2 a3 a4 a5 a6 a7 lb = false then pkNone 11 else icPut 0 0 0 0 64 o0 o1 o2 o3 a0 a1 a2 a3 [] ty co 0 (l.take (20 + lo.length + min lb.length 8))
def icAbout (o0 o1 o2 o3 : UInt8) (l : List UInt8) (ty co : Int) : PkL :=
 icAb o0 o1 o2 o3 l ty co ((ipGet l).1.1.getD 3 0) ((ipGet l).1.1.getD 5 0) ((ipGet l).1.2.getD 0 0) ((ipGet l).1.2.getD 1 0) ((ipGet l).1.2.getD 2 0) ((ipGet l).1.2.getD 3 0) ((ipGet l).1.2.getD 4 0) ((ipGet l).1.2.getD 5 0) ((ipGet l).1.2.getD 6 0) ((ipGet l).1.2.getD 7 0) (ipGet l).2.1.1 (ipGet l).2.1.2 (ipGet l).2.2
theorem icAbout_eq (o0 o1 o2 o3 : UInt8) {l : List UInt8} (ty co : Int) {f0 f1 f2 f3 f4 f5 : Int} {a0 a1 a2 a3 a4 a5 a6 a7 : UInt8} {lo lb : List UInt8} {er : Int} (h : ipGet l = (([f0, f1, f2, f3, f4, f5], [a0, a1, a2, a3, a4, a5, a6, a7]), (lo, lb), er)) : icAbout o0 o1 o2 o3 l ty co = icAb o0 o1 o2 o3 l ty co f3 f5 a0 a1 a2 a3 a4 a5 a6 a7 lo lb er := by
 unfold icAbout
 rw [h]
 rfl
open Go.RowKit

theorem Sls.duo {w : World} {A B : Option Addr} {n c m d g : Nat} {l t : List UInt8} {T : TypeId} (h : Sl w A n c l) (h2 : Sl w B m d t) (hg : w.heap[g]? = some (.cells #[.slice A n c, .slice B m d] T (0, 0))) : Sls w (some ⟨g, 0, none⟩) 2 [l, t] := by
 refine ⟨rfl, fun _ => ⟨_, _, rfl, fun j x hj => ?_⟩⟩
 match j, hj with
 | 0, hj =>
  obtain rfl : l = x := by simpa using hj
  exact ⟨A, n, c, by simp only [World.cell?, hg]; simp, h⟩
 | 1, hj =>
  obtain rfl : t = x := by simpa using hj
  exact ⟨B, m, d, by simp only [World.cell?, hg]; simp, h2⟩
 | j + 2, hj => simp at hj
theorem isbyte_any (v : Int) (w : World) : Calls Tryz.prog 39 #[.int .i64 v] w fun e w' => e = .returned (.bool (byteOk v)) ∧ w = w' := by
 unfold byteOk
 by_cases h0 : 0 ≤ v
 ·rw [decide_eq_true h0, Bool.true_and]
  by_cases h1 : v ≤ 255
  ·rw [decide_eq_true h1]
   go_enter Tryz.func39, Tryz.ntmps39
   go_wp2
   go_ret
   exact ⟨rfl, rfl⟩
  ·have h2 : decide (v ≤ 255) = false := decide_eq_false h1
   rw [h2]
   clear h1
   go_enter Tryz.func39, Tryz.ntmps39
   go_wp2
   go_ret
   exact ⟨rfl, rfl⟩
 ·have h2 : decide (0 ≤ v) = false := decide_eq_false h0
  rw [h2, Bool.false_and]
  clear h0
  go_enter Tryz.func39, Tryz.ntmps39
  go_wp2
  go_ret
  exact ⟨rfl, rfl⟩
theorem isecho_any (v : Int) (w : World) : Calls Tryz.prog 90 #[.int .i64 v] w fun e w' => e = .returned (.bool (echoT v)) ∧ w = w' := by
 unfold echoT
 by_cases h0 : v = 8
 ·have e0 : (v == 8) = true := by simpa using h0
  rw [decide_eq_true h0, Bool.true_or]
  clear h0
  go_enter Tryz.func90, Tryz.ntmps90
  go_wp2
  go_ret
  exact ⟨rfl, rfl⟩
 ·have e0 : (v == 8) = false := by simpa using h0
  rw [decide_eq_false h0, Bool.false_or]
  clear h0
  by_cases h1 : v = 0
  ·have e1 : (v == 0) = true := by simpa using h1
   rw [decide_eq_true h1]
   clear h1
   go_enter Tryz.func90, Tryz.ntmps90
   go_wp2
   go_ret
   exact ⟨rfl, rfl⟩
  ·have e1 : (v == 0) = false := by simpa using h1
   rw [decide_eq_false h1]
   clear h1
   go_enter Tryz.func90, Tryz.ntmps90
   go_wp2
   go_ret
   exact ⟨rfl, rfl⟩
theorem icfault_0 (ty cd re : Int) (D : Option Addr) (nd qd : Nat) (h0 : (ty == 3) = true) (w : World) : Calls Tryz.prog 73 #[.agg #[.int .i64 ty, .int .i64 cd, .int .u32 re, .slice D nd qd]] w fun e w' => e = .returned (.bool true) ∧ Below w.heap.size w w' := by
 have bel := Below.refl w.heap.size w
 go_enter Tryz.func73, Tryz.ntmps73
 go_wp2_with (first | ((with_reducible show wpList _ _ _ (⟨some 1, _, _, _, _, _⟩ :: _) _ _); refine wpList_box_n rfl 47 (.tmp 0) rfl #[.int .i64 ty, .int .i64 cd, .int .u32 re, .slice D nd qd] rfl ?_; intro g1 w1 ge lt hh bb; have om := Nat.le_trans bel.size ge; replace bel := bel.trans (bb.mono bel.size); have hm := hh; clear hh lt ge bb; have R4 := cell_lit hm 0 _ rfl))
 try clear R4
 go_ret
 exact ⟨rfl, bel⟩
theorem icfault_1 (ty cd re : Int) (D : Option Addr) (nd qd : Nat) (h0 : (ty == 3) = false) (h1 : (ty == 11) = true) (w : World) : Calls Tryz.prog 73 #[.agg #[.int .i64 ty, .int .i64 cd, .int .u32 re, .slice D nd qd]] w fun e w' => e = .returned (.bool true) ∧ Below w.heap.size w w' := by
 have bel := Below.refl w.heap.size w
 go_enter Tryz.func73, Tryz.ntmps73
 go_wp2_with (first | ((with_reducible show wpList _ _ _ (⟨some 1, _, _, _, _, _⟩ :: _) _ _); refine wpList_box_n rfl 47 (.tmp 0) rfl #[.int .i64 ty, .int .i64 cd, .int .u32 re, .slice D nd qd] rfl ?_; intro g1 w1 ge lt hh bb; have om := Nat.le_trans bel.size ge; replace bel := bel.trans (bb.mono bel.size); have hm := hh; clear hh lt ge bb; have R4 := cell_lit hm 0 _ rfl; have R8 := cell_lit hm 0 _ rfl))
 try clear R4
 try clear R8
 go_ret
 exact ⟨rfl, bel⟩
theorem icfault_2 (ty cd re : Int) (D : Option Addr) (nd qd : Nat) (h0 : (ty == 3) = false) (h1 : (ty == 11) = false) (h2 : (ty == 12) = true) (w : World) : Calls Tryz.prog 73 #[.agg #[.int .i64 ty, .int .i64 cd, .int .u32 re, .slice D nd qd]] w fun e w' => e = .returned (.bool true) ∧ Below w.heap.size w w' := by
 have bel := Below.refl w.heap.size w
 go_enter Tryz.func73, Tryz.ntmps73
 go_wp2_with (first | ((with_reducible show wpList _ _ _ (⟨some 1, _, _, _, _, _⟩ :: _) _ _); refine wpList_box_n rfl 47 (.tmp 0) rfl #[.int .i64 ty, .int .i64 cd, .int .u32 re, .slice D nd qd] rfl ?_; intro g1 w1 ge lt hh bb; have om := Nat.le_trans bel.size ge; replace bel := bel.trans (bb.mono bel.size); have hm := hh; clear hh lt ge bb; have R4 := cell_lit hm 0 _ rfl; have R8 := cell_lit hm 0 _ rfl; have R13 := cell_lit hm 0 _ rfl))
 try clear R4
 try clear R8
 try clear R13
 go_ret
 exact ⟨rfl, bel⟩
theorem icfault_3 (ty cd re : Int) (D : Option Addr) (nd qd : Nat) (h0 : (ty == 3) = false) (h1 : (ty == 11) = false) (h2 : (ty == 12) = false) (w : World) : Calls Tryz.prog 73 #[.agg #[.int .i64 ty, .int .i64 cd, .int .u32 re, .slice D nd qd]] w fun e w' => e = .returned (.bool false) ∧ Below w.heap.size w w' := by
 have bel := Below.refl w.heap.size w
 go_enter Tryz.func73, Tryz.ntmps73
 go_wp2_with (first | ((with_reducible show wpList _ _ _ (⟨some 1, _, _, _, _, _⟩ :: _) _ _); refine wpList_box_n rfl 47 (.tmp 0) rfl #[.int .i64 ty, .int .i64 cd, .int .u32 re, .slice D nd qd] rfl ?_; intro g1 w1 ge lt hh bb; have om := Nat.le_trans bel.size ge; replace bel := bel.trans (bb.mono bel.size); have hm := hh; clear hh lt ge bb; have R4 := cell_lit hm 0 _ rfl; have R8 := cell_lit hm 0 _ rfl; have R13 := cell_lit hm 0 _ rfl))
 try clear R4
 try clear R8
 try clear R13
 go_ret
 exact ⟨rfl, bel⟩
theorem icfault_any (ty cd re : Int) (D : Option Addr) (nd qd : Nat) (w : World) : Calls Tryz.prog 73 #[.agg #[.int .i64 ty, .int .i64 cd, .int .u32 re, .slice D nd qd]] w fun e w' => e = .returned (.bool (faultT ty)) ∧ Below w.heap.size w w' := by
 unfold faultT
 by_cases h0 : ty = 3
 ·rw [decide_eq_true h0, Bool.true_or]
  exact icfault_0 ty cd re D nd qd (by simpa using h0) w
 by_cases h1 : ty = 11
 ·rw [decide_eq_false h0, decide_eq_true h1, Bool.false_or, Bool.true_or]
  exact icfault_1 ty cd re D nd qd (by simpa using h0) (by simpa using h1) w
 by_cases h2 : ty = 12
 ·rw [decide_eq_false h0, decide_eq_false h1, decide_eq_true h2, Bool.false_or, Bool.false_or]
  exact icfault_2 ty cd re D nd qd (by simpa using h0) (by simpa using h1) (by simpa using h2) w
 ·rw [decide_eq_false h0, decide_eq_false h1, decide_eq_false h2, Bool.false_or, Bool.false_or]
  exact icfault_3 ty cd re D nd qd (by simpa using h0) (by simpa using h1) (by simpa using h2) w
theorem icquery_0 (ty cd re : Int) (D : Option Addr) (nd qd : Nat) (h0 : echoT ty = false) (w : World) : Calls Tryz.prog 71 #[.agg #[.int .i64 ty, .int .i64 cd, .int .u32 re, .slice D nd qd]] w fun e w' => e = .returned (.tuple #[.int .i64 0, .bool false]) ∧ Below w.heap.size w w' := by
 have HE := Lib.hid h0
 clear h0
 have bel := Below.refl w.heap.size w
 go_enter Tryz.func71, Tryz.ntmps71
 go_wp2_with (first | ((with_reducible show wpList _ _ _ (⟨some 1, _, _, _, _, _⟩ :: _) _ _); refine wpList_box_n rfl 47 (.tmp 0) rfl #[.int .i64 ty, .int .i64 cd, .int .u32 re, .slice D nd qd] rfl ?_; intro g1 w1 ge lt hh bb; have om := Nat.le_trans bel.size ge; replace bel := bel.trans (bb.mono bel.size); have hm := hh; clear hh lt ge bb; have R5 := cell_lit hm 0 _ rfl))
 try clear R5
 with_reducible refine (isecho_any _ _).mono ?_
 rintro e _ ⟨rfl, rfl⟩
 rw [HE.out]
 go_wp2_with fail
 exact bodyPost_ret (v := .tuple #[.int .i64 0, .bool false]) (by simp [results, Tryz.results71, go_sem]) rfl ⟨rfl, bel⟩
theorem icquery_1 (ty cd re : Int) (D : Option Addr) (nd qd : Nat) (h0 : echoT ty = true) (h1 : cd ≠ 0) (w : World) : Calls Tryz.prog 71 #[.agg #[.int .i64 ty, .int .i64 cd, .int .u32 re, .slice D nd qd]] w fun e w' => e = .returned (.tuple #[.int .i64 0, .bool false]) ∧ Below w.heap.size w w' := by
 have HE := Lib.hid h0
 have t0 : (cd == 0) = false := by simpa using h1
 have t1 : (cd != 0) = true := by simpa using h1
 clear h0 h1
 have bel := Below.refl w.heap.size w
 go_enter Tryz.func71, Tryz.ntmps71
 go_wp2_with (first | ((with_reducible show wpList _ _ _ (⟨some 1, _, _, _, _, _⟩ :: _) _ _); refine wpList_box_n rfl 47 (.tmp 0) rfl #[.int .i64 ty, .int .i64 cd, .int .u32 re, .slice D nd qd] rfl ?_; intro g1 w1 ge lt hh bb; have om := Nat.le_trans bel.size ge; replace bel := bel.trans (bb.mono bel.size); have hm := hh; clear hh lt ge bb; have R5 := cell_lit hm 0 _ rfl))
 try clear R5
 with_reducible refine (isecho_any _ _).mono ?_
 rintro e _ ⟨rfl, rfl⟩
 rw [HE.out]
 have R10 := cell_lit hm 1 _ rfl
 go_wp2_with fail
 clear R10
 exact bodyPost_ret (v := .tuple #[.int .i64 0, .bool false]) (by simp [results, Tryz.results71, go_sem]) rfl ⟨rfl, bel⟩
theorem icquery_2 (ty cd re : Int) (D : Option Addr) (nd qd : Nat) (h0 : echoT ty = true) (h1 : cd = 0) (e0 : 0 ≤ re) (e1 : re < 4294967296) (w : World) : Calls Tryz.prog 71 #[.agg #[.int .i64 ty, .int .i64 cd, .int .u32 re, .slice D nd qd]] w fun e w' => e = .returned (.tuple #[.int .i64 (re / 65536), .bool true]) ∧ Below w.heap.size w w' := by
 have HE := Lib.hid h0
 have t0 : (cd == 0) = true := by simpa using h1
 have t1 : (cd != 0) = false := by simpa using h1
 clear h0 h1
 have bel := Below.refl w.heap.size w
 go_enter Tryz.func71, Tryz.ntmps71
 go_wp2_with (first | ((with_reducible show wpList _ _ _ (⟨some 1, _, _, _, _, _⟩ :: _) _ _); refine wpList_box_n rfl 47 (.tmp 0) rfl #[.int .i64 ty, .int .i64 cd, .int .u32 re, .slice D nd qd] rfl ?_; intro g1 w1 ge lt hh bb; have om := Nat.le_trans bel.size ge; replace bel := bel.trans (bb.mono bel.size); have hm := hh; clear hh lt ge bb; have R5 := cell_lit hm 0 _ rfl))
 try clear R5
 with_reducible refine (isecho_any _ _).mono ?_
 rintro e _ ⟨rfl, rfl⟩
 rw [HE.out]
 have R10 := cell_lit hm 1 _ rfl
 have R14 := cell_lit hm 2 _ rfl
 go_wp2_with fail
 clear R10 R14
 exact bodyPost_ret (v := .tuple #[.int .i64 (re / 65536), .bool true]) (by simp [results, Tryz.results71, go_sem]) rfl ⟨rfl, bel⟩
theorem icwrite_0 (ty cd re : Int) (D : Option Addr) (nd qd : Nat) (ld : List UInt8) (sm : Int) (w : World) (hb : Sl w D nd qd ld) (hm : nd ≤ 1472) (e0 : 0 ≤ re) (e1 : re < 4294967296) (hsm : ck [[byteOf ty, byteOf cd], [] ++ four re ++ ld].flatten = sm) : Calls Tryz.prog 40 #[.agg #[.int .i64 ty, .int .i64 cd, .int .u32 re, .slice D nd qd]] w fun e w' => ∃ v, e = .returned v ∧ w'.ownsRow w.heap.size 5 1 v (8 + nd) (([byteOf ty, byteOf cd] ++ two sm ++ ([] ++ four re ++ ld)).map u8v) ∧ Below w.heap.size w w' := by
 have HS : Hid (ck [[byteOf ty, byteOf cd], [] ++ four re ++ ld].flatten = sm) := Lib.hid hsm
 have E0 := Lib.hid e0
 have E1 := Lib.hid e1
 have n0 : (0 : Int) ≤ nd := by omega
 have n1 : (nd : Int) ≤ 1472 := by omega
 clear hsm e0 e1
 obtain ⟨ii, hii, hz0, hz1, hz2⟩ := info_parts Tryz.info5
 have bel := Below.refl w.heap.size w
 go_enter Tryz.func40, Tryz.ntmps40
 go_wp2_with (first | ((with_reducible show wpList _ _ _ (⟨some 1, _, _, _, _, _⟩ :: _) _ _); refine wpList_box_n rfl 47 (.tmp 0) rfl #[.int .i64 ty, .int .i64 cd, .int .u32 re, .slice D nd qd] rfl ?_; intro g1 w1 ge lt hh bb; have av_hb_m := hb.av_new ge; have om := Nat.le_trans bel.size ge; replace hb := hb.below bb; replace bel := bel.trans (bb.mono bel.size); have hm := hh; clear hh lt ge bb; have R7 := cell_lit hm 0 _ rfl; have R10 := cell_lit hm 1 _ rfl) | ((with_reducible show wpList _ _ _ (⟨some 12, _, _, _, _, _⟩ :: _) _ _); refine wpList_lit_n rfl 36 5 2 _ rfl #[.int .u8 (ty % 256), .int .u8 (cd % 256)] (.int .u8 0) Tryz.underlying36 (by kernel_rfl) 1 (by kernel_rfl) (by decide) (by kernel_rfl) ?_; intro g12 w2 ge lt hh bb; have hl : w2.heap[g12]? = some (.cells (([byteOf ty, byteOf cd] : List UInt8).map u8v).toArray 5 (0, 0)) := (by simpa [u8v, byteOf_val] using hh); have hdw := own_lit (B := w1.heap.size) ([byteOf ty, byteOf cd]) hl ge 2 rfl (by simp [maxLen]); have hd := (own_sl hdw).1; have hdlo := bel.size; clear hl; have hdge := ge; have lz_hd := bb.size; have y_hd_m := Lib.hid (hlt hm); have bl_hb_hd := hb.bl_new; have d_m_b12 := ne_new (hlt hm) ge; have av_hb_b12 := hb.av_new ge; have ob12 := Nat.le_trans bel.size ge; replace hm := blk_u hm bb; replace hb := hb.below bb; replace bel := bel.trans (bb.mono bel.size); have hb12 := hh; clear hh lt ge bb; have av_hd_m := (own_sl hdw).2.av y_hd_m.out))
 try clear R7
 try clear R10
 replace bel := bel.drew
 replace hm : w2.drew.heap[g1]? = _ := hm
 replace hb12 : w2.drew.heap[g12]? = _ := hb12
 replace hb := hb.drew
 replace hd := hd.drew
 replace hdw : w2.drew.ownsRow _ _ _ _ _ _ := hdw
 replace lz_hd : _ ≤ w2.drew.heap.size := lz_hd
 refine wp_region_held_drew (S := fun W => W.heap[g1]? = some (.cells #[.int .i64 ty, .int .i64 cd, .int .u32 re, .slice D nd qd] 47 (0, 0))) (by kernel_rfl) hm (fun hH => ?_)
 generalize w2.drew = w3 at bel hm hb12 hb hd hdw lz_hd hH ⊢
 refine wpAnyH_take (i := 0) (v := ?_) rfl (by kernel_rfl) (by kernel_rfl) (by kernel_rfl) (fun _ _ _ h => h) (Or.inl ⟨by rfl, ?_⟩) hH ?_
 rotate_left
 ·((intro W hW; clear hW; go_simp) <;> with_reducible rfl)
 simp only [Act.put, List.getElem_toArray, List.getElem_cons_zero, List.setIfInBounds_toArray, List.set_cons_zero, List.set_cons_succ]
 refine wpAnyH_take (i := 1) (v := ?_) rfl (by kernel_rfl) (by kernel_rfl) (by kernel_rfl) (fun _ _ _ h => h) (Or.inl ⟨by rfl, ?_⟩) hH ?_
 rotate_left
 ·((intro W hW; have hk := cell_lit (hW) 2 _ rfl; clear hW; go_simp) <;> with_reducible rfl)
 simp only [sq3, sq4]
 refine wpAnyH_take (i := 3) (v := ?_) rfl (by kernel_rfl) (by kernel_rfl) (by kernel_rfl) (fun _ _ _ h => h) (Or.inl ⟨by rfl, ?_⟩) hH ?_
 rotate_left
 ·((intro W hW; clear hW; go_simp) <;> with_reducible rfl)
 simp only [sq3, sq4]
 refine wpAnyH_take (i := 4) (v := ?_) rfl (by kernel_rfl) (by kernel_rfl) (by kernel_rfl) (fun _ _ _ h => h) (Or.inl ⟨by rfl, ?_⟩) hH ?_
 rotate_left
 ·((intro W hW; have hk := cell_lit (hW) 3 _ rfl; clear hW; go_simp) <;> with_reducible rfl)
 simp only [sq3, sq4]
 refine wpAnyH_ready (rs := [2]) (by kernel_rfl) (by simp) ?_
 refine AllReadyH.cons (o := _) rfl (fun K hK => ?_) AllReadyH.nil
 simp only [sq3]
 go_simp
 with_reducible refine (w32_oto _ 0 4 _ _ _ _ E0.out E1.out rfl (Sl.nil _) (by omega)).mono ?_
 rintro e w4 ⟨v, rfl, k1w, b4⟩
 dsimp only
 have y_k1_m := Lib.hid (hlt hm)
 have y_k1_b12 := Lib.hid (hlt hb12)
 have bl_hb_k1 := hb.bl_new
 have bl_hd_k1 := hd.bl_new
 have k1lo := bel.size
 have lz_k1 := b4.size
 replace hm := blk_u hm b4
 replace hb12 := blk_u hb12 b4
 replace hb := hb.below b4
 replace hd := hd.below b4
 replace hdw := own_under hdw b4
 replace lz_hd := Nat.le_trans lz_hd b4.size
 replace bel := bel.trans (b4.mono bel.size)
 clear b4
 obtain ⟨Ak1, ck1, rfl⟩ := own_val k1w
 have k1 := (own_sl k1w).1
 have fr_k1 := (own_sl k1w).2
 have av_k1_m := fr_k1.av y_k1_m.out
 have av_k1_b12 := fr_k1.av y_k1_b12.out
 refine hK.out _ _ hm (fun hH5 => ?_)
 clear hK K
 refine wpAnyH_ready (rs := [5]) (by kernel_rfl) (by simp) ?_
 refine AllReadyH.cons (o := _) rfl (fun K hK => ?_) AllReadyH.nil
 simp only [sq3]
 rw [if_pos (by rfl)]
 refine wp_append_bb (.tmp 15) (.tmp 17) 36 rfl (w3.heap.size) 5 ii (.int .u8 0) Tryz.underlying36 hii hz0 hz1 hz2 rfl _ (4) ([] ++ four re) rfl k1w (D) (nd) (qd) (ld) rfl hb (by omega) lz_k1 ?_
 intro v18 w6 own_ bb
 replace hb := hb.under bl_hb_k1 bb
 replace hd := hd.under bl_hd_k1 bb
 clear hdw lz_hd
 replace hm := blk_under hm bb y_k1_m.out
 replace hb12 := blk_under hb12 bb y_k1_b12.out
 replace bel := bel.trans (bb.mono k1lo)
 have lz_k2 := Nat.le_trans lz_k1 bb.size
 clear bb
 clear k1 k1w lz_k1
 replace own_ : w6.ownsRow (w3.heap.size) 5 1 v18 (4 + nd) (([] ++ four re ++ ld : List UInt8).map u8v) := own_
 obtain ⟨A18, c18, rfl⟩ := own_val own_
 have k2w := own_
 have k2 := (own_sl own_).1
 have fr_k2 := (own_sl own_).2
 clear own_
 have av_k2_m := fr_k2.av y_k1_m.out
 have av_k2_b12 := fr_k2.av y_k1_b12.out
 refine hK.out _ _ hm (fun hH7 => ?_)
 clear hK K
 simp only [sq4]
 refine wpAnyH_take (i := 6) (v := ?_) rfl (by kernel_rfl) (by kernel_rfl) (by kernel_rfl) (fun _ _ _ h => h) (Or.inl ⟨by rfl, ?_⟩) hH7 ?_
 rotate_left
 ·((intro W hW; clear hW; go_simp) <;> with_reducible rfl)
 simp only [sq3, sq4]
 refine wpAnyH_done (by kernel_rfl) ?_ _
 go_wp2_with (first | ((with_reducible show wpList _ _ _ (⟨some 21, _, _, _, _, _⟩ :: _) _ _); refine wpList_lit_n rfl 173 36 2 _ rfl #[.slice (some ⟨g12, 0, none⟩) 2 2, .slice A18 (4 + nd) c18] (.slice none 0 0) Tryz.underlying173 (by kernel_rfl) 1 (by kernel_rfl) (by decide) (by kernel_rfl) ?_; intro g21 w8 ge lt hh bb; have d_m_b21 := ne_new (hlt hm) ge; have d_b12_b21 := ne_new (hlt hb12) ge; have av_hb_b21 := hb.av_new ge; have av_hd_b21 := hd.av_new ge; have av_k2_b21 := k2.av_new ge; have of_k2_b21 := own_new k2w ge; have ob21 := Nat.le_trans bel.size ge; replace hm := blk_u hm bb; replace hb12 := blk_u hb12 bb; replace hb := hb.below bb; replace hd := hd.below bb; replace k2 := k2.below bb; replace k2w := own_under k2w bb; replace lz_k2 := Nat.le_trans lz_k2 bb.size; replace bel := bel.trans (bb.mono bel.size); have hb21 := hh; clear hh lt ge bb; have hs2 : Sls w8 (some ⟨g21, 0, none⟩) 2 [[byteOf ty, byteOf cd], [] ++ four re ++ ld] := Sls.duo hd k2 hb21))
 with_reducible refine (many_any _ 2 2 _ _ (by unfold maxLen; omega) hs2).mono ?_
 rintro e _ ⟨rfl, rfl⟩
 rw [HS.out]
 clear hs2
 go_wp2_with fail
 with_reducible refine (w16_oto _ 2 4 _ _ _ _ rfl hd (by omega)).mono ?_
 rintro e w9 ⟨v, rfl, h7w, b9⟩
 have y_h7_m := Lib.hid (hlt hm)
 have y_h7_b12 := Lib.hid (hlt hb12)
 have y_h7_b21 := Lib.hid (hlt hb21)
 have bl_hb_h7 := hb.bl_new
 have bl_hd_h7 := hd.bl_new
 have bl_k2_h7 := k2.bl_new
 have h7lo := bel.size
 have lz_h7 := b9.size
 replace hm := blk_u hm b9
 replace hb12 := blk_u hb12 b9
 replace hb21 := blk_u hb21 b9
 replace hb := hb.below b9
 replace hd := hd.below b9
 replace k2 := k2.below b9
 replace k2w := own_under k2w b9
 replace lz_k2 := Nat.le_trans lz_k2 b9.size
 replace bel := bel.trans (b9.mono bel.size)
 clear b9
 obtain ⟨Ah7, ch7, rfl⟩ := own_val h7w
 have h7 := (own_sl h7w).1
 have fr_h7 := (own_sl h7w).2
 have av_h7_m := fr_h7.av y_h7_m.out
 have av_h7_b12 := fr_h7.av y_h7_b12.out
 have av_h7_b21 := fr_h7.av y_h7_b21.out
 go_wp2_with (first | ((with_reducible show wpList _ _ _ (⟨some 27, _, _, _, _, _⟩ :: _) _ _); refine wpList_append_bb _ rfl (.tmp 25) (.tmp 26) 36 rfl (w8.heap.size) 5 ii (.int .u8 0) Tryz.underlying36 hii hz0 hz1 hz2 rfl _ (4) ([byteOf ty, byteOf cd] ++ two sm) rfl h7w (A18) (4 + nd) (c18) ([] ++ four re ++ ld) rfl k2 (by omega) lz_h7 ?_; intro v27 w10 own_ bb; replace hb := hb.under bl_hb_h7 bb; replace hd := hd.under bl_hd_h7 bb; replace k2 := k2.under bl_k2_h7 bb; clear k2w lz_k2; replace hm := blk_under hm bb y_h7_m.out; replace hb12 := blk_under hb12 bb y_h7_b12.out; replace hb21 := blk_under hb21 bb y_h7_b21.out; replace bel := bel.trans (bb.mono h7lo); have lz_out := Nat.le_trans lz_h7 bb.size; clear bb; clear h7 h7w lz_h7; replace own_ : w10.ownsRow (w8.heap.size) 5 1 v27 (8 + nd) (([byteOf ty, byteOf cd] ++ two sm ++ ([] ++ four re ++ ld) : List UInt8).map u8v) := (by rw [show 4 + (4 + nd) = 8 + nd by omega] at own_; exact own_); obtain ⟨A27, c27, rfl⟩ := own_val own_; have outw := own_; have out := (own_sl own_).1; have fr_out := (own_sl own_).2; clear own_; have av_out_m := fr_out.av y_h7_m.out; have av_out_b12 := fr_out.av y_h7_b12.out; have av_out_b21 := fr_out.av y_h7_b21.out))
 go_ret
 exact ⟨_, rfl, ownsRow_mono outw (Nat.le_trans h7lo (Nat.le_refl _)), bel⟩
theorem icwrite_any (ty cd re : Int) (D : Option Addr) (nd qd : Nat) (ld : List UInt8) (w : World) (hb : Sl w D nd qd ld) (hm : nd ≤ 1472) (e0 : 0 ≤ re) (e1 : re < 4294967296) : Calls Tryz.prog 40 #[.agg #[.int .i64 ty, .int .i64 cd, .int .u32 re, .slice D nd qd]] w fun e w' => ∃ v, e = .returned v ∧ w'.ownsRow w.heap.size 5 1 v (8 + nd) ((icBytes ty cd re ld).map u8v) ∧ Below w.heap.size w w' :=
 icwrite_0 ty cd re D nd qd ld _ w hb hm e0 e1 rfl
theorem icput_bad1 (tos id fl pt ttl pr : Int) (a0 a1 a2 a3 a4 a5 a6 a7 : UInt8) (So Sb : Option Addr) (no co nb cb : Nat) (ty cd re : Int) (D : Option Addr) (nd qd : Nat) (lo ld : List UInt8) (w : World) (ho : Sl w So no co lo) (hb : Sl w D nd qd ld) (h1 : byteOk ty = false) : Calls Tryz.prog 20 #[.agg #[.int .i64 tos, .int .i64 id, .int .i64 fl, .int .i64 pt, .int .i64 ttl, .int .i64 pr, .int .u8 (a0.toNat : Int), .int .u8 (a1.toNat : Int), .int .u8 (a2.toNat : Int), .int .u8 (a3.toNat : Int), .int .u8 (a4.toNat : Int), .int .u8 (a5.toNat : Int), .int .u8 (a6.toNat : Int), .int .u8 (a7.toNat : Int), .slice So no co, .slice Sb nb cb], .agg #[.int .i64 ty, .int .i64 cd, .int .u32 re, .slice D nd qd]] w (PkPost (icPut tos id fl pt ttl a0 a1 a2 a3 a4 a5 a6 a7 lo ty cd re ld) w) := by
 have H1 := Lib.hid h1
 have HP : Hid (icPut tos id fl pt ttl a0 a1 a2 a3 a4 a5 a6 a7 lo ty cd re ld = pkNone 1) := Lib.hid (if_pos (by rw [h1]; rfl))
 clear h1
 have bel := Below.refl w.heap.size w
 go_enter Tryz.func20, Tryz.ntmps20
 go_wp2_with (first | ((with_reducible show wpList _ _ _ (⟨some 2, _, _, _, _, _⟩ :: _) _ _); refine wpList_box_n rfl 38 (.tmp 0) rfl #[.int .i64 tos, .int .i64 id, .int .i64 fl, .int .i64 pt, .int .i64 ttl, .int .i64 pr, .int .u8 (a0.toNat : Int), .int .u8 (a1.toNat : Int), .int .u8 (a2.toNat : Int), .int .u8 (a3.toNat : Int), .int .u8 (a4.toNat : Int), .int .u8 (a5.toNat : Int), .int .u8 (a6.toNat : Int), .int .u8 (a7.toNat : Int), .slice So no co, .slice Sb nb cb] rfl ?_; intro g2 w1 ge lt hh bb; have op := Nat.le_trans bel.size ge; replace bel := bel.trans (bb.mono bel.size); have hp := hh; clear hh lt ge bb) | ((with_reducible show wpList _ _ _ (⟨some 3, _, _, _, _, _⟩ :: _) _ _); refine wpList_box_n rfl 47 (.tmp 1) rfl #[.int .i64 ty, .int .i64 cd, .int .u32 re, .slice D nd qd] rfl ?_; intro g3 w2 ge lt hh bb; have d_p_m := ne_new (hlt hp) ge; have om := Nat.le_trans bel.size ge; replace hp := blk_u hp bb; replace bel := bel.trans (bb.mono bel.size); have hm := hh; clear hh lt ge bb) | ((with_reducible show wpList _ _ _ (⟨some 4, _, _, _, _, _⟩ :: _) _ _); refine wpList_new_a rfl 38 rfl #[.int .i64 0, .int .i64 0, .int .i64 0, .int .i64 0, .int .i64 0, .int .i64 0, .int .u8 0, .int .u8 0, .int .u8 0, .int .u8 0, .int .u8 0, .int .u8 0, .int .u8 0, .int .u8 0, .slice none 0 0, .slice none 0 0] (by kernel_rfl) ?_; intro g4 w3 ge hh bb; have d_p_z := ne_new (hlt hp) ge; have d_m_z := ne_new (hlt hm) ge; have oz := Nat.le_trans bel.size ge; replace hp := blk_u hp bb; replace hm := blk_u hm bb; replace bel := bel.trans (bb.mono bel.size); have hz := hh; clear hh ge bb; have R7 := cell_lit hm 0 _ rfl))
 try clear R7
 with_reducible refine (isbyte_any _ _).mono ?_
 rintro e _ ⟨rfl, rfl⟩
 rw [H1.out]
 go_wp2_with (first | ((with_reducible show wpList _ _ _ (⟨none, Op.store _ (.tmp 4) _, _, _, _, _⟩ :: _) _ _); refine wpList_store_blk rfl 38 (.tmp 4) (.tmp 16) rfl g4 rfl _ rfl _ 38 hz (by rfl) (by kernel_rfl) (by kernel_rfl) ?_; intro w4 hq gr; replace hp := blk_a hp gr d_p_z; replace hm := blk_a hm gr d_m_z; replace bel := below_grown bel gr oz bel.size; clear hz; have hz := hq; clear hq gr))
 exact bodyPost_ret (results_cell_tmp_row rfl _ _ _ _ _ _ _ rfl hz Tryz.underlying38 rfl (by kernel_rfl) _ rfl) rfl (by rw [HP.out]; exact PkPost.none bel)
theorem icput_bad2 (tos id fl pt ttl pr : Int) (a0 a1 a2 a3 a4 a5 a6 a7 : UInt8) (So Sb : Option Addr) (no co nb cb : Nat) (ty cd re : Int) (D : Option Addr) (nd qd : Nat) (lo ld : List UInt8) (w : World) (ho : Sl w So no co lo) (hb : Sl w D nd qd ld) (h1 : byteOk ty = true) (h2 : byteOk cd = false) : Calls Tryz.prog 20 #[.agg #[.int .i64 tos, .int .i64 id, .int .i64 fl, .int .i64 pt, .int .i64 ttl, .int .i64 pr, .int .u8 (a0.toNat : Int), .int .u8 (a1.toNat : Int), .int .u8 (a2.toNat : Int), .int .u8 (a3.toNat : Int), .int .u8 (a4.toNat : Int), .int .u8 (a5.toNat : Int), .int .u8 (a6.toNat : Int), .int .u8 (a7.toNat : Int), .slice So no co, .slice Sb nb cb], .agg #[.int .i64 ty, .int .i64 cd, .int .u32 re, .slice D nd qd]] w (PkPost (icPut tos id fl pt ttl a0 a1 a2 a3 a4 a5 a6 a7 lo ty cd re ld) w) := by
 have H1 := Lib.hid h1
 have H2 := Lib.hid h2
 have HP : Hid (icPut tos id fl pt ttl a0 a1 a2 a3 a4 a5 a6 a7 lo ty cd re ld = pkNone 1) := Lib.hid (if_pos (by rw [h1, h2]; rfl))
 clear h1 h2
 have bel := Below.refl w.heap.size w
 go_enter Tryz.func20, Tryz.ntmps20
 go_wp2_with (first | ((with_reducible show wpList _ _ _ (⟨some 2, _, _, _, _, _⟩ :: _) _ _); refine wpList_box_n rfl 38 (.tmp 0) rfl #[.int .i64 tos, .int .i64 id, .int .i64 fl, .int .i64 pt, .int .i64 ttl, .int .i64 pr, .int .u8 (a0.toNat : Int), .int .u8 (a1.toNat : Int), .int .u8 (a2.toNat : Int), .int .u8 (a3.toNat : Int), .int .u8 (a4.toNat : Int), .int .u8 (a5.toNat : Int), .int .u8 (a6.toNat : Int), .int .u8 (a7.toNat : Int), .slice So no co, .slice Sb nb cb] rfl ?_; intro g2 w1 ge lt hh bb; have op := Nat.le_trans bel.size ge; replace bel := bel.trans (bb.mono bel.size); have hp := hh; clear hh lt ge bb) | ((with_reducible show wpList _ _ _ (⟨some 3, _, _, _, _, _⟩ :: _) _ _); refine wpList_box_n rfl 47 (.tmp 1) rfl #[.int .i64 ty, .int .i64 cd, .int .u32 re, .slice D nd qd] rfl ?_; intro g3 w2 ge lt hh bb; have d_p_m := ne_new (hlt hp) ge; have om := Nat.le_trans bel.size ge; replace hp := blk_u hp bb; replace bel := bel.trans (bb.mono bel.size); have hm := hh; clear hh lt ge bb) | ((with_reducible show wpList _ _ _ (⟨some 4, _, _, _, _, _⟩ :: _) _ _); refine wpList_new_a rfl 38 rfl #[.int .i64 0, .int .i64 0, .int .i64 0, .int .i64 0, .int .i64 0, .int .i64 0, .int .u8 0, .int .u8 0, .int .u8 0, .int .u8 0, .int .u8 0, .int .u8 0, .int .u8 0, .int .u8 0, .slice none 0 0, .slice none 0 0] (by kernel_rfl) ?_; intro g4 w3 ge hh bb; have d_p_z := ne_new (hlt hp) ge; have d_m_z := ne_new (hlt hm) ge; have oz := Nat.le_trans bel.size ge; replace hp := blk_u hp bb; replace hm := blk_u hm bb; replace bel := bel.trans (bb.mono bel.size); have hz := hh; clear hh ge bb; have R7 := cell_lit hm 0 _ rfl))
 try clear R7
 with_reducible refine (isbyte_any _ _).mono ?_
 rintro e _ ⟨rfl, rfl⟩
 rw [H1.out]
 have R12 := cell_lit hm 1 _ rfl
 go_wp2_with fail
 clear R12
 with_reducible refine (isbyte_any _ _).mono ?_
 rintro e _ ⟨rfl, rfl⟩
 rw [H2.out]
 go_wp2_with (first | ((with_reducible show wpList _ _ _ (⟨none, Op.store _ (.tmp 4) _, _, _, _, _⟩ :: _) _ _); refine wpList_store_blk rfl 38 (.tmp 4) (.tmp 16) rfl g4 rfl _ rfl _ 38 hz (by rfl) (by kernel_rfl) (by kernel_rfl) ?_; intro w4 hq gr; replace hp := blk_a hp gr d_p_z; replace hm := blk_a hm gr d_m_z; replace bel := below_grown bel gr oz bel.size; clear hz; have hz := hq; clear hq gr))
 exact bodyPost_ret (results_cell_tmp_row rfl _ _ _ _ _ _ _ rfl hz Tryz.underlying38 rfl (by kernel_rfl) _ rfl) rfl (by rw [HP.out]; exact PkPost.none bel)
theorem icput_long (tos id fl pt ttl pr : Int) (a0 a1 a2 a3 a4 a5 a6 a7 : UInt8) (So Sb : Option Addr) (no co nb cb : Nat) (ty cd re : Int) (D : Option Addr) (nd qd : Nat) (lo ld : List UInt8) (w : World) (ho : Sl w So no co lo) (hb : Sl w D nd qd ld) (h1 : byteOk ty = true) (h2 : byteOk cd = true) (hn : 1472 < nd) : Calls Tryz.prog 20 #[.agg #[.int .i64 tos, .int .i64 id, .int .i64 fl, .int .i64 pt, .int .i64 ttl, .int .i64 pr, .int .u8 (a0.toNat : Int), .int .u8 (a1.toNat : Int), .int .u8 (a2.toNat : Int), .int .u8 (a3.toNat : Int), .int .u8 (a4.toNat : Int), .int .u8 (a5.toNat : Int), .int .u8 (a6.toNat : Int), .int .u8 (a7.toNat : Int), .slice So no co, .slice Sb nb cb], .agg #[.int .i64 ty, .int .i64 cd, .int .u32 re, .slice D nd qd]] w (PkPost (icPut tos id fl pt ttl a0 a1 a2 a3 a4 a5 a6 a7 lo ty cd re ld) w) := by
 obtain ⟨ii, hii, hz0, hz1, hz2⟩ := info_parts Tryz.info5
 have H1 := Lib.hid h1
 have H2 := Lib.hid h2
 have HP : Hid (icPut tos id fl pt ttl a0 a1 a2 a3 a4 a5 a6 a7 lo ty cd re ld = pkNone 2) := Lib.hid (by unfold icPut; rw [if_neg (by rw [h1, h2]; decide), if_pos (by rw [hb.1]; exact hn)])
 have t0 : (1472 : Int) < nd := by omega
 clear h1 h2 hn
 have bel := Below.refl w.heap.size w
 go_enter Tryz.func20, Tryz.ntmps20
 go_wp2_with (first | ((with_reducible show wpList _ _ _ (⟨some 2, _, _, _, _, _⟩ :: _) _ _); refine wpList_box_n rfl 38 (.tmp 0) rfl #[.int .i64 tos, .int .i64 id, .int .i64 fl, .int .i64 pt, .int .i64 ttl, .int .i64 pr, .int .u8 (a0.toNat : Int), .int .u8 (a1.toNat : Int), .int .u8 (a2.toNat : Int), .int .u8 (a3.toNat : Int), .int .u8 (a4.toNat : Int), .int .u8 (a5.toNat : Int), .int .u8 (a6.toNat : Int), .int .u8 (a7.toNat : Int), .slice So no co, .slice Sb nb cb] rfl ?_; intro g2 w1 ge lt hh bb; have av_ho_p := ho.av_new ge; have av_hb_p := hb.av_new ge; have op := Nat.le_trans bel.size ge; replace ho := ho.below bb; replace hb := hb.below bb; replace bel := bel.trans (bb.mono bel.size); have hp := hh; clear hh lt ge bb) | ((with_reducible show wpList _ _ _ (⟨some 3, _, _, _, _, _⟩ :: _) _ _); refine wpList_box_n rfl 47 (.tmp 1) rfl #[.int .i64 ty, .int .i64 cd, .int .u32 re, .slice D nd qd] rfl ?_; intro g3 w2 ge lt hh bb; have d_p_m := ne_new (hlt hp) ge; have av_ho_m := ho.av_new ge; have av_hb_m := hb.av_new ge; have om := Nat.le_trans bel.size ge; replace hp := blk_u hp bb; replace ho := ho.below bb; replace hb := hb.below bb; replace bel := bel.trans (bb.mono bel.size); have hm := hh; clear hh lt ge bb) | ((with_reducible show wpList _ _ _ (⟨some 4, _, _, _, _, _⟩ :: _) _ _); refine wpList_new_a rfl 38 rfl #[.int .i64 0, .int .i64 0, .int .i64 0, .int .i64 0, .int .i64 0, .int .i64 0, .int .u8 0, .int .u8 0, .int .u8 0, .int .u8 0, .int .u8 0, .int .u8 0, .int .u8 0, .int .u8 0, .slice none 0 0, .slice none 0 0] (by kernel_rfl) ?_; intro g4 w3 ge hh bb; have d_p_z := ne_new (hlt hp) ge; have d_m_z := ne_new (hlt hm) ge; have av_ho_z := ho.av_new ge; have av_hb_z := hb.av_new ge; have oz := Nat.le_trans bel.size ge; replace hp := blk_u hp bb; replace hm := blk_u hm bb; replace ho := ho.below bb; replace hb := hb.below bb; replace bel := bel.trans (bb.mono bel.size); have hz := hh; clear hh ge bb; have R7 := cell_lit hm 0 _ rfl))
 try clear R7
 with_reducible refine (isbyte_any _ _).mono ?_
 rintro e _ ⟨rfl, rfl⟩
 rw [H1.out]
 have R12 := cell_lit hm 1 _ rfl
 go_wp2_with fail
 clear R12
 with_reducible refine (isbyte_any _ _).mono ?_
 rintro e _ ⟨rfl, rfl⟩
 rw [H2.out]
 have R18 := cell_lit hm 3 _ rfl
 go_wp2_with (first | ((with_reducible show wpList _ _ _ (⟨none, Op.store _ (.tmp 4) _, _, _, _, _⟩ :: _) _ _); refine wpList_store_blk rfl 38 (.tmp 4) (.tmp 21) rfl g4 rfl _ rfl _ 38 hz (by rfl) (by kernel_rfl) (by kernel_rfl) ?_; intro w4 hq gr; replace ho := ho.away av_ho_z gr; replace hb := hb.away av_hb_z gr; replace hp := blk_a hp gr d_p_z; replace hm := blk_a hm gr d_m_z; replace bel := below_grown bel gr oz bel.size; clear hz; have hz := hq; clear hq gr))
 try clear R18
 exact bodyPost_ret (results_cell_tmp_row rfl _ _ _ _ _ _ _ rfl hz Tryz.underlying38 rfl (by kernel_rfl) _ rfl) rfl (by rw [HP.out]; exact PkPost.none bel)
theorem icput_ok (tos id fl pt ttl pr : Int) (a0 a1 a2 a3 a4 a5 a6 a7 : UInt8) (So Sb : Option Addr) (no co nb cb : Nat) (ty cd re : Int) (D : Option Addr) (nd qd : Nat) (lo ld : List UInt8) (w : World) (ho : Sl w So no co lo) (hb : Sl w D nd qd ld) (h1 : byteOk ty = true) (h2 : byteOk cd = true) (hn : nd ≤ 1472) (hno : no ≤ 100000) (e0 : 0 ≤ re) (e1 : re < 4294967296) : Calls Tryz.prog 20 #[.agg #[.int .i64 tos, .int .i64 id, .int .i64 fl, .int .i64 pt, .int .i64 ttl, .int .i64 pr, .int .u8 (a0.toNat : Int), .int .u8 (a1.toNat : Int), .int .u8 (a2.toNat : Int), .int .u8 (a3.toNat : Int), .int .u8 (a4.toNat : Int), .int .u8 (a5.toNat : Int), .int .u8 (a6.toNat : Int), .int .u8 (a7.toNat : Int), .slice So no co, .slice Sb nb cb], .agg #[.int .i64 ty, .int .i64 cd, .int .u32 re, .slice D nd qd]] w (PkPost (icPut tos id fl pt ttl a0 a1 a2 a3 a4 a5 a6 a7 lo ty cd re ld) w) := by
 obtain ⟨ii, hii, hz0, hz1, hz2⟩ := info_parts Tryz.info5
 have H1 := Lib.hid h1
 have H2 := Lib.hid h2
 have HL1 := Lib.hid ho.1
 have HL2 : Hid ((icBytes ty cd re ld).length = 8 + nd) := Lib.hid (by rw [icBytes_len, hb.1])
 have HP : Hid (icPut tos id fl pt ttl a0 a1 a2 a3 a4 a5 a6 a7 lo ty cd re ld = (([tos, id, fl, pt, ttl, 1], [a0, a1, a2, a3, a4, a5, a6, a7]), (lo, icBytes ty cd re ld), 0)) := Lib.hid (by unfold icPut; rw [if_neg (by rw [h1, h2]; decide), if_neg (by rw [hb.1]; omega)])
 have t0 : decide ((1472 : Int) < nd) = false := decide_eq_false (by omega)
 have HN := Lib.hid hn
 have HNO := Lib.hid hno
 have E0 := Lib.hid e0
 have E1 := Lib.hid e1
 clear h1 h2 hn hno e0 e1
 have bel := Below.refl w.heap.size w
 go_enter Tryz.func20, Tryz.ntmps20
 go_wp2_with (first | ((with_reducible show wpList _ _ _ (⟨some 2, _, _, _, _, _⟩ :: _) _ _); refine wpList_box_n rfl 38 (.tmp 0) rfl #[.int .i64 tos, .int .i64 id, .int .i64 fl, .int .i64 pt, .int .i64 ttl, .int .i64 pr, .int .u8 (a0.toNat : Int), .int .u8 (a1.toNat : Int), .int .u8 (a2.toNat : Int), .int .u8 (a3.toNat : Int), .int .u8 (a4.toNat : Int), .int .u8 (a5.toNat : Int), .int .u8 (a6.toNat : Int), .int .u8 (a7.toNat : Int), .slice So no co, .slice Sb nb cb] rfl ?_; intro g2 w1 ge lt hh bb; have av_ho_p := ho.av_new ge; have av_hb_p := hb.av_new ge; have op := Nat.le_trans bel.size ge; replace ho := ho.below bb; replace hb := hb.below bb; replace bel := bel.trans (bb.mono bel.size); have hp := hh; clear hh lt ge bb) | ((with_reducible show wpList _ _ _ (⟨some 3, _, _, _, _, _⟩ :: _) _ _); refine wpList_box_n rfl 47 (.tmp 1) rfl #[.int .i64 ty, .int .i64 cd, .int .u32 re, .slice D nd qd] rfl ?_; intro g3 w2 ge lt hh bb; have d_p_m := ne_new (hlt hp) ge; have av_ho_m := ho.av_new ge; have av_hb_m := hb.av_new ge; have om := Nat.le_trans bel.size ge; replace hp := blk_u hp bb; replace ho := ho.below bb; replace hb := hb.below bb; replace bel := bel.trans (bb.mono bel.size); have hm := hh; clear hh lt ge bb) | ((with_reducible show wpList _ _ _ (⟨some 4, _, _, _, _, _⟩ :: _) _ _); refine wpList_new_a rfl 38 rfl #[.int .i64 0, .int .i64 0, .int .i64 0, .int .i64 0, .int .i64 0, .int .i64 0, .int .u8 0, .int .u8 0, .int .u8 0, .int .u8 0, .int .u8 0, .int .u8 0, .int .u8 0, .int .u8 0, .slice none 0 0, .slice none 0 0] (by kernel_rfl) ?_; intro g4 w3 ge hh bb; have d_p_z := ne_new (hlt hp) ge; have d_m_z := ne_new (hlt hm) ge; have av_ho_z := ho.av_new ge; have av_hb_z := hb.av_new ge; have oz := Nat.le_trans bel.size ge; replace hp := blk_u hp bb; replace hm := blk_u hm bb; replace ho := ho.below bb; replace hb := hb.below bb; replace bel := bel.trans (bb.mono bel.size); have hz := hh; clear hh ge bb; have R7 := cell_lit hm 0 _ rfl))
 try clear R7
 with_reducible refine (isbyte_any _ _).mono ?_
 rintro e _ ⟨rfl, rfl⟩
 rw [H1.out]
 have R12 := cell_lit hm 1 _ rfl
 go_wp2_with fail
 clear R12
 with_reducible refine (isbyte_any _ _).mono ?_
 rintro e _ ⟨rfl, rfl⟩
 rw [H2.out]
 have R18 := cell_lit hm 3 _ rfl
 go_wp2_with (first | ((with_reducible show wpList _ _ _ (⟨none, Op.store _ (.tmp 22) _, _, _, _, _⟩ :: _) _ _); refine wpList_store_part rfl 3 (.tmp 22) (.const (.int .i64 1)) rfl g2 5 rfl [.int .i64 1] rfl [.int .i64 tos, .int .i64 id, .int .i64 fl, .int .i64 pt, .int .i64 ttl, .int .i64 pr, .int .u8 (a0.toNat : Int), .int .u8 (a1.toNat : Int), .int .u8 (a2.toNat : Int), .int .u8 (a3.toNat : Int), .int .u8 (a4.toNat : Int), .int .u8 (a5.toNat : Int), .int .u8 (a6.toNat : Int), .int .u8 (a7.toNat : Int), .slice So no co, .slice Sb nb cb] 38 hp (by simp) [.int .i64 tos, .int .i64 id, .int .i64 fl, .int .i64 pt, .int .i64 ttl, .int .i64 1, .int .u8 (a0.toNat : Int), .int .u8 (a1.toNat : Int), .int .u8 (a2.toNat : Int), .int .u8 (a3.toNat : Int), .int .u8 (a4.toNat : Int), .int .u8 (a5.toNat : Int), .int .u8 (a6.toNat : Int), .int .u8 (a7.toNat : Int), .slice So no co, .slice Sb nb cb] rfl (by kernel_rfl) (by rfl) ?_; intro w4 hq gr; replace ho := ho.away av_ho_p gr; replace hb := hb.away av_hb_p gr; replace hm := blk_a hm gr (ne_symm d_p_m); replace hz := blk_a hz gr (ne_symm d_p_z); replace bel := below_grown bel gr op bel.size; clear hp; have hp := hq; clear hq gr) | ((with_reducible show wpList _ _ _ (⟨some 23, _, _, _, _, _⟩ :: _) _ _); refine wpList_lit_n rfl 36 5 0 _ rfl #[] (.int .u8 0) Tryz.underlying36 (by kernel_rfl) 1 (by kernel_rfl) (by decide) (by kernel_rfl) ?_; intro g23 w5 ge lt hh bb; have hl : w5.heap[g23]? = some (.cells (([] : List UInt8).map u8v).toArray 5 (0, 0)) := (by simpa [u8v, byteOf_val] using hh); have e0w := own_lit (B := w4.heap.size) ([]) hl ge 0 rfl (by simp [maxLen]); have e0 := (own_sl e0w).1; have e0lo := bel.size; clear hl; have e0ge := ge; have lz_e0 := bb.size; have y_e0_p := Lib.hid (hlt hp); have y_e0_m := Lib.hid (hlt hm); have y_e0_z := Lib.hid (hlt hz); have bl_ho_e0 := ho.bl_new; have bl_hb_e0 := hb.bl_new; replace hp := blk_u hp bb; replace hm := blk_u hm bb; replace hz := blk_u hz bb; replace ho := ho.below bb; replace hb := hb.below bb; replace bel := bel.trans (bb.mono bel.size); clear hh lt ge bb; have av_e0_p := (own_sl e0w).2.av y_e0_p.out; have av_e0_m := (own_sl e0w).2.av y_e0_m.out; have av_e0_z := (own_sl e0w).2.av y_e0_z.out; have R25 := cell_lit hp 14 _ rfl) | ((with_reducible show wpList _ _ _ (⟨some 26, _, _, _, _, _⟩ :: _) _ _); refine wpList_append_bb _ rfl (.tmp 23) (.tmp 25) 36 rfl (w4.heap.size) 5 ii (.int .u8 0) Tryz.underlying36 hii hz0 hz1 hz2 rfl _ (0) ([]) rfl e0w (So) (no) (co) (lo) rfl ho (by have := HNO.out; omega) lz_e0 ?_; intro v26 w6 own_ bb; replace ho := ho.under bl_ho_e0 bb; replace hb := hb.under bl_hb_e0 bb; replace hp := blk_under hp bb y_e0_p.out; replace hm := blk_under hm bb y_e0_m.out; replace hz := blk_under hz bb y_e0_z.out; replace bel := bel.trans (bb.mono e0lo); have lz_so := Nat.le_trans lz_e0 bb.size; clear bb; clear e0 e0w lz_e0; replace own_ : w6.ownsRow (w4.heap.size) 5 1 v26 (no) ((lo : List UInt8).map u8v) := (by simpa using own_); obtain ⟨A26, c26, rfl⟩ := own_val own_; have sow := own_; have so := (own_sl own_).1; have fr_so := (own_sl own_).2; clear own_; have av_so_p := fr_so.av y_e0_p.out; have av_so_m := fr_so.av y_e0_m.out; have av_so_z := fr_so.av y_e0_z.out) | ((with_reducible show wpList _ _ _ (⟨none, Op.store _ (.tmp 27) _, _, _, _, _⟩ :: _) _ _); refine wpList_store_part rfl 36 (.tmp 27) (.tmp 26) rfl g2 14 rfl [.slice A26 no c26] rfl [.int .i64 tos, .int .i64 id, .int .i64 fl, .int .i64 pt, .int .i64 ttl, .int .i64 1, .int .u8 (a0.toNat : Int), .int .u8 (a1.toNat : Int), .int .u8 (a2.toNat : Int), .int .u8 (a3.toNat : Int), .int .u8 (a4.toNat : Int), .int .u8 (a5.toNat : Int), .int .u8 (a6.toNat : Int), .int .u8 (a7.toNat : Int), .slice So no co, .slice Sb nb cb] 38 hp (by simp) [.int .i64 tos, .int .i64 id, .int .i64 fl, .int .i64 pt, .int .i64 ttl, .int .i64 1, .int .u8 (a0.toNat : Int), .int .u8 (a1.toNat : Int), .int .u8 (a2.toNat : Int), .int .u8 (a3.toNat : Int), .int .u8 (a4.toNat : Int), .int .u8 (a5.toNat : Int), .int .u8 (a6.toNat : Int), .int .u8 (a7.toNat : Int), .slice A26 no c26, .slice Sb nb cb] rfl (by kernel_rfl) (by rfl) ?_; intro w7 hq gr; replace ho := ho.away av_ho_p gr; replace hb := hb.away av_hb_p gr; replace so := so.away av_so_p gr; replace sow := own_away sow y_e0_p.out gr; replace lz_so := Nat.le_trans lz_so gr.size; replace hm := blk_a hm gr (ne_symm d_p_m); replace hz := blk_a hz gr (ne_symm d_p_z); replace bel := below_grown bel gr op bel.size; clear hp; have hp := hq; clear hq gr; have R28 := Lib.hid (range_lit hm 0 4 [.int .i64 ty, .int .i64 cd, .int .u32 re, .slice D nd qd] rfl)) | ((with_reducible show wpList _ _ _ (⟨some 28, _, _, _, _, _⟩ :: _) _ _); refine wpList_load_rng 47 (.tmp 3) rfl (by kernel_rfl) _ _ rfl _ R28.out _ Tryz.underlying47 rfl (by kernel_rfl) ?_))
 try clear R18
 try clear R25
 try clear R28
 with_reducible refine (icwrite_any _ _ _ _ _ _ ld _ hb HN.out E0.out E1.out).mono ?_
 rintro e w8 ⟨v, rfl, sbw, b8⟩
 have y_sb_p := Lib.hid (hlt hp)
 have y_sb_m := Lib.hid (hlt hm)
 have y_sb_z := Lib.hid (hlt hz)
 have bl_ho_sb := ho.bl_new
 have bl_hb_sb := hb.bl_new
 have bl_so_sb := so.bl_new
 have sblo := bel.size
 have lz_sb := b8.size
 replace hp := blk_u hp b8
 replace hm := blk_u hm b8
 replace hz := blk_u hz b8
 replace ho := ho.below b8
 replace hb := hb.below b8
 replace so := so.below b8
 replace sow := own_under sow b8
 replace lz_so := Nat.le_trans lz_so b8.size
 replace bel := bel.trans (b8.mono bel.size)
 clear b8
 obtain ⟨Asb, csb, rfl⟩ := own_val sbw
 have sb := (own_sl sbw).1
 have fr_sb := (own_sl sbw).2
 have av_sb_p := fr_sb.av y_sb_p.out
 have av_sb_m := fr_sb.av y_sb_m.out
 have av_sb_z := fr_sb.av y_sb_z.out
 go_wp2_with (first | ((with_reducible show wpList _ _ _ (⟨none, Op.store _ (.tmp 30) _, _, _, _, _⟩ :: _) _ _); refine wpList_store_part rfl 36 (.tmp 30) (.tmp 29) rfl g2 15 rfl [.slice Asb (8 + nd) csb] rfl [.int .i64 tos, .int .i64 id, .int .i64 fl, .int .i64 pt, .int .i64 ttl, .int .i64 1, .int .u8 (a0.toNat : Int), .int .u8 (a1.toNat : Int), .int .u8 (a2.toNat : Int), .int .u8 (a3.toNat : Int), .int .u8 (a4.toNat : Int), .int .u8 (a5.toNat : Int), .int .u8 (a6.toNat : Int), .int .u8 (a7.toNat : Int), .slice A26 no c26, .slice Sb nb cb] 38 hp (by simp) [.int .i64 tos, .int .i64 id, .int .i64 fl, .int .i64 pt, .int .i64 ttl, .int .i64 1, .int .u8 (a0.toNat : Int), .int .u8 (a1.toNat : Int), .int .u8 (a2.toNat : Int), .int .u8 (a3.toNat : Int), .int .u8 (a4.toNat : Int), .int .u8 (a5.toNat : Int), .int .u8 (a6.toNat : Int), .int .u8 (a7.toNat : Int), .slice A26 no c26, .slice Asb (8 + nd) csb] rfl (by kernel_rfl) (by rfl) ?_; intro w9 hq gr; replace ho := ho.away av_ho_p gr; replace hb := hb.away av_hb_p gr; replace so := so.away av_so_p gr; replace sow := own_away sow y_e0_p.out gr; replace sb := sb.away av_sb_p gr; replace sbw := own_away sbw y_sb_p.out gr; replace lz_so := Nat.le_trans lz_so gr.size; replace lz_sb := Nat.le_trans lz_sb gr.size; replace hm := blk_a hm gr (ne_symm d_p_m); replace hz := blk_a hz gr (ne_symm d_p_z); replace bel := below_grown bel gr op bel.size; clear hp; have hp := hq; clear hq gr; have R31 := Lib.hid (range_lit hp 0 16 [.int .i64 tos, .int .i64 id, .int .i64 fl, .int .i64 pt, .int .i64 ttl, .int .i64 1, .int .u8 (a0.toNat : Int), .int .u8 (a1.toNat : Int), .int .u8 (a2.toNat : Int), .int .u8 (a3.toNat : Int), .int .u8 (a4.toNat : Int), .int .u8 (a5.toNat : Int), .int .u8 (a6.toNat : Int), .int .u8 (a7.toNat : Int), .slice A26 no c26, .slice Asb (8 + nd) csb] rfl)) | ((with_reducible show wpList _ _ _ (⟨some 31, _, _, _, _, _⟩ :: _) _ _); refine wpList_load_rng 38 (.tmp 2) rfl (by kernel_rfl) _ _ rfl _ R31.out _ Tryz.underlying38 rfl (by kernel_rfl) ?_) | ((with_reducible show wpList _ _ _ (⟨none, Op.store _ (.tmp 4) _, _, _, _, _⟩ :: _) _ _); refine wpList_store_blk rfl 38 (.tmp 4) (.tmp 31) rfl g4 rfl _ rfl _ 38 hz (by rfl) (by kernel_rfl) (by kernel_rfl) ?_; intro w10 hq gr; replace ho := ho.away av_ho_z gr; replace hb := hb.away av_hb_z gr; replace so := so.away av_so_z gr; replace sow := own_away sow y_e0_z.out gr; replace sb := sb.away av_sb_z gr; replace sbw := own_away sbw y_sb_z.out gr; replace lz_so := Nat.le_trans lz_so gr.size; replace lz_sb := Nat.le_trans lz_sb gr.size; replace hp := blk_a hp gr d_p_z; replace hm := blk_a hm gr d_m_z; replace bel := below_grown bel gr oz bel.size; clear hz; have hz := hq; clear hq gr))
 try clear R31
 exact bodyPost_ret (results_cell_tmp_row rfl _ _ _ _ _ _ _ rfl hz Tryz.underlying38 rfl (by kernel_rfl) _ rfl) rfl ⟨tos, id, fl, pt, ttl, 1, a0, a1, a2, a3, a4, a5, a6, a7, lo, icBytes ty cd re ld, A26, Asb, c26, csb, 0, by rw [HL1.out, HL2.out]; rfl, by rw [HL1.out]; exact so, by rw [HL2.out]; exact sb, by rw [HL1.out]; exact fr_so.mono e0lo, by rw [HL2.out]; exact fr_sb.mono sblo, bel, HP.out.symm⟩
theorem icput_any (tos id fl pt ttl pr : Int) (a0 a1 a2 a3 a4 a5 a6 a7 : UInt8) (So Sb : Option Addr) (no co nb cb : Nat) (ty cd re : Int) (D : Option Addr) (nd qd : Nat) (lo ld : List UInt8) (w : World) (ho : Sl w So no co lo) (hb : Sl w D nd qd ld) (hno : no ≤ 100000) (e0 : 0 ≤ re) (e1 : re < 4294967296) : Calls Tryz.prog 20 #[.agg #[.int .i64 tos, .int .i64 id, .int .i64 fl, .int .i64 pt, .int .i64 ttl, .int .i64 pr, .int .u8 (a0.toNat : Int), .int .u8 (a1.toNat : Int), .int .u8 (a2.toNat : Int), .int .u8 (a3.toNat : Int), .int .u8 (a4.toNat : Int), .int .u8 (a5.toNat : Int), .int .u8 (a6.toNat : Int), .int .u8 (a7.toNat : Int), .slice So no co, .slice Sb nb cb], .agg #[.int .i64 ty, .int .i64 cd, .int .u32 re, .slice D nd qd]] w (PkPost (icPut tos id fl pt ttl a0 a1 a2 a3 a4 a5 a6 a7 lo ty cd re ld) w) := by
 rcases (by decide : ∀ b : Bool, b = true ∨ b = false) (byteOk ty) with h1 | h1
 ·rcases (by decide : ∀ b : Bool, b = true ∨ b = false) (byteOk cd) with h2 | h2
  ·by_cases hl : nd ≤ 1472
   ·exact icput_ok tos id fl pt ttl pr a0 a1 a2 a3 a4 a5 a6 a7 So Sb no co nb cb ty cd re D nd qd lo ld w ho hb h1 h2 hl hno e0 e1
   ·exact icput_long tos id fl pt ttl pr a0 a1 a2 a3 a4 a5 a6 a7 So Sb no co nb cb ty cd re D nd qd lo ld w ho hb h1 h2 (by omega)
  ·exact icput_bad2 tos id fl pt ttl pr a0 a1 a2 a3 a4 a5 a6 a7 So Sb no co nb cb ty cd re D nd qd lo ld w ho hb h1 h2
 ·exact icput_bad1 tos id fl pt ttl pr a0 a1 a2 a3 a4 a5 a6 a7 So Sb no co nb cb ty cd re D nd qd lo ld w ho hb h1
open Go.RowKit

theorem icget_5 (tos id fl pt ttl : Int) (a0 a1 a2 a3 a4 a5 a6 a7 : UInt8) (So Sb : Option Addr) (no co nb cb : Nat) (h0 h1 h2 h3 h4 h5 h6 h7 : UInt8) (r : List UInt8) (w : World) (hb : Sl w Sb nb cb (h0 :: h1 :: h2 :: h3 :: h4 :: h5 :: h6 :: h7 :: r)) (hm : nb ≤ 100000) (hw : (decide (pt = 0) && decide (fl % 2 = 0)) = true) (hc : ck (h0 :: h1 :: h2 :: h3 :: h4 :: h5 :: h6 :: h7 :: r) = 0) : Calls Tryz.prog 21 #[.agg #[.int .i64 tos, .int .i64 id, .int .i64 fl, .int .i64 pt, .int .i64 ttl, .int .i64 1, .int .u8 (a0.toNat : Int), .int .u8 (a1.toNat : Int), .int .u8 (a2.toNat : Int), .int .u8 (a3.toNat : Int), .int .u8 (a4.toNat : Int), .int .u8 (a5.toNat : Int), .int .u8 (a6.toNat : Int), .int .u8 (a7.toNat : Int), .slice So no co, .slice Sb nb cb]] w (MsPost (icGet fl pt 1 (h0 :: h1 :: h2 :: h3 :: h4 :: h5 :: h6 :: h7 :: r)) w) := by
 have HP : Hid (icGet fl pt 1 (h0 :: h1 :: h2 :: h3 :: h4 :: h5 :: h6 :: h7 :: r) = ([(h0.toNat : Int), (h1.toNat : Int), ((be [h4, h5, h6, h7] : Nat) : Int)], r, 0)) := Lib.hid (ic_ok (by rw [ic_at (by simp) hw, if_neg (fun h => h hc)]))
 have HM := Lib.hid hm
 have HW := Lib.hid hw
 have HL := Lib.hid hb.1
 clear hm hw
 obtain ⟨m, hm2⟩ : ∃ m, r.length = m := ⟨_, rfl⟩
 have HM2 := Lib.hid hm2
 have hm3 : m ≤ 100000 := by have h9 := HL.out; have := HM.out; simp only [List.length_cons] at h9; omega
 have HM3 := Lib.hid hm3
 clear hm2 hm3
 have HC : Hid (decide (ck (h0 :: h1 :: h2 :: h3 :: h4 :: h5 :: h6 :: h7 :: r) = 0) = true) := Lib.hid (decide_eq_true hc)
 clear hc
 have bel := Below.refl w.heap.size w
 go_enter Tryz.func21, Tryz.ntmps21
 go_wp2_with (first | ((with_reducible show wpList _ _ _ (⟨some 1, _, _, _, _, _⟩ :: _) _ _); refine wpList_box_n rfl 38 (.tmp 0) rfl #[.int .i64 tos, .int .i64 id, .int .i64 fl, .int .i64 pt, .int .i64 ttl, .int .i64 1, .int .u8 (a0.toNat : Int), .int .u8 (a1.toNat : Int), .int .u8 (a2.toNat : Int), .int .u8 (a3.toNat : Int), .int .u8 (a4.toNat : Int), .int .u8 (a5.toNat : Int), .int .u8 (a6.toNat : Int), .int .u8 (a7.toNat : Int), .slice So no co, .slice Sb nb cb] rfl ?_; intro g1 w1 ge lt hh bb; have av_hb_p := hb.av_new ge; have op := Nat.le_trans bel.size ge; replace hb := hb.below bb; replace bel := bel.trans (bb.mono bel.size); have hp := hh; clear hh lt ge bb) | ((with_reducible show wpList _ _ _ (⟨some 2, _, _, _, _, _⟩ :: _) _ _); refine wpList_new_a rfl 47 rfl #[.int .i64 0, .int .i64 0, .int .u32 0, .slice none 0 0] (by kernel_rfl) ?_; intro g2 w2 ge hh bb; have d_p_z := ne_new (hlt hp) ge; have av_hb_z := hb.av_new ge; have oz := Nat.le_trans bel.size ge; replace hp := blk_u hp bb; replace hb := hb.below bb; replace bel := bel.trans (bb.mono bel.size); have hz := hh; clear hh ge bb; have R7 := cell_lit hp 5 _ rfl; have R10 := Lib.hid (range_lit hp 0 16 [.int .i64 tos, .int .i64 id, .int .i64 fl, .int .i64 pt, .int .i64 ttl, .int .i64 1, .int .u8 (a0.toNat : Int), .int .u8 (a1.toNat : Int), .int .u8 (a2.toNat : Int), .int .u8 (a3.toNat : Int), .int .u8 (a4.toNat : Int), .int .u8 (a5.toNat : Int), .int .u8 (a6.toNat : Int), .int .u8 (a7.toNat : Int), .slice So no co, .slice Sb nb cb] rfl)) | ((with_reducible show wpList _ _ _ (⟨some 10, _, _, _, _, _⟩ :: _) _ _); refine wpList_load_rng 38 (.tmp 1) rfl (by kernel_rfl) _ _ rfl _ R10.out _ Tryz.underlying38 rfl (by kernel_rfl) ?_))
 try clear R7
 try clear R10
 with_reducible refine (ipwhole_any _ _ _ _ _ _ _ _ _ _ _ _ _ _ _ _ _ _ _ _ _).mono ?_
 rintro e w3 ⟨rfl, b3⟩
 replace hp := blk_u hp b3
 replace hz := blk_u hz b3
 replace hb := hb.below b3
 replace bel := bel.trans (b3.mono bel.size)
 clear b3
 rw [HW.out]
 have R15 := cell_lit hp 15 _ rfl
 go_wp2_with fail
 clear R15
 with_reducible refine (rd_read _ _ _ _ _ hb (by have := HM.out; omega)).mono ?_
 rintro e w4 ⟨gr, Ar3, cr3, rfl, ge, hh, rest, frr, avr, b4⟩
 have av_rest_p := frr.av (hlt hp)
 have av_rest_z := frr.av (hlt hz)
 have d_p_r := ne_new (hlt hp) ge
 have d_z_r := ne_new (hlt hz) ge
 have av_hb_r := hb.av_new ge
 have or := Nat.le_trans bel.size ge
 replace hp := blk_u hp b4
 replace hz := blk_u hz b4
 replace hb := hb.below b4
 replace bel := bel.trans (b4.mono bel.size)
 have hr := hh
 clear hh ge b4
 replace rest : Sl w4 (Ar3) (nb) (cr3) (h0 :: h1 :: h2 :: h3 :: h4 :: h5 :: h6 :: h7 :: r) := rest
 go_wp2_with fail
 with_reducible refine (rd_u8c _ _ _ _ _ _ _ _ hr rest).mono ?_
 rintro e w5 ⟨A4, n4, c4, rfl, hq, sq, uq, b5⟩
 replace hb := hb.away av_hb_r b5
 replace hp := blk_a hp b5 d_p_r
 replace hz := blk_a hz b5 d_z_r
 replace bel := below_grown bel b5 or bel.size
 clear b5
 clear hr rest
 have hr := hq
 have rest := sq
 clear hq sq
 have av4_rest_p := av_rest_p.sub uq
 have av4_rest_z := av_rest_z.sub uq
 have av4_rest_r := avr.sub uq
 clear uq
 go_wp2_with fail
 with_reducible refine (rd_u8c _ _ _ _ _ _ _ _ hr rest).mono ?_
 rintro e w6 ⟨A5, n5, c5, rfl, hq, sq, uq, b6⟩
 replace hb := hb.away av_hb_r b6
 replace hp := blk_a hp b6 d_p_r
 replace hz := blk_a hz b6 d_z_r
 replace bel := below_grown bel b6 or bel.size
 clear b6
 clear hr rest
 have hr := hq
 have rest := sq
 clear hq sq
 have av5_rest_p := av4_rest_p.sub uq
 have av5_rest_z := av4_rest_z.sub uq
 have av5_rest_r := av4_rest_r.sub uq
 clear uq
 go_wp2_with (first | ((with_reducible show wpList _ _ _ (⟨some 5, _, _, _, _, _⟩ :: _) _ _); refine wpList_new_a rfl 47 rfl #[.int .i64 0, .int .i64 0, .int .u32 0, .slice none 0 0] (by kernel_rfl) ?_; intro g5 w7 ge hh bb; have d_p_d := ne_new (hlt hp) ge; have d_z_d := ne_new (hlt hz) ge; have d_r_d := ne_new (hlt hr) ge; have av_hb_d := hb.av_new ge; have av_rest_d := rest.av_new ge; have od := Nat.le_trans bel.size ge; replace hp := blk_u hp bb; replace hz := blk_u hz bb; replace hr := blk_u hr bb; replace hb := hb.below bb; replace rest := rest.below bb; replace bel := bel.trans (bb.mono bel.size); have hd := hh; clear hh ge bb) | ((with_reducible show wpList _ _ _ (⟨none, Op.store _ (.tmp 5) _, _, _, _, _⟩ :: _) _ _); refine wpList_store_blk rfl 47 (.tmp 5) (.tmp 21) rfl g5 rfl _ rfl _ 47 hd (by rfl) (by kernel_rfl) (by kernel_rfl) ?_; intro w8 hq gr; replace hb := hb.away av_hb_d gr; replace rest := rest.away av_rest_d gr; replace hp := blk_a hp gr d_p_d; replace hz := blk_a hz gr d_z_d; replace hr := blk_a hr gr d_r_d; replace bel := below_grown bel gr od bel.size; clear hd; have hd := hq; clear hq gr))
 with_reducible refine (rd_u16c _ _ _ _ _ _ _ _ _ hr rest).mono ?_
 rintro e w9 ⟨A8, n8, c8, rfl, hq, sq, uq, b9⟩
 replace hb := hb.away av_hb_r b9
 replace hp := blk_a hp b9 d_p_r
 replace hz := blk_a hz b9 d_z_r
 replace hd := blk_a hd b9 (ne_symm d_r_d)
 replace bel := below_grown bel b9 or bel.size
 clear b9
 clear hr rest
 have hr := hq
 have rest := sq
 clear hq sq
 have av8_rest_p := av5_rest_p.sub uq
 have av8_rest_z := av5_rest_z.sub uq
 have av8_rest_r := av5_rest_r.sub uq
 have av8_rest_d := av_rest_d.sub uq
 clear uq
 go_wp2_with fail
 with_reducible refine (rd_u32c _ _ _ _ _ _ _ _ _ _ _ hr rest).mono ?_
 rintro e w10 ⟨A9, n9, c9, rfl, hq, sq, uq, b10⟩
 replace hb := hb.away av_hb_r b10
 replace hp := blk_a hp b10 d_p_r
 replace hz := blk_a hz b10 d_z_r
 replace hd := blk_a hd b10 (ne_symm d_r_d)
 replace bel := below_grown bel b10 or bel.size
 clear b10
 clear hr rest
 have hr := hq
 have rest := sq
 clear hq sq
 have av9_rest_p := av8_rest_p.sub uq
 have av9_rest_z := av8_rest_z.sub uq
 have av9_rest_r := av8_rest_r.sub uq
 have av9_rest_d := av8_rest_d.sub uq
 clear uq
 go_wp2_with (first | ((with_reducible show wpList _ _ _ (⟨none, Op.store _ (.tmp 26) _, _, _, _, _⟩ :: _) _ _); refine wpList_store_part rfl 45 (.tmp 26) (.tmp 25) rfl g5 2 rfl [.int .u32 (be [h4, h5, h6, h7] : Nat)] rfl [.int .i64 (h0.toNat : Int), .int .i64 (h1.toNat : Int), .int .u32 0, .slice none 0 0] 47 hd (by simp) [.int .i64 (h0.toNat : Int), .int .i64 (h1.toNat : Int), .int .u32 (be [h4, h5, h6, h7] : Nat), .slice none 0 0] rfl (by kernel_rfl) (by rfl) ?_; intro w11 hq gr; replace hb := hb.away av_hb_d gr; replace rest := rest.away av9_rest_d gr; replace hp := blk_a hp gr d_p_d; replace hz := blk_a hz gr d_z_d; replace hr := blk_a hr gr d_r_d; replace bel := below_grown bel gr od bel.size; clear hd; have hd := hq; clear hq gr))
 with_reducible refine (rd_short _ _ _ _ _ _ _ hr rest).mono ?_
 rintro e _ ⟨rfl, rfl⟩
 have R31 := cell_lit hp 15 _ rfl
 go_wp2_with fail
 clear R31
 with_reducible refine (fitsd _ _ _ _ _ hb).mono ?_
 rintro e w12 ⟨rfl, b12⟩
 replace hp := blk_u hp b12
 replace hz := blk_u hz b12
 replace hr := blk_u hr b12
 replace hd := blk_u hd b12
 replace hb := hb.below b12
 replace rest := rest.below b12
 replace bel := bel.trans (b12.mono bel.size)
 clear b12
 rw [HC.out]
 go_wp2_with fail
 with_reducible refine (rd_left _ _ _ _ _ _ _ hr rest).mono ?_
 rintro e _ ⟨rfl, rfl⟩
 rw [HM2.out]
 go_wp2_with fail
 have ob2 := bel.size
 with_reducible refine (rd_bytes (m) _ _ _ _ _ _ _ hr rest (by rw [HM2.out]; exact Nat.le_refl _) (by have := HM3.out; omega)).mono ?_
 rintro e w13 ⟨Abd, cbd, A12, n12, c12, rfl, hq, sq, uq, bd, frbd, b13⟩
 have av_bd_p := frbd.av (hlt hp)
 have av_bd_z := frbd.av (hlt hz)
 have av_bd_r := frbd.av (hlt hr)
 have av_bd_d := frbd.av (hlt hd)
 replace hb := hb.away av_hb_r b13
 replace hp := blk_a hp b13 d_p_r
 replace hz := blk_a hz b13 d_z_r
 replace hd := blk_a hd b13 (ne_symm d_r_d)
 replace bel := below_grown bel b13 or bel.size
 clear b13
 clear hr rest
 have hr := hq
 have rest := sq
 clear hq sq
 have av12_rest_p := av9_rest_p.sub uq
 have av12_rest_z := av9_rest_z.sub uq
 have av12_rest_r := av9_rest_r.sub uq
 have av12_rest_d := av9_rest_d.sub uq
 clear uq
 have fr_bd := frbd.mono ob2
 go_wp2_with (first | ((with_reducible show wpList _ _ _ (⟨none, Op.store _ (.tmp 39) _, _, _, _, _⟩ :: _) _ _); refine wpList_store_part rfl 36 (.tmp 39) (.tmp 38) rfl g5 3 rfl [.slice Abd m cbd] rfl [.int .i64 (h0.toNat : Int), .int .i64 (h1.toNat : Int), .int .u32 (be [h4, h5, h6, h7] : Nat), .slice none 0 0] 47 hd (by simp) [.int .i64 (h0.toNat : Int), .int .i64 (h1.toNat : Int), .int .u32 (be [h4, h5, h6, h7] : Nat), .slice Abd m cbd] rfl (by kernel_rfl) (by rfl) ?_; intro w14 hq gr; replace hb := hb.away av_hb_d gr; replace rest := rest.away av12_rest_d gr; replace bd := bd.away av_bd_d gr; replace hp := blk_a hp gr d_p_d; replace hz := blk_a hz gr d_z_d; replace hr := blk_a hr gr d_r_d; replace bel := below_grown bel gr od bel.size; clear hd; have hd := hq; clear hq gr; have R40 := Lib.hid (range_lit hd 0 4 [.int .i64 (h0.toNat : Int), .int .i64 (h1.toNat : Int), .int .u32 (be [h4, h5, h6, h7] : Nat), .slice Abd m cbd] rfl)) | ((with_reducible show wpList _ _ _ (⟨some 40, _, _, _, _, _⟩ :: _) _ _); refine wpList_load_rng 47 (.tmp 5) rfl (by kernel_rfl) _ _ rfl _ R40.out _ Tryz.underlying47 rfl (by kernel_rfl) ?_) | ((with_reducible show wpList _ _ _ (⟨none, Op.store _ (.tmp 2) _, _, _, _, _⟩ :: _) _ _); refine wpList_store_blk rfl 47 (.tmp 2) (.tmp 40) rfl g2 rfl _ rfl _ 47 hz (by rfl) (by kernel_rfl) (by kernel_rfl) ?_; intro w15 hq gr; replace hb := hb.away av_hb_z gr; replace rest := rest.away av12_rest_z gr; replace bd := bd.away av_bd_z gr; replace hp := blk_a hp gr d_p_z; replace hr := blk_a hr gr (ne_symm d_z_r); replace hd := blk_a hd gr (ne_symm d_z_d); replace bel := below_grown bel gr oz bel.size; clear hz; have hz := hq; clear hq gr))
 try clear R40
 exact bodyPost_ret (results_cell_tmp_row rfl _ _ _ _ _ _ _ rfl hz Tryz.underlying47 rfl (by kernel_rfl) (.int .i64 0) rfl) rfl ⟨_, _, _, r, Abd, cbd, 0, by rw [HM2.out], by rw [List.take_of_length_le (Nat.le_of_eq HM2.out)] at bd; rw [HM2.out]; exact bd, by rw [HM2.out]; exact fr_bd, bel, HP.out.symm⟩
end Go.Proofs.YtbdaejodbcjmfaaGreat
