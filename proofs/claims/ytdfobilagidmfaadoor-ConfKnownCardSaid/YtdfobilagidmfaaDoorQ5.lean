/- Texts put together: Cfz. -/
import Derived.Test.YtdfobilagidmfaaDoorQ4
import Derived.Deep.CutRange
namespace Go.Proofs.YtdfobilagidmfaaDoor
open Go.RowKit

/-- The cells of a configuration. -/
@[reducible] def cfl (c : Cf) (Fx : Option Addr) (nf cf : Nat) (Ox : Option Addr) (nx cx : Nat) : List Value := [.int .u8 (c.own.a.toNat : Int), .int .u8 (c.own.b.toNat : Int), .int .u8 (c.own.c.toNat : Int), .int .u8 (c.own.d.toNat : Int), .int .u8 (c.lan.a.toNat : Int), .int .u8 (c.lan.b.toNat : Int), .int .u8 (c.lan.c.toNat : Int), .int .u8 (c.lan.d.toNat : Int), .int .i64 c.bits, .int .u8 (c.lanmac.a.toNat : Int), .int .u8 (c.lanmac.b.toNat : Int), .int .u8 (c.lanmac.c.toNat : Int), .int .u8 (c.lanmac.d.toNat : Int), .int .u8 (c.lanmac.e.toNat : Int), .int .u8 (c.lanmac.f.toNat : Int), .int .u8 (c.wanmac.a.toNat : Int), .int .u8 (c.wanmac.b.toNat : Int), .int .u8 (c.wanmac.c.toNat : Int), .int .u8 (c.wanmac.d.toNat : Int), .int .u8 (c.wanmac.e.toNat : Int), .int .u8 (c.wanmac.f.toNat : Int), .int .u8 (c.first.a.toNat : Int), .int .u8 (c.first.b.toNat : Int), .int .u8 (c.first.c.toNat : Int), .int .u8 (c.first.d.toNat : Int), .int .u8 (c.last.a.toNat : Int), .int .u8 (c.last.b.toNat : Int), .int .u8 (c.last.c.toNat : Int), .int .u8 (c.last.d.toNat : Int), .int .i64 c.time, .int .u8 (c.dns.a.toNat : Int), .int .u8 (c.dns.b.toNat : Int), .int .u8 (c.dns.c.toNat : Int), .int .u8 (c.dns.d.toNat : Int), .int .i64 c.udp, .int .i64 c.tcp, .int .i64 c.icmp, .int .i64 c.low, .slice Fx nf cf, .slice Ox nx cx]
def Mc6.l (x : Mc6) : List UInt8 := [x.a, x.b, x.c, x.d, x.e, x.f]
def fxf (x : Mc6 × Ad4) : List Value := [.int .u8 (x.1.a.toNat : Int), .int .u8 (x.1.b.toNat : Int), .int .u8 (x.1.c.toNat : Int), .int .u8 (x.1.d.toNat : Int), .int .u8 (x.1.e.toNat : Int), .int .u8 (x.1.f.toNat : Int), .int .u8 (x.2.a.toNat : Int), .int .u8 (x.2.b.toNat : Int), .int .u8 (x.2.c.toNat : Int), .int .u8 (x.2.d.toNat : Int)]
def opf (x : Int × Int × Ad4 × Int) : List Value := [.int .i64 x.1, .int .i64 x.2.1, .int .u8 (x.2.2.1.a.toNat : Int), .int .u8 (x.2.2.1.b.toNat : Int), .int .u8 (x.2.2.1.c.toNat : Int), .int .u8 (x.2.2.1.d.toNat : Int), .int .i64 x.2.2.2]
theorem fxf_len (x : Mc6 × Ad4) : (fxf x).length = 10 := rfl
theorem opf_len (x : Int × Int × Ad4 × Int) : (opf x).length = 7 := rfl
def Cf.checkA (c : Cf) : Bool := inI c.bits 8 30 && (!(!(c.lan.num == c.fst)) && (c.inner c.own && (!isGroup c.lanmac.l && !isGroup c.wanmac.l)))
def Cf.checkB (c : Cf) : Bool := c.inner c.first && (c.inner c.last && (!decide (c.last.num < c.first.num) && (!decide (64 ≤ c.last.num - c.first.num) && !(decide (c.first.num ≤ c.own.num) && decide (c.own.num ≤ c.last.num)))))
def Cf.checkC (c : Cf) : Bool := inI c.time 60 86400 && (inI (c.dns.a.toNat : Int) 1 223 && (inI c.udp 10 86400 && (inI c.tcp 10 86400 && (inI c.icmp 10 86400 && (inI c.low 1024 60000 && (!decide (32 < c.fixed.length) && !decide (32 < c.opens.length)))))))
def fixBad (x y : Mc6 × Ad4) : Bool := (y.1.l == x.1.l) || (y.2.num == x.2.num)
def Cf.fixOne (c : Cf) (d : List (Mc6 × Ad4)) (x : Mc6 × Ad4) : Bool := c.inner x.2 && (!(x.2.num == c.own.num) && !d.any (fixBad x))
def Cf.fixAll (c : Cf) : List (Mc6 × Ad4) → List (Mc6 × Ad4) → Bool
  | _, [] => true
  | d, x :: l => c.fixOne d x && c.fixAll (d ++ [x]) l
def opBad (x y : Int × Int × Ad4 × Int) : Bool := (y.1 == x.1) && (y.2.1 == x.2.1)
def Cf.opOne (c : Cf) (d : List (Int × Int × Ad4 × Int)) (x : Int × Int × Ad4 × Int) : Bool := ((x.1 == 17) || (x.1 == 6)) && (inI x.2.1 1 (c.low - 1) && (inI x.2.2.2 1 65535 && (c.inner x.2.2.1 && (!(x.2.2.1.num == c.own.num) && !d.any (opBad x)))))
def Cf.opAll (c : Cf) : List (Int × Int × Ad4 × Int) → List (Int × Int × Ad4 × Int) → Bool
  | _, [] => true
  | d, x :: l => c.opOne d x && c.opAll (d ++ [x]) l
/-- May a configuration be? -/
def Cf.check (c : Cf) : Bool := c.checkA && (c.checkB && (c.checkC && (c.fixAll [] c.fixed && c.opAll [] c.opens)))
theorem ad_eq2 (x y : Ad4) (W : World) : (binOp .eql 24 (.agg #[.int .u8 (x.a.toNat : Int), .int .u8 (x.b.toNat : Int), .int .u8 (x.c.toNat : Int), .int .u8 (x.d.toNat : Int)]) (.agg #[.int .u8 (y.a.toNat : Int), .int .u8 (y.b.toNat : Int), .int .u8 (y.c.toNat : Int), .int .u8 (y.d.toNat : Int)])).run Tryd.prog W = .ok (.bool (x.num == y.num)) W := by
  rw [← x.cells, ← y.cells]; exact eql_adr _ _ x.lt y.lt W
theorem mc_eq2 (x y : Mc6) (W : World) : (binOp .eql 28 (.agg #[.int .u8 (x.a.toNat : Int), .int .u8 (x.b.toNat : Int), .int .u8 (x.c.toNat : Int), .int .u8 (x.d.toNat : Int), .int .u8 (x.e.toNat : Int), .int .u8 (x.f.toNat : Int)]) (.agg #[.int .u8 (y.a.toNat : Int), .int .u8 (y.b.toNat : Int), .int .u8 (y.c.toNat : Int), .int .u8 (y.d.toNat : Int), .int .u8 (y.e.toNat : Int), .int .u8 (y.f.toNat : Int)])).run Tryd.prog W = .ok (.bool (x.l == y.l)) W :=
  run_eql_bytes (P := Tryd.prog) W 28 5 6 (by kernel_rfl) (by kernel_rfl) (fun w => by kernel_rfl) x.l y.l rfl rfl
theorem ad_guard2 (op : BinOp) (y z : Operand) (a b : Array Value) (W : World) : (eqGuard op 24 y z (.agg a) (.agg b)).run Tryd.prog W = .ok () W := run_eqGuard_agg W op 24 y z _ _ (by kernel_rfl)
theorem mc_guard2 (op : BinOp) (y z : Operand) (a b : Array Value) (W : World) : (eqGuard op 28 y z (.agg a) (.agg b)).run Tryd.prog W = .ok () W := run_eqGuard_agg W op 28 y z _ _ (by kernel_rfl)
theorem any_more {α : Type} {p : α → Bool} {l : List α} {j : Nat} {x : α} (hx : l[j]? = some x) (h : (l.take j).any p = false) (hp : p x = false) : (l.take (j + 1)).any p = false := by
  rw [List.take_add_one, hx, Option.toList_some, List.any_append, h, List.any_cons, hp]
  rfl
theorem any_hit {α : Type} {p : α → Bool} {l : List α} {j i : Nat} {x : α} (hj : j < i) (hx : l[j]? = some x) (hp : p x = true) : (l.take i).any p = true := by
  rw [List.any_eq_true]
  exact ⟨x, List.mem_of_getElem? (i := j) (by rw [List.getElem?_take, if_pos hj]; exact hx), hp⟩
theorem Cf.fix_step {c : Cf} {l : List (Mc6 × Ad4)} {i : Nat} {x : Mc6 × Ad4} (hx : l[i]? = some x) : c.fixAll (l.take i) (l.drop i) = (c.fixOne (l.take i) x && c.fixAll (l.take (i + 1)) (l.drop (i + 1))) := by
  obtain ⟨hi, he⟩ := List.getElem?_eq_some_iff.1 hx
  rw [List.drop_eq_getElem_cons hi, he, Cf.fixAll, List.take_add_one, hx]
  rfl
theorem Cf.op_step {c : Cf} {l : List (Int × Int × Ad4 × Int)} {i : Nat} {x : Int × Int × Ad4 × Int} (hx : l[i]? = some x) : c.opAll (l.take i) (l.drop i) = (c.opOne (l.take i) x && c.opAll (l.take (i + 1)) (l.drop (i + 1))) := by
  obtain ⟨hi, he⟩ := List.getElem?_eq_some_iff.1 hx
  rw [List.drop_eq_getElem_cons hi, he, Cf.opAll, List.take_add_one, hx]
  rfl
set_option linter.unusedVariables false in
set_option maxRecDepth 100000 in
set_option maxHeartbeats 16000000 in
theorem check_any (c : Cf) (Fx : Option Addr) (nf cf : Nat) (Ox : Option Addr) (nx cx : Nat) (w : World) (hf : Sle fxf 10 w Fx nf cf c.fixed) (ho : Sle opf 7 w Ox nx cx c.opens) : Calls Tryd.prog 13 #[.agg #[.int .u8 (c.own.a.toNat : Int), .int .u8 (c.own.b.toNat : Int), .int .u8 (c.own.c.toNat : Int), .int .u8 (c.own.d.toNat : Int), .int .u8 (c.lan.a.toNat : Int), .int .u8 (c.lan.b.toNat : Int), .int .u8 (c.lan.c.toNat : Int), .int .u8 (c.lan.d.toNat : Int), .int .i64 c.bits, .int .u8 (c.lanmac.a.toNat : Int), .int .u8 (c.lanmac.b.toNat : Int), .int .u8 (c.lanmac.c.toNat : Int), .int .u8 (c.lanmac.d.toNat : Int), .int .u8 (c.lanmac.e.toNat : Int), .int .u8 (c.lanmac.f.toNat : Int), .int .u8 (c.wanmac.a.toNat : Int), .int .u8 (c.wanmac.b.toNat : Int), .int .u8 (c.wanmac.c.toNat : Int), .int .u8 (c.wanmac.d.toNat : Int), .int .u8 (c.wanmac.e.toNat : Int), .int .u8 (c.wanmac.f.toNat : Int), .int .u8 (c.first.a.toNat : Int), .int .u8 (c.first.b.toNat : Int), .int .u8 (c.first.c.toNat : Int), .int .u8 (c.first.d.toNat : Int), .int .u8 (c.last.a.toNat : Int), .int .u8 (c.last.b.toNat : Int), .int .u8 (c.last.c.toNat : Int), .int .u8 (c.last.d.toNat : Int), .int .i64 c.time, .int .u8 (c.dns.a.toNat : Int), .int .u8 (c.dns.b.toNat : Int), .int .u8 (c.dns.c.toNat : Int), .int .u8 (c.dns.d.toNat : Int), .int .i64 c.udp, .int .i64 c.tcp, .int .i64 c.icmp, .int .i64 c.low, .slice Fx nf cf, .slice Ox nx cx]] w fun e w' => e = .returned (.bool c.check) ∧ Below w.heap.size w w' := by
  have gd := ad_guard
  have gd2 := ad_guard2
  have gd3 := mc_guard2
  have HLF := Lib.hid hf.1
  have HLO := Lib.hid ho.1
  have zd0 : (0 : Int) ≤ c.dns.a.toNat := by omega
  have zd1 : (c.dns.a.toNat : Int) < 256 := by have := c.dns.a.toNat_lt; omega
  have bel := Below.refl w.heap.size w
  go_enter Tryd.func13, Tryd.ntmps13
  go_wp2_with (first | ((with_reducible show wpList _ _ _ (⟨some 1, _, _, _, _, _⟩ :: _) _ _); refine wpList_box_n rfl 44 (.tmp 0) rfl (cfl c Fx nf cf Ox nx cx).toArray rfl ?_; intro g1 w1 ge lt hh bb; have av_hf_p := hf.av_new ge; have av_ho_p := ho.av_new ge; have op := Nat.le_trans bel.size ge; replace hf := hf.below bb; replace ho := ho.below bb; replace bel := bel.trans (bb.mono bel.size); have hp := hh; clear hh lt ge bb))
  go_cut [42] from 9999 (fun s42 W => s42 = .bool (!c.checkA) ∧ W.heap[g1]? = some (.cells (cfl c Fx nf cf Ox nx cx).toArray 44 (0, 0)) ∧ Sle fxf 10 W (Fx) (nf) (cf) (c.fixed) ∧ Sle opf 7 W (Ox) (nx) (cx) (c.opens) ∧ Below w.heap.size w W)
  case first =>
    replace bel := bel.drew
    replace hp : w1.drew.heap[g1]? = _ := hp
    replace hf := hf.drew
    replace ho := ho.drew
    refine wp_region_held_drew (S := fun W => W.heap[g1]? = some (.cells (cfl c Fx nf cf Ox nx cx).toArray 44 (0, 0))) (by kernel_rfl) hp (fun hH => ?_)
    generalize w1.drew = w2 at bel hp hf ho hH ⊢
    refine wpAnyH_take (i := 0) (v := ?_) rfl (by kernel_rfl) (by kernel_rfl) (by kernel_rfl) (fun _ _ _ h => h) (Or.inl ⟨by rfl, ?_⟩) hH ?_
    rotate_left
    · ((intro W hW; clear hW; go_simp) <;> with_reducible rfl)
    simp only [Act.put, List.getElem_toArray, List.getElem_cons_zero, List.setIfInBounds_toArray, List.set_cons_zero, List.set_cons_succ]
    refine wpAnyH_take (i := 1) (v := ?_) rfl (by kernel_rfl) (by kernel_rfl) (by kernel_rfl) (fun _ _ _ h => h) (Or.inl ⟨by rfl, ?_⟩) hH ?_
    rotate_left
    · ((intro W hW; clear hW; go_simp) <;> with_reducible rfl)
    simp only [Act.put, List.getElem_toArray, List.getElem_cons_zero, List.getElem_cons_succ, List.setIfInBounds_toArray, List.set_cons_zero, List.set_cons_succ]
    refine wpAnyH_take (i := 2) (v := ?_) rfl (by kernel_rfl) (by kernel_rfl) (by kernel_rfl) (fun _ _ _ h => h) (Or.inl ⟨by rfl, ?_⟩) hH ?_
    rotate_left
    · ((intro W hW; have hk := cell_lit (hW) 8 _ rfl; clear hW; go_simp) <;> with_reducible rfl)
    simp only [Act.put, List.getElem_toArray, List.getElem_cons_zero, List.getElem_cons_succ, List.setIfInBounds_toArray, List.set_cons_zero, List.set_cons_succ]
    refine wpAnyH_ready (rs := [3]) (by kernel_rfl) (by simp) ?_
    refine AllReadyH.cons (o := _) rfl (fun K hK => ?_) AllReadyH.nil
    simp only [List.getElem_toArray, List.getElem_cons_zero, List.getElem_cons_succ]
    go_simp
    with_reducible refine (in_any _ _ _ _).mono ?_
    rintro e _ ⟨rfl, rfl⟩
    dsimp only
    obtain ⟨b0, HB0_⟩ : ∃ b, inI (c.bits) 8 30 = b := ⟨_, rfl⟩
    have HB0 := Lib.hid HB0_
    rw [HB0_]
    clear HB0_
    refine hK.out _ _ hp (fun hH3 => ?_)
    clear hK K
    refine wpAnyH_take (i := 4) (v := ?_) rfl (by kernel_rfl) (by kernel_rfl) (by kernel_rfl) (fun _ _ _ h => h) (Or.inl ⟨by rfl, ?_⟩) hH3 ?_
    rotate_left
    · ((intro W hW; clear hW; go_simp) <;> with_reducible rfl)
    simp only [Act.put, List.getElem_toArray, List.getElem_cons_zero, List.getElem_cons_succ, List.setIfInBounds_toArray, List.set_cons_zero, List.set_cons_succ]
    refine wpAnyH_take (i := 5) (v := ?_) rfl (by kernel_rfl) (by kernel_rfl) (by kernel_rfl) (fun _ _ _ h => h) (Or.inl ⟨by rfl, ?_⟩) hH3 ?_
    rotate_left
    · ((intro W hW; clear hW; go_simp) <;> with_reducible rfl)
    simp only [Act.put, List.getElem_toArray, List.getElem_cons_zero, List.getElem_cons_succ, List.setIfInBounds_toArray, List.set_cons_zero, List.set_cons_succ]
    rcases b0 with _ | _
    · refine wpAnyH_take (i := 6) (v := undef) rfl (by kernel_rfl) (by kernel_rfl) (by kernel_rfl) (fun _ _ _ h => h) (Or.inr ⟨by rfl, rfl⟩) hH3 ?_
      simp only [Act.put, List.getElem_toArray, List.getElem_cons_zero, List.getElem_cons_succ, List.setIfInBounds_toArray, List.set_cons_zero, List.set_cons_succ]
      refine wpAnyH_take (i := 7) (v := undef) rfl (by kernel_rfl) (by kernel_rfl) (by kernel_rfl) (fun _ _ _ h => h) (Or.inr ⟨by rfl, rfl⟩) hH3 ?_
      simp only [Act.put, List.getElem_toArray, List.getElem_cons_zero, List.getElem_cons_succ, List.setIfInBounds_toArray, List.set_cons_zero, List.set_cons_succ]
      refine wpAnyH_take (i := 8) (v := undef) rfl (by kernel_rfl) (by kernel_rfl) (by kernel_rfl) (fun _ _ _ h => h) (Or.inr ⟨by rfl, rfl⟩) hH3 ?_
      simp only [Act.put, List.getElem_toArray, List.getElem_cons_zero, List.getElem_cons_succ, List.setIfInBounds_toArray, List.set_cons_zero, List.set_cons_succ]
      refine wpAnyH_take (i := 9) (v := undef) rfl (by kernel_rfl) (by kernel_rfl) (by kernel_rfl) (fun _ _ _ h => h) (Or.inr ⟨by rfl, rfl⟩) hH3 ?_
      simp only [Act.put, List.getElem_toArray, List.getElem_cons_zero, List.getElem_cons_succ, List.setIfInBounds_toArray, List.set_cons_zero, List.set_cons_succ]
      refine wpAnyH_take (i := 10) (v := undef) rfl (by kernel_rfl) (by kernel_rfl) (by kernel_rfl) (fun _ _ _ h => h) (Or.inr ⟨by rfl, rfl⟩) hH3 ?_
      simp only [Act.put, List.getElem_toArray, List.getElem_cons_zero, List.getElem_cons_succ, List.setIfInBounds_toArray, List.set_cons_zero, List.set_cons_succ]
      refine wpAnyH_take (i := 11) (v := undef) rfl (by kernel_rfl) (by kernel_rfl) (by kernel_rfl) (fun _ _ _ h => h) (Or.inr ⟨by rfl, rfl⟩) hH3 ?_
      simp only [Act.put, List.getElem_toArray, List.getElem_cons_zero, List.getElem_cons_succ, List.setIfInBounds_toArray, List.set_cons_zero, List.set_cons_succ]
      refine wpAnyH_take (i := 12) (v := undef) rfl (by kernel_rfl) (by kernel_rfl) (by kernel_rfl) (fun _ _ _ h => h) (Or.inr ⟨by rfl, rfl⟩) hH3 ?_
      simp only [Act.put, List.getElem_toArray, List.getElem_cons_zero, List.getElem_cons_succ, List.setIfInBounds_toArray, List.set_cons_zero, List.set_cons_succ]
      refine wpAnyH_take (i := 13) (v := ?_) rfl (by kernel_rfl) (by kernel_rfl) (by kernel_rfl) (fun _ _ _ h => h) (Or.inl ⟨by rfl, ?_⟩) hH3 ?_
      rotate_left
      · ((intro W hW; clear hW; go_simp) <;> with_reducible rfl)
      simp only [Act.put, List.getElem_toArray, List.getElem_cons_zero, List.getElem_cons_succ, List.setIfInBounds_toArray, List.set_cons_zero, List.set_cons_succ]
      refine wpAnyH_take (i := 14) (v := ?_) rfl (by kernel_rfl) (by kernel_rfl) (by kernel_rfl) (fun _ _ _ h => h) (Or.inl ⟨by rfl, ?_⟩) hH3 ?_
      rotate_left
      · ((intro W hW; clear hW; go_simp) <;> with_reducible rfl)
      simp only [Act.put, List.getElem_toArray, List.getElem_cons_zero, List.getElem_cons_succ, List.setIfInBounds_toArray, List.set_cons_zero, List.set_cons_succ]
      refine wpAnyH_take (i := 15) (v := undef) rfl (by kernel_rfl) (by kernel_rfl) (by kernel_rfl) (fun _ _ _ h => h) (Or.inr ⟨by rfl, rfl⟩) hH3 ?_
      simp only [Act.put, List.getElem_toArray, List.getElem_cons_zero, List.getElem_cons_succ, List.setIfInBounds_toArray, List.set_cons_zero, List.set_cons_succ]
      refine wpAnyH_take (i := 16) (v := undef) rfl (by kernel_rfl) (by kernel_rfl) (by kernel_rfl) (fun _ _ _ h => h) (Or.inr ⟨by rfl, rfl⟩) hH3 ?_
      simp only [Act.put, List.getElem_toArray, List.getElem_cons_zero, List.getElem_cons_succ, List.setIfInBounds_toArray, List.set_cons_zero, List.set_cons_succ]
      refine wpAnyH_take (i := 17) (v := undef) rfl (by kernel_rfl) (by kernel_rfl) (by kernel_rfl) (fun _ _ _ h => h) (Or.inr ⟨by rfl, rfl⟩) hH3 ?_
      simp only [Act.put, List.getElem_toArray, List.getElem_cons_zero, List.getElem_cons_succ, List.setIfInBounds_toArray, List.set_cons_zero, List.set_cons_succ]
      refine wpAnyH_take (i := 18) (v := undef) rfl (by kernel_rfl) (by kernel_rfl) (by kernel_rfl) (fun _ _ _ h => h) (Or.inr ⟨by rfl, rfl⟩) hH3 ?_
      simp only [Act.put, List.getElem_toArray, List.getElem_cons_zero, List.getElem_cons_succ, List.setIfInBounds_toArray, List.set_cons_zero, List.set_cons_succ]
      refine wpAnyH_take (i := 19) (v := undef) rfl (by kernel_rfl) (by kernel_rfl) (by kernel_rfl) (fun _ _ _ h => h) (Or.inr ⟨by rfl, rfl⟩) hH3 ?_
      simp only [Act.put, List.getElem_toArray, List.getElem_cons_zero, List.getElem_cons_succ, List.setIfInBounds_toArray, List.set_cons_zero, List.set_cons_succ]
      refine wpAnyH_take (i := 20) (v := ?_) rfl (by kernel_rfl) (by kernel_rfl) (by kernel_rfl) (fun _ _ _ h => h) (Or.inl ⟨by rfl, ?_⟩) hH3 ?_
      rotate_left
      · ((intro W hW; clear hW; go_simp) <;> with_reducible rfl)
      simp only [Act.put, List.getElem_toArray, List.getElem_cons_zero, List.getElem_cons_succ, List.setIfInBounds_toArray, List.set_cons_zero, List.set_cons_succ]
      refine wpAnyH_take (i := 21) (v := ?_) rfl (by kernel_rfl) (by kernel_rfl) (by kernel_rfl) (fun _ _ _ h => h) (Or.inl ⟨by rfl, ?_⟩) hH3 ?_
      rotate_left
      · ((intro W hW; clear hW; go_simp) <;> with_reducible rfl)
      simp only [Act.put, List.getElem_toArray, List.getElem_cons_zero, List.getElem_cons_succ, List.setIfInBounds_toArray, List.set_cons_zero, List.set_cons_succ]
      refine wpAnyH_take (i := 22) (v := undef) rfl (by kernel_rfl) (by kernel_rfl) (by kernel_rfl) (fun _ _ _ h => h) (Or.inr ⟨by rfl, rfl⟩) hH3 ?_
      simp only [Act.put, List.getElem_toArray, List.getElem_cons_zero, List.getElem_cons_succ, List.setIfInBounds_toArray, List.set_cons_zero, List.set_cons_succ]
      refine wpAnyH_take (i := 23) (v := undef) rfl (by kernel_rfl) (by kernel_rfl) (by kernel_rfl) (fun _ _ _ h => h) (Or.inr ⟨by rfl, rfl⟩) hH3 ?_
      simp only [Act.put, List.getElem_toArray, List.getElem_cons_zero, List.getElem_cons_succ, List.setIfInBounds_toArray, List.set_cons_zero, List.set_cons_succ]
      refine wpAnyH_take (i := 24) (v := undef) rfl (by kernel_rfl) (by kernel_rfl) (by kernel_rfl) (fun _ _ _ h => h) (Or.inr ⟨by rfl, rfl⟩) hH3 ?_
      simp only [Act.put, List.getElem_toArray, List.getElem_cons_zero, List.getElem_cons_succ, List.setIfInBounds_toArray, List.set_cons_zero, List.set_cons_succ]
      refine wpAnyH_take (i := 25) (v := ?_) rfl (by kernel_rfl) (by kernel_rfl) (by kernel_rfl) (fun _ _ _ h => h) (Or.inl ⟨by rfl, ?_⟩) hH3 ?_
      rotate_left
      · ((intro W hW; clear hW; go_simp) <;> with_reducible rfl)
      simp only [Act.put, List.getElem_toArray, List.getElem_cons_zero, List.getElem_cons_succ, List.setIfInBounds_toArray, List.set_cons_zero, List.set_cons_succ]
      refine wpAnyH_take (i := 26) (v := ?_) rfl (by kernel_rfl) (by kernel_rfl) (by kernel_rfl) (fun _ _ _ h => h) (Or.inl ⟨by rfl, ?_⟩) hH3 ?_
      rotate_left
      · ((intro W hW; clear hW; go_simp) <;> with_reducible rfl)
      simp only [Act.put, List.getElem_toArray, List.getElem_cons_zero, List.getElem_cons_succ, List.setIfInBounds_toArray, List.set_cons_zero, List.set_cons_succ]
      refine wpAnyH_take (i := 27) (v := undef) rfl (by kernel_rfl) (by kernel_rfl) (by kernel_rfl) (fun _ _ _ h => h) (Or.inr ⟨by rfl, rfl⟩) hH3 ?_
      simp only [Act.put, List.getElem_toArray, List.getElem_cons_zero, List.getElem_cons_succ, List.setIfInBounds_toArray, List.set_cons_zero, List.set_cons_succ]
      refine wpAnyH_take (i := 28) (v := undef) rfl (by kernel_rfl) (by kernel_rfl) (by kernel_rfl) (fun _ _ _ h => h) (Or.inr ⟨by rfl, rfl⟩) hH3 ?_
      simp only [Act.put, List.getElem_toArray, List.getElem_cons_zero, List.getElem_cons_succ, List.setIfInBounds_toArray, List.set_cons_zero, List.set_cons_succ]
      refine wpAnyH_take (i := 29) (v := undef) rfl (by kernel_rfl) (by kernel_rfl) (by kernel_rfl) (fun _ _ _ h => h) (Or.inr ⟨by rfl, rfl⟩) hH3 ?_
      simp only [Act.put, List.getElem_toArray, List.getElem_cons_zero, List.getElem_cons_succ, List.setIfInBounds_toArray, List.set_cons_zero, List.set_cons_succ]
      refine wpAnyH_take (i := 30) (v := ?_) rfl (by kernel_rfl) (by kernel_rfl) (by kernel_rfl) (fun _ _ _ h => h) (Or.inl ⟨by rfl, ?_⟩) hH3 ?_
      rotate_left
      · ((intro W hW; clear hW; go_simp) <;> with_reducible rfl)
      simp only [Act.put, List.getElem_toArray, List.getElem_cons_zero, List.getElem_cons_succ, List.setIfInBounds_toArray, List.set_cons_zero, List.set_cons_succ]
      refine wpAnyH_done (by kernel_rfl) ?_ _
      go_wp2_with fail
      go_meet
      case rel => exact ⟨by unfold Cf.checkA; rw [HB0.out]; simp, hp, hf, ho, bel⟩
    · refine wpAnyH_take (i := 6) (v := ?_) rfl (by kernel_rfl) (by kernel_rfl) (by kernel_rfl) (fun _ _ _ h => h) (Or.inl ⟨by rfl, ?_⟩) hH3 ?_
      rotate_left
      · ((intro W hW; clear hW; go_simp) <;> with_reducible rfl)
      simp only [Act.put, List.getElem_toArray, List.getElem_cons_zero, List.getElem_cons_succ, List.setIfInBounds_toArray, List.set_cons_zero, List.set_cons_succ]
      refine wpAnyH_take (i := 7) (v := ?_) rfl (by kernel_rfl) (by kernel_rfl) (by kernel_rfl) (fun _ _ _ h => h) (Or.inl ⟨by rfl, ?_⟩) hH3 ?_
      rotate_left
      · ((intro W hW; clear hW; go_simp) <;> with_reducible rfl)
      simp only [Act.put, List.getElem_toArray, List.getElem_cons_zero, List.getElem_cons_succ, List.setIfInBounds_toArray, List.set_cons_zero, List.set_cons_succ]
      refine wpAnyH_take (i := 8) (v := .agg #[.int .u8 (c.lan.a.toNat : Int), .int .u8 (c.lan.b.toNat : Int), .int .u8 (c.lan.c.toNat : Int), .int .u8 (c.lan.d.toNat : Int)]) rfl (by kernel_rfl) (by kernel_rfl) (by kernel_rfl) (fun _ _ _ h => h) (yieldsIf_load_part (by kernel_rfl) 24 _ rfl g1 4 4 rfl _ 44 (0, 0) (fun W hW => hW) _ rfl _ Tryd.underlying24 rfl (by kernel_rfl)) hH3 ?_
      simp only [Act.put, List.getElem_toArray, List.getElem_cons_zero, List.getElem_cons_succ, List.setIfInBounds_toArray, List.set_cons_zero, List.set_cons_succ]
      refine wpAnyH_take (i := 9) (v := ?_) rfl (by kernel_rfl) (by kernel_rfl) (by kernel_rfl) (fun _ _ _ h => h) (Or.inl ⟨by rfl, ?_⟩) hH3 ?_
      rotate_left
      · ((intro W hW; clear hW; go_simp) <;> with_reducible rfl)
      simp only [Act.put, List.getElem_toArray, List.getElem_cons_zero, List.getElem_cons_succ, List.setIfInBounds_toArray, List.set_cons_zero, List.set_cons_succ]
      refine wpAnyH_take (i := 10) (v := .agg #[.int .u8 (c.lan.a.toNat : Int), .int .u8 (c.lan.b.toNat : Int), .int .u8 (c.lan.c.toNat : Int), .int .u8 (c.lan.d.toNat : Int), .int .i64 c.bits]) rfl (by kernel_rfl) (by kernel_rfl) (by kernel_rfl) (fun _ _ _ h => h) (yieldsIf_load_part (by kernel_rfl) 40 _ rfl g1 4 5 rfl _ 44 (0, 0) (fun W hW => hW) _ rfl _ Tryd.underlying40 rfl (by kernel_rfl)) hH3 ?_
      simp only [Act.put, List.getElem_toArray, List.getElem_cons_zero, List.getElem_cons_succ, List.setIfInBounds_toArray, List.set_cons_zero, List.set_cons_succ]
      refine wpAnyH_ready (rs := [11]) (by kernel_rfl) (by simp) ?_
      refine AllReadyH.cons (o := _) rfl (fun K hK => ?_) AllReadyH.nil
      simp only [List.getElem_toArray, List.getElem_cons_zero, List.getElem_cons_succ]
      go_simp
      with_reducible refine (rfirst_any _ _ _ _ _ _).mono ?_
      rintro e w4 ⟨rfl, b4⟩
      dsimp only
      replace hp := blk_u hp b4
      replace hf := hf.below b4
      replace ho := ho.below b4
      replace bel := bel.trans (b4.mono bel.size)
      clear b4
      rw [show firstN (be [c.lan.a, c.lan.b, c.lan.c, c.lan.d]) (clamp c.bits) = c.fst from rfl]
      obtain ⟨b1, HB1_⟩ : ∃ b, (!(c.lan.num == c.fst)) = b := ⟨_, rfl⟩
      have HB1 := Lib.hid HB1_
      have q1 : ∀ W, (binOp .neq 24 (.agg #[.int .u8 (c.lan.a.toNat : Int), .int .u8 (c.lan.b.toNat : Int), .int .u8 (c.lan.c.toNat : Int), .int .u8 (c.lan.d.toNat : Int)]) (adr c.fst)).run Tryd.prog W = .ok (.bool b1) W := fun W => by rw [ad_neq _ _ c.fst_lt, HB1_]
      clear HB1_
      refine hK.out _ _ hp (fun hH5 => ?_)
      clear hK K
      refine wpAnyH_take (i := 12) (v := ?_) rfl (by kernel_rfl) (by kernel_rfl) (by kernel_rfl) (fun _ _ _ h => h) (Or.inl ⟨by rfl, ?_⟩) hH5 ?_
      rotate_left
      · ((intro W hW; clear hW; go_simp) <;> with_reducible rfl)
      simp only [Act.put, List.getElem_toArray, List.getElem_cons_zero, List.getElem_cons_succ, List.setIfInBounds_toArray, List.set_cons_zero, List.set_cons_succ]
      refine wpAnyH_take (i := 13) (v := ?_) rfl (by kernel_rfl) (by kernel_rfl) (by kernel_rfl) (fun _ _ _ h => h) (Or.inl ⟨by rfl, ?_⟩) hH5 ?_
      rotate_left
      · ((intro W hW; clear hW; go_simp) <;> with_reducible rfl)
      simp only [Act.put, List.getElem_toArray, List.getElem_cons_zero, List.getElem_cons_succ, List.setIfInBounds_toArray, List.set_cons_zero, List.set_cons_succ]
      refine wpAnyH_take (i := 14) (v := ?_) rfl (by kernel_rfl) (by kernel_rfl) (by kernel_rfl) (fun _ _ _ h => h) (Or.inl ⟨by rfl, ?_⟩) hH5 ?_
      rotate_left
      · ((intro W hW; clear hW; go_simp) <;> with_reducible rfl)
      simp only [Act.put, List.getElem_toArray, List.getElem_cons_zero, List.getElem_cons_succ, List.setIfInBounds_toArray, List.set_cons_zero, List.set_cons_succ]
      rcases b1 with _ | _
      · refine wpAnyH_take (i := 15) (v := .agg (cfl c Fx nf cf Ox nx cx).toArray) rfl (by kernel_rfl) (by kernel_rfl) (by kernel_rfl) (fun _ _ _ h => h) (yieldsIf_load_part (by kernel_rfl) 44 _ rfl g1 0 40 rfl _ 44 (0, 0) (fun W hW => hW) _ rfl _ Tryd.underlying44 rfl (by kernel_rfl)) hH5 ?_
        simp only [Act.put, List.getElem_toArray, List.getElem_cons_zero, List.getElem_cons_succ, List.setIfInBounds_toArray, List.set_cons_zero, List.set_cons_succ]
        refine wpAnyH_take (i := 16) (v := ?_) rfl (by kernel_rfl) (by kernel_rfl) (by kernel_rfl) (fun _ _ _ h => h) (Or.inl ⟨by rfl, ?_⟩) hH5 ?_
        rotate_left
        · ((intro W hW; clear hW; go_simp) <;> with_reducible rfl)
        simp only [Act.put, List.getElem_toArray, List.getElem_cons_zero, List.getElem_cons_succ, List.setIfInBounds_toArray, List.set_cons_zero, List.set_cons_succ]
        refine wpAnyH_take (i := 17) (v := .agg #[.int .u8 (c.own.a.toNat : Int), .int .u8 (c.own.b.toNat : Int), .int .u8 (c.own.c.toNat : Int), .int .u8 (c.own.d.toNat : Int)]) rfl (by kernel_rfl) (by kernel_rfl) (by kernel_rfl) (fun _ _ _ h => h) (yieldsIf_load_part (by kernel_rfl) 24 _ rfl g1 0 4 rfl _ 44 (0, 0) (fun W hW => hW) _ rfl _ Tryd.underlying24 rfl (by kernel_rfl)) hH5 ?_
        simp only [Act.put, List.getElem_toArray, List.getElem_cons_zero, List.getElem_cons_succ, List.setIfInBounds_toArray, List.set_cons_zero, List.set_cons_succ]
        refine wpAnyH_ready (rs := [18]) (by kernel_rfl) (by simp) ?_
        refine AllReadyH.cons (o := _) rfl (fun K hK => ?_) AllReadyH.nil
        simp only [List.getElem_toArray, List.getElem_cons_zero, List.getElem_cons_succ]
        go_simp
        with_reducible refine (inner_any c (c.own) _ _ _ _ _ _ _).mono ?_
        rintro e w6 ⟨rfl, b6⟩
        dsimp only
        replace hp := blk_u hp b6
        replace hf := hf.below b6
        replace ho := ho.below b6
        replace bel := bel.trans (b6.mono bel.size)
        clear b6
        obtain ⟨b2, HB2_⟩ : ∃ b, c.inner (c.own) = b := ⟨_, rfl⟩
        have HB2 := Lib.hid HB2_
        rw [HB2_]
        clear HB2_
        refine hK.out _ _ hp (fun hH7 => ?_)
        clear hK K
        refine wpAnyH_take (i := 19) (v := ?_) rfl (by kernel_rfl) (by kernel_rfl) (by kernel_rfl) (fun _ _ _ h => h) (Or.inl ⟨by rfl, ?_⟩) hH7 ?_
        rotate_left
        · ((intro W hW; clear hW; go_simp) <;> with_reducible rfl)
        simp only [Act.put, List.getElem_toArray, List.getElem_cons_zero, List.getElem_cons_succ, List.setIfInBounds_toArray, List.set_cons_zero, List.set_cons_succ]
        refine wpAnyH_take (i := 20) (v := ?_) rfl (by kernel_rfl) (by kernel_rfl) (by kernel_rfl) (fun _ _ _ h => h) (Or.inl ⟨by rfl, ?_⟩) hH7 ?_
        rotate_left
        · ((intro W hW; clear hW; go_simp) <;> with_reducible rfl)
        simp only [Act.put, List.getElem_toArray, List.getElem_cons_zero, List.getElem_cons_succ, List.setIfInBounds_toArray, List.set_cons_zero, List.set_cons_succ]
        refine wpAnyH_take (i := 21) (v := ?_) rfl (by kernel_rfl) (by kernel_rfl) (by kernel_rfl) (fun _ _ _ h => h) (Or.inl ⟨by rfl, ?_⟩) hH7 ?_
        rotate_left
        · ((intro W hW; clear hW; go_simp) <;> with_reducible rfl)
        simp only [Act.put, List.getElem_toArray, List.getElem_cons_zero, List.getElem_cons_succ, List.setIfInBounds_toArray, List.set_cons_zero, List.set_cons_succ]
        rcases b2 with _ | _
        · refine wpAnyH_take (i := 22) (v := undef) rfl (by kernel_rfl) (by kernel_rfl) (by kernel_rfl) (fun _ _ _ h => h) (Or.inr ⟨by rfl, rfl⟩) hH7 ?_
          simp only [Act.put, List.getElem_toArray, List.getElem_cons_zero, List.getElem_cons_succ, List.setIfInBounds_toArray, List.set_cons_zero, List.set_cons_succ]
          refine wpAnyH_take (i := 23) (v := undef) rfl (by kernel_rfl) (by kernel_rfl) (by kernel_rfl) (fun _ _ _ h => h) (Or.inr ⟨by rfl, rfl⟩) hH7 ?_
          simp only [Act.put, List.getElem_toArray, List.getElem_cons_zero, List.getElem_cons_succ, List.setIfInBounds_toArray, List.set_cons_zero, List.set_cons_succ]
          refine wpAnyH_take (i := 24) (v := undef) rfl (by kernel_rfl) (by kernel_rfl) (by kernel_rfl) (fun _ _ _ h => h) (Or.inr ⟨by rfl, rfl⟩) hH7 ?_
          simp only [Act.put, List.getElem_toArray, List.getElem_cons_zero, List.getElem_cons_succ, List.setIfInBounds_toArray, List.set_cons_zero, List.set_cons_succ]
          refine wpAnyH_take (i := 25) (v := ?_) rfl (by kernel_rfl) (by kernel_rfl) (by kernel_rfl) (fun _ _ _ h => h) (Or.inl ⟨by rfl, ?_⟩) hH7 ?_
          rotate_left
          · ((intro W hW; clear hW; go_simp) <;> with_reducible rfl)
          simp only [Act.put, List.getElem_toArray, List.getElem_cons_zero, List.getElem_cons_succ, List.setIfInBounds_toArray, List.set_cons_zero, List.set_cons_succ]
          refine wpAnyH_take (i := 26) (v := ?_) rfl (by kernel_rfl) (by kernel_rfl) (by kernel_rfl) (fun _ _ _ h => h) (Or.inl ⟨by rfl, ?_⟩) hH7 ?_
          rotate_left
          · ((intro W hW; clear hW; go_simp) <;> with_reducible rfl)
          simp only [Act.put, List.getElem_toArray, List.getElem_cons_zero, List.getElem_cons_succ, List.setIfInBounds_toArray, List.set_cons_zero, List.set_cons_succ]
          refine wpAnyH_take (i := 27) (v := undef) rfl (by kernel_rfl) (by kernel_rfl) (by kernel_rfl) (fun _ _ _ h => h) (Or.inr ⟨by rfl, rfl⟩) hH7 ?_
          simp only [Act.put, List.getElem_toArray, List.getElem_cons_zero, List.getElem_cons_succ, List.setIfInBounds_toArray, List.set_cons_zero, List.set_cons_succ]
          refine wpAnyH_take (i := 28) (v := undef) rfl (by kernel_rfl) (by kernel_rfl) (by kernel_rfl) (fun _ _ _ h => h) (Or.inr ⟨by rfl, rfl⟩) hH7 ?_
          simp only [Act.put, List.getElem_toArray, List.getElem_cons_zero, List.getElem_cons_succ, List.setIfInBounds_toArray, List.set_cons_zero, List.set_cons_succ]
          refine wpAnyH_take (i := 29) (v := undef) rfl (by kernel_rfl) (by kernel_rfl) (by kernel_rfl) (fun _ _ _ h => h) (Or.inr ⟨by rfl, rfl⟩) hH7 ?_
          simp only [Act.put, List.getElem_toArray, List.getElem_cons_zero, List.getElem_cons_succ, List.setIfInBounds_toArray, List.set_cons_zero, List.set_cons_succ]
          refine wpAnyH_take (i := 30) (v := ?_) rfl (by kernel_rfl) (by kernel_rfl) (by kernel_rfl) (fun _ _ _ h => h) (Or.inl ⟨by rfl, ?_⟩) hH7 ?_
          rotate_left
          · ((intro W hW; clear hW; go_simp) <;> with_reducible rfl)
          simp only [Act.put, List.getElem_toArray, List.getElem_cons_zero, List.getElem_cons_succ, List.setIfInBounds_toArray, List.set_cons_zero, List.set_cons_succ]
          refine wpAnyH_done (by kernel_rfl) ?_ _
          go_wp2_with fail
          go_meet
          case rel => exact ⟨by unfold Cf.checkA; rw [HB0.out, HB1.out, HB2.out]; simp, hp, hf, ho, bel⟩
        · refine wpAnyH_take (i := 22) (v := ?_) rfl (by kernel_rfl) (by kernel_rfl) (by kernel_rfl) (fun _ _ _ h => h) (Or.inl ⟨by rfl, ?_⟩) hH7 ?_
          rotate_left
          · ((intro W hW; clear hW; go_simp) <;> with_reducible rfl)
          simp only [Act.put, List.getElem_toArray, List.getElem_cons_zero, List.getElem_cons_succ, List.setIfInBounds_toArray, List.set_cons_zero, List.set_cons_succ]
          refine wpAnyH_take (i := 23) (v := .agg #[.int .u8 (c.lanmac.a.toNat : Int), .int .u8 (c.lanmac.b.toNat : Int), .int .u8 (c.lanmac.c.toNat : Int), .int .u8 (c.lanmac.d.toNat : Int), .int .u8 (c.lanmac.e.toNat : Int), .int .u8 (c.lanmac.f.toNat : Int)]) rfl (by kernel_rfl) (by kernel_rfl) (by kernel_rfl) (fun _ _ _ h => h) (yieldsIf_load_part (by kernel_rfl) 28 _ rfl g1 9 6 rfl _ 44 (0, 0) (fun W hW => hW) _ rfl _ Tryd.underlying28 rfl (by kernel_rfl)) hH7 ?_
          simp only [Act.put, List.getElem_toArray, List.getElem_cons_zero, List.getElem_cons_succ, List.setIfInBounds_toArray, List.set_cons_zero, List.set_cons_succ]
          refine wpAnyH_ready (rs := [24]) (by kernel_rfl) (by simp) ?_
          refine AllReadyH.cons (o := _) rfl (fun K hK => ?_) AllReadyH.nil
          simp only [List.getElem_toArray, List.getElem_cons_zero, List.getElem_cons_succ]
          go_simp
          with_reducible refine (rgroup_any _ _ _ _ _ _ _).mono ?_
          rintro e w8 ⟨rfl, b8⟩
          dsimp only
          replace hp := blk_u hp b8
          replace hf := hf.below b8
          replace ho := ho.below b8
          replace bel := bel.trans (b8.mono bel.size)
          clear b8
          obtain ⟨b3, HB3_⟩ : ∃ b, isGroup (c.lanmac).l = b := ⟨_, rfl⟩
          have HB3 := Lib.hid HB3_
          rw [show isGroup [c.lanmac.a, c.lanmac.b, c.lanmac.c, c.lanmac.d, c.lanmac.e, c.lanmac.f] = b3 from HB3_]
          clear HB3_
          refine hK.out _ _ hp (fun hH9 => ?_)
          clear hK K
          refine wpAnyH_take (i := 25) (v := ?_) rfl (by kernel_rfl) (by kernel_rfl) (by kernel_rfl) (fun _ _ _ h => h) (Or.inl ⟨by rfl, ?_⟩) hH9 ?_
          rotate_left
          · ((intro W hW; clear hW; go_simp) <;> with_reducible rfl)
          simp only [Act.put, List.getElem_toArray, List.getElem_cons_zero, List.getElem_cons_succ, List.setIfInBounds_toArray, List.set_cons_zero, List.set_cons_succ]
          refine wpAnyH_take (i := 26) (v := ?_) rfl (by kernel_rfl) (by kernel_rfl) (by kernel_rfl) (fun _ _ _ h => h) (Or.inl ⟨by rfl, ?_⟩) hH9 ?_
          rotate_left
          · ((intro W hW; clear hW; go_simp) <;> with_reducible rfl)
          simp only [Act.put, List.getElem_toArray, List.getElem_cons_zero, List.getElem_cons_succ, List.setIfInBounds_toArray, List.set_cons_zero, List.set_cons_succ]
          rcases b3 with _ | _
          · refine wpAnyH_take (i := 27) (v := ?_) rfl (by kernel_rfl) (by kernel_rfl) (by kernel_rfl) (fun _ _ _ h => h) (Or.inl ⟨by rfl, ?_⟩) hH9 ?_
            rotate_left
            · ((intro W hW; clear hW; go_simp) <;> with_reducible rfl)
            simp only [Act.put, List.getElem_toArray, List.getElem_cons_zero, List.getElem_cons_succ, List.setIfInBounds_toArray, List.set_cons_zero, List.set_cons_succ]
            refine wpAnyH_take (i := 28) (v := .agg #[.int .u8 (c.wanmac.a.toNat : Int), .int .u8 (c.wanmac.b.toNat : Int), .int .u8 (c.wanmac.c.toNat : Int), .int .u8 (c.wanmac.d.toNat : Int), .int .u8 (c.wanmac.e.toNat : Int), .int .u8 (c.wanmac.f.toNat : Int)]) rfl (by kernel_rfl) (by kernel_rfl) (by kernel_rfl) (fun _ _ _ h => h) (yieldsIf_load_part (by kernel_rfl) 28 _ rfl g1 15 6 rfl _ 44 (0, 0) (fun W hW => hW) _ rfl _ Tryd.underlying28 rfl (by kernel_rfl)) hH9 ?_
            simp only [Act.put, List.getElem_toArray, List.getElem_cons_zero, List.getElem_cons_succ, List.setIfInBounds_toArray, List.set_cons_zero, List.set_cons_succ]
            refine wpAnyH_ready (rs := [29]) (by kernel_rfl) (by simp) ?_
            refine AllReadyH.cons (o := _) rfl (fun K hK => ?_) AllReadyH.nil
            simp only [List.getElem_toArray, List.getElem_cons_zero, List.getElem_cons_succ]
            go_simp
            with_reducible refine (rgroup_any _ _ _ _ _ _ _).mono ?_
            rintro e w10 ⟨rfl, b10⟩
            dsimp only
            replace hp := blk_u hp b10
            replace hf := hf.below b10
            replace ho := ho.below b10
            replace bel := bel.trans (b10.mono bel.size)
            clear b10
            obtain ⟨b4, HB4_⟩ : ∃ b, isGroup (c.wanmac).l = b := ⟨_, rfl⟩
            have HB4 := Lib.hid HB4_
            rw [show isGroup [c.wanmac.a, c.wanmac.b, c.wanmac.c, c.wanmac.d, c.wanmac.e, c.wanmac.f] = b4 from HB4_]
            clear HB4_
            refine hK.out _ _ hp (fun hH11 => ?_)
            clear hK K
            refine wpAnyH_take (i := 30) (v := ?_) rfl (by kernel_rfl) (by kernel_rfl) (by kernel_rfl) (fun _ _ _ h => h) (Or.inl ⟨by rfl, ?_⟩) hH11 ?_
            rotate_left
            · ((intro W hW; clear hW; go_simp) <;> with_reducible rfl)
            simp only [Act.put, List.getElem_toArray, List.getElem_cons_zero, List.getElem_cons_succ, List.setIfInBounds_toArray, List.set_cons_zero, List.set_cons_succ]
            rcases b4 with _ | _
            · refine wpAnyH_done (by kernel_rfl) ?_ _
              go_wp2_with fail
              go_meet
              case rel => exact ⟨by unfold Cf.checkA; rw [HB0.out, HB1.out, HB2.out, HB3.out, HB4.out]; rfl, hp, hf, ho, bel⟩
            · refine wpAnyH_done (by kernel_rfl) ?_ _
              go_wp2_with fail
              go_meet
              case rel => exact ⟨by unfold Cf.checkA; rw [HB0.out, HB1.out, HB2.out, HB3.out, HB4.out]; simp, hp, hf, ho, bel⟩
          · refine wpAnyH_take (i := 27) (v := undef) rfl (by kernel_rfl) (by kernel_rfl) (by kernel_rfl) (fun _ _ _ h => h) (Or.inr ⟨by rfl, rfl⟩) hH9 ?_
            simp only [Act.put, List.getElem_toArray, List.getElem_cons_zero, List.getElem_cons_succ, List.setIfInBounds_toArray, List.set_cons_zero, List.set_cons_succ]
            refine wpAnyH_take (i := 28) (v := undef) rfl (by kernel_rfl) (by kernel_rfl) (by kernel_rfl) (fun _ _ _ h => h) (Or.inr ⟨by rfl, rfl⟩) hH9 ?_
            simp only [Act.put, List.getElem_toArray, List.getElem_cons_zero, List.getElem_cons_succ, List.setIfInBounds_toArray, List.set_cons_zero, List.set_cons_succ]
            refine wpAnyH_take (i := 29) (v := undef) rfl (by kernel_rfl) (by kernel_rfl) (by kernel_rfl) (fun _ _ _ h => h) (Or.inr ⟨by rfl, rfl⟩) hH9 ?_
            simp only [Act.put, List.getElem_toArray, List.getElem_cons_zero, List.getElem_cons_succ, List.setIfInBounds_toArray, List.set_cons_zero, List.set_cons_succ]
            refine wpAnyH_take (i := 30) (v := ?_) rfl (by kernel_rfl) (by kernel_rfl) (by kernel_rfl) (fun _ _ _ h => h) (Or.inl ⟨by rfl, ?_⟩) hH9 ?_
            rotate_left
            · ((intro W hW; clear hW; go_simp) <;> with_reducible rfl)
            simp only [Act.put, List.getElem_toArray, List.getElem_cons_zero, List.getElem_cons_succ, List.setIfInBounds_toArray, List.set_cons_zero, List.set_cons_succ]
            refine wpAnyH_done (by kernel_rfl) ?_ _
            go_wp2_with fail
            go_meet
            case rel => exact ⟨by unfold Cf.checkA; rw [HB0.out, HB1.out, HB2.out, HB3.out]; simp, hp, hf, ho, bel⟩
      · refine wpAnyH_take (i := 15) (v := undef) rfl (by kernel_rfl) (by kernel_rfl) (by kernel_rfl) (fun _ _ _ h => h) (Or.inr ⟨by rfl, rfl⟩) hH5 ?_
        simp only [Act.put, List.getElem_toArray, List.getElem_cons_zero, List.getElem_cons_succ, List.setIfInBounds_toArray, List.set_cons_zero, List.set_cons_succ]
        refine wpAnyH_take (i := 16) (v := undef) rfl (by kernel_rfl) (by kernel_rfl) (by kernel_rfl) (fun _ _ _ h => h) (Or.inr ⟨by rfl, rfl⟩) hH5 ?_
        simp only [Act.put, List.getElem_toArray, List.getElem_cons_zero, List.getElem_cons_succ, List.setIfInBounds_toArray, List.set_cons_zero, List.set_cons_succ]
        refine wpAnyH_take (i := 17) (v := undef) rfl (by kernel_rfl) (by kernel_rfl) (by kernel_rfl) (fun _ _ _ h => h) (Or.inr ⟨by rfl, rfl⟩) hH5 ?_
        simp only [Act.put, List.getElem_toArray, List.getElem_cons_zero, List.getElem_cons_succ, List.setIfInBounds_toArray, List.set_cons_zero, List.set_cons_succ]
        refine wpAnyH_take (i := 18) (v := undef) rfl (by kernel_rfl) (by kernel_rfl) (by kernel_rfl) (fun _ _ _ h => h) (Or.inr ⟨by rfl, rfl⟩) hH5 ?_
        simp only [Act.put, List.getElem_toArray, List.getElem_cons_zero, List.getElem_cons_succ, List.setIfInBounds_toArray, List.set_cons_zero, List.set_cons_succ]
        refine wpAnyH_take (i := 19) (v := undef) rfl (by kernel_rfl) (by kernel_rfl) (by kernel_rfl) (fun _ _ _ h => h) (Or.inr ⟨by rfl, rfl⟩) hH5 ?_
        simp only [Act.put, List.getElem_toArray, List.getElem_cons_zero, List.getElem_cons_succ, List.setIfInBounds_toArray, List.set_cons_zero, List.set_cons_succ]
        refine wpAnyH_take (i := 20) (v := ?_) rfl (by kernel_rfl) (by kernel_rfl) (by kernel_rfl) (fun _ _ _ h => h) (Or.inl ⟨by rfl, ?_⟩) hH5 ?_
        rotate_left
        · ((intro W hW; clear hW; go_simp) <;> with_reducible rfl)
        simp only [Act.put, List.getElem_toArray, List.getElem_cons_zero, List.getElem_cons_succ, List.setIfInBounds_toArray, List.set_cons_zero, List.set_cons_succ]
        refine wpAnyH_take (i := 21) (v := ?_) rfl (by kernel_rfl) (by kernel_rfl) (by kernel_rfl) (fun _ _ _ h => h) (Or.inl ⟨by rfl, ?_⟩) hH5 ?_
        rotate_left
        · ((intro W hW; clear hW; go_simp) <;> with_reducible rfl)
        simp only [Act.put, List.getElem_toArray, List.getElem_cons_zero, List.getElem_cons_succ, List.setIfInBounds_toArray, List.set_cons_zero, List.set_cons_succ]
        refine wpAnyH_take (i := 22) (v := undef) rfl (by kernel_rfl) (by kernel_rfl) (by kernel_rfl) (fun _ _ _ h => h) (Or.inr ⟨by rfl, rfl⟩) hH5 ?_
        simp only [Act.put, List.getElem_toArray, List.getElem_cons_zero, List.getElem_cons_succ, List.setIfInBounds_toArray, List.set_cons_zero, List.set_cons_succ]
        refine wpAnyH_take (i := 23) (v := undef) rfl (by kernel_rfl) (by kernel_rfl) (by kernel_rfl) (fun _ _ _ h => h) (Or.inr ⟨by rfl, rfl⟩) hH5 ?_
        simp only [Act.put, List.getElem_toArray, List.getElem_cons_zero, List.getElem_cons_succ, List.setIfInBounds_toArray, List.set_cons_zero, List.set_cons_succ]
        refine wpAnyH_take (i := 24) (v := undef) rfl (by kernel_rfl) (by kernel_rfl) (by kernel_rfl) (fun _ _ _ h => h) (Or.inr ⟨by rfl, rfl⟩) hH5 ?_
        simp only [Act.put, List.getElem_toArray, List.getElem_cons_zero, List.getElem_cons_succ, List.setIfInBounds_toArray, List.set_cons_zero, List.set_cons_succ]
        refine wpAnyH_take (i := 25) (v := ?_) rfl (by kernel_rfl) (by kernel_rfl) (by kernel_rfl) (fun _ _ _ h => h) (Or.inl ⟨by rfl, ?_⟩) hH5 ?_
        rotate_left
        · ((intro W hW; clear hW; go_simp) <;> with_reducible rfl)
        simp only [Act.put, List.getElem_toArray, List.getElem_cons_zero, List.getElem_cons_succ, List.setIfInBounds_toArray, List.set_cons_zero, List.set_cons_succ]
        refine wpAnyH_take (i := 26) (v := ?_) rfl (by kernel_rfl) (by kernel_rfl) (by kernel_rfl) (fun _ _ _ h => h) (Or.inl ⟨by rfl, ?_⟩) hH5 ?_
        rotate_left
        · ((intro W hW; clear hW; go_simp) <;> with_reducible rfl)
        simp only [Act.put, List.getElem_toArray, List.getElem_cons_zero, List.getElem_cons_succ, List.setIfInBounds_toArray, List.set_cons_zero, List.set_cons_succ]
        refine wpAnyH_take (i := 27) (v := undef) rfl (by kernel_rfl) (by kernel_rfl) (by kernel_rfl) (fun _ _ _ h => h) (Or.inr ⟨by rfl, rfl⟩) hH5 ?_
        simp only [Act.put, List.getElem_toArray, List.getElem_cons_zero, List.getElem_cons_succ, List.setIfInBounds_toArray, List.set_cons_zero, List.set_cons_succ]
        refine wpAnyH_take (i := 28) (v := undef) rfl (by kernel_rfl) (by kernel_rfl) (by kernel_rfl) (fun _ _ _ h => h) (Or.inr ⟨by rfl, rfl⟩) hH5 ?_
        simp only [Act.put, List.getElem_toArray, List.getElem_cons_zero, List.getElem_cons_succ, List.setIfInBounds_toArray, List.set_cons_zero, List.set_cons_succ]
        refine wpAnyH_take (i := 29) (v := undef) rfl (by kernel_rfl) (by kernel_rfl) (by kernel_rfl) (fun _ _ _ h => h) (Or.inr ⟨by rfl, rfl⟩) hH5 ?_
        simp only [Act.put, List.getElem_toArray, List.getElem_cons_zero, List.getElem_cons_succ, List.setIfInBounds_toArray, List.set_cons_zero, List.set_cons_succ]
        refine wpAnyH_take (i := 30) (v := ?_) rfl (by kernel_rfl) (by kernel_rfl) (by kernel_rfl) (fun _ _ _ h => h) (Or.inl ⟨by rfl, ?_⟩) hH5 ?_
        rotate_left
        · ((intro W hW; clear hW; go_simp) <;> with_reducible rfl)
        simp only [Act.put, List.getElem_toArray, List.getElem_cons_zero, List.getElem_cons_succ, List.setIfInBounds_toArray, List.set_cons_zero, List.set_cons_succ]
        refine wpAnyH_done (by kernel_rfl) ?_ _
        go_wp2_with fail
        go_meet
        case rel => exact ⟨by unfold Cf.checkA; rw [HB0.out, HB1.out]; simp, hp, hf, ho, bel⟩
  clear hp hf ho bel
  obtain ⟨w53, hw_⟩ : ∃ x, x = wc := ⟨_, rfl⟩
  subst hw_
  obtain ⟨rfl, hp, hf, ho, bel⟩ := hcut
  rcases (by decide : ∀ b : Bool, b = true ∨ b = false) (c.checkA) with hc | hc
  · rw [hc]
    have HCA := Lib.hid hc
    clear hc
    go_wp2_with fail
    replace bel := bel.drew
    replace hp : w53.drew.heap[g1]? = _ := hp
    replace hf := hf.drew
    replace ho := ho.drew
    refine wp_region_held_drew (S := fun W => W.heap[g1]? = some (.cells (cfl c Fx nf cf Ox nx cx).toArray 44 (0, 0))) (by kernel_rfl) hp (fun hH => ?_)
    generalize w53.drew = w54 at bel hp hf ho hH ⊢
    refine wpAnyH_take (i := 0) (v := ?_) rfl (by kernel_rfl) (by kernel_rfl) (by kernel_rfl) (fun _ _ _ h => h) (Or.inl ⟨by rfl, ?_⟩) hH ?_
    rotate_left
    · ((intro W hW; clear hW; go_simp) <;> with_reducible rfl)
    simp only [Act.put, List.getElem_toArray, List.getElem_cons_zero, List.setIfInBounds_toArray, List.set_cons_zero, List.set_cons_succ]
    refine wpAnyH_take (i := 1) (v := .agg #[.int .u8 (c.first.a.toNat : Int), .int .u8 (c.first.b.toNat : Int), .int .u8 (c.first.c.toNat : Int), .int .u8 (c.first.d.toNat : Int)]) rfl (by kernel_rfl) (by kernel_rfl) (by kernel_rfl) (fun _ _ _ h => h) (yieldsIf_load_part (by kernel_rfl) 24 _ rfl g1 21 4 rfl _ 44 (0, 0) (fun W hW => hW) _ rfl _ Tryd.underlying24 rfl (by kernel_rfl)) hH ?_
    simp only [Act.put, List.getElem_toArray, List.getElem_cons_zero, List.getElem_cons_succ, List.setIfInBounds_toArray, List.set_cons_zero, List.set_cons_succ]
    refine wpAnyH_take (i := 3) (v := ?_) rfl (by kernel_rfl) (by kernel_rfl) (by kernel_rfl) (fun _ _ _ h => h) (Or.inl ⟨by rfl, ?_⟩) hH ?_
    rotate_left
    · ((intro W hW; clear hW; go_simp) <;> with_reducible rfl)
    simp only [Act.put, List.getElem_toArray, List.getElem_cons_zero, List.getElem_cons_succ, List.setIfInBounds_toArray, List.set_cons_zero, List.set_cons_succ]
    refine wpAnyH_take (i := 4) (v := .agg #[.int .u8 (c.last.a.toNat : Int), .int .u8 (c.last.b.toNat : Int), .int .u8 (c.last.c.toNat : Int), .int .u8 (c.last.d.toNat : Int)]) rfl (by kernel_rfl) (by kernel_rfl) (by kernel_rfl) (fun _ _ _ h => h) (yieldsIf_load_part (by kernel_rfl) 24 _ rfl g1 25 4 rfl _ 44 (0, 0) (fun W hW => hW) _ rfl _ Tryd.underlying24 rfl (by kernel_rfl)) hH ?_
    simp only [Act.put, List.getElem_toArray, List.getElem_cons_zero, List.getElem_cons_succ, List.setIfInBounds_toArray, List.set_cons_zero, List.set_cons_succ]
    refine wpAnyH_take (i := 6) (v := ?_) rfl (by kernel_rfl) (by kernel_rfl) (by kernel_rfl) (fun _ _ _ h => h) (Or.inl ⟨by rfl, ?_⟩) hH ?_
    rotate_left
    · ((intro W hW; clear hW; go_simp) <;> with_reducible rfl)
    simp only [Act.put, List.getElem_toArray, List.getElem_cons_zero, List.getElem_cons_succ, List.setIfInBounds_toArray, List.set_cons_zero, List.set_cons_succ]
    refine wpAnyH_take (i := 7) (v := .agg #[.int .u8 (c.own.a.toNat : Int), .int .u8 (c.own.b.toNat : Int), .int .u8 (c.own.c.toNat : Int), .int .u8 (c.own.d.toNat : Int)]) rfl (by kernel_rfl) (by kernel_rfl) (by kernel_rfl) (fun _ _ _ h => h) (yieldsIf_load_part (by kernel_rfl) 24 _ rfl g1 0 4 rfl _ 44 (0, 0) (fun W hW => hW) _ rfl _ Tryd.underlying24 rfl (by kernel_rfl)) hH ?_
    simp only [Act.put, List.getElem_toArray, List.getElem_cons_zero, List.getElem_cons_succ, List.setIfInBounds_toArray, List.set_cons_zero, List.set_cons_succ]
    refine wpAnyH_ready (rs := [2]) (by kernel_rfl) (by simp) ?_
    refine AllReadyH.cons (o := _) rfl (fun K hK => ?_) AllReadyH.nil
    simp only [List.getElem_toArray, List.getElem_cons_zero, List.getElem_cons_succ]
    go_simp
    with_reducible refine (rnum_any _ _ _ _ _).mono ?_
    rintro e w55 ⟨rfl, b55⟩
    dsimp only
    replace hp := blk_u hp b55
    replace hf := hf.below b55
    replace ho := ho.below b55
    replace bel := bel.trans (b55.mono bel.size)
    clear b55
    rw [show be [c.first.a, c.first.b, c.first.c, c.first.d] = c.first.num from rfl]
    refine hK.out _ _ hp (fun hH56 => ?_)
    clear hK K
    refine wpAnyH_ready (rs := [5]) (by kernel_rfl) (by simp) ?_
    refine AllReadyH.cons (o := _) rfl (fun K hK => ?_) AllReadyH.nil
    simp only [List.getElem_toArray, List.getElem_cons_zero, List.getElem_cons_succ]
    go_simp
    with_reducible refine (rnum_any _ _ _ _ _).mono ?_
    rintro e w57 ⟨rfl, b57⟩
    dsimp only
    replace hp := blk_u hp b57
    replace hf := hf.below b57
    replace ho := ho.below b57
    replace bel := bel.trans (b57.mono bel.size)
    clear b57
    rw [show be [c.last.a, c.last.b, c.last.c, c.last.d] = c.last.num from rfl]
    refine hK.out _ _ hp (fun hH58 => ?_)
    clear hK K
    refine wpAnyH_ready (rs := [8]) (by kernel_rfl) (by simp) ?_
    refine AllReadyH.cons (o := _) rfl (fun K hK => ?_) AllReadyH.nil
    simp only [List.getElem_toArray, List.getElem_cons_zero, List.getElem_cons_succ]
    go_simp
    with_reducible refine (rnum_any _ _ _ _ _).mono ?_
    rintro e w59 ⟨rfl, b59⟩
    dsimp only
    replace hp := blk_u hp b59
    replace hf := hf.below b59
    replace ho := ho.below b59
    replace bel := bel.trans (b59.mono bel.size)
    clear b59
    rw [show be [c.own.a, c.own.b, c.own.c, c.own.d] = c.own.num from rfl]
    refine hK.out _ _ hp (fun hH60 => ?_)
    clear hK K
    refine wpAnyH_take (i := 9) (v := ?_) rfl (by kernel_rfl) (by kernel_rfl) (by kernel_rfl) (fun _ _ _ h => h) (Or.inl ⟨by rfl, ?_⟩) hH60 ?_
    rotate_left
    · ((intro W hW; clear hW; go_simp) <;> with_reducible rfl)
    simp only [Act.put, List.getElem_toArray, List.getElem_cons_zero, List.getElem_cons_succ, List.setIfInBounds_toArray, List.set_cons_zero, List.set_cons_succ]
    refine wpAnyH_take (i := 10) (v := ?_) rfl (by kernel_rfl) (by kernel_rfl) (by kernel_rfl) (fun _ _ _ h => h) (Or.inl ⟨by rfl, ?_⟩) hH60 ?_
    rotate_left
    · ((intro W hW; clear hW; go_simp) <;> with_reducible rfl)
    simp only [Act.put, List.getElem_toArray, List.getElem_cons_zero, List.getElem_cons_succ, List.setIfInBounds_toArray, List.set_cons_zero, List.set_cons_succ]
    refine wpAnyH_take (i := 11) (v := ?_) rfl (by kernel_rfl) (by kernel_rfl) (by kernel_rfl) (fun _ _ _ h => h) (Or.inl ⟨by rfl, ?_⟩) hH60 ?_
    rotate_left
    · ((intro W hW; clear hW; go_simp) <;> with_reducible rfl)
    simp only [Act.put, List.getElem_toArray, List.getElem_cons_zero, List.getElem_cons_succ, List.setIfInBounds_toArray, List.set_cons_zero, List.set_cons_succ]
    refine wpAnyH_done (by kernel_rfl) ?_ _
    go_upto_region 4 with fail
    go_cut [84] from 9999 (fun s84 W => s84 = .bool (!c.checkB) ∧ W.heap[g1]? = some (.cells (cfl c Fx nf cf Ox nx cx).toArray 44 (0, 0)) ∧ Sle fxf 10 W (Fx) (nf) (cf) (c.fixed) ∧ Sle opf 7 W (Ox) (nx) (cx) (c.opens) ∧ Below w.heap.size w W)
    case first =>
      have R52 := Lib.hid (range_lit hp 0 40 (cfl c Fx nf cf Ox nx cx) rfl)
      go_wp2_with (first | ((with_reducible show wpList _ _ _ (⟨some 52, _, _, _, _, _⟩ :: _) _ _); refine wpList_load_rng 44 (.tmp 1) rfl (by kernel_rfl) _ _ rfl _ R52.out _ Tryd.underlying44 rfl (by kernel_rfl) ?_; have R54 := Lib.hid (range_lit hp 21 4 [.int .u8 (c.first.a.toNat : Int), .int .u8 (c.first.b.toNat : Int), .int .u8 (c.first.c.toNat : Int), .int .u8 (c.first.d.toNat : Int)] rfl)) | ((with_reducible show wpList _ _ _ (⟨some 54, _, _, _, _, _⟩ :: _) _ _); refine wpList_load_rng 24 (.tmp 53) rfl (by kernel_rfl) _ _ rfl _ R54.out _ Tryd.underlying24 rfl (by kernel_rfl) ?_))
      try clear R52
      try clear R54
      with_reducible refine (inner_any c (c.first) _ _ _ _ _ _ _).mono ?_
      rintro e w61 ⟨rfl, b61⟩
      replace hp := blk_u hp b61
      replace hf := hf.below b61
      replace ho := ho.below b61
      replace bel := bel.trans (b61.mono bel.size)
      clear b61
      obtain ⟨b0, HB0_⟩ : ∃ b, c.inner (c.first) = b := ⟨_, rfl⟩
      have HB0 := Lib.hid HB0_
      rw [HB0_]
      clear HB0_
      rcases b0 with _ | _
      · go_wp2_with fail
        go_meet
        case rel => exact ⟨by unfold Cf.checkB; rw [HB0.out]; simp, hp, hf, ho, bel⟩
      · have R58 := Lib.hid (range_lit hp 0 40 (cfl c Fx nf cf Ox nx cx) rfl)
        go_wp2_with (first | ((with_reducible show wpList _ _ _ (⟨some 58, _, _, _, _, _⟩ :: _) _ _); refine wpList_load_rng 44 (.tmp 1) rfl (by kernel_rfl) _ _ rfl _ R58.out _ Tryd.underlying44 rfl (by kernel_rfl) ?_; have R60 := Lib.hid (range_lit hp 25 4 [.int .u8 (c.last.a.toNat : Int), .int .u8 (c.last.b.toNat : Int), .int .u8 (c.last.c.toNat : Int), .int .u8 (c.last.d.toNat : Int)] rfl)) | ((with_reducible show wpList _ _ _ (⟨some 60, _, _, _, _, _⟩ :: _) _ _); refine wpList_load_rng 24 (.tmp 59) rfl (by kernel_rfl) _ _ rfl _ R60.out _ Tryd.underlying24 rfl (by kernel_rfl) ?_))
        try clear R58
        try clear R60
        with_reducible refine (inner_any c (c.last) _ _ _ _ _ _ _).mono ?_
        rintro e w62 ⟨rfl, b62⟩
        replace hp := blk_u hp b62
        replace hf := hf.below b62
        replace ho := ho.below b62
        replace bel := bel.trans (b62.mono bel.size)
        clear b62
        obtain ⟨b1, HB1_⟩ : ∃ b, c.inner (c.last) = b := ⟨_, rfl⟩
        have HB1 := Lib.hid HB1_
        rw [HB1_]
        clear HB1_
        rcases b1 with _ | _
        · go_wp2_with fail
          go_meet
          case rel => exact ⟨by unfold Cf.checkB; rw [HB0.out, HB1.out]; simp, hp, hf, ho, bel⟩
        · by_cases d1 : c.last.num < c.first.num
          · go_wp2_with fail
            go_meet
            case rel => exact ⟨by unfold Cf.checkB; rw [HB0.out, HB1.out, decide_eq_true d1]; simp, hp, hf, ho, bel⟩
          · have d1_ : decide (c.last.num < c.first.num) = false := decide_eq_false d1
            by_cases d2 : 64 ≤ c.last.num - c.first.num
            · have d2w : IntKind.u32.wrap ((c.last.num : Int) - c.first.num) = (c.last.num : Int) - c.first.num := IntWalk.u32_in _ (by have := c.last.lt; omega)
              have d2k : (64 : Int) ≤ (c.last.num : Int) - c.first.num := by omega
              go_wp2_with fail
              go_meet
              case rel => exact ⟨by unfold Cf.checkB; rw [HB0.out, HB1.out, decide_eq_false d1, decide_eq_true d2]; simp, hp, hf, ho, bel⟩
            · have d2w : IntKind.u32.wrap ((c.last.num : Int) - c.first.num) = (c.last.num : Int) - c.first.num := IntWalk.u32_in _ (by have := c.last.lt; omega)
              have d2k : decide ((64 : Int) ≤ (c.last.num : Int) - c.first.num) = false := decide_eq_false (by omega)
              by_cases d3 : c.first.num ≤ c.own.num
              · by_cases d4 : c.own.num ≤ c.last.num
                · go_wp2_with fail
                  go_meet
                  case rel => exact ⟨by unfold Cf.checkB; rw [HB0.out, HB1.out, decide_eq_false d1, decide_eq_false d2, decide_eq_true d3, decide_eq_true d4]; simp, hp, hf, ho, bel⟩
                · have d4_ : decide (c.own.num ≤ c.last.num) = false := decide_eq_false d4
                  go_wp2_with fail
                  go_meet
                  case rel => exact ⟨by unfold Cf.checkB; rw [HB0.out, HB1.out, decide_eq_false d1, decide_eq_false d2, decide_eq_true d3, decide_eq_false d4]; rfl, hp, hf, ho, bel⟩
              · have d3_ : decide (c.first.num ≤ c.own.num) = false := decide_eq_false d3
                go_wp2_with fail
                go_meet
                case rel => exact ⟨by unfold Cf.checkB; rw [HB0.out, HB1.out, decide_eq_false d1, decide_eq_false d2, decide_eq_false d3]; rfl, hp, hf, ho, bel⟩
    clear hp hf ho bel
    obtain ⟨w112, hw_⟩ : ∃ x, x = wc := ⟨_, rfl⟩
    subst hw_
    obtain ⟨rfl, hp, hf, ho, bel⟩ := hcut
    rcases (by decide : ∀ b : Bool, b = true ∨ b = false) (c.checkB) with hc | hc
    · rw [hc]
      have HCB := Lib.hid hc
      clear hc
      go_upto_region 6 with fail
      go_cut [132] from 9999 (fun s132 W => s132 = .bool (!c.checkC) ∧ W.heap[g1]? = some (.cells (cfl c Fx nf cf Ox nx cx).toArray 44 (0, 0)) ∧ Sle fxf 10 W (Fx) (nf) (cf) (c.fixed) ∧ Sle opf 7 W (Ox) (nx) (cx) (c.opens) ∧ Below w.heap.size w W)
      case first =>
        have R86 := cell_lit hp 29 _ rfl
        go_wp2_with fail
        clear R86
        with_reducible refine (in_any _ _ _ _).mono ?_
        rintro e _ ⟨rfl, rfl⟩
        obtain ⟨b0, HB0_⟩ : ∃ b, inI (c.time) 60 86400 = b := ⟨_, rfl⟩
        have HB0 := Lib.hid HB0_
        rw [HB0_]
        clear HB0_
        rcases b0 with _ | _
        · go_wp2_with fail
          go_meet
          case rel => exact ⟨by unfold Cf.checkC; rw [HB0.out]; simp, hp, hf, ho, bel⟩
        · have R92 := cell_lit hp 30 _ rfl
          go_wp2_with fail
          clear R92
          with_reducible refine (in_any _ _ _ _).mono ?_
          rintro e _ ⟨rfl, rfl⟩
          obtain ⟨b1, HB1_⟩ : ∃ b, inI (c.dns.a.toNat : Int) 1 223 = b := ⟨_, rfl⟩
          have HB1 := Lib.hid HB1_
          rw [HB1_]
          clear HB1_
          rcases b1 with _ | _
          · go_wp2_with fail
            go_meet
            case rel => exact ⟨by unfold Cf.checkC; rw [HB0.out, HB1.out]; simp, hp, hf, ho, bel⟩
          · have R99 := cell_lit hp 34 _ rfl
            go_wp2_with fail
            clear R99
            with_reducible refine (in_any _ _ _ _).mono ?_
            rintro e _ ⟨rfl, rfl⟩
            obtain ⟨b2, HB2_⟩ : ∃ b, inI (c.udp) 10 86400 = b := ⟨_, rfl⟩
            have HB2 := Lib.hid HB2_
            rw [HB2_]
            clear HB2_
            rcases b2 with _ | _
            · go_wp2_with fail
              go_meet
              case rel => exact ⟨by unfold Cf.checkC; rw [HB0.out, HB1.out, HB2.out]; simp, hp, hf, ho, bel⟩
            · have R105 := cell_lit hp 35 _ rfl
              go_wp2_with fail
              clear R105
              with_reducible refine (in_any _ _ _ _).mono ?_
              rintro e _ ⟨rfl, rfl⟩
              obtain ⟨b3, HB3_⟩ : ∃ b, inI (c.tcp) 10 86400 = b := ⟨_, rfl⟩
              have HB3 := Lib.hid HB3_
              rw [HB3_]
              clear HB3_
              rcases b3 with _ | _
              · go_wp2_with fail
                go_meet
                case rel => exact ⟨by unfold Cf.checkC; rw [HB0.out, HB1.out, HB2.out, HB3.out]; simp, hp, hf, ho, bel⟩
              · have R111 := cell_lit hp 36 _ rfl
                go_wp2_with fail
                clear R111
                with_reducible refine (in_any _ _ _ _).mono ?_
                rintro e _ ⟨rfl, rfl⟩
                obtain ⟨b4, HB4_⟩ : ∃ b, inI (c.icmp) 10 86400 = b := ⟨_, rfl⟩
                have HB4 := Lib.hid HB4_
                rw [HB4_]
                clear HB4_
                rcases b4 with _ | _
                · go_wp2_with fail
                  go_meet
                  case rel => exact ⟨by unfold Cf.checkC; rw [HB0.out, HB1.out, HB2.out, HB3.out, HB4.out]; simp, hp, hf, ho, bel⟩
                · have R117 := cell_lit hp 37 _ rfl
                  go_wp2_with fail
                  clear R117
                  with_reducible refine (in_any _ _ _ _).mono ?_
                  rintro e _ ⟨rfl, rfl⟩
                  obtain ⟨b5, HB5_⟩ : ∃ b, inI (c.low) 1024 60000 = b := ⟨_, rfl⟩
                  have HB5 := Lib.hid HB5_
                  rw [HB5_]
                  clear HB5_
                  rcases b5 with _ | _
                  · go_wp2_with fail
                    go_meet
                    case rel => exact ⟨by unfold Cf.checkC; rw [HB0.out, HB1.out, HB2.out, HB3.out, HB4.out, HB5.out]; simp, hp, hf, ho, bel⟩
                  · by_cases d6 : 32 < nf
                    · have d6k : (32 : Int) < nf := by omega
                      have R123 := cell_lit hp 38 _ rfl
                      go_wp2_with fail
                      clear R123
                      go_meet
                      case rel => exact ⟨by unfold Cf.checkC; rw [HB0.out, HB1.out, HB2.out, HB3.out, HB4.out, HB5.out, HLF.out, decide_eq_true d6]; simp, hp, hf, ho, bel⟩
                    · have d6k : decide ((32 : Int) < nf) = false := decide_eq_false (by omega)
                      by_cases d7 : 32 < nx
                      · have d7k : (32 : Int) < nx := by omega
                        have R123 := cell_lit hp 38 _ rfl
                        have R129 := cell_lit hp 39 _ rfl
                        go_wp2_with fail
                        clear R123 R129
                        go_meet
                        case rel => exact ⟨by unfold Cf.checkC; rw [HB0.out, HB1.out, HB2.out, HB3.out, HB4.out, HB5.out, HLF.out, HLO.out, decide_eq_false d6, decide_eq_true d7]; simp, hp, hf, ho, bel⟩
                      · have d7k : decide ((32 : Int) < nx) = false := decide_eq_false (by omega)
                        have R123 := cell_lit hp 38 _ rfl
                        have R129 := cell_lit hp 39 _ rfl
                        go_wp2_with fail
                        clear R123 R129
                        go_meet
                        case rel => exact ⟨by unfold Cf.checkC; rw [HB0.out, HB1.out, HB2.out, HB3.out, HB4.out, HB5.out, HLF.out, HLO.out, decide_eq_false d6, decide_eq_false d7]; rfl, hp, hf, ho, bel⟩
      clear hp hf ho bel
      obtain ⟨w164, hw_⟩ : ∃ x, x = wc := ⟨_, rfl⟩
      subst hw_
      obtain ⟨rfl, hp, hf, ho, bel⟩ := hcut
      rcases (by decide : ∀ b : Bool, b = true ∨ b = false) (c.checkC) with hc | hc
      · rw [hc]
        have HCC := Lib.hid hc
        clear hc
        have hlens : nf ≤ 32 ∧ nx ≤ 32 := by have h_ := HCC.out; unfold Cf.checkC at h_; simp only [Bool.and_eq_true, Bool.not_eq_true', decide_eq_false_iff_not] at h_; rw [HLF.out, HLO.out] at h_; omega
        obtain ⟨nf3, nx3⟩ := hlens
        have hlow : 1024 ≤ c.low ∧ c.low ≤ 60000 := by have h_ := HCC.out; unfold Cf.checkC inI at h_; simp only [Bool.and_eq_true, decide_eq_true_eq] at h_; omega
        have hloww : IntKind.i64.wrap (c.low - 1) = c.low - 1 := IntWalk.i64_in _ (by omega)
        clear hlow
        go_wp2_with fail
        go_loopg [6] (nf + 1) (fun gk s6 wr => ∃ i : Nat, gk = nf + 1 - i ∧ i ≤ nf ∧ Hid (c.fixAll (c.fixed.take i) (c.fixed.drop i) = c.fixAll [] c.fixed) ∧ s6 = .int .i64 (i : Int) ∧ wr.heap[g1]? = some (.cells (cfl c Fx nf cf Ox nx cx).toArray 44 (0, 0)) ∧ Sle fxf 10 wr (Fx) (nf) (cf) (c.fixed) ∧ Sle opf 7 wr (Ox) (nx) (cx) (c.opens) ∧ Below w.heap.size w wr)
        case atStart => exact ⟨0, rfl, Nat.zero_le _, Lib.hid rfl, rfl, hp, hf, ho, bel⟩
        case round =>
          clear hp hf ho bel
          obtain ⟨i, HGK, hi, HWf, rfl, hp, hf, ho, bel⟩ := hrel
          have HGK_ := Lib.hid HGK
          clear HGK
          have HGKo := HGK_
          clear HGK_
          have i0 : (0 : Int) ≤ i := by omega
          have i1 : (i : Int) ≤ 32 := by omega
          by_cases hil : i < nf
          · obtain ⟨gF, oF, hF⟩ := hf.place (by omega)
            subst hF
            obtain ⟨x, hx⟩ : ∃ x, c.fixed[i]? = some x := ⟨_, List.getElem?_eq_getElem (by rw [HLF.out]; exact hil)⟩
            have HX := Lib.hid hx
            clear hx
            have R135 := cell_lit hp 38 _ rfl
            have R141 := cell_lit hp 38 _ rfl
            have R144 := Lib.hid (Sle.range0 hf HX.out 10 [.int .u8 (x.1.a.toNat : Int), .int .u8 (x.1.b.toNat : Int), .int .u8 (x.1.c.toNat : Int), .int .u8 (x.1.d.toNat : Int), .int .u8 (x.1.e.toNat : Int), .int .u8 (x.1.f.toNat : Int), .int .u8 (x.2.a.toNat : Int), .int .u8 (x.2.b.toNat : Int), .int .u8 (x.2.c.toNat : Int), .int .u8 (x.2.d.toNat : Int)] rfl)
            go_wp2_with (first | ((with_reducible show wpList _ _ _ (⟨some 144, _, _, _, _, _⟩ :: _) _ _); refine wpList_load_rng 81 (.tmp 143) rfl (by kernel_rfl) _ _ rfl _ R144.out _ Tryd.underlying81 rfl (by kernel_rfl) ?_) | ((with_reducible show wpList _ _ _ (⟨some 7, _, _, _, _, _⟩ :: _) _ _); refine wpList_new_a rfl 81 rfl #[.int .u8 0, .int .u8 0, .int .u8 0, .int .u8 0, .int .u8 0, .int .u8 0, .int .u8 0, .int .u8 0, .int .u8 0, .int .u8 0] (by kernel_rfl) ?_; intro g7 w165 ge hh bb; have d_p_xb := ne_new (hlt hp) ge; have av_hf_xb := hf.av_new ge; have av_ho_xb := ho.av_new ge; have oxb := Nat.le_trans bel.size ge; replace hp := blk_u hp bb; replace hf := hf.below bb; replace ho := ho.below bb; replace bel := bel.trans (bb.mono bel.size); have hxb := hh; clear hh ge bb) | ((with_reducible show wpList _ _ _ (⟨none, Op.store _ (.tmp 7) _, _, _, _, _⟩ :: _) _ _); refine wpList_store_blk rfl 81 (.tmp 7) (.tmp 144) rfl g7 rfl _ rfl _ 81 hxb (by rfl) (by kernel_rfl) (by kernel_rfl) ?_; intro w166 hq gr; replace hf := hf.away av_hf_xb gr; replace ho := ho.away av_ho_xb gr; replace hp := blk_a hp gr d_p_xb; replace bel := below_grown bel gr oxb bel.size; clear hxb; have hxb := hq; clear hq gr; have R145 := Lib.hid (range_lit hp 0 40 (cfl c (some ⟨gF, oF, none⟩) nf cf Ox nx cx) rfl)) | ((with_reducible show wpList _ _ _ (⟨some 145, _, _, _, _, _⟩ :: _) _ _); refine wpList_load_rng 44 (.tmp 1) rfl (by kernel_rfl) _ _ rfl _ R145.out _ Tryd.underlying44 rfl (by kernel_rfl) ?_; have R147 := Lib.hid (range_lit hxb 6 4 [.int .u8 (x.2.a.toNat : Int), .int .u8 (x.2.b.toNat : Int), .int .u8 (x.2.c.toNat : Int), .int .u8 (x.2.d.toNat : Int)] rfl)) | ((with_reducible show wpList _ _ _ (⟨some 147, _, _, _, _, _⟩ :: _) _ _); refine wpList_load_rng 24 (.tmp 146) rfl (by kernel_rfl) _ _ rfl _ R147.out _ Tryd.underlying24 rfl (by kernel_rfl) ?_))
            try clear R135
            try clear R141
            try clear R144
            try clear R145
            try clear R147
            with_reducible refine (inner_any c (x.2) _ _ _ _ _ _ _).mono ?_
            rintro e w167 ⟨rfl, b167⟩
            replace hp := blk_u hp b167
            replace hxb := blk_u hxb b167
            replace hf := hf.below b167
            replace ho := ho.below b167
            replace bel := bel.trans (b167.mono bel.size)
            clear b167
            obtain ⟨b5, HI1_⟩ : ∃ b, c.inner (x.2) = b := ⟨_, rfl⟩
            have HI1 := Lib.hid HI1_
            rw [HI1_]
            clear HI1_
            rcases b5 with _ | _
            · have HP : Hid (c.check = false) := Lib.hid (by unfold Cf.check; rw [HCA.out, HCB.out, HCC.out, ← HWf.out, Cf.fix_step HX.out]; unfold Cf.fixOne; rw [HI1.out]; simp)
              go_wp2_with fail
              go_ret
              exact ⟨by rw [HP.out]; rfl, bel⟩
            · obtain ⟨b6, HI2_⟩ : ∃ b, (x.2.num == c.own.num) = b := ⟨_, rfl⟩
              have HI2 := Lib.hid HI2_
              have q6 : ∀ W, (binOp .eql 24 (.agg #[.int .u8 (x.2.a.toNat : Int), .int .u8 (x.2.b.toNat : Int), .int .u8 (x.2.c.toNat : Int), .int .u8 (x.2.d.toNat : Int)]) (.agg #[.int .u8 (c.own.a.toNat : Int), .int .u8 (c.own.b.toNat : Int), .int .u8 (c.own.c.toNat : Int), .int .u8 (c.own.d.toNat : Int)])).run Tryd.prog W = .ok (.bool b6) W := fun W => by rw [ad_eq2, HI2_]
              clear HI2_
              rcases b6 with _ | _
              · have R152 := Lib.hid (range_lit hxb 6 4 [.int .u8 (x.2.a.toNat : Int), .int .u8 (x.2.b.toNat : Int), .int .u8 (x.2.c.toNat : Int), .int .u8 (x.2.d.toNat : Int)] rfl)
                go_wp2_with (first | ((with_reducible show wpList _ _ _ (⟨some 152, _, _, _, _, _⟩ :: _) _ _); refine wpList_load_rng 24 (.tmp 151) rfl (by kernel_rfl) _ _ rfl _ R152.out _ Tryd.underlying24 rfl (by kernel_rfl) ?_; have R154 := Lib.hid (range_lit hp 0 4 [.int .u8 (c.own.a.toNat : Int), .int .u8 (c.own.b.toNat : Int), .int .u8 (c.own.c.toNat : Int), .int .u8 (c.own.d.toNat : Int)] rfl)) | ((with_reducible show wpList _ _ _ (⟨some 154, _, _, _, _, _⟩ :: _) _ _); refine wpList_load_rng 24 (.tmp 153) rfl (by kernel_rfl) _ _ rfl _ R154.out _ Tryd.underlying24 rfl (by kernel_rfl) ?_))
                try clear R152
                try clear R154
                go_loopg [8] (i + 1) (fun gk s8 wr => ∃ j : Nat, gk = i + 1 - j ∧ j ≤ i ∧ Hid ((c.fixed.take j).any (fixBad x) = false) ∧ s8 = .int .i64 (j : Int) ∧ wr.heap[g1]? = some (.cells (cfl c (some ⟨gF, oF, none⟩) nf cf Ox nx cx).toArray 44 (0, 0)) ∧ wr.heap[g7]? = some (.cells #[.int .u8 (x.1.a.toNat : Int), .int .u8 (x.1.b.toNat : Int), .int .u8 (x.1.c.toNat : Int), .int .u8 (x.1.d.toNat : Int), .int .u8 (x.1.e.toNat : Int), .int .u8 (x.1.f.toNat : Int), .int .u8 (x.2.a.toNat : Int), .int .u8 (x.2.b.toNat : Int), .int .u8 (x.2.c.toNat : Int), .int .u8 (x.2.d.toNat : Int)] 81 (0, 0)) ∧ Sle fxf 10 wr (some ⟨gF, oF, none⟩) (nf) (cf) (c.fixed) ∧ Sle opf 7 wr (Ox) (nx) (cx) (c.opens) ∧ Below w.heap.size w wr)
                case atStart => exact ⟨0, rfl, Nat.zero_le _, Lib.hid rfl, rfl, hp, hxb, hf, ho, bel⟩
                case round =>
                  clear hp hxb hf ho bel
                  obtain ⟨j, HGK, hj, HA, rfl, hp, hxb, hf, ho, bel⟩ := hrel
                  have HGK_ := Lib.hid HGK
                  clear HGK
                  have HGKi := HGK_
                  clear HGK_
                  have j0 : (0 : Int) ≤ j := by omega
                  have j1 : (j : Int) ≤ 32 := by omega
                  by_cases hl2 : j < i
                  · have hjf : j < nf := by omega
                    obtain ⟨y, hy⟩ : ∃ y, c.fixed[j]? = some y := ⟨_, List.getElem?_eq_getElem (by rw [HLF.out]; exact hjf)⟩
                    have HY := Lib.hid hy
                    clear hy
                    obtain ⟨b7, HI3_⟩ : ∃ b, (y.1.l == x.1.l) = b := ⟨_, rfl⟩
                    have HI3 := Lib.hid HI3_
                    have q7 : ∀ W, (binOp .eql 28 (.agg #[.int .u8 (y.1.a.toNat : Int), .int .u8 (y.1.b.toNat : Int), .int .u8 (y.1.c.toNat : Int), .int .u8 (y.1.d.toNat : Int), .int .u8 (y.1.e.toNat : Int), .int .u8 (y.1.f.toNat : Int)]) (.agg #[.int .u8 (x.1.a.toNat : Int), .int .u8 (x.1.b.toNat : Int), .int .u8 (x.1.c.toNat : Int), .int .u8 (x.1.d.toNat : Int), .int .u8 (x.1.e.toNat : Int), .int .u8 (x.1.f.toNat : Int)])).run Tryd.prog W = .ok (.bool b7) W := fun W => by rw [mc_eq2, HI3_]
                    clear HI3_
                    obtain ⟨b8, HI4_⟩ : ∃ b, (y.2.num == x.2.num) = b := ⟨_, rfl⟩
                    have HI4 := Lib.hid HI4_
                    have q8 : ∀ W, (binOp .eql 24 (.agg #[.int .u8 (y.2.a.toNat : Int), .int .u8 (y.2.b.toNat : Int), .int .u8 (y.2.c.toNat : Int), .int .u8 (y.2.d.toNat : Int)]) (.agg #[.int .u8 (x.2.a.toNat : Int), .int .u8 (x.2.b.toNat : Int), .int .u8 (x.2.c.toNat : Int), .int .u8 (x.2.d.toNat : Int)])).run Tryd.prog W = .ok (.bool b8) W := fun W => by rw [ad_eq2, HI4_]
                    clear HI4_
                    go_wp2_with fail
                    replace bel := bel.drew
                    replace hp : wr.drew.heap[g1]? = _ := hp
                    replace hxb : wr.drew.heap[g7]? = _ := hxb
                    replace hf := hf.drew
                    replace ho := ho.drew
                    refine wp_region_held_drew (S := fun W => W.heap[g1]? = some (.cells (cfl c (some ⟨gF, oF, none⟩) nf cf Ox nx cx).toArray 44 (0, 0)) ∧ W.heap[g7]? = some (.cells #[.int .u8 (x.1.a.toNat : Int), .int .u8 (x.1.b.toNat : Int), .int .u8 (x.1.c.toNat : Int), .int .u8 (x.1.d.toNat : Int), .int .u8 (x.1.e.toNat : Int), .int .u8 (x.1.f.toNat : Int), .int .u8 (x.2.a.toNat : Int), .int .u8 (x.2.b.toNat : Int), .int .u8 (x.2.c.toNat : Int), .int .u8 (x.2.d.toNat : Int)] 81 (0, 0)) ∧ Sle fxf 10 W (some ⟨gF, oF, none⟩) (nf) (cf) (c.fixed)) (by kernel_rfl) ⟨hp, hxb, hf⟩ (fun hH => ?_)
                    generalize wr.drew = w168 at bel hp hxb hf ho hH ⊢
                    refine wpAnyH_take (i := 0) (v := ?_) rfl (by kernel_rfl) (by kernel_rfl) (by kernel_rfl) (fun _ _ _ h => h) (Or.inl ⟨by rfl, ?_⟩) hH ?_
                    rotate_left
                    · ((intro W hW; clear hW; go_simp) <;> with_reducible rfl)
                    simp only [Act.put, List.getElem_toArray, List.getElem_cons_zero, List.setIfInBounds_toArray, List.set_cons_zero, List.set_cons_succ]
                    refine wpAnyH_take (i := 1) (v := ?_) rfl (by kernel_rfl) (by kernel_rfl) (by kernel_rfl) (fun _ _ _ h => h) (Or.inl ⟨by rfl, ?_⟩) hH ?_
                    rotate_left
                    · ((intro W hW; have hk := cell_lit (hW.1) 38 _ rfl; clear hW; go_simp) <;> with_reducible rfl)
                    simp only [Act.put, List.getElem_toArray, List.getElem_cons_zero, List.getElem_cons_succ, List.setIfInBounds_toArray, List.set_cons_zero, List.set_cons_succ]
                    refine wpAnyH_take (i := 2) (v := ?_) rfl (by kernel_rfl) (by kernel_rfl) (by kernel_rfl) (fun _ _ _ h => h) (Or.inl ⟨by rfl, ?_⟩) hH ?_
                    rotate_left
                    · ((intro W hW; clear hW; go_simp) <;> with_reducible rfl)
                    simp only [Act.put, List.getElem_toArray, List.getElem_cons_zero, List.getElem_cons_succ, List.setIfInBounds_toArray, List.set_cons_zero, List.set_cons_succ]
                    refine wpAnyH_take (i := 3) (v := ?_) rfl (by kernel_rfl) (by kernel_rfl) (by kernel_rfl) (fun _ _ _ h => h) (Or.inl ⟨by rfl, ?_⟩) hH ?_
                    rotate_left
                    · ((intro W hW; clear hW; go_simp) <;> with_reducible rfl)
                    simp only [Act.put, List.getElem_toArray, List.getElem_cons_zero, List.getElem_cons_succ, List.setIfInBounds_toArray, List.set_cons_zero, List.set_cons_succ]
                    refine wpAnyH_take (i := 4) (v := ?_) rfl (by kernel_rfl) (by kernel_rfl) (by kernel_rfl) (fun _ _ _ h => h) (Or.inl ⟨by rfl, ?_⟩) hH ?_
                    rotate_left
                    · ((intro W hW; clear hW; go_simp) <;> with_reducible rfl)
                    simp only [Act.put, List.getElem_toArray, List.getElem_cons_zero, List.getElem_cons_succ, List.setIfInBounds_toArray, List.set_cons_zero, List.set_cons_succ]
                    refine wpAnyH_take (i := 5) (v := .agg #[.int .u8 (y.1.a.toNat : Int), .int .u8 (y.1.b.toNat : Int), .int .u8 (y.1.c.toNat : Int), .int .u8 (y.1.d.toNat : Int), .int .u8 (y.1.e.toNat : Int), .int .u8 (y.1.f.toNat : Int)]) rfl (by kernel_rfl) (by kernel_rfl) (by kernel_rfl) (fun _ _ _ h => h) (yieldsIf_load_mid (by kernel_rfl) 28 _ rfl gF (oF + j * 10) rfl [.int .u8 (y.1.a.toNat : Int), .int .u8 (y.1.b.toNat : Int), .int .u8 (y.1.c.toNat : Int), .int .u8 (y.1.d.toNat : Int), .int .u8 (y.1.e.toNat : Int), .int .u8 (y.1.f.toNat : Int)] _ (fun W hW => Sle.range0 (hW.2.2) HY.out 6 [.int .u8 (y.1.a.toNat : Int), .int .u8 (y.1.b.toNat : Int), .int .u8 (y.1.c.toNat : Int), .int .u8 (y.1.d.toNat : Int), .int .u8 (y.1.e.toNat : Int), .int .u8 (y.1.f.toNat : Int)] rfl) Tryd.underlying28 rfl (by kernel_rfl)) hH ?_
                    simp only [Act.put, List.getElem_toArray, List.getElem_cons_zero, List.getElem_cons_succ, List.setIfInBounds_toArray, List.set_cons_zero, List.set_cons_succ]
                    refine wpAnyH_take (i := 6) (v := ?_) rfl (by kernel_rfl) (by kernel_rfl) (by kernel_rfl) (fun _ _ _ h => h) (Or.inl ⟨by rfl, ?_⟩) hH ?_
                    rotate_left
                    · ((intro W hW; clear hW; go_simp) <;> with_reducible rfl)
                    simp only [Act.put, List.getElem_toArray, List.getElem_cons_zero, List.getElem_cons_succ, List.setIfInBounds_toArray, List.set_cons_zero, List.set_cons_succ]
                    refine wpAnyH_take (i := 7) (v := .agg #[.int .u8 (x.1.a.toNat : Int), .int .u8 (x.1.b.toNat : Int), .int .u8 (x.1.c.toNat : Int), .int .u8 (x.1.d.toNat : Int), .int .u8 (x.1.e.toNat : Int), .int .u8 (x.1.f.toNat : Int)]) rfl (by kernel_rfl) (by kernel_rfl) (by kernel_rfl) (fun _ _ _ h => h) (yieldsIf_load_part (by kernel_rfl) 28 _ rfl g7 0 6 rfl _ 81 (0, 0) (fun W hW => hW.2.1) _ rfl _ Tryd.underlying28 rfl (by kernel_rfl)) hH ?_
                    simp only [Act.put, List.getElem_toArray, List.getElem_cons_zero, List.getElem_cons_succ, List.setIfInBounds_toArray, List.set_cons_zero, List.set_cons_succ]
                    refine wpAnyH_take (i := 8) (v := ?_) rfl (by kernel_rfl) (by kernel_rfl) (by kernel_rfl) (fun _ _ _ h => h) (Or.inl ⟨by rfl, ?_⟩) hH ?_
                    rotate_left
                    · ((intro W hW; clear hW; go_simp) <;> with_reducible rfl)
                    simp only [Act.put, List.getElem_toArray, List.getElem_cons_zero, List.getElem_cons_succ, List.setIfInBounds_toArray, List.set_cons_zero, List.set_cons_succ]
                    refine wpAnyH_take (i := 9) (v := ?_) rfl (by kernel_rfl) (by kernel_rfl) (by kernel_rfl) (fun _ _ _ h => h) (Or.inl ⟨by rfl, ?_⟩) hH ?_
                    rotate_left
                    · ((intro W hW; clear hW; go_simp) <;> with_reducible rfl)
                    simp only [Act.put, List.getElem_toArray, List.getElem_cons_zero, List.getElem_cons_succ, List.setIfInBounds_toArray, List.set_cons_zero, List.set_cons_succ]
                    rcases b7 with _ | _
                    · refine wpAnyH_take (i := 10) (v := ?_) rfl (by kernel_rfl) (by kernel_rfl) (by kernel_rfl) (fun _ _ _ h => h) (Or.inl ⟨by rfl, ?_⟩) hH ?_
                      rotate_left
                      · ((intro W hW; clear hW; go_simp) <;> with_reducible rfl)
                      simp only [Act.put, List.getElem_toArray, List.getElem_cons_zero, List.getElem_cons_succ, List.setIfInBounds_toArray, List.set_cons_zero, List.set_cons_succ]
                      refine wpAnyH_take (i := 11) (v := ?_) rfl (by kernel_rfl) (by kernel_rfl) (by kernel_rfl) (fun _ _ _ h => h) (Or.inl ⟨by rfl, ?_⟩) hH ?_
                      rotate_left
                      · ((intro W hW; have hk := cell_lit (hW.1) 38 _ rfl; clear hW; go_simp) <;> with_reducible rfl)
                      simp only [Act.put, List.getElem_toArray, List.getElem_cons_zero, List.getElem_cons_succ, List.setIfInBounds_toArray, List.set_cons_zero, List.set_cons_succ]
                      refine wpAnyH_take (i := 12) (v := ?_) rfl (by kernel_rfl) (by kernel_rfl) (by kernel_rfl) (fun _ _ _ h => h) (Or.inl ⟨by rfl, ?_⟩) hH ?_
                      rotate_left
                      · ((intro W hW; clear hW; go_simp) <;> with_reducible rfl)
                      simp only [Act.put, List.getElem_toArray, List.getElem_cons_zero, List.getElem_cons_succ, List.setIfInBounds_toArray, List.set_cons_zero, List.set_cons_succ]
                      refine wpAnyH_take (i := 13) (v := ?_) rfl (by kernel_rfl) (by kernel_rfl) (by kernel_rfl) (fun _ _ _ h => h) (Or.inl ⟨by rfl, ?_⟩) hH ?_
                      rotate_left
                      · ((intro W hW; clear hW; go_simp) <;> with_reducible rfl)
                      simp only [Act.put, List.getElem_toArray, List.getElem_cons_zero, List.getElem_cons_succ, List.setIfInBounds_toArray, List.set_cons_zero, List.set_cons_succ]
                      refine wpAnyH_take (i := 14) (v := ?_) rfl (by kernel_rfl) (by kernel_rfl) (by kernel_rfl) (fun _ _ _ h => h) (Or.inl ⟨by rfl, ?_⟩) hH ?_
                      rotate_left
                      · ((intro W hW; clear hW; go_simp) <;> with_reducible rfl)
                      simp only [Act.put, List.getElem_toArray, List.getElem_cons_zero, List.getElem_cons_succ, List.setIfInBounds_toArray, List.set_cons_zero, List.set_cons_succ]
                      refine wpAnyH_take (i := 15) (v := .agg #[.int .u8 (y.2.a.toNat : Int), .int .u8 (y.2.b.toNat : Int), .int .u8 (y.2.c.toNat : Int), .int .u8 (y.2.d.toNat : Int)]) rfl (by kernel_rfl) (by kernel_rfl) (by kernel_rfl) (fun _ _ _ h => h) (yieldsIf_load_mid (by kernel_rfl) 24 _ rfl gF (oF + j * 10 + 6) rfl [.int .u8 (y.2.a.toNat : Int), .int .u8 (y.2.b.toNat : Int), .int .u8 (y.2.c.toNat : Int), .int .u8 (y.2.d.toNat : Int)] _ (fun W hW => Sle.range (hW.2.2) HY.out 6 4 [.int .u8 (y.2.a.toNat : Int), .int .u8 (y.2.b.toNat : Int), .int .u8 (y.2.c.toNat : Int), .int .u8 (y.2.d.toNat : Int)] rfl) Tryd.underlying24 rfl (by kernel_rfl)) hH ?_
                      simp only [Act.put, List.getElem_toArray, List.getElem_cons_zero, List.getElem_cons_succ, List.setIfInBounds_toArray, List.set_cons_zero, List.set_cons_succ]
                      refine wpAnyH_take (i := 16) (v := ?_) rfl (by kernel_rfl) (by kernel_rfl) (by kernel_rfl) (fun _ _ _ h => h) (Or.inl ⟨by rfl, ?_⟩) hH ?_
                      rotate_left
                      · ((intro W hW; clear hW; go_simp) <;> with_reducible rfl)
                      simp only [Act.put, List.getElem_toArray, List.getElem_cons_zero, List.getElem_cons_succ, List.setIfInBounds_toArray, List.set_cons_zero, List.set_cons_succ]
                      refine wpAnyH_take (i := 17) (v := .agg #[.int .u8 (x.2.a.toNat : Int), .int .u8 (x.2.b.toNat : Int), .int .u8 (x.2.c.toNat : Int), .int .u8 (x.2.d.toNat : Int)]) rfl (by kernel_rfl) (by kernel_rfl) (by kernel_rfl) (fun _ _ _ h => h) (yieldsIf_load_part (by kernel_rfl) 24 _ rfl g7 6 4 rfl _ 81 (0, 0) (fun W hW => hW.2.1) _ rfl _ Tryd.underlying24 rfl (by kernel_rfl)) hH ?_
                      simp only [Act.put, List.getElem_toArray, List.getElem_cons_zero, List.getElem_cons_succ, List.setIfInBounds_toArray, List.set_cons_zero, List.set_cons_succ]
                      refine wpAnyH_take (i := 18) (v := ?_) rfl (by kernel_rfl) (by kernel_rfl) (by kernel_rfl) (fun _ _ _ h => h) (Or.inl ⟨by rfl, ?_⟩) hH ?_
                      rotate_left
                      · ((intro W hW; clear hW; go_simp) <;> with_reducible rfl)
                      simp only [Act.put, List.getElem_toArray, List.getElem_cons_zero, List.getElem_cons_succ, List.setIfInBounds_toArray, List.set_cons_zero, List.set_cons_succ]
                      refine wpAnyH_take (i := 19) (v := ?_) rfl (by kernel_rfl) (by kernel_rfl) (by kernel_rfl) (fun _ _ _ h => h) (Or.inl ⟨by rfl, ?_⟩) hH ?_
                      rotate_left
                      · ((intro W hW; clear hW; go_simp) <;> with_reducible rfl)
                      simp only [Act.put, List.getElem_toArray, List.getElem_cons_zero, List.getElem_cons_succ, List.setIfInBounds_toArray, List.set_cons_zero, List.set_cons_succ]
                      rcases b8 with _ | _
                      · refine wpAnyH_done (by kernel_rfl) ?_ _
                        go_wp2_with fail
                        go_roundg (i + 1 - (j + 1))
                        case measure => have := HGKi.out; omega
                        case rel => exact ⟨j + 1, rfl, by omega, Lib.hid (any_more HY.out HA.out (by unfold fixBad; rw [HI3.out, HI4.out]; rfl)), by go_num, hp, hxb, hf, ho, bel⟩
                      · have HP : Hid (c.check = false) := Lib.hid (by unfold Cf.check; rw [HCA.out, HCB.out, HCC.out, ← HWf.out, Cf.fix_step HX.out]; unfold Cf.fixOne; rw [HI1.out, HI2.out, any_hit hl2 HY.out (by unfold fixBad; rw [HI3.out, HI4.out]; rfl)]; simp)
                        refine wpAnyH_done (by kernel_rfl) ?_ _
                        go_wp2_with fail
                        go_ret
                        exact ⟨by rw [HP.out]; rfl, bel⟩
                    · have HP : Hid (c.check = false) := Lib.hid (by unfold Cf.check; rw [HCA.out, HCB.out, HCC.out, ← HWf.out, Cf.fix_step HX.out]; unfold Cf.fixOne; rw [HI1.out, HI2.out, any_hit hl2 HY.out (by unfold fixBad; rw [HI3.out]; rfl)]; simp)
                      refine wpAnyH_take (i := 10) (v := undef) rfl (by kernel_rfl) (by kernel_rfl) (by kernel_rfl) (fun _ _ _ h => h) (Or.inr ⟨by rfl, rfl⟩) hH ?_
                      simp only [Act.put, List.getElem_toArray, List.getElem_cons_zero, List.getElem_cons_succ, List.setIfInBounds_toArray, List.set_cons_zero, List.set_cons_succ]
                      refine wpAnyH_take (i := 11) (v := undef) rfl (by kernel_rfl) (by kernel_rfl) (by kernel_rfl) (fun _ _ _ h => h) (Or.inr ⟨by rfl, rfl⟩) hH ?_
                      simp only [Act.put, List.getElem_toArray, List.getElem_cons_zero, List.getElem_cons_succ, List.setIfInBounds_toArray, List.set_cons_zero, List.set_cons_succ]
                      refine wpAnyH_take (i := 12) (v := undef) rfl (by kernel_rfl) (by kernel_rfl) (by kernel_rfl) (fun _ _ _ h => h) (Or.inr ⟨by rfl, rfl⟩) hH ?_
                      simp only [Act.put, List.getElem_toArray, List.getElem_cons_zero, List.getElem_cons_succ, List.setIfInBounds_toArray, List.set_cons_zero, List.set_cons_succ]
                      refine wpAnyH_take (i := 13) (v := undef) rfl (by kernel_rfl) (by kernel_rfl) (by kernel_rfl) (fun _ _ _ h => h) (Or.inr ⟨by rfl, rfl⟩) hH ?_
                      simp only [Act.put, List.getElem_toArray, List.getElem_cons_zero, List.getElem_cons_succ, List.setIfInBounds_toArray, List.set_cons_zero, List.set_cons_succ]
                      refine wpAnyH_take (i := 14) (v := undef) rfl (by kernel_rfl) (by kernel_rfl) (by kernel_rfl) (fun _ _ _ h => h) (Or.inr ⟨by rfl, rfl⟩) hH ?_
                      simp only [Act.put, List.getElem_toArray, List.getElem_cons_zero, List.getElem_cons_succ, List.setIfInBounds_toArray, List.set_cons_zero, List.set_cons_succ]
                      refine wpAnyH_take (i := 15) (v := undef) rfl (by kernel_rfl) (by kernel_rfl) (by kernel_rfl) (fun _ _ _ h => h) (Or.inr ⟨by rfl, rfl⟩) hH ?_
                      simp only [Act.put, List.getElem_toArray, List.getElem_cons_zero, List.getElem_cons_succ, List.setIfInBounds_toArray, List.set_cons_zero, List.set_cons_succ]
                      refine wpAnyH_take (i := 16) (v := undef) rfl (by kernel_rfl) (by kernel_rfl) (by kernel_rfl) (fun _ _ _ h => h) (Or.inr ⟨by rfl, rfl⟩) hH ?_
                      simp only [Act.put, List.getElem_toArray, List.getElem_cons_zero, List.getElem_cons_succ, List.setIfInBounds_toArray, List.set_cons_zero, List.set_cons_succ]
                      refine wpAnyH_take (i := 17) (v := undef) rfl (by kernel_rfl) (by kernel_rfl) (by kernel_rfl) (fun _ _ _ h => h) (Or.inr ⟨by rfl, rfl⟩) hH ?_
                      simp only [Act.put, List.getElem_toArray, List.getElem_cons_zero, List.getElem_cons_succ, List.setIfInBounds_toArray, List.set_cons_zero, List.set_cons_succ]
                      refine wpAnyH_take (i := 18) (v := undef) rfl (by kernel_rfl) (by kernel_rfl) (by kernel_rfl) (fun _ _ _ h => h) (Or.inr ⟨by rfl, rfl⟩) hH ?_
                      simp only [Act.put, List.getElem_toArray, List.getElem_cons_zero, List.getElem_cons_succ, List.setIfInBounds_toArray, List.set_cons_zero, List.set_cons_succ]
                      refine wpAnyH_take (i := 19) (v := ?_) rfl (by kernel_rfl) (by kernel_rfl) (by kernel_rfl) (fun _ _ _ h => h) (Or.inl ⟨by rfl, ?_⟩) hH ?_
                      rotate_left
                      · ((intro W hW; clear hW; go_simp) <;> with_reducible rfl)
                      simp only [Act.put, List.getElem_toArray, List.getElem_cons_zero, List.getElem_cons_succ, List.setIfInBounds_toArray, List.set_cons_zero, List.set_cons_succ]
                      refine wpAnyH_done (by kernel_rfl) ?_ _
                      go_wp2_with fail
                      go_ret
                      exact ⟨by rw [HP.out]; rfl, bel⟩
                  · have hl3 : decide (j < i) = false := decide_eq_false hl2
                    have HJ : Hid (j = i) := Lib.hid (by omega)
                    go_wp2_with fail
                    go_roundg (nf + 1 - (i + 1))
                    case measure => have := HGKo.out; omega
                    case rel => exact ⟨i + 1, rfl, by omega, Lib.hid (by have h := HWf.out; rw [Cf.fix_step HX.out] at h; rw [← h, show c.fixOne (c.fixed.take i) x = true by unfold Cf.fixOne; rw [HI1.out, HI2.out, ← HJ.out, HA.out]; rfl, Bool.true_and]), by go_num, hp, hf, ho, bel⟩
              · have HP : Hid (c.check = false) := Lib.hid (by unfold Cf.check; rw [HCA.out, HCB.out, HCC.out, ← HWf.out, Cf.fix_step HX.out]; unfold Cf.fixOne; rw [HI1.out, HI2.out]; simp)
                have R152 := Lib.hid (range_lit hxb 6 4 [.int .u8 (x.2.a.toNat : Int), .int .u8 (x.2.b.toNat : Int), .int .u8 (x.2.c.toNat : Int), .int .u8 (x.2.d.toNat : Int)] rfl)
                go_wp2_with (first | ((with_reducible show wpList _ _ _ (⟨some 152, _, _, _, _, _⟩ :: _) _ _); refine wpList_load_rng 24 (.tmp 151) rfl (by kernel_rfl) _ _ rfl _ R152.out _ Tryd.underlying24 rfl (by kernel_rfl) ?_; have R154 := Lib.hid (range_lit hp 0 4 [.int .u8 (c.own.a.toNat : Int), .int .u8 (c.own.b.toNat : Int), .int .u8 (c.own.c.toNat : Int), .int .u8 (c.own.d.toNat : Int)] rfl)) | ((with_reducible show wpList _ _ _ (⟨some 154, _, _, _, _, _⟩ :: _) _ _); refine wpList_load_rng 24 (.tmp 153) rfl (by kernel_rfl) _ _ rfl _ R154.out _ Tryd.underlying24 rfl (by kernel_rfl) ?_))
                try clear R152
                try clear R154
                go_ret
                exact ⟨by rw [HP.out]; rfl, bel⟩
          · have hl1 : decide (i < nf) = false := decide_eq_false hil
            have HFX : Hid (c.fixAll [] c.fixed = true) := Lib.hid (by rw [← HWf.out, List.drop_eq_nil_of_le (by rw [HLF.out]; omega)]; rfl)
            have R135 := cell_lit hp 38 _ rfl
            go_wp2_with fail
            clear R135
            go_loopg [9] (nx + 1) (fun gk s9 wr => ∃ i : Nat, gk = nx + 1 - i ∧ i ≤ nx ∧ Hid (c.opAll (c.opens.take i) (c.opens.drop i) = c.opAll [] c.opens) ∧ s9 = .int .i64 (i : Int) ∧ wr.heap[g1]? = some (.cells (cfl c Fx nf cf Ox nx cx).toArray 44 (0, 0)) ∧ Sle fxf 10 wr (Fx) (nf) (cf) (c.fixed) ∧ Sle opf 7 wr (Ox) (nx) (cx) (c.opens) ∧ Below w.heap.size w wr)
            case atStart => exact ⟨0, rfl, Nat.zero_le _, Lib.hid rfl, rfl, hp, hf, ho, bel⟩
            case round =>
              clear hp hf ho bel
              obtain ⟨i, HGK, hi, HWo, rfl, hp, hf, ho, bel⟩ := hrel
              have HGK_ := Lib.hid HGK
              clear HGK
              have HGKo := HGK_
              clear HGK_
              have i0 : (0 : Int) ≤ i := by omega
              have i1 : (i : Int) ≤ 32 := by omega
              by_cases hil : i < nx
              · obtain ⟨gO, oO, hO⟩ := ho.place (by omega)
                subst hO
                obtain ⟨x, hx⟩ : ∃ x, c.opens[i]? = some x := ⟨_, List.getElem?_eq_getElem (by rw [HLO.out]; exact hil)⟩
                have HX := Lib.hid hx
                clear hx
                have R184 := cell_lit hp 39 _ rfl
                have R190 := cell_lit hp 39 _ rfl
                have R193 := Lib.hid (Sle.range0 ho HX.out 7 [.int .i64 x.1, .int .i64 x.2.1, .int .u8 (x.2.2.1.a.toNat : Int), .int .u8 (x.2.2.1.b.toNat : Int), .int .u8 (x.2.2.1.c.toNat : Int), .int .u8 (x.2.2.1.d.toNat : Int), .int .i64 x.2.2.2] rfl)
                go_upto_region 23 with (first | ((with_reducible show wpList _ _ _ (⟨some 193, _, _, _, _, _⟩ :: _) _ _); refine wpList_load_rng 82 (.tmp 192) rfl (by kernel_rfl) _ _ rfl _ R193.out _ Tryd.underlying82 rfl (by kernel_rfl) ?_) | ((with_reducible show wpList _ _ _ (⟨some 10, _, _, _, _, _⟩ :: _) _ _); refine wpList_new_a rfl 82 rfl #[.int .i64 0, .int .i64 0, .int .u8 0, .int .u8 0, .int .u8 0, .int .u8 0, .int .i64 0] (by kernel_rfl) ?_; intro g10 w165 ge hh bb; have d_p_xo := ne_new (hlt hp) ge; have av_hf_xo := hf.av_new ge; have av_ho_xo := ho.av_new ge; have oxo := Nat.le_trans bel.size ge; replace hp := blk_u hp bb; replace hf := hf.below bb; replace ho := ho.below bb; replace bel := bel.trans (bb.mono bel.size); have hxo := hh; clear hh ge bb) | ((with_reducible show wpList _ _ _ (⟨none, Op.store _ (.tmp 10) _, _, _, _, _⟩ :: _) _ _); refine wpList_store_blk rfl 82 (.tmp 10) (.tmp 193) rfl g10 rfl _ rfl _ 82 hxo (by rfl) (by kernel_rfl) (by kernel_rfl) ?_; intro w166 hq gr; replace hf := hf.away av_hf_xo gr; replace ho := ho.away av_ho_xo gr; replace hp := blk_a hp gr d_p_xo; replace bel := below_grown bel gr oxo bel.size; clear hxo; have hxo := hq; clear hq gr))
                try clear R184
                try clear R190
                try clear R193
                simp only [Act.put, List.setIfInBounds_toArray, List.set_cons_zero, List.set_cons_succ]
                go_cut [230] from 9999 (fun s230 W => s230 = .bool (!((x.1 == 17) || (x.1 == 6)) || (!inI x.2.1 1 (c.low - 1) || (!inI x.2.2.2 1 65535 || (!c.inner x.2.2.1 || (x.2.2.1.num == c.own.num))))) ∧ W.heap[g1]? = some (.cells (cfl c Fx nf cf (some ⟨gO, oO, none⟩) nx cx).toArray 44 (0, 0)) ∧ W.heap[g10]? = some (.cells #[.int .i64 x.1, .int .i64 x.2.1, .int .u8 (x.2.2.1.a.toNat : Int), .int .u8 (x.2.2.1.b.toNat : Int), .int .u8 (x.2.2.1.c.toNat : Int), .int .u8 (x.2.2.1.d.toNat : Int), .int .i64 x.2.2.2] 82 (0, 0)) ∧ Sle fxf 10 W (Fx) (nf) (cf) (c.fixed) ∧ Sle opf 7 W (some ⟨gO, oO, none⟩) (nx) (cx) (c.opens) ∧ Below w.heap.size w W)
                case first =>
                  rcases (by decide : ∀ b : Bool, b = true ∨ b = false) (x.1 == 17) with b0_ | b0_
                  · have f0 : (x.1 != 17) = false := by rw [bne, b0_]; rfl
                    have HI0 : Hid (((x.1 == 17) || (x.1 == 6)) = true) := Lib.hid (by rw [b0_]; rfl)
                    have R195 := cell_lit hxo 0 _ rfl
                    have R204 := cell_lit hxo 1 _ rfl
                    have R206 := cell_lit hp 37 _ rfl
                    go_wp2_with fail
                    clear R195 R204 R206
                    with_reducible refine (in_any _ _ _ _).mono ?_
                    rintro e _ ⟨rfl, rfl⟩
                    obtain ⟨b1, HI1_⟩ : ∃ b, inI (x.2.1) 1 (c.low - 1) = b := ⟨_, rfl⟩
                    have HI1 := Lib.hid HI1_
                    rw [HI1_]
                    clear HI1_
                    rcases b1 with _ | _
                    · go_wp2_with fail
                      go_meet
                      case rel => exact ⟨by rw [HI0.out, HI1.out]; simp, hp, hxo, hf, ho, bel⟩
                    · have R213 := cell_lit hxo 6 _ rfl
                      go_wp2_with fail
                      clear R213
                      with_reducible refine (in_any _ _ _ _).mono ?_
                      rintro e _ ⟨rfl, rfl⟩
                      obtain ⟨b2, HI2_⟩ : ∃ b, inI (x.2.2.2) 1 65535 = b := ⟨_, rfl⟩
                      have HI2 := Lib.hid HI2_
                      rw [HI2_]
                      clear HI2_
                      rcases b2 with _ | _
                      · go_wp2_with fail
                        go_meet
                        case rel => exact ⟨by rw [HI0.out, HI1.out, HI2.out]; simp, hp, hxo, hf, ho, bel⟩
                      · have R218 := Lib.hid (range_lit hp 0 40 (cfl c Fx nf cf (some ⟨gO, oO, none⟩) nx cx) rfl)
                        go_wp2_with (first | ((with_reducible show wpList _ _ _ (⟨some 218, _, _, _, _, _⟩ :: _) _ _); refine wpList_load_rng 44 (.tmp 1) rfl (by kernel_rfl) _ _ rfl _ R218.out _ Tryd.underlying44 rfl (by kernel_rfl) ?_; have R220 := Lib.hid (range_lit hxo 2 4 [.int .u8 (x.2.2.1.a.toNat : Int), .int .u8 (x.2.2.1.b.toNat : Int), .int .u8 (x.2.2.1.c.toNat : Int), .int .u8 (x.2.2.1.d.toNat : Int)] rfl)) | ((with_reducible show wpList _ _ _ (⟨some 220, _, _, _, _, _⟩ :: _) _ _); refine wpList_load_rng 24 (.tmp 219) rfl (by kernel_rfl) _ _ rfl _ R220.out _ Tryd.underlying24 rfl (by kernel_rfl) ?_))
                        try clear R218
                        try clear R220
                        with_reducible refine (inner_any c (x.2.2.1) _ _ _ _ _ _ _).mono ?_
                        rintro e w167 ⟨rfl, b167⟩
                        replace hp := blk_u hp b167
                        replace hxo := blk_u hxo b167
                        replace hf := hf.below b167
                        replace ho := ho.below b167
                        replace bel := bel.trans (b167.mono bel.size)
                        clear b167
                        obtain ⟨b3, HI3_⟩ : ∃ b, c.inner (x.2.2.1) = b := ⟨_, rfl⟩
                        have HI3 := Lib.hid HI3_
                        rw [HI3_]
                        clear HI3_
                        rcases b3 with _ | _
                        · go_wp2_with fail
                          go_meet
                          case rel => exact ⟨by rw [HI0.out, HI1.out, HI2.out, HI3.out]; simp, hp, hxo, hf, ho, bel⟩
                        · obtain ⟨b4, HI4_⟩ : ∃ b, (x.2.2.1.num == c.own.num) = b := ⟨_, rfl⟩
                          have HI4 := Lib.hid HI4_
                          have q6 : ∀ W, (binOp .eql 24 (.agg #[.int .u8 (x.2.2.1.a.toNat : Int), .int .u8 (x.2.2.1.b.toNat : Int), .int .u8 (x.2.2.1.c.toNat : Int), .int .u8 (x.2.2.1.d.toNat : Int)]) (.agg #[.int .u8 (c.own.a.toNat : Int), .int .u8 (c.own.b.toNat : Int), .int .u8 (c.own.c.toNat : Int), .int .u8 (c.own.d.toNat : Int)])).run Tryd.prog W = .ok (.bool b4) W := fun W => by rw [ad_eq2, HI4_]
                          clear HI4_
                          rcases b4 with _ | _
                          · have R226 := Lib.hid (range_lit hxo 2 4 [.int .u8 (x.2.2.1.a.toNat : Int), .int .u8 (x.2.2.1.b.toNat : Int), .int .u8 (x.2.2.1.c.toNat : Int), .int .u8 (x.2.2.1.d.toNat : Int)] rfl)
                            go_wp2_with (first | ((with_reducible show wpList _ _ _ (⟨some 226, _, _, _, _, _⟩ :: _) _ _); refine wpList_load_rng 24 (.tmp 225) rfl (by kernel_rfl) _ _ rfl _ R226.out _ Tryd.underlying24 rfl (by kernel_rfl) ?_; have R228 := Lib.hid (range_lit hp 0 4 [.int .u8 (c.own.a.toNat : Int), .int .u8 (c.own.b.toNat : Int), .int .u8 (c.own.c.toNat : Int), .int .u8 (c.own.d.toNat : Int)] rfl)) | ((with_reducible show wpList _ _ _ (⟨some 228, _, _, _, _, _⟩ :: _) _ _); refine wpList_load_rng 24 (.tmp 227) rfl (by kernel_rfl) _ _ rfl _ R228.out _ Tryd.underlying24 rfl (by kernel_rfl) ?_))
                            try clear R226
                            try clear R228
                            go_meet
                            case rel => exact ⟨by rw [HI0.out, HI1.out, HI2.out, HI3.out, HI4.out]; simp, hp, hxo, hf, ho, bel⟩
                          · have R226 := Lib.hid (range_lit hxo 2 4 [.int .u8 (x.2.2.1.a.toNat : Int), .int .u8 (x.2.2.1.b.toNat : Int), .int .u8 (x.2.2.1.c.toNat : Int), .int .u8 (x.2.2.1.d.toNat : Int)] rfl)
                            go_wp2_with (first | ((with_reducible show wpList _ _ _ (⟨some 226, _, _, _, _, _⟩ :: _) _ _); refine wpList_load_rng 24 (.tmp 225) rfl (by kernel_rfl) _ _ rfl _ R226.out _ Tryd.underlying24 rfl (by kernel_rfl) ?_; have R228 := Lib.hid (range_lit hp 0 4 [.int .u8 (c.own.a.toNat : Int), .int .u8 (c.own.b.toNat : Int), .int .u8 (c.own.c.toNat : Int), .int .u8 (c.own.d.toNat : Int)] rfl)) | ((with_reducible show wpList _ _ _ (⟨some 228, _, _, _, _, _⟩ :: _) _ _); refine wpList_load_rng 24 (.tmp 227) rfl (by kernel_rfl) _ _ rfl _ R228.out _ Tryd.underlying24 rfl (by kernel_rfl) ?_))
                            try clear R226
                            try clear R228
                            go_meet
                            case rel => exact ⟨by rw [HI0.out, HI1.out, HI2.out, HI3.out, HI4.out]; simp, hp, hxo, hf, ho, bel⟩
                  · have f0 : (x.1 != 17) = true := by rw [bne, b0_]; rfl
                    rcases (by decide : ∀ b : Bool, b = true ∨ b = false) (x.1 == 6) with b9_ | b9_
                    · have f9 : (x.1 != 6) = false := by rw [bne, b9_]; rfl
                      have HI0 : Hid (((x.1 == 17) || (x.1 == 6)) = true) := Lib.hid (by rw [b0_, b9_]; rfl)
                      have R195 := cell_lit hxo 0 _ rfl
                      have R199 := cell_lit hxo 0 _ rfl
                      have R204 := cell_lit hxo 1 _ rfl
                      have R206 := cell_lit hp 37 _ rfl
                      go_wp2_with fail
                      clear R195 R199 R204 R206
                      with_reducible refine (in_any _ _ _ _).mono ?_
                      rintro e _ ⟨rfl, rfl⟩
                      obtain ⟨b1, HI1_⟩ : ∃ b, inI (x.2.1) 1 (c.low - 1) = b := ⟨_, rfl⟩
                      have HI1 := Lib.hid HI1_
                      rw [HI1_]
                      clear HI1_
                      rcases b1 with _ | _
                      · go_wp2_with fail
                        go_meet
                        case rel => exact ⟨by rw [HI0.out, HI1.out]; simp, hp, hxo, hf, ho, bel⟩
                      · have R213 := cell_lit hxo 6 _ rfl
                        go_wp2_with fail
                        clear R213
                        with_reducible refine (in_any _ _ _ _).mono ?_
                        rintro e _ ⟨rfl, rfl⟩
                        obtain ⟨b2, HI2_⟩ : ∃ b, inI (x.2.2.2) 1 65535 = b := ⟨_, rfl⟩
                        have HI2 := Lib.hid HI2_
                        rw [HI2_]
                        clear HI2_
                        rcases b2 with _ | _
                        · go_wp2_with fail
                          go_meet
                          case rel => exact ⟨by rw [HI0.out, HI1.out, HI2.out]; simp, hp, hxo, hf, ho, bel⟩
                        · have R218 := Lib.hid (range_lit hp 0 40 (cfl c Fx nf cf (some ⟨gO, oO, none⟩) nx cx) rfl)
                          go_wp2_with (first | ((with_reducible show wpList _ _ _ (⟨some 218, _, _, _, _, _⟩ :: _) _ _); refine wpList_load_rng 44 (.tmp 1) rfl (by kernel_rfl) _ _ rfl _ R218.out _ Tryd.underlying44 rfl (by kernel_rfl) ?_; have R220 := Lib.hid (range_lit hxo 2 4 [.int .u8 (x.2.2.1.a.toNat : Int), .int .u8 (x.2.2.1.b.toNat : Int), .int .u8 (x.2.2.1.c.toNat : Int), .int .u8 (x.2.2.1.d.toNat : Int)] rfl)) | ((with_reducible show wpList _ _ _ (⟨some 220, _, _, _, _, _⟩ :: _) _ _); refine wpList_load_rng 24 (.tmp 219) rfl (by kernel_rfl) _ _ rfl _ R220.out _ Tryd.underlying24 rfl (by kernel_rfl) ?_))
                          try clear R218
                          try clear R220
                          with_reducible refine (inner_any c (x.2.2.1) _ _ _ _ _ _ _).mono ?_
                          rintro e w167 ⟨rfl, b167⟩
                          replace hp := blk_u hp b167
                          replace hxo := blk_u hxo b167
                          replace hf := hf.below b167
                          replace ho := ho.below b167
                          replace bel := bel.trans (b167.mono bel.size)
                          clear b167
                          obtain ⟨b3, HI3_⟩ : ∃ b, c.inner (x.2.2.1) = b := ⟨_, rfl⟩
                          have HI3 := Lib.hid HI3_
                          rw [HI3_]
                          clear HI3_
                          rcases b3 with _ | _
                          · go_wp2_with fail
                            go_meet
                            case rel => exact ⟨by rw [HI0.out, HI1.out, HI2.out, HI3.out]; simp, hp, hxo, hf, ho, bel⟩
                          · obtain ⟨b4, HI4_⟩ : ∃ b, (x.2.2.1.num == c.own.num) = b := ⟨_, rfl⟩
                            have HI4 := Lib.hid HI4_
                            have q6 : ∀ W, (binOp .eql 24 (.agg #[.int .u8 (x.2.2.1.a.toNat : Int), .int .u8 (x.2.2.1.b.toNat : Int), .int .u8 (x.2.2.1.c.toNat : Int), .int .u8 (x.2.2.1.d.toNat : Int)]) (.agg #[.int .u8 (c.own.a.toNat : Int), .int .u8 (c.own.b.toNat : Int), .int .u8 (c.own.c.toNat : Int), .int .u8 (c.own.d.toNat : Int)])).run Tryd.prog W = .ok (.bool b4) W := fun W => by rw [ad_eq2, HI4_]
                            clear HI4_
                            rcases b4 with _ | _
                            · have R226 := Lib.hid (range_lit hxo 2 4 [.int .u8 (x.2.2.1.a.toNat : Int), .int .u8 (x.2.2.1.b.toNat : Int), .int .u8 (x.2.2.1.c.toNat : Int), .int .u8 (x.2.2.1.d.toNat : Int)] rfl)
                              go_wp2_with (first | ((with_reducible show wpList _ _ _ (⟨some 226, _, _, _, _, _⟩ :: _) _ _); refine wpList_load_rng 24 (.tmp 225) rfl (by kernel_rfl) _ _ rfl _ R226.out _ Tryd.underlying24 rfl (by kernel_rfl) ?_; have R228 := Lib.hid (range_lit hp 0 4 [.int .u8 (c.own.a.toNat : Int), .int .u8 (c.own.b.toNat : Int), .int .u8 (c.own.c.toNat : Int), .int .u8 (c.own.d.toNat : Int)] rfl)) | ((with_reducible show wpList _ _ _ (⟨some 228, _, _, _, _, _⟩ :: _) _ _); refine wpList_load_rng 24 (.tmp 227) rfl (by kernel_rfl) _ _ rfl _ R228.out _ Tryd.underlying24 rfl (by kernel_rfl) ?_))
                              try clear R226
                              try clear R228
                              go_meet
                              case rel => exact ⟨by rw [HI0.out, HI1.out, HI2.out, HI3.out, HI4.out]; simp, hp, hxo, hf, ho, bel⟩
                            · have R226 := Lib.hid (range_lit hxo 2 4 [.int .u8 (x.2.2.1.a.toNat : Int), .int .u8 (x.2.2.1.b.toNat : Int), .int .u8 (x.2.2.1.c.toNat : Int), .int .u8 (x.2.2.1.d.toNat : Int)] rfl)
                              go_wp2_with (first | ((with_reducible show wpList _ _ _ (⟨some 226, _, _, _, _, _⟩ :: _) _ _); refine wpList_load_rng 24 (.tmp 225) rfl (by kernel_rfl) _ _ rfl _ R226.out _ Tryd.underlying24 rfl (by kernel_rfl) ?_; have R228 := Lib.hid (range_lit hp 0 4 [.int .u8 (c.own.a.toNat : Int), .int .u8 (c.own.b.toNat : Int), .int .u8 (c.own.c.toNat : Int), .int .u8 (c.own.d.toNat : Int)] rfl)) | ((with_reducible show wpList _ _ _ (⟨some 228, _, _, _, _, _⟩ :: _) _ _); refine wpList_load_rng 24 (.tmp 227) rfl (by kernel_rfl) _ _ rfl _ R228.out _ Tryd.underlying24 rfl (by kernel_rfl) ?_))
                              try clear R226
                              try clear R228
                              go_meet
                              case rel => exact ⟨by rw [HI0.out, HI1.out, HI2.out, HI3.out, HI4.out]; simp, hp, hxo, hf, ho, bel⟩
                    · have f9 : (x.1 != 6) = true := by rw [bne, b9_]; rfl
                      have HI0 : Hid (((x.1 == 17) || (x.1 == 6)) = false) := Lib.hid (by rw [b0_, b9_]; rfl)
                      have R195 := cell_lit hxo 0 _ rfl
                      have R199 := cell_lit hxo 0 _ rfl
                      go_wp2_with fail
                      clear R195 R199
                      go_meet
                      case rel => exact ⟨by rw [HI0.out]; simp, hp, hxo, hf, ho, bel⟩
                clear hp hxo hf ho bel
                obtain ⟨w218, hw_⟩ : ∃ x, x = wc := ⟨_, rfl⟩
                subst hw_
                obtain ⟨rfl, hp, hxo, hf, ho, bel⟩ := hcut
                rcases (by decide : ∀ b : Bool, b = true ∨ b = false) (!((x.1 == 17) || (x.1 == 6)) || (!inI x.2.1 1 (c.low - 1) || (!inI x.2.2.2 1 65535 || (!c.inner x.2.2.1 || (x.2.2.1.num == c.own.num))))) with hb | hb
                · rw [hb]
                  have HP : Hid (c.check = false) := Lib.hid (by unfold Cf.check; rw [HCA.out, HCB.out, HCC.out, HFX.out, ← HWo.out, Cf.op_step HX.out]; unfold Cf.opOne; simp only [Bool.or_eq_true, Bool.not_eq_true'] at hb; rcases hb with hb | hb | hb | hb | hb <;> simp [hb])
                  go_wp2_with fail
                  go_ret
                  exact ⟨by rw [HP.out]; rfl, bel⟩
                · rw [hb]
                  simp only [Bool.or_eq_false_iff, Bool.not_eq_false'] at hb
                  obtain ⟨g0, g1, g2, g3, g4⟩ := hb
                  have HI0 := Lib.hid g0
                  have HI1 := Lib.hid g1
                  have HI2 := Lib.hid g2
                  have HI3 := Lib.hid g3
                  have HI4 := Lib.hid g4
                  clear g0 g1 g2 g3 g4
                  go_wp2_with fail
                  go_loopg [11] (i + 1) (fun gk s11 wr => ∃ j : Nat, gk = i + 1 - j ∧ j ≤ i ∧ Hid ((c.opens.take j).any (opBad x) = false) ∧ s11 = .int .i64 (j : Int) ∧ wr.heap[g1]? = some (.cells (cfl c Fx nf cf (some ⟨gO, oO, none⟩) nx cx).toArray 44 (0, 0)) ∧ wr.heap[g10]? = some (.cells #[.int .i64 x.1, .int .i64 x.2.1, .int .u8 (x.2.2.1.a.toNat : Int), .int .u8 (x.2.2.1.b.toNat : Int), .int .u8 (x.2.2.1.c.toNat : Int), .int .u8 (x.2.2.1.d.toNat : Int), .int .i64 x.2.2.2] 82 (0, 0)) ∧ Sle fxf 10 wr (Fx) (nf) (cf) (c.fixed) ∧ Sle opf 7 wr (some ⟨gO, oO, none⟩) (nx) (cx) (c.opens) ∧ Below w.heap.size w wr)
                  case atStart => exact ⟨0, rfl, Nat.zero_le _, Lib.hid rfl, rfl, hp, hxo, hf, ho, bel⟩
                  case round =>
                    clear hp hxo hf ho bel
                    obtain ⟨j, HGK, hj, HA, rfl, hp, hxo, hf, ho, bel⟩ := hrel
                    have HGK_ := Lib.hid HGK
                    clear HGK
                    have HGKi := HGK_
                    clear HGK_
                    have j0 : (0 : Int) ≤ j := by omega
                    have j1 : (j : Int) ≤ 32 := by omega
                    by_cases hl2 : j < i
                    · have hjf : j < nx := by omega
                      obtain ⟨y, hy⟩ : ∃ y, c.opens[j]? = some y := ⟨_, List.getElem?_eq_getElem (by rw [HLO.out]; exact hjf)⟩
                      have HY := Lib.hid hy
                      clear hy
                      obtain ⟨b7, HJ7_⟩ : ∃ b, (y.1 == x.1) = b := ⟨_, rfl⟩
                      have HJ7 := Lib.hid HJ7_
                      obtain ⟨b8, HJ8_⟩ : ∃ b, (y.2.1 == x.2.1) = b := ⟨_, rfl⟩
                      have HJ8 := Lib.hid HJ8_
                      go_wp2_with fail
                      replace bel := bel.drew
                      replace hp : wr.drew.heap[g1]? = _ := hp
                      replace hxo : wr.drew.heap[g10]? = _ := hxo
                      replace hf := hf.drew
                      replace ho := ho.drew
                      refine wp_region_held_drew (S := fun W => W.heap[g1]? = some (.cells (cfl c Fx nf cf (some ⟨gO, oO, none⟩) nx cx).toArray 44 (0, 0)) ∧ W.heap[g10]? = some (.cells #[.int .i64 x.1, .int .i64 x.2.1, .int .u8 (x.2.2.1.a.toNat : Int), .int .u8 (x.2.2.1.b.toNat : Int), .int .u8 (x.2.2.1.c.toNat : Int), .int .u8 (x.2.2.1.d.toNat : Int), .int .i64 x.2.2.2] 82 (0, 0)) ∧ Sle opf 7 W (some ⟨gO, oO, none⟩) (nx) (cx) (c.opens)) (by kernel_rfl) ⟨hp, hxo, ho⟩ (fun hH => ?_)
                      generalize wr.drew = w219 at bel hp hxo hf ho hH ⊢
                      refine wpAnyH_take (i := 0) (v := ?_) rfl (by kernel_rfl) (by kernel_rfl) (by kernel_rfl) (fun _ _ _ h => h) (Or.inl ⟨by rfl, ?_⟩) hH ?_
                      rotate_left
                      · ((intro W hW; clear hW; go_simp) <;> with_reducible rfl)
                      simp only [Act.put, List.getElem_toArray, List.getElem_cons_zero, List.setIfInBounds_toArray, List.set_cons_zero, List.set_cons_succ]
                      refine wpAnyH_take (i := 1) (v := ?_) rfl (by kernel_rfl) (by kernel_rfl) (by kernel_rfl) (fun _ _ _ h => h) (Or.inl ⟨by rfl, ?_⟩) hH ?_
                      rotate_left
                      · ((intro W hW; have hk := cell_lit (hW.1) 39 _ rfl; clear hW; go_simp) <;> with_reducible rfl)
                      simp only [Act.put, List.getElem_toArray, List.getElem_cons_zero, List.getElem_cons_succ, List.setIfInBounds_toArray, List.set_cons_zero, List.set_cons_succ]
                      refine wpAnyH_take (i := 2) (v := ?_) rfl (by kernel_rfl) (by kernel_rfl) (by kernel_rfl) (fun _ _ _ h => h) (Or.inl ⟨by rfl, ?_⟩) hH ?_
                      rotate_left
                      · ((intro W hW; clear hW; go_simp) <;> with_reducible rfl)
                      simp only [Act.put, List.getElem_toArray, List.getElem_cons_zero, List.getElem_cons_succ, List.setIfInBounds_toArray, List.set_cons_zero, List.set_cons_succ]
                      refine wpAnyH_take (i := 3) (v := ?_) rfl (by kernel_rfl) (by kernel_rfl) (by kernel_rfl) (fun _ _ _ h => h) (Or.inl ⟨by rfl, ?_⟩) hH ?_
                      rotate_left
                      · ((intro W hW; clear hW; go_simp) <;> with_reducible rfl)
                      simp only [Act.put, List.getElem_toArray, List.getElem_cons_zero, List.getElem_cons_succ, List.setIfInBounds_toArray, List.set_cons_zero, List.set_cons_succ]
                      refine wpAnyH_take (i := 4) (v := ?_) rfl (by kernel_rfl) (by kernel_rfl) (by kernel_rfl) (fun _ _ _ h => h) (Or.inl ⟨by rfl, ?_⟩) hH ?_
                      rotate_left
                      · ((intro W hW; clear hW; go_simp) <;> with_reducible rfl)
                      simp only [Act.put, List.getElem_toArray, List.getElem_cons_zero, List.getElem_cons_succ, List.setIfInBounds_toArray, List.set_cons_zero, List.set_cons_succ]
                      refine wpAnyH_take (i := 5) (v := ?_) rfl (by kernel_rfl) (by kernel_rfl) (by kernel_rfl) (fun _ _ _ h => h) (Or.inl ⟨by rfl, ?_⟩) hH ?_
                      rotate_left
                      · ((intro W hW; have hk := Sle.cellk0 (hW.2.2) HY.out _ rfl; clear hW; go_simp) <;> with_reducible rfl)
                      simp only [Act.put, List.getElem_toArray, List.getElem_cons_zero, List.getElem_cons_succ, List.setIfInBounds_toArray, List.set_cons_zero, List.set_cons_succ]
                      refine wpAnyH_take (i := 6) (v := ?_) rfl (by kernel_rfl) (by kernel_rfl) (by kernel_rfl) (fun _ _ _ h => h) (Or.inl ⟨by rfl, ?_⟩) hH ?_
                      rotate_left
                      · ((intro W hW; clear hW; go_simp) <;> with_reducible rfl)
                      simp only [Act.put, List.getElem_toArray, List.getElem_cons_zero, List.getElem_cons_succ, List.setIfInBounds_toArray, List.set_cons_zero, List.set_cons_succ]
                      refine wpAnyH_take (i := 7) (v := ?_) rfl (by kernel_rfl) (by kernel_rfl) (by kernel_rfl) (fun _ _ _ h => h) (Or.inl ⟨by rfl, ?_⟩) hH ?_
                      rotate_left
                      · ((intro W hW; have hk := cell_lit (hW.2.1) 0 _ rfl; clear hW; go_simp) <;> with_reducible rfl)
                      simp only [Act.put, List.getElem_toArray, List.getElem_cons_zero, List.getElem_cons_succ, List.setIfInBounds_toArray, List.set_cons_zero, List.set_cons_succ]
                      refine wpAnyH_take (i := 8) (v := ?_) rfl (by kernel_rfl) (by kernel_rfl) (by kernel_rfl) (fun _ _ _ h => h) (Or.inl ⟨by rfl, ?_⟩) hH ?_
                      rotate_left
                      · ((intro W hW; clear hW; go_simp) <;> with_reducible rfl)
                      simp only [Act.put, List.getElem_toArray, List.getElem_cons_zero, List.getElem_cons_succ, List.setIfInBounds_toArray, List.set_cons_zero, List.set_cons_succ]
                      refine wpAnyH_take (i := 9) (v := ?_) rfl (by kernel_rfl) (by kernel_rfl) (by kernel_rfl) (fun _ _ _ h => h) (Or.inl ⟨by rfl, ?_⟩) hH ?_
                      rotate_left
                      · ((intro W hW; clear hW; go_simp) <;> with_reducible rfl)
                      simp only [Act.put, List.getElem_toArray, List.getElem_cons_zero, List.getElem_cons_succ, List.setIfInBounds_toArray, List.set_cons_zero, List.set_cons_succ]
                      rcases b7 with _ | _
                      · refine wpAnyH_take (i := 10) (v := undef) rfl (by kernel_rfl) (by kernel_rfl) (by kernel_rfl) (fun _ _ _ h => h) (Or.inr ⟨by rfl, rfl⟩) hH ?_
                        simp only [Act.put, List.getElem_toArray, List.getElem_cons_zero, List.getElem_cons_succ, List.setIfInBounds_toArray, List.set_cons_zero, List.set_cons_succ]
                        refine wpAnyH_take (i := 11) (v := undef) rfl (by kernel_rfl) (by kernel_rfl) (by kernel_rfl) (fun _ _ _ h => h) (Or.inr ⟨by rfl, rfl⟩) hH ?_
                        simp only [Act.put, List.getElem_toArray, List.getElem_cons_zero, List.getElem_cons_succ, List.setIfInBounds_toArray, List.set_cons_zero, List.set_cons_succ]
                        refine wpAnyH_take (i := 12) (v := undef) rfl (by kernel_rfl) (by kernel_rfl) (by kernel_rfl) (fun _ _ _ h => h) (Or.inr ⟨by rfl, rfl⟩) hH ?_
                        simp only [Act.put, List.getElem_toArray, List.getElem_cons_zero, List.getElem_cons_succ, List.setIfInBounds_toArray, List.set_cons_zero, List.set_cons_succ]
                        refine wpAnyH_take (i := 13) (v := undef) rfl (by kernel_rfl) (by kernel_rfl) (by kernel_rfl) (fun _ _ _ h => h) (Or.inr ⟨by rfl, rfl⟩) hH ?_
                        simp only [Act.put, List.getElem_toArray, List.getElem_cons_zero, List.getElem_cons_succ, List.setIfInBounds_toArray, List.set_cons_zero, List.set_cons_succ]
                        refine wpAnyH_take (i := 14) (v := undef) rfl (by kernel_rfl) (by kernel_rfl) (by kernel_rfl) (fun _ _ _ h => h) (Or.inr ⟨by rfl, rfl⟩) hH ?_
                        simp only [Act.put, List.getElem_toArray, List.getElem_cons_zero, List.getElem_cons_succ, List.setIfInBounds_toArray, List.set_cons_zero, List.set_cons_succ]
                        refine wpAnyH_take (i := 15) (v := undef) rfl (by kernel_rfl) (by kernel_rfl) (by kernel_rfl) (fun _ _ _ h => h) (Or.inr ⟨by rfl, rfl⟩) hH ?_
                        simp only [Act.put, List.getElem_toArray, List.getElem_cons_zero, List.getElem_cons_succ, List.setIfInBounds_toArray, List.set_cons_zero, List.set_cons_succ]
                        refine wpAnyH_take (i := 16) (v := undef) rfl (by kernel_rfl) (by kernel_rfl) (by kernel_rfl) (fun _ _ _ h => h) (Or.inr ⟨by rfl, rfl⟩) hH ?_
                        simp only [Act.put, List.getElem_toArray, List.getElem_cons_zero, List.getElem_cons_succ, List.setIfInBounds_toArray, List.set_cons_zero, List.set_cons_succ]
                        refine wpAnyH_take (i := 17) (v := undef) rfl (by kernel_rfl) (by kernel_rfl) (by kernel_rfl) (fun _ _ _ h => h) (Or.inr ⟨by rfl, rfl⟩) hH ?_
                        simp only [Act.put, List.getElem_toArray, List.getElem_cons_zero, List.getElem_cons_succ, List.setIfInBounds_toArray, List.set_cons_zero, List.set_cons_succ]
                        refine wpAnyH_take (i := 18) (v := undef) rfl (by kernel_rfl) (by kernel_rfl) (by kernel_rfl) (fun _ _ _ h => h) (Or.inr ⟨by rfl, rfl⟩) hH ?_
                        simp only [Act.put, List.getElem_toArray, List.getElem_cons_zero, List.getElem_cons_succ, List.setIfInBounds_toArray, List.set_cons_zero, List.set_cons_succ]
                        refine wpAnyH_take (i := 19) (v := ?_) rfl (by kernel_rfl) (by kernel_rfl) (by kernel_rfl) (fun _ _ _ h => h) (Or.inl ⟨by rfl, ?_⟩) hH ?_
                        rotate_left
                        · ((intro W hW; clear hW; go_simp) <;> with_reducible rfl)
                        simp only [Act.put, List.getElem_toArray, List.getElem_cons_zero, List.getElem_cons_succ, List.setIfInBounds_toArray, List.set_cons_zero, List.set_cons_succ]
                        refine wpAnyH_done (by kernel_rfl) ?_ _
                        go_wp2_with fail
                        go_roundg (i + 1 - (j + 1))
                        case measure => have := HGKi.out; omega
                        case rel => exact ⟨j + 1, rfl, by omega, Lib.hid (any_more HY.out HA.out (by unfold opBad; rw [HJ7.out]; rfl)), by go_num, hp, hxo, hf, ho, bel⟩
                      · refine wpAnyH_take (i := 10) (v := ?_) rfl (by kernel_rfl) (by kernel_rfl) (by kernel_rfl) (fun _ _ _ h => h) (Or.inl ⟨by rfl, ?_⟩) hH ?_
                        rotate_left
                        · ((intro W hW; clear hW; go_simp) <;> with_reducible rfl)
                        simp only [Act.put, List.getElem_toArray, List.getElem_cons_zero, List.getElem_cons_succ, List.setIfInBounds_toArray, List.set_cons_zero, List.set_cons_succ]
                        refine wpAnyH_take (i := 11) (v := ?_) rfl (by kernel_rfl) (by kernel_rfl) (by kernel_rfl) (fun _ _ _ h => h) (Or.inl ⟨by rfl, ?_⟩) hH ?_
                        rotate_left
                        · ((intro W hW; have hk := cell_lit (hW.1) 39 _ rfl; clear hW; go_simp) <;> with_reducible rfl)
                        simp only [Act.put, List.getElem_toArray, List.getElem_cons_zero, List.getElem_cons_succ, List.setIfInBounds_toArray, List.set_cons_zero, List.set_cons_succ]
                        refine wpAnyH_take (i := 12) (v := ?_) rfl (by kernel_rfl) (by kernel_rfl) (by kernel_rfl) (fun _ _ _ h => h) (Or.inl ⟨by rfl, ?_⟩) hH ?_
                        rotate_left
                        · ((intro W hW; clear hW; go_simp) <;> with_reducible rfl)
                        simp only [Act.put, List.getElem_toArray, List.getElem_cons_zero, List.getElem_cons_succ, List.setIfInBounds_toArray, List.set_cons_zero, List.set_cons_succ]
                        refine wpAnyH_take (i := 13) (v := ?_) rfl (by kernel_rfl) (by kernel_rfl) (by kernel_rfl) (fun _ _ _ h => h) (Or.inl ⟨by rfl, ?_⟩) hH ?_
                        rotate_left
                        · ((intro W hW; clear hW; go_simp) <;> with_reducible rfl)
                        simp only [Act.put, List.getElem_toArray, List.getElem_cons_zero, List.getElem_cons_succ, List.setIfInBounds_toArray, List.set_cons_zero, List.set_cons_succ]
                        refine wpAnyH_take (i := 14) (v := ?_) rfl (by kernel_rfl) (by kernel_rfl) (by kernel_rfl) (fun _ _ _ h => h) (Or.inl ⟨by rfl, ?_⟩) hH ?_
                        rotate_left
                        · ((intro W hW; clear hW; go_simp) <;> with_reducible rfl)
                        simp only [Act.put, List.getElem_toArray, List.getElem_cons_zero, List.getElem_cons_succ, List.setIfInBounds_toArray, List.set_cons_zero, List.set_cons_succ]
                        refine wpAnyH_take (i := 15) (v := ?_) rfl (by kernel_rfl) (by kernel_rfl) (by kernel_rfl) (fun _ _ _ h => h) (Or.inl ⟨by rfl, ?_⟩) hH ?_
                        rotate_left
                        · ((intro W hW; have hk := Sle.cellk (hW.2.2) HY.out 1 _ rfl; clear hW; go_simp) <;> with_reducible rfl)
                        simp only [Act.put, List.getElem_toArray, List.getElem_cons_zero, List.getElem_cons_succ, List.setIfInBounds_toArray, List.set_cons_zero, List.set_cons_succ]
                        refine wpAnyH_take (i := 16) (v := ?_) rfl (by kernel_rfl) (by kernel_rfl) (by kernel_rfl) (fun _ _ _ h => h) (Or.inl ⟨by rfl, ?_⟩) hH ?_
                        rotate_left
                        · ((intro W hW; clear hW; go_simp) <;> with_reducible rfl)
                        simp only [Act.put, List.getElem_toArray, List.getElem_cons_zero, List.getElem_cons_succ, List.setIfInBounds_toArray, List.set_cons_zero, List.set_cons_succ]
                        refine wpAnyH_take (i := 17) (v := ?_) rfl (by kernel_rfl) (by kernel_rfl) (by kernel_rfl) (fun _ _ _ h => h) (Or.inl ⟨by rfl, ?_⟩) hH ?_
                        rotate_left
                        · ((intro W hW; have hk := cell_lit (hW.2.1) 1 _ rfl; clear hW; go_simp) <;> with_reducible rfl)
                        simp only [Act.put, List.getElem_toArray, List.getElem_cons_zero, List.getElem_cons_succ, List.setIfInBounds_toArray, List.set_cons_zero, List.set_cons_succ]
                        refine wpAnyH_take (i := 18) (v := ?_) rfl (by kernel_rfl) (by kernel_rfl) (by kernel_rfl) (fun _ _ _ h => h) (Or.inl ⟨by rfl, ?_⟩) hH ?_
                        rotate_left
                        · ((intro W hW; clear hW; go_simp) <;> with_reducible rfl)
                        simp only [Act.put, List.getElem_toArray, List.getElem_cons_zero, List.getElem_cons_succ, List.setIfInBounds_toArray, List.set_cons_zero, List.set_cons_succ]
                        refine wpAnyH_take (i := 19) (v := ?_) rfl (by kernel_rfl) (by kernel_rfl) (by kernel_rfl) (fun _ _ _ h => h) (Or.inl ⟨by rfl, ?_⟩) hH ?_
                        rotate_left
                        · ((intro W hW; clear hW; go_simp) <;> with_reducible rfl)
                        simp only [Act.put, List.getElem_toArray, List.getElem_cons_zero, List.getElem_cons_succ, List.setIfInBounds_toArray, List.set_cons_zero, List.set_cons_succ]
                        rcases b8 with _ | _
                        · refine wpAnyH_done (by kernel_rfl) ?_ _
                          go_wp2_with fail
                          go_roundg (i + 1 - (j + 1))
                          case measure => have := HGKi.out; omega
                          case rel => exact ⟨j + 1, rfl, by omega, Lib.hid (any_more HY.out HA.out (by unfold opBad; rw [HJ7.out, HJ8.out]; rfl)), by go_num, hp, hxo, hf, ho, bel⟩
                        · have HP : Hid (c.check = false) := Lib.hid (by unfold Cf.check; rw [HCA.out, HCB.out, HCC.out, HFX.out, ← HWo.out, Cf.op_step HX.out]; unfold Cf.opOne; rw [HI0.out, HI1.out, HI2.out, HI3.out, HI4.out, any_hit hl2 HY.out (by unfold opBad; rw [HJ7.out, HJ8.out]; rfl)]; simp)
                          refine wpAnyH_done (by kernel_rfl) ?_ _
                          go_wp2_with fail
                          go_ret
                          exact ⟨by rw [HP.out]; rfl, bel⟩
                    · have hl3 : decide (j < i) = false := decide_eq_false hl2
                      have HJ : Hid (j = i) := Lib.hid (by omega)
                      go_wp2_with fail
                      go_roundg (nx + 1 - (i + 1))
                      case measure => have := HGKo.out; omega
                      case rel => exact ⟨i + 1, rfl, by omega, Lib.hid (by have h := HWo.out; rw [Cf.op_step HX.out] at h; rw [← h, show c.opOne (c.opens.take i) x = true by unfold Cf.opOne; rw [HI0.out, HI1.out, HI2.out, HI3.out, HI4.out, ← HJ.out, HA.out]; rfl, Bool.true_and]), by go_num, hp, hf, ho, bel⟩
              · have hl1 : decide (i < nx) = false := decide_eq_false hil
                have HP : Hid (c.check = true) := Lib.hid (by unfold Cf.check; rw [HCA.out, HCB.out, HCC.out, HFX.out, ← HWo.out, List.drop_eq_nil_of_le (by rw [HLO.out]; omega)]; rfl)
                have R184 := cell_lit hp 39 _ rfl
                go_wp2_with fail
                clear R184
                go_ret
                exact ⟨by rw [HP.out]; rfl, bel⟩
      · rw [hc]
        have HP : Hid (c.check = false) := Lib.hid (by unfold Cf.check; rw [HCA.out, HCB.out, hc]; simp)
        go_wp2_with fail
        go_ret
        exact ⟨by rw [HP.out]; rfl, bel⟩
    · rw [hc]
      have HP : Hid (c.check = false) := Lib.hid (by unfold Cf.check; rw [HCA.out, hc]; simp)
      go_wp2_with fail
      go_ret
      exact ⟨by rw [HP.out]; rfl, bel⟩
  · rw [hc]
    have HP : Hid (c.check = false) := Lib.hid (by unfold Cf.check; rw [hc]; simp)
    go_wp2_with fail
    go_ret
    exact ⟨by rw [HP.out]; rfl, bel⟩
end Go.Proofs.YtdfobilagidmfaaDoor
