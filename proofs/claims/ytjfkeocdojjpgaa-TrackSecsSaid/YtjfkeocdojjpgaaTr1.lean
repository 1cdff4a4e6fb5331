/- track's small functions. -/
import Derived.Test.YtjfkeocdojjpgaaTr0
import Derived.Test.YtjfkeocdojjpgaaNrs
import Derived.Test.YtjfkeocdojjpgaaNrk
import Derived.Laws.ResultCell
import Derived.IntWalk
import Derived.Deep.CutRange
import Derived.DeepKeys4
import Derived.Stop.BytesEq
namespace Go.Proofs.Ytjfkeocdojjpgaa
open Go.RowKit

theorem wpList_max {P : Program} {w : World} {ops : Array Oper} {rest : List Oper} {o : Oper} {a : Act} {Q : Exit → Act → World → Prop} (hgd : o.guard = none) (s x : Operand) (t tn : TypeId)
    (ho : o.op = .call { callee := .builtin .max, args := #[s, x], argTypes := #[t, tn] }) (k : IntKind) (i j m : Int) (hs : a.eval s = .int k i) (hx : a.eval x = .int k j) (hm : (if j > i then j else i) = m)
    (h : wpList P ops Q rest (a.put o.dst (.int k m)) w) : wpList P ops Q (o :: rest) a w := by
  subst hm
  refine wpList_wanted (by simp [Region.wanted, hgd]) fun K hK => ?_
  have hr : (Builtin.max_ #[t, tn] o.type #[.int k i, .int k j]).run P w = .ok (.int k (if j > i then j else i)) w := by
    simp [Builtin.max_, Builtin.max2]
  unfold Oper.wp execOp
  simp only [ho, resolve, invoke, builtin, Sem.run_bind, Sem.run_pure, Result.andThen_ok, List.map_toArray, List.map_cons, List.map_nil, hs, hx, hr]
  exact hK _ _ h
theorem wpList_min {P : Program} {w : World} {ops : Array Oper} {rest : List Oper} {o : Oper} {a : Act} {Q : Exit → Act → World → Prop} (hgd : o.guard = none) (s x : Operand) (t tn : TypeId)
    (ho : o.op = .call { callee := .builtin .min, args := #[s, x], argTypes := #[t, tn] }) (k : IntKind) (i j m : Int) (hs : a.eval s = .int k i) (hx : a.eval x = .int k j) (hm : (if j < i then j else i) = m)
    (h : wpList P ops Q rest (a.put o.dst (.int k m)) w) : wpList P ops Q (o :: rest) a w := by
  subst hm
  refine wpList_wanted (by simp [Region.wanted, hgd]) fun K hK => ?_
  have hr : (Builtin.min_ #[t, tn] o.type #[.int k i, .int k j]).run P w = .ok (.int k (if j < i then j else i)) w := by
    simp [Builtin.min_, Builtin.min2]
  unfold Oper.wp execOp
  simp only [ho, resolve, invoke, builtin, Sem.run_bind, Sem.run_pure, Result.andThen_ok, List.map_toArray, List.map_cons, List.map_nil, hs, hx, hr]
  exact hK _ _ h
theorem eqa_in (x y : Ad4) (W : World) : (Op.equalIn 9999 29 (.agg #[.int .u8 (x.a.toNat : Int), .int .u8 (x.b.toNat : Int), .int .u8 (x.c.toNat : Int), .int .u8 (x.d.toNat : Int)]) (.agg #[.int .u8 (y.a.toNat : Int), .int .u8 (y.b.toNat : Int), .int .u8 (y.c.toNat : Int), .int .u8 (y.d.toNat : Int)])).run Try.prog W = .ok (x.eqB y) W :=
  run_equalIn_bytes (P := Try.prog) W 9997 29 5 4 (by kernel_rfl) (by kernel_rfl) (fun w => by kernel_rfl) x.l y.l rfl rfl
theorem eqe_b (o p q r : Int) (x y : Ad4) (W : World) : (binOp .eql 47 (.agg #[.int .i64 o, .int .u8 (x.a.toNat : Int), .int .u8 (x.b.toNat : Int), .int .u8 (x.c.toNat : Int), .int .u8 (x.d.toNat : Int), .int .i64 p]) (.agg #[.int .i64 q, .int .u8 (y.a.toNat : Int), .int .u8 (y.b.toNat : Int), .int .u8 (y.c.toNat : Int), .int .u8 (y.d.toNat : Int), .int .i64 r])).run Try.prog W = .ok (.bool ((o == q) && (x.eqB y && (p == r)))) W := by
  have h4 := eqa_in x y
  rw [run_eql_struct, run_equalIn_agg W 9999 47 _ _ (by kernel_rfl) (by kernel_rfl)]
  rcases h1 : (o == q) with _ | _ <;> rcases h2 : x.eqB y with _ | _ <;> rcases h3 : (p == r) with _ | _ <;> rw [h2] at h4 <;> simp [go_sem, h4, h1, h3]
set_option linter.unusedVariables false in
set_option linter.unusedSimpArgs false in
set_option maxRecDepth 100000 in
set_option maxHeartbeats 16000000 in
theorem findf_any {ge_ : Nat} {o p : Int} {ad : Ad4} (x : Cn) (w : World) (heb : w.heap[ge_]? = some (.cells #[.int .i64 o, .int .u8 (ad.a.toNat : Int), .int .u8 (ad.b.toNat : Int), .int .u8 (ad.c.toNat : Int), .int .u8 (ad.d.toNat : Int), .int .i64 p] 47 (0, 0))) : Calls Try.prog 20 #[.agg #[.int .i64 x.o, .int .u8 (x.ad.a.toNat : Int), .int .u8 (x.ad.b.toNat : Int), .int .u8 (x.ad.c.toNat : Int), .int .u8 (x.ad.d.toNat : Int), .int .i64 x.p, .int .i64 x.s, .bool x.d], .pointer (some ⟨ge_, 0, none⟩)] w fun e w' => e = .returned (.bool (isB o ad p x)) ∧ Below w.heap.size w w' := by
  have q := eqe_b x.o x.p o p x.ad ad
  have bel := Below.refl w.heap.size w
  go_enter Try.func20, Try.ntmps20
  go_wp2_with (first | ((with_reducible show wpList _ _ _ (⟨some 2, _, _, _, _, _⟩ :: _) _ _); refine wpList_box_n rfl 51 (.tmp 0) rfl #[.int .i64 x.o, .int .u8 (x.ad.a.toNat : Int), .int .u8 (x.ad.b.toNat : Int), .int .u8 (x.ad.c.toNat : Int), .int .u8 (x.ad.d.toNat : Int), .int .i64 x.p, .int .i64 x.s, .bool x.d] rfl ?_; intro g2 w1 ge lt hh bb; have d_eb_xb := ne_new (hlt heb) ge; have oxb := Nat.le_trans bel.size ge; replace heb := blk_u heb bb; replace bel := bel.trans (bb.mono bel.size); have hxb := hh; clear hh lt ge bb; have R5 := Lib.hid (range_lit hxb 0 6 [.int .i64 x.o, .int .u8 (x.ad.a.toNat : Int), .int .u8 (x.ad.b.toNat : Int), .int .u8 (x.ad.c.toNat : Int), .int .u8 (x.ad.d.toNat : Int), .int .i64 x.p] rfl)) | ((with_reducible show wpList _ _ _ (⟨some 5, _, _, _, _, _⟩ :: _) _ _); refine wpList_load_rng 47 (.tmp 4) rfl (by kernel_rfl) _ _ rfl _ R5.out _ Try.underlying47 rfl (by kernel_rfl) ?_; have R6 := Lib.hid (range_lit heb 0 6 [.int .i64 o, .int .u8 (ad.a.toNat : Int), .int .u8 (ad.b.toNat : Int), .int .u8 (ad.c.toNat : Int), .int .u8 (ad.d.toNat : Int), .int .i64 p] rfl)) | ((with_reducible show wpList _ _ _ (⟨some 6, _, _, _, _, _⟩ :: _) _ _); refine wpList_load_rng 47 (.tmp 1) rfl (by kernel_rfl) _ _ rfl _ R6.out _ Try.underlying47 rfl (by kernel_rfl) ?_))
  try clear R5
  try clear R6
  go_ret
  exact ⟨rfl, bel⟩
set_option linter.unusedVariables false in
set_option linter.unusedSimpArgs false in
set_option maxRecDepth 100000 in
set_option maxHeartbeats 16000000 in
theorem over_5 {x : Cn} (w : World) (h : (x.s == 5) = true) : Calls Try.prog 24 #[.agg #[.int .i64 x.o, .int .u8 (x.ad.a.toNat : Int), .int .u8 (x.ad.b.toNat : Int), .int .u8 (x.ad.c.toNat : Int), .int .u8 (x.ad.d.toNat : Int), .int .i64 x.p, .int .i64 x.s, .bool x.d]] w fun e w' => e = .returned (.bool (overB x)) ∧ Below w.heap.size w w' := by
  have bel := Below.refl w.heap.size w
  go_enter Try.func24, Try.ntmps24
  go_wp2_with (first | ((with_reducible show wpList _ _ _ (⟨some 1, _, _, _, _, _⟩ :: _) _ _); refine wpList_box_n rfl 51 (.tmp 0) rfl #[.int .i64 x.o, .int .u8 (x.ad.a.toNat : Int), .int .u8 (x.ad.b.toNat : Int), .int .u8 (x.ad.c.toNat : Int), .int .u8 (x.ad.d.toNat : Int), .int .i64 x.p, .int .i64 x.s, .bool x.d] rfl ?_; intro g1 w1 ge lt hh bb; have oxb := Nat.le_trans bel.size ge; replace bel := bel.trans (bb.mono bel.size); have hxb := hh; clear hh lt ge bb; have R4 := cell_lit hxb 6 _ rfl))
  try clear R4
  go_ret
  exact ⟨by show _ = Ending.returned (.bool ((x.s == 5) || (x.s == 6))); rw [h]; rfl, bel⟩
set_option linter.unusedVariables false in
set_option linter.unusedSimpArgs false in
set_option maxRecDepth 100000 in
set_option maxHeartbeats 16000000 in
theorem over_6 {x : Cn} (w : World) (h : (x.s == 5) = false) : Calls Try.prog 24 #[.agg #[.int .i64 x.o, .int .u8 (x.ad.a.toNat : Int), .int .u8 (x.ad.b.toNat : Int), .int .u8 (x.ad.c.toNat : Int), .int .u8 (x.ad.d.toNat : Int), .int .i64 x.p, .int .i64 x.s, .bool x.d]] w fun e w' => e = .returned (.bool (overB x)) ∧ Below w.heap.size w w' := by
  have bel := Below.refl w.heap.size w
  go_enter Try.func24, Try.ntmps24
  go_wp2_with (first | ((with_reducible show wpList _ _ _ (⟨some 1, _, _, _, _, _⟩ :: _) _ _); refine wpList_box_n rfl 51 (.tmp 0) rfl #[.int .i64 x.o, .int .u8 (x.ad.a.toNat : Int), .int .u8 (x.ad.b.toNat : Int), .int .u8 (x.ad.c.toNat : Int), .int .u8 (x.ad.d.toNat : Int), .int .i64 x.p, .int .i64 x.s, .bool x.d] rfl ?_; intro g1 w1 ge lt hh bb; have oxb := Nat.le_trans bel.size ge; replace bel := bel.trans (bb.mono bel.size); have hxb := hh; clear hh lt ge bb; have R4 := cell_lit hxb 6 _ rfl; have R8 := cell_lit hxb 6 _ rfl))
  try clear R4
  try clear R8
  go_ret
  exact ⟨by show _ = Ending.returned (.bool ((x.s == 5) || (x.s == 6))); rw [h]; rfl, bel⟩
theorem over_any (x : Cn) (w : World) : Calls Try.prog 24 #[.agg #[.int .i64 x.o, .int .u8 (x.ad.a.toNat : Int), .int .u8 (x.ad.b.toNat : Int), .int .u8 (x.ad.c.toNat : Int), .int .u8 (x.ad.d.toNat : Int), .int .i64 x.p, .int .i64 x.s, .bool x.d]] w fun e w' => e = .returned (.bool (overB x)) ∧ Below w.heap.size w w' := by
  cases h : x.s == 5 with
  | true => exact over_5 w h
  | false => exact over_6 w h
/-- How long, as the chapter says. -/
def secL (s k : Int) : Int := if s = 3 then k else min k (if s = 1 ∨ s = 2 ∨ s = 4 then 240 else if s = 5 ∨ s = 6 then 10 else 60)
end Go.Proofs.Ytjfkeocdojjpgaa
