/- LeaseStrange: words of another Xid, another Mac, or that are no answers, change nothing, whatever they hold. Conditions: none. -/
import Derived.Test.YtjfboofnffghjaaRows
import Derived.Test.YtjfboofnffghjaaLaw16s
import Derived.WalkKit
import Derived.ProofKit
import Derived.OpenShut
import Derived.ShutString
import Derived.ChangeOld
import Derived.Below
import Derived.Test.YtjfboofnffghjaaOpens
import Derived.Test.YtjfboofnffghjaaOpo
namespace Go.Proofs.Ytjfboofnffghjaa.leaseStrange
open Go.ChangeShapes Go.WideShapes Go.ChangeAt Go.RowKit
open Go.ChangeMaps (open_string shut_string)
set_option linter.unusedVariables false

theorem laidOut : laidOutB Try.prog = true := by kernel_rfl
theorem own : ownKnob Try.prog.godebug = none := by kernel_rfl

theorem open_37 {H : Type} {enc : TypeId × Value → H} {W : World} {r : Reach} {b0 : Nat} {v : Value} {d : DataW H} {p : List MemPlace} (hv : Value.okWide Try.prog W r b0 37 v) (h : DataW.Trod enc Try.prog W 0 (fun _ => true) true 37 v d p) :
    ∃ (v0 : Int) (v1 : Int) (v2 : Int) (v3 : Int) (v4 : Int) (v5b0 v5b1 v5b2 v5b3 : UInt8) (v6b0 v6b1 v6b2 v6b3 : UInt8) (v7b0 v7b1 v7b2 v7b3 : UInt8) (v8b0 v8b1 v8b2 v8b3 : UInt8) (v9b0 v9b1 v9b2 v9b3 v9b4 v9b5 : UInt8) (v10A : Option Addr) (v10n v10c : Nat) (v10H : List Oh) (v10L : OptL), v = .agg #[.int .i64 v0, .int .i64 v1, .int .u32 v2, .int .i64 v3, .int .i64 v4, .int .u8 (v5b0.toNat : Int), .int .u8 (v5b1.toNat : Int), .int .u8 (v5b2.toNat : Int), .int .u8 (v5b3.toNat : Int), .int .u8 (v6b0.toNat : Int), .int .u8 (v6b1.toNat : Int), .int .u8 (v6b2.toNat : Int), .int .u8 (v6b3.toNat : Int), .int .u8 (v7b0.toNat : Int), .int .u8 (v7b1.toNat : Int), .int .u8 (v7b2.toNat : Int), .int .u8 (v7b3.toNat : Int), .int .u8 (v8b0.toNat : Int), .int .u8 (v8b1.toNat : Int), .int .u8 (v8b2.toNat : Int), .int .u8 (v8b3.toNat : Int), .int .u8 (v9b0.toNat : Int), .int .u8 (v9b1.toNat : Int), .int .u8 (v9b2.toNat : Int), .int .u8 (v9b3.toNat : Int), .int .u8 (v9b4.toNat : Int), .int .u8 (v9b5.toNat : Int), .slice v10A v10n v10c] ∧ (Lit.int .u32 v2).wf = true ∧ Sle opE 2 W v10A v10n v10c v10H ∧ Bd W v10H v10L := by
  obtain ⟨cs, rfl, hlen, hf⟩ := open_struct Try.underlying37 hv h
  replace hlen : cs.length = 28 := hlen.trans (by kernel_rfl)
  obtain ⟨y0, n0, g0⟩ : ∃ y n, DataW.trod enc Try.prog W 0 (fun _ => true) true n 3 (List.take (Try.prog.cellsOf 3) (List.drop 0 cs)) = some y := hf 0 _ rfl
  rw [show Try.prog.cellsOf 3 = 1 by kernel_rfl] at g0
  obtain ⟨v0, e0, _, wf0⟩ := DataW.trod_int Try.underlying3 g0
  have k0 : cs.drop 0 = [.int .i64 v0] ++ cs.drop 1 := by rw [← e0]; exact cut_list cs 0 1
  obtain ⟨y1, n1, g1⟩ : ∃ y n, DataW.trod enc Try.prog W 0 (fun _ => true) true n 3 (List.take (Try.prog.cellsOf 3) (List.drop 1 cs)) = some y := hf 1 _ rfl
  rw [show Try.prog.cellsOf 3 = 1 by kernel_rfl] at g1
  obtain ⟨v1, e1, _, wf1⟩ := DataW.trod_int Try.underlying3 g1
  have k1 : cs.drop 1 = [.int .i64 v1] ++ cs.drop 2 := by rw [← e1]; exact cut_list cs 1 1
  obtain ⟨y2, n2, g2⟩ : ∃ y n, DataW.trod enc Try.prog W 0 (fun _ => true) true n 30 (List.take (Try.prog.cellsOf 30) (List.drop 2 cs)) = some y := hf 2 _ rfl
  rw [show Try.prog.cellsOf 30 = 1 by kernel_rfl] at g2
  obtain ⟨v2, e2, _, wf2⟩ := DataW.trod_int Try.underlying30 g2
  have k2 : cs.drop 2 = [.int .u32 v2] ++ cs.drop 3 := by rw [← e2]; exact cut_list cs 2 1
  obtain ⟨y3, n3, g3⟩ : ∃ y n, DataW.trod enc Try.prog W 0 (fun _ => true) true n 3 (List.take (Try.prog.cellsOf 3) (List.drop 3 cs)) = some y := hf 3 _ rfl
  rw [show Try.prog.cellsOf 3 = 1 by kernel_rfl] at g3
  obtain ⟨v3, e3, _, wf3⟩ := DataW.trod_int Try.underlying3 g3
  have k3 : cs.drop 3 = [.int .i64 v3] ++ cs.drop 4 := by rw [← e3]; exact cut_list cs 3 1
  obtain ⟨y4, n4, g4⟩ : ∃ y n, DataW.trod enc Try.prog W 0 (fun _ => true) true n 3 (List.take (Try.prog.cellsOf 3) (List.drop 4 cs)) = some y := hf 4 _ rfl
  rw [show Try.prog.cellsOf 3 = 1 by kernel_rfl] at g4
  obtain ⟨v4, e4, _, wf4⟩ := DataW.trod_int Try.underlying3 g4
  have k4 : cs.drop 4 = [.int .i64 v4] ++ cs.drop 5 := by rw [← e4]; exact cut_list cs 4 1
  obtain ⟨y5, n5, g5⟩ : ∃ y n, DataW.trod enc Try.prog W 0 (fun _ => true) true n 34 (List.take (Try.prog.cellsOf 34) (List.drop 5 cs)) = some y := hf 5 _ rfl
  rw [show Try.prog.cellsOf 34 = 4 by kernel_rfl] at g5
  obtain ⟨l5, hl5, e5⟩ := cells_of_bytes Try.underlying34 Try.underlying5 (by kernel_rfl) (by kernel_rfl) g5
  obtain ⟨v5b0, v5b1, v5b2, v5b3, rfl⟩ := list4 l5 hl5
  have k5 : cs.drop 5 = ([v5b0, v5b1, v5b2, v5b3].map u8v) ++ cs.drop 9 := by rw [← e5]; exact cut_list cs 5 4
  obtain ⟨y6, n6, g6⟩ : ∃ y n, DataW.trod enc Try.prog W 0 (fun _ => true) true n 34 (List.take (Try.prog.cellsOf 34) (List.drop 9 cs)) = some y := hf 6 _ rfl
  rw [show Try.prog.cellsOf 34 = 4 by kernel_rfl] at g6
  obtain ⟨l6, hl6, e6⟩ := cells_of_bytes Try.underlying34 Try.underlying5 (by kernel_rfl) (by kernel_rfl) g6
  obtain ⟨v6b0, v6b1, v6b2, v6b3, rfl⟩ := list4 l6 hl6
  have k6 : cs.drop 9 = ([v6b0, v6b1, v6b2, v6b3].map u8v) ++ cs.drop 13 := by rw [← e6]; exact cut_list cs 9 4
  obtain ⟨y7, n7, g7⟩ : ∃ y n, DataW.trod enc Try.prog W 0 (fun _ => true) true n 34 (List.take (Try.prog.cellsOf 34) (List.drop 13 cs)) = some y := hf 7 _ rfl
  rw [show Try.prog.cellsOf 34 = 4 by kernel_rfl] at g7
  obtain ⟨l7, hl7, e7⟩ := cells_of_bytes Try.underlying34 Try.underlying5 (by kernel_rfl) (by kernel_rfl) g7
  obtain ⟨v7b0, v7b1, v7b2, v7b3, rfl⟩ := list4 l7 hl7
  have k7 : cs.drop 13 = ([v7b0, v7b1, v7b2, v7b3].map u8v) ++ cs.drop 17 := by rw [← e7]; exact cut_list cs 13 4
  obtain ⟨y8, n8, g8⟩ : ∃ y n, DataW.trod enc Try.prog W 0 (fun _ => true) true n 34 (List.take (Try.prog.cellsOf 34) (List.drop 17 cs)) = some y := hf 8 _ rfl
  rw [show Try.prog.cellsOf 34 = 4 by kernel_rfl] at g8
  obtain ⟨l8, hl8, e8⟩ := cells_of_bytes Try.underlying34 Try.underlying5 (by kernel_rfl) (by kernel_rfl) g8
  obtain ⟨v8b0, v8b1, v8b2, v8b3, rfl⟩ := list4 l8 hl8
  have k8 : cs.drop 17 = ([v8b0, v8b1, v8b2, v8b3].map u8v) ++ cs.drop 21 := by rw [← e8]; exact cut_list cs 17 4
  obtain ⟨y9, n9, g9⟩ : ∃ y n, DataW.trod enc Try.prog W 0 (fun _ => true) true n 26 (List.take (Try.prog.cellsOf 26) (List.drop 21 cs)) = some y := hf 9 _ rfl
  rw [show Try.prog.cellsOf 26 = 6 by kernel_rfl] at g9
  obtain ⟨l9, hl9, e9⟩ := cells_of_bytes Try.underlying26 Try.underlying5 (by kernel_rfl) (by kernel_rfl) g9
  obtain ⟨v9b0, v9b1, v9b2, v9b3, v9b4, v9b5, rfl⟩ := list6 l9 hl9
  have k9 : cs.drop 21 = ([v9b0, v9b1, v9b2, v9b3, v9b4, v9b5].map u8v) ++ cs.drop 27 := by rw [← e9]; exact cut_list cs 21 6
  obtain ⟨y10, n10, g10⟩ : ∃ y n, DataW.trod enc Try.prog W 0 (fun _ => true) true n 35 (List.take (Try.prog.cellsOf 35) (List.drop 27 cs)) = some y := hf 10 _ rfl
  rw [show Try.prog.cellsOf 35 = 1 by kernel_rfl] at g10
  obtain ⟨v10A, v10n, v10c, v10H, v10L, e10, en10, bd10⟩ := open_opts g10
  have k10 : cs.drop 27 = [.slice v10A v10n v10c] ++ cs.drop 28 := by rw [← e10]; exact cut_list cs 27 1
  have kz : cs.drop 28 = [] := List.drop_eq_nil_of_le (by omega)
  have hcs : cs = [.int .i64 v0] ++ ([.int .i64 v1] ++ ([.int .u32 v2] ++ ([.int .i64 v3] ++ ([.int .i64 v4] ++ (([v5b0, v5b1, v5b2, v5b3].map u8v) ++ (([v6b0, v6b1, v6b2, v6b3].map u8v) ++ (([v7b0, v7b1, v7b2, v7b3].map u8v) ++ (([v8b0, v8b1, v8b2, v8b3].map u8v) ++ (([v9b0, v9b1, v9b2, v9b3, v9b4, v9b5].map u8v) ++ ([.slice v10A v10n v10c] ++ [])))))))))) := by
    have h0 : cs = cs.drop 0 := rfl
    rw [h0, k0, k1, k2, k3, k4, k5, k6, k7, k8, k9, k10, kz]
  subst hcs
  exact ⟨v0, v1, v2, v3, v4, v5b0, v5b1, v5b2, v5b3, v6b0, v6b1, v6b2, v6b3, v7b0, v7b1, v7b2, v7b3, v8b0, v8b1, v8b2, v8b3, v9b0, v9b1, v9b2, v9b3, v9b4, v9b5, v10A, v10n, v10c, v10H, v10L, rfl, wf2, en10, bd10⟩

set_option maxRecDepth 100000 in
theorem lifted (os : Os) (started : os.Started) (H : Type) (enc : TypeId × Value → H) :
    ReturnsInHanded {} Try.checked os 5 .any (Rows.leaseStrangeSpec.pre6 enc Try.prog Try.f5 Rows.leaseStrangeRow.domain false) (Rows.leaseStrangeSpec.post enc Try.prog Try.f5 false true false false) := by
  refine returnsInHanded_of_change (C := Try.checked) own started (by kernel_rfl) Try.func5
    (ChangeSpec.witness6 (enc := enc) (C := Try.checked) false ⟨#[], #[.agg #[.int .i64 0, .int .i64 0, .int .u32 0, .int .i64 0, .int .i64 0, .int .u8 0, .int .u8 0, .int .u8 0, .int .u8 0, .int .u8 0, .int .u8 0, .int .u8 0, .int .u8 0, .int .u8 0, .int .u8 0, .int .u8 0, .int .u8 0, .int .u8 0, .int .u8 0, .int .u8 0, .int .u8 0, .int .u8 0, .int .u8 0, .int .u8 0, .int .u8 0, .int .u8 0, .int .u8 0, .slice none 0 0], .int .u32 0], []⟩ 8 (by kernel_rfl) (by kernel_rfl) (by kernel_rfl) (by kernel_rfl)) ?_
  intro W base args ds gs before hval0 hW hcnd _
  have hval : ∀ (j : Nat) t v, Try.f5.params[j]? = some t → args[j]? = some v → Value.okWide Try.prog W .any base t v := hval0
  have hW' := hW
  obtain ⟨p, q, hA0, hV, rfl, hfz, hnd⟩ := hW
  have hA : DataW.TrodAll enc Try.prog W 0 (fun _ => true) true Try.f5.params.toList args.toList ds p := hA0
  rw [Try.params5] at hA hval
  obtain ⟨v0, vs0, d0, ds0, p0, q0, hargs, rfl, rfl, h0, r0⟩ := trodAll_cons hA
  obtain ⟨v1, vs1, d1, ds1, p1, q1, rfl, rfl, rfl, h1, r1⟩ := trodAll_cons r0
  obtain ⟨rfl, rfl, rfl⟩ := trodAll_nil r1
  obtain rfl : args = #[v0, v1] := by cases args; simp_all
  obtain ⟨rfl, rfl⟩ := trodVars_none hV
  have k0 := h0
  have lt0 : ∀ x ∈ p0, x.block < W.heap.size := by obtain ⟨m, hm⟩ := k0; exact DataW.trod_lt m _ _ _ hm
  obtain ⟨q0v0, q0v1, q0v2, q0v3, q0v4, q0v5b0, q0v5b1, q0v5b2, q0v5b3, q0v6b0, q0v6b1, q0v6b2, q0v6b3, q0v7b0, q0v7b1, q0v7b2, q0v7b3, q0v8b0, q0v8b1, q0v8b2, q0v8b3, q0v9b0, q0v9b1, q0v9b2, q0v9b3, q0v9b4, q0v9b5, q0v10A, q0v10n, q0v10c, q0v10H, q0v10L, rfl, q0wf2, q0en10, q0bd10⟩ := open_37 (hval 0 37 v0 rfl rfl) h0
  obtain ⟨a1, rfl, rfl, rfl, w1⟩ := open_int Try.underlying30 (hval 1 30 v1 rfl rfl) h1
  clear hA0 hval0
  refine (leaseStrange_walk q0v0 q0v1 q0v2 q0v3 q0v4 q0v5b0 q0v5b1 q0v5b2 q0v5b3 q0v6b0 q0v6b1 q0v6b2 q0v6b3 q0v7b0 q0v7b1 q0v7b2 q0v7b3 q0v8b0 q0v8b1 q0v8b2 q0v8b3 q0v9b0 q0v9b1 q0v9b2 q0v9b3 q0v9b4 q0v9b5 q0v10A q0v10n q0v10c q0v10H q0v10L a1 W q0wf2 q0en10 q0bd10).mono fun e W' ⟨he, bel⟩ => ?_
  subst he
  exact ⟨_, rfl, _, _, _, [], _, [], hW', trodAll_mk1 (shut_bool Try.underlying4 _), (trodAll_cons_mk (Below.trod laidOut (by kernel_rfl) (of_decide_eq_true (by kernel_rfl)) k0 bel lt0) (trodAll_cons_mk (shut_int Try.underlying30 w1) trodAll_mk0)), rfl, bel.frame _, fun h => by cases h⟩

theorem over : Rows.leaseStrangeRow.holds Try.pinned (OpenSpec.ofChange Rows.leaseStrangeSpec) :=
  OpenClaim.holds_of_wide 5 Try.f5 rfl rfl rfl rfl rfl rfl rfl ⟨rfl, rfl, rfl, rfl, rfl⟩ rfl rfl rfl rfl rfl (by kernel_rfl) Try.func5 (by kernel_rfl)
    (of_decide_eq_true (by kernel_rfl)) (by unfold Func.isWrapper; first | (rw [if_pos (by decide +kernel)]; kernel_rfl) | (rw [if_neg (by decide +kernel)]; exact ⟨rfl, rfl⟩))
    (fun os started H enc _ => lifted os started H enc)

theorem proved : Rows.LeaseStrangeSaid :=
  over
#print axioms proved
end Go.Proofs.Ytjfboofnffghjaa.leaseStrange
