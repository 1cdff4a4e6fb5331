/- NatPasses: NatPasses of chapter 19 returns true for every input and leaves its arguments as they were.. Conditions: none. -/
import Derived.Test.YtbdaejodbcjmfaaGreatRows
import Derived.Test.YtbdaejodbcjmfaaGreatY2
import Derived.WalkKit
import Derived.ProofKit
import Derived.OpenShut
import Derived.ShutString
import Derived.ChangeOld
import Derived.Below
namespace Go.Proofs.YtbdaejodbcjmfaaGreat.natPasses
open Go.ChangeShapes Go.WideShapes Go.ChangeAt Go.RowKit
open Go.ChangeMaps (open_string shut_string)
set_option linter.unusedVariables false

theorem laidOut : laidOutB Tryz.prog = true := by kernel_rfl
theorem own : ownKnob Tryz.prog.godebug = none := by kernel_rfl

set_option maxRecDepth 100000 in
theorem open_38 {H : Type} {enc : TypeId × Value → H} {W : World} {r : Reach} {b0 : Nat} {v : Value} {d : DataW H} {p : List MemPlace} (hv : Value.okWide Tryz.prog W r b0 38 v) (h : DataW.Trod enc Tryz.prog W 0 (fun _ => true) true 38 v d p) :
    ∃ (v0 : Int) (v1 : Int) (v2 : Int) (v3 : Int) (v4 : Int) (v5 : Int) (v6b0 v6b1 v6b2 v6b3 : UInt8) (v7b0 v7b1 v7b2 v7b3 : UInt8) (v8A : Option Addr) (v8n v8c : Nat) (v8L : List UInt8) (v9A : Option Addr) (v9n v9c : Nat) (v9L : List UInt8), v = .agg #[.int .i64 v0, .int .i64 v1, .int .i64 v2, .int .i64 v3, .int .i64 v4, .int .i64 v5, .int .u8 (v6b0.toNat : Int), .int .u8 (v6b1.toNat : Int), .int .u8 (v6b2.toNat : Int), .int .u8 (v6b3.toNat : Int), .int .u8 (v7b0.toNat : Int), .int .u8 (v7b1.toNat : Int), .int .u8 (v7b2.toNat : Int), .int .u8 (v7b3.toNat : Int), .slice v8A v8n v8c, .slice v9A v9n v9c] ∧ Sl W v8A v8n v8c v8L ∧ Sl W v9A v9n v9c v9L := by
  obtain ⟨cs, rfl, hlen, hf⟩ := open_struct Tryz.underlying38 hv h
  replace hlen : cs.length = 16 := hlen.trans (by kernel_rfl)
  obtain ⟨y0, n0, g0⟩ : ∃ y n, DataW.trod enc Tryz.prog W 0 (fun _ => true) true n 3 (List.take (Tryz.prog.cellsOf 3) (List.drop 0 cs)) = some y := hf 0 _ rfl
  rw [show Tryz.prog.cellsOf 3 = 1 by kernel_rfl] at g0
  obtain ⟨v0, e0, _, wf0⟩ := DataW.trod_int Tryz.underlying3 g0
  have k0 : cs.drop 0 = [.int .i64 v0] ++ cs.drop 1 := by rw [← e0]; exact cut_list cs 0 1
  obtain ⟨y1, n1, g1⟩ : ∃ y n, DataW.trod enc Tryz.prog W 0 (fun _ => true) true n 3 (List.take (Tryz.prog.cellsOf 3) (List.drop 1 cs)) = some y := hf 1 _ rfl
  rw [show Tryz.prog.cellsOf 3 = 1 by kernel_rfl] at g1
  obtain ⟨v1, e1, _, wf1⟩ := DataW.trod_int Tryz.underlying3 g1
  have k1 : cs.drop 1 = [.int .i64 v1] ++ cs.drop 2 := by rw [← e1]; exact cut_list cs 1 1
  obtain ⟨y2, n2, g2⟩ : ∃ y n, DataW.trod enc Tryz.prog W 0 (fun _ => true) true n 3 (List.take (Tryz.prog.cellsOf 3) (List.drop 2 cs)) = some y := hf 2 _ rfl
  rw [show Tryz.prog.cellsOf 3 = 1 by kernel_rfl] at g2
  obtain ⟨v2, e2, _, wf2⟩ := DataW.trod_int Tryz.underlying3 g2
  have k2 : cs.drop 2 = [.int .i64 v2] ++ cs.drop 3 := by rw [← e2]; exact cut_list cs 2 1
  obtain ⟨y3, n3, g3⟩ : ∃ y n, DataW.trod enc Tryz.prog W 0 (fun _ => true) true n 3 (List.take (Tryz.prog.cellsOf 3) (List.drop 3 cs)) = some y := hf 3 _ rfl
  rw [show Tryz.prog.cellsOf 3 = 1 by kernel_rfl] at g3
  obtain ⟨v3, e3, _, wf3⟩ := DataW.trod_int Tryz.underlying3 g3
  have k3 : cs.drop 3 = [.int .i64 v3] ++ cs.drop 4 := by rw [← e3]; exact cut_list cs 3 1
  obtain ⟨y4, n4, g4⟩ : ∃ y n, DataW.trod enc Tryz.prog W 0 (fun _ => true) true n 3 (List.take (Tryz.prog.cellsOf 3) (List.drop 4 cs)) = some y := hf 4 _ rfl
  rw [show Tryz.prog.cellsOf 3 = 1 by kernel_rfl] at g4
  obtain ⟨v4, e4, _, wf4⟩ := DataW.trod_int Tryz.underlying3 g4
  have k4 : cs.drop 4 = [.int .i64 v4] ++ cs.drop 5 := by rw [← e4]; exact cut_list cs 4 1
  obtain ⟨y5, n5, g5⟩ : ∃ y n, DataW.trod enc Tryz.prog W 0 (fun _ => true) true n 3 (List.take (Tryz.prog.cellsOf 3) (List.drop 5 cs)) = some y := hf 5 _ rfl
  rw [show Tryz.prog.cellsOf 3 = 1 by kernel_rfl] at g5
  obtain ⟨v5, e5, _, wf5⟩ := DataW.trod_int Tryz.underlying3 g5
  have k5 : cs.drop 5 = [.int .i64 v5] ++ cs.drop 6 := by rw [← e5]; exact cut_list cs 5 1
  obtain ⟨y6, n6, g6⟩ : ∃ y n, DataW.trod enc Tryz.prog W 0 (fun _ => true) true n 35 (List.take (Tryz.prog.cellsOf 35) (List.drop 6 cs)) = some y := hf 6 _ rfl
  rw [show Tryz.prog.cellsOf 35 = 4 by kernel_rfl] at g6
  obtain ⟨l6, hl6, e6⟩ := cells_of_bytes Tryz.underlying35 Tryz.underlying5 (by kernel_rfl) (by kernel_rfl) g6
  obtain ⟨v6b0, v6b1, v6b2, v6b3, rfl⟩ := list4 l6 hl6
  have k6 : cs.drop 6 = ([v6b0, v6b1, v6b2, v6b3].map u8v) ++ cs.drop 10 := by rw [← e6]; exact cut_list cs 6 4
  obtain ⟨y7, n7, g7⟩ : ∃ y n, DataW.trod enc Tryz.prog W 0 (fun _ => true) true n 35 (List.take (Tryz.prog.cellsOf 35) (List.drop 10 cs)) = some y := hf 7 _ rfl
  rw [show Tryz.prog.cellsOf 35 = 4 by kernel_rfl] at g7
  obtain ⟨l7, hl7, e7⟩ := cells_of_bytes Tryz.underlying35 Tryz.underlying5 (by kernel_rfl) (by kernel_rfl) g7
  obtain ⟨v7b0, v7b1, v7b2, v7b3, rfl⟩ := list4 l7 hl7
  have k7 : cs.drop 10 = ([v7b0, v7b1, v7b2, v7b3].map u8v) ++ cs.drop 14 := by rw [← e7]; exact cut_list cs 10 4
  obtain ⟨y8, n8, g8⟩ : ∃ y n, DataW.trod enc Tryz.prog W 0 (fun _ => true) true n 36 (List.take (Tryz.prog.cellsOf 36) (List.drop 14 cs)) = some y := hf 8 _ rfl
  rw [show Tryz.prog.cellsOf 36 = 1 by kernel_rfl] at g8
  obtain ⟨v8A, v8n, v8c, v8L, e8, sl8⟩ := fld_slice Tryz.underlying36 Tryz.underlying5 (by kernel_rfl) g8
  have k8 : cs.drop 14 = [.slice v8A v8n v8c] ++ cs.drop 15 := by rw [← e8]; exact cut_list cs 14 1
  obtain ⟨y9, n9, g9⟩ : ∃ y n, DataW.trod enc Tryz.prog W 0 (fun _ => true) true n 36 (List.take (Tryz.prog.cellsOf 36) (List.drop 15 cs)) = some y := hf 9 _ rfl
  rw [show Tryz.prog.cellsOf 36 = 1 by kernel_rfl] at g9
  obtain ⟨v9A, v9n, v9c, v9L, e9, sl9⟩ := fld_slice Tryz.underlying36 Tryz.underlying5 (by kernel_rfl) g9
  have k9 : cs.drop 15 = [.slice v9A v9n v9c] ++ cs.drop 16 := by rw [← e9]; exact cut_list cs 15 1
  have kz : cs.drop 16 = [] := List.drop_eq_nil_of_le (by omega)
  have hcs : cs = [.int .i64 v0] ++ ([.int .i64 v1] ++ ([.int .i64 v2] ++ ([.int .i64 v3] ++ ([.int .i64 v4] ++ ([.int .i64 v5] ++ (([v6b0, v6b1, v6b2, v6b3].map u8v) ++ (([v7b0, v7b1, v7b2, v7b3].map u8v) ++ ([.slice v8A v8n v8c] ++ ([.slice v9A v9n v9c] ++ []))))))))) := by
    have h0 : cs = cs.drop 0 := rfl
    rw [h0, k0, k1, k2, k3, k4, k5, k6, k7, k8, k9, kz]
  subst hcs
  exact ⟨v0, v1, v2, v3, v4, v5, v6b0, v6b1, v6b2, v6b3, v7b0, v7b1, v7b2, v7b3, v8A, v8n, v8c, v8L, v9A, v9n, v9c, v9L, rfl, sl8, sl9⟩

set_option maxRecDepth 100000 in
theorem lifted (os : Os) (started : os.Started) (H : Type) (enc : TypeId × Value → H) :
    ReturnsInHanded {} Tryz.checked os 9 .any (Rows.natPassesSpec.pre6 enc Tryz.prog Tryz.f9 Rows.natPassesRow.domain false) (Rows.natPassesSpec.post enc Tryz.prog Tryz.f9 false true false false) := by
  refine returnsInHanded_of_change (C := Tryz.checked) own started (by kernel_rfl) Tryz.func9
    (ChangeSpec.witness6 (enc := enc) (C := Tryz.checked) false ⟨#[], #[.agg #[.int .i64 0, .int .i64 0, .int .i64 0, .int .i64 0, .int .i64 0, .int .i64 0, .int .u8 0, .int .u8 0, .int .u8 0, .int .u8 0, .int .u8 0, .int .u8 0, .int .u8 0, .int .u8 0, .slice none 0 0, .slice none 0 0], .int .i64 0], []⟩ 8 (by kernel_rfl) (by kernel_rfl) (by kernel_rfl) (by kernel_rfl)) ?_
  intro W base args ds gs before hval0 hW hcnd _
  have hval : ∀ (j : Nat) t v, Tryz.f9.params[j]? = some t → args[j]? = some v → Value.okWide Tryz.prog W .any base t v := hval0
  have hW' := hW
  obtain ⟨p, q, hA0, hV, rfl, hfz, hnd⟩ := hW
  have hA : DataW.TrodAll enc Tryz.prog W 0 (fun _ => true) true Tryz.f9.params.toList args.toList ds p := hA0
  rw [Tryz.params9] at hA hval
  obtain ⟨v0, vs0, d0, ds0, p0, q0, hargs, rfl, rfl, h0, r0⟩ := trodAll_cons hA
  obtain ⟨v1, vs1, d1, ds1, p1, q1, rfl, rfl, rfl, h1, r1⟩ := trodAll_cons r0
  obtain ⟨rfl, rfl, rfl⟩ := trodAll_nil r1
  obtain rfl : args = #[v0, v1] := by cases args; simp_all
  obtain ⟨rfl, rfl⟩ := trodVars_none hV
  have k0 := h0
  have lt0 : ∀ x ∈ p0, x.block < W.heap.size := by obtain ⟨m, hm⟩ := k0; exact DataW.trod_lt m _ _ _ hm
  obtain ⟨q0v0, q0v1, q0v2, q0v3, q0v4, q0v5, q0v6b0, q0v6b1, q0v6b2, q0v6b3, q0v7b0, q0v7b1, q0v7b2, q0v7b3, q0v8A, q0v8n, q0v8c, q0v8L, q0v9A, q0v9n, q0v9c, q0v9L, rfl, q0sl8, q0sl9⟩ := open_38 (hval 0 38 v0 rfl rfl) h0
  obtain ⟨a1, rfl, rfl, rfl, w1⟩ := open_int Tryz.underlying3 (hval 1 3 v1 rfl rfl) h1
  clear hA0 hval0
  refine (natPasses_walk q0v0 q0v1 q0v2 q0v3 q0v4 q0v5 q0v6b0 q0v6b1 q0v6b2 q0v6b3 q0v7b0 q0v7b1 q0v7b2 q0v7b3 q0v8A q0v8n q0v8c q0v8L q0v9A q0v9n q0v9c q0v9L a1 W q0sl8 q0sl9).mono fun e W' ⟨he, bel⟩ => ?_
  subst he
  exact ⟨_, rfl, _, _, _, [], _, [], hW', trodAll_mk1 (shut_bool Tryz.underlying4 _), (trodAll_cons_mk (Below.trod laidOut (by kernel_rfl) (of_decide_eq_true (by kernel_rfl)) k0 bel lt0) (trodAll_cons_mk (shut_int Tryz.underlying3 w1) trodAll_mk0)), rfl, bel.frame _, fun h => by cases h⟩

theorem over : Rows.natPassesRow.holds Tryz.pinned (OpenSpec.ofChange Rows.natPassesSpec) :=
  OpenClaim.holds_of_wide 9 Tryz.f9 rfl rfl rfl rfl rfl rfl rfl ⟨rfl, rfl, rfl, rfl, rfl⟩ rfl rfl rfl rfl rfl (by kernel_rfl) Tryz.func9 (by kernel_rfl)
    (of_decide_eq_true (by kernel_rfl)) (by unfold Func.isWrapper; first | (rw [if_pos (by decide +kernel)]; kernel_rfl) | (rw [if_neg (by decide +kernel)]; exact ⟨rfl, rfl⟩))
    (fun os started H enc _ => lifted os started H enc)

theorem proved : Rows.NatPassesSaid :=
  over
#print axioms proved
end Go.Proofs.YtbdaejodbcjmfaaGreat.natPasses
