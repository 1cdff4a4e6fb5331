/- IcmpBits: a message one of whose bits is turned is none. Conditions: none. -/
import Derived.Test.YtfmllopeeiecjaaRows
import Derived.Test.YtfmllopeeiecjaaLaw9v
import Derived.WalkKit
import Derived.ProofKit
import Derived.OpenShut
import Derived.ShutString
import Derived.ChangeOld
import Derived.Below
import Derived.Test.YtfmllopeeiecjaaOpens
namespace Go.Proofs.Ytfmllopeeiecjaa.icmpBits
open Go.ChangeShapes Go.WideShapes Go.ChangeAt Go.RowKit
open Go.ChangeMaps (open_string shut_string)
set_option linter.unusedVariables false

theorem laidOut : laidOutB Try.prog = true := by kernel_rfl
theorem own : ownKnob Try.prog.godebug = none := by kernel_rfl

theorem open_34 {H : Type} {enc : TypeId × Value → H} {W : World} {r : Reach} {b0 : Nat} {v : Value} {d : DataW H} {p : List MemPlace} (hv : Value.okWide Try.prog W r b0 34 v) (h : DataW.Trod enc Try.prog W 0 (fun _ => true) true 34 v d p) :
    ∃ (v0 : Int) (v1 : Int) (v2 : Int) (v3A : Option Addr) (v3n v3c : Nat) (v3L : List UInt8), v = .agg #[.int .i64 v0, .int .i64 v1, .int .u32 v2, .slice v3A v3n v3c] ∧ (Lit.int .u32 v2).wf = true ∧ Sl W v3A v3n v3c v3L := by
  obtain ⟨cs, rfl, hlen, hf⟩ := open_struct Try.underlying34 hv h
  replace hlen : cs.length = 4 := hlen.trans (by kernel_rfl)
  obtain ⟨y0, n0, g0⟩ : ∃ y n, DataW.trod enc Try.prog W 0 (fun _ => true) true n 3 (List.take (Try.prog.cellsOf 3) (List.drop 0 cs)) = some y := hf 0 _ rfl
  rw [show Try.prog.cellsOf 3 = 1 by kernel_rfl] at g0
  obtain ⟨v0, e0, _, wf0⟩ := DataW.trod_int Try.underlying3 g0
  have k0 : cs.drop 0 = [.int .i64 v0] ++ cs.drop 1 := by rw [← e0]; exact cut_list cs 0 1
  obtain ⟨y1, n1, g1⟩ : ∃ y n, DataW.trod enc Try.prog W 0 (fun _ => true) true n 3 (List.take (Try.prog.cellsOf 3) (List.drop 1 cs)) = some y := hf 1 _ rfl
  rw [show Try.prog.cellsOf 3 = 1 by kernel_rfl] at g1
  obtain ⟨v1, e1, _, wf1⟩ := DataW.trod_int Try.underlying3 g1
  have k1 : cs.drop 1 = [.int .i64 v1] ++ cs.drop 2 := by rw [← e1]; exact cut_list cs 1 1
  obtain ⟨y2, n2, g2⟩ : ∃ y n, DataW.trod enc Try.prog W 0 (fun _ => true) true n 32 (List.take (Try.prog.cellsOf 32) (List.drop 2 cs)) = some y := hf 2 _ rfl
  rw [show Try.prog.cellsOf 32 = 1 by kernel_rfl] at g2
  obtain ⟨v2, e2, _, wf2⟩ := DataW.trod_int Try.underlying32 g2
  have k2 : cs.drop 2 = [.int .u32 v2] ++ cs.drop 3 := by rw [← e2]; exact cut_list cs 2 1
  obtain ⟨y3, n3, g3⟩ : ∃ y n, DataW.trod enc Try.prog W 0 (fun _ => true) true n 25 (List.take (Try.prog.cellsOf 25) (List.drop 3 cs)) = some y := hf 3 _ rfl
  rw [show Try.prog.cellsOf 25 = 1 by kernel_rfl] at g3
  obtain ⟨v3A, v3n, v3c, v3L, e3, sl3⟩ := fld_slice Try.underlying25 Try.underlying5 (by kernel_rfl) g3
  have k3 : cs.drop 3 = [.slice v3A v3n v3c] ++ cs.drop 4 := by rw [← e3]; exact cut_list cs 3 1
  have kz : cs.drop 4 = [] := List.drop_eq_nil_of_le (by omega)
  have hcs : cs = [.int .i64 v0] ++ ([.int .i64 v1] ++ ([.int .u32 v2] ++ ([.slice v3A v3n v3c] ++ []))) := by
    have h0 : cs = cs.drop 0 := rfl
    rw [h0, k0, k1, k2, k3, kz]
  subst hcs
  exact ⟨v0, v1, v2, v3A, v3n, v3c, v3L, rfl, wf2, sl3⟩

set_option maxRecDepth 100000 in
theorem lifted (os : Os) (started : os.Started) (H : Type) (enc : TypeId × Value → H) :
    ReturnsInHanded {} Try.checked os 8 .any (Rows.icmpBitsSpec.pre6 enc Try.prog Try.f8 Rows.icmpBitsRow.domain false) (Rows.icmpBitsSpec.post enc Try.prog Try.f8 false true false false) := by
  refine returnsInHanded_of_change (C := Try.checked) own started (by kernel_rfl) Try.func8
    (ChangeSpec.witness6 (enc := enc) (C := Try.checked) false ⟨#[], #[.agg #[.int .i64 0, .int .i64 0, .int .u32 0, .slice none 0 0], .int .i64 0], []⟩ 8 (by kernel_rfl) (by kernel_rfl) (by kernel_rfl) (by kernel_rfl)) ?_
  intro W base args ds gs before hval0 hW hcnd _
  have hval : ∀ (j : Nat) t v, Try.f8.params[j]? = some t → args[j]? = some v → Value.okWide Try.prog W .any base t v := hval0
  have hW' := hW
  obtain ⟨p, q, hA0, hV, rfl, hfz, hnd⟩ := hW
  have hA : DataW.TrodAll enc Try.prog W 0 (fun _ => true) true Try.f8.params.toList args.toList ds p := hA0
  rw [Try.params8] at hA hval
  obtain ⟨v0, vs0, d0, ds0, p0, q0, hargs, rfl, rfl, h0, r0⟩ := trodAll_cons hA
  obtain ⟨v1, vs1, d1, ds1, p1, q1, rfl, rfl, rfl, h1, r1⟩ := trodAll_cons r0
  obtain ⟨rfl, rfl, rfl⟩ := trodAll_nil r1
  obtain rfl : args = #[v0, v1] := by cases args; simp_all
  obtain ⟨rfl, rfl⟩ := trodVars_none hV
  have k0 := h0
  have lt0 : ∀ x ∈ p0, x.block < W.heap.size := by obtain ⟨m, hm⟩ := k0; exact DataW.trod_lt m _ _ _ hm
  obtain ⟨q0v0, q0v1, q0v2, q0v3A, q0v3n, q0v3c, q0v3L, rfl, q0wf2, q0sl3⟩ := open_34 (hval 0 34 v0 rfl rfl) h0
  obtain ⟨a1, rfl, rfl, rfl, w1⟩ := open_int Try.underlying3 (hval 1 3 v1 rfl rfl) h1
  clear hA0 hval0
  refine (icmpBitsF_walk q0v0 q0v1 q0v2 q0v3A q0v3n q0v3c q0v3L a1 W q0wf2 q0sl3).mono fun e W' ⟨he, bel⟩ => ?_
  subst he
  exact ⟨_, rfl, _, _, _, [], _, [], hW', trodAll_mk1 (shut_bool Try.underlying4 _), (trodAll_cons_mk (Below.trod laidOut (by kernel_rfl) (of_decide_eq_true (by kernel_rfl)) k0 bel lt0) (trodAll_cons_mk (shut_int Try.underlying3 w1) trodAll_mk0)), rfl, bel.frame _, fun h => by cases h⟩

theorem over : Rows.icmpBitsRow.holds Try.pinned (OpenSpec.ofChange Rows.icmpBitsSpec) :=
  OpenClaim.holds_of_wide 8 Try.f8 rfl rfl rfl rfl rfl rfl rfl ⟨rfl, rfl, rfl, rfl, rfl⟩ rfl rfl rfl rfl rfl (by kernel_rfl) Try.func8 (by kernel_rfl)
    (of_decide_eq_true (by kernel_rfl)) (by unfold Func.isWrapper; first | (rw [if_pos (by decide +kernel)]; kernel_rfl) | (rw [if_neg (by decide +kernel)]; exact ⟨rfl, rfl⟩))
    (fun os started H enc _ => lifted os started H enc)

theorem proved : Rows.IcmpBitsSaid :=
  over
#print axioms proved
end Go.Proofs.Ytfmllopeeiecjaa.icmpBits
