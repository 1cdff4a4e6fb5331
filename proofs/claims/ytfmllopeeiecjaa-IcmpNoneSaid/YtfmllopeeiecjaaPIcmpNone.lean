/- IcmpNone: no message is made about a message about a packet. Conditions: none. -/
import Derived.Test.YtfmllopeeiecjaaRows
import Derived.Test.YtfmllopeeiecjaaLaw9d
import Derived.WalkKit
import Derived.ProofKit
import Derived.OpenShut
import Derived.ShutString
import Derived.ChangeOld
import Derived.Below
import Derived.Test.YtfmllopeeiecjaaOpen
import Derived.Test.YtfmllopeeiecjaaOpens
namespace Go.Proofs.Ytfmllopeeiecjaa.icmpNone
open Go.ChangeShapes Go.WideShapes Go.ChangeAt Go.RowKit
open Go.ChangeMaps (open_string shut_string)
set_option linter.unusedVariables false

theorem laidOut : laidOutB Try.prog = true := by kernel_rfl
theorem own : ownKnob Try.prog.godebug = none := by kernel_rfl

theorem open_27 {H : Type} {enc : TypeId × Value → H} {W : World} {r : Reach} {b0 : Nat} {v : Value} {d : DataW H} {p : List MemPlace} (hv : Value.okWide Try.prog W r b0 27 v) (h : DataW.Trod enc Try.prog W 0 (fun _ => true) true 27 v d p) :
    ∃ (v0 : Int) (v1 : Int) (v2 : Int) (v3 : Int) (v4 : Int) (v5 : Int) (v6b0 v6b1 v6b2 v6b3 : UInt8) (v7b0 v7b1 v7b2 v7b3 : UInt8) (v8A : Option Addr) (v8n v8c : Nat) (v8L : List UInt8) (v9A : Option Addr) (v9n v9c : Nat) (v9L : List UInt8), v = .agg #[.int .i64 v0, .int .i64 v1, .int .i64 v2, .int .i64 v3, .int .i64 v4, .int .i64 v5, .int .u8 (v6b0.toNat : Int), .int .u8 (v6b1.toNat : Int), .int .u8 (v6b2.toNat : Int), .int .u8 (v6b3.toNat : Int), .int .u8 (v7b0.toNat : Int), .int .u8 (v7b1.toNat : Int), .int .u8 (v7b2.toNat : Int), .int .u8 (v7b3.toNat : Int), .slice v8A v8n v8c, .slice v9A v9n v9c] ∧ Sl W v8A v8n v8c v8L ∧ Sl W v9A v9n v9c v9L := by
  obtain ⟨cs, rfl, hlen, hf⟩ := open_struct Try.underlying27 hv h
  replace hlen : cs.length = 16 := hlen.trans (by kernel_rfl)
  obtain ⟨y0, n0, g0⟩ : ∃ y n, DataW.trod enc Try.prog W 0 (fun _ => true) true n 3 (List.take (Try.prog.cellsOf 3) (List.drop 0 cs)) = some y := hf 0 _ rfl
  rw [show Try.prog.cellsOf 3 = 1 by kernel_rfl] at g0
  obtain ⟨v0, e0, _, wf0⟩ := DataW.trod_int Try.underlying3 g0
  have k0 : cs.drop 0 = [.int .i64 v0] ++ cs.drop 1 := by rw [← e0]; exact cut_list cs 0 1
  obtain ⟨y1, n1, g1⟩ : ∃ y n, DataW.trod enc Try.prog W 0 (fun _ => true) true n 3 (List.take (Try.prog.cellsOf 3) (List.drop 1 cs)) = some y := hf 1 _ rfl
  rw [show Try.prog.cellsOf 3 = 1 by kernel_rfl] at g1
  obtain ⟨v1, e1, _, wf1⟩ := DataW.trod_int Try.underlying3 g1
  have k1 : cs.drop 1 = [.int .i64 v1] ++ cs.drop 2 := by rw [← e1]; exact cut_list cs 1 1
  obtain ⟨y2, n2, g2⟩ : ∃ y n, DataW.trod enc Try.prog W 0 (fun _ => true) true n 3 (List.take (Try.prog.cellsOf 3) (List.drop 2 cs)) = some y := hf 2 _ rfl
  rw [show Try.prog.cellsOf 3 = 1 by kernel_rfl] at g2
  obtain ⟨v2, e2, _, wf2⟩ := DataW.trod_int Try.underlying3 g2
  have k2 : cs.drop 2 = [.int .i64 v2] ++ cs.drop 3 := by rw [← e2]; exact cut_list cs 2 1
  obtain ⟨y3, n3, g3⟩ : ∃ y n, DataW.trod enc Try.prog W 0 (fun _ => true) true n 3 (List.take (Try.prog.cellsOf 3) (List.drop 3 cs)) = some y := hf 3 _ rfl
  rw [show Try.prog.cellsOf 3 = 1 by kernel_rfl] at g3
  obtain ⟨v3, e3, _, wf3⟩ := DataW.trod_int Try.underlying3 g3
  have k3 : cs.drop 3 = [.int .i64 v3] ++ cs.drop 4 := by rw [← e3]; exact cut_list cs 3 1
  obtain ⟨y4, n4, g4⟩ : ∃ y n, DataW.trod enc Try.prog W 0 (fun _ => true) true n 3 (List.take (Try.prog.cellsOf 3) (List.drop 4 cs)) = some y := hf 4 _ rfl
  rw [show Try.prog.cellsOf 3 = 1 by kernel_rfl] at g4
  obtain ⟨v4, e4, _, wf4⟩ := DataW.trod_int Try.underlying3 g4
  have k4 : cs.drop 4 = [.int .i64 v4] ++ cs.drop 5 := by rw [← e4]; exact cut_list cs 4 1
  obtain ⟨y5, n5, g5⟩ : ∃ y n, DataW.trod enc Try.prog W 0 (fun _ => true) true n 3 (List.take (Try.prog.cellsOf 3) (List.drop 5 cs)) = some y := hf 5 _ rfl
  rw [show Try.prog.cellsOf 3 = 1 by kernel_rfl] at g5
  obtain ⟨v5, e5, _, wf5⟩ := DataW.trod_int Try.underlying3 g5
  have k5 : cs.drop 5 = [.int .i64 v5] ++ cs.drop 6 := by rw [← e5]; exact cut_list cs 5 1
  obtain ⟨y6, n6, g6⟩ : ∃ y n, DataW.trod enc Try.prog W 0 (fun _ => true) true n 24 (List.take (Try.prog.cellsOf 24) (List.drop 6 cs)) = some y := hf 6 _ rfl
  rw [show Try.prog.cellsOf 24 = 4 by kernel_rfl] at g6
  obtain ⟨l6, hl6, e6⟩ := cells_of_bytes Try.underlying24 Try.underlying5 (by kernel_rfl) (by kernel_rfl) g6
  obtain ⟨v6b0, v6b1, v6b2, v6b3, rfl⟩ := list4 l6 hl6
  have k6 : cs.drop 6 = ([v6b0, v6b1, v6b2, v6b3].map u8v) ++ cs.drop 10 := by rw [← e6]; exact cut_list cs 6 4
  obtain ⟨y7, n7, g7⟩ : ∃ y n, DataW.trod enc Try.prog W 0 (fun _ => true) true n 24 (List.take (Try.prog.cellsOf 24) (List.drop 10 cs)) = some y := hf 7 _ rfl
  rw [show Try.prog.cellsOf 24 = 4 by kernel_rfl] at g7
  obtain ⟨l7, hl7, e7⟩ := cells_of_bytes Try.underlying24 Try.underlying5 (by kernel_rfl) (by kernel_rfl) g7
  obtain ⟨v7b0, v7b1, v7b2, v7b3, rfl⟩ := list4 l7 hl7
  have k7 : cs.drop 10 = ([v7b0, v7b1, v7b2, v7b3].map u8v) ++ cs.drop 14 := by rw [← e7]; exact cut_list cs 10 4
  obtain ⟨y8, n8, g8⟩ : ∃ y n, DataW.trod enc Try.prog W 0 (fun _ => true) true n 25 (List.take (Try.prog.cellsOf 25) (List.drop 14 cs)) = some y := hf 8 _ rfl
  rw [show Try.prog.cellsOf 25 = 1 by kernel_rfl] at g8
  obtain ⟨v8A, v8n, v8c, v8L, e8, sl8⟩ := fld_slice Try.underlying25 Try.underlying5 (by kernel_rfl) g8
  have k8 : cs.drop 14 = [.slice v8A v8n v8c] ++ cs.drop 15 := by rw [← e8]; exact cut_list cs 14 1
  obtain ⟨y9, n9, g9⟩ : ∃ y n, DataW.trod enc Try.prog W 0 (fun _ => true) true n 25 (List.take (Try.prog.cellsOf 25) (List.drop 15 cs)) = some y := hf 9 _ rfl
  rw [show Try.prog.cellsOf 25 = 1 by kernel_rfl] at g9
  obtain ⟨v9A, v9n, v9c, v9L, e9, sl9⟩ := fld_slice Try.underlying25 Try.underlying5 (by kernel_rfl) g9
  have k9 : cs.drop 15 = [.slice v9A v9n v9c] ++ cs.drop 16 := by rw [← e9]; exact cut_list cs 15 1
  have kz : cs.drop 16 = [] := List.drop_eq_nil_of_le (by omega)
  have hcs : cs = [.int .i64 v0] ++ ([.int .i64 v1] ++ ([.int .i64 v2] ++ ([.int .i64 v3] ++ ([.int .i64 v4] ++ ([.int .i64 v5] ++ (([v6b0, v6b1, v6b2, v6b3].map u8v) ++ (([v7b0, v7b1, v7b2, v7b3].map u8v) ++ ([.slice v8A v8n v8c] ++ ([.slice v9A v9n v9c] ++ []))))))))) := by
    have h0 : cs = cs.drop 0 := rfl
    rw [h0, k0, k1, k2, k3, k4, k5, k6, k7, k8, k9, kz]
  subst hcs
  exact ⟨v0, v1, v2, v3, v4, v5, v6b0, v6b1, v6b2, v6b3, v7b0, v7b1, v7b2, v7b3, v8A, v8n, v8c, v8L, v9A, v9n, v9c, v9L, rfl, sl8, sl9⟩

set_option maxRecDepth 100000 in
theorem lifted (os : Os) (started : os.Started) (H : Type) (enc : TypeId × Value → H) :
    ReturnsInHanded {} Try.checked os 7 .any (Rows.icmpNoneSpec.pre6 enc Try.prog Try.f7 Rows.icmpNoneRow.domain false) (Rows.icmpNoneSpec.post enc Try.prog Try.f7 false true false false) := by
  refine returnsInHanded_of_change (C := Try.checked) own started (by kernel_rfl) Try.func7
    (ChangeSpec.witness6 (enc := enc) (C := Try.checked) false ⟨#[], #[.agg #[.int .u8 0, .int .u8 0, .int .u8 0, .int .u8 0], .agg #[.int .i64 0, .int .i64 0, .int .i64 0, .int .i64 0, .int .i64 0, .int .i64 0, .int .u8 0, .int .u8 0, .int .u8 0, .int .u8 0, .int .u8 0, .int .u8 0, .int .u8 0, .int .u8 0, .slice none 0 0, .slice none 0 0], .int .i64 0], []⟩ 8 (by kernel_rfl) (by kernel_rfl) (by kernel_rfl) (by kernel_rfl)) ?_
  intro W base args ds gs before hval0 hW hcnd _
  have hval : ∀ (j : Nat) t v, Try.f7.params[j]? = some t → args[j]? = some v → Value.okWide Try.prog W .any base t v := hval0
  have hW' := hW
  obtain ⟨p, q, hA0, hV, rfl, hfz, hnd⟩ := hW
  have hA : DataW.TrodAll enc Try.prog W 0 (fun _ => true) true Try.f7.params.toList args.toList ds p := hA0
  rw [Try.params7] at hA hval
  obtain ⟨v0, vs0, d0, ds0, p0, q0, hargs, rfl, rfl, h0, r0⟩ := trodAll_cons hA
  obtain ⟨v1, vs1, d1, ds1, p1, q1, rfl, rfl, rfl, h1, r1⟩ := trodAll_cons r0
  obtain ⟨v2, vs2, d2, ds2, p2, q2, rfl, rfl, rfl, h2, r2⟩ := trodAll_cons r1
  obtain ⟨rfl, rfl, rfl⟩ := trodAll_nil r2
  obtain rfl : args = #[v0, v1, v2] := by cases args; simp_all
  obtain ⟨rfl, rfl⟩ := trodVars_none hV
  have k0 := h0
  have lt0 : ∀ x ∈ p0, x.block < W.heap.size := by obtain ⟨m, hm⟩ := k0; exact DataW.trod_lt m _ _ _ hm
  obtain ⟨l0, hl0, rfl⟩ := open_bytes Try.underlying24 Try.underlying5 (by kernel_rfl) (by kernel_rfl) (hval 0 24 v0 rfl rfl) h0
  obtain ⟨b00, b01, b02, b03, rfl⟩ := list4 l0 hl0
  have k1 := h1
  have lt1 : ∀ x ∈ p1, x.block < W.heap.size := by obtain ⟨m, hm⟩ := k1; exact DataW.trod_lt m _ _ _ hm
  obtain ⟨q1v0, q1v1, q1v2, q1v3, q1v4, q1v5, q1v6b0, q1v6b1, q1v6b2, q1v6b3, q1v7b0, q1v7b1, q1v7b2, q1v7b3, q1v8A, q1v8n, q1v8c, q1v8L, q1v9A, q1v9n, q1v9c, q1v9L, rfl, q1sl8, q1sl9⟩ := open_27 (hval 1 27 v1 rfl rfl) h1
  obtain ⟨a2, rfl, rfl, rfl, w2⟩ := open_int Try.underlying3 (hval 2 3 v2 rfl rfl) h2
  clear hA0 hval0
  refine (icmpNone_walk b00 b01 b02 b03 q1v0 q1v1 q1v2 q1v3 q1v4 q1v5 q1v6b0 q1v6b1 q1v6b2 q1v6b3 q1v7b0 q1v7b1 q1v7b2 q1v7b3 q1v8A q1v8n q1v8c q1v8L q1v9A q1v9n q1v9c q1v9L a2 W q1sl8 q1sl9).mono fun e W' ⟨he, bel⟩ => ?_
  subst he
  exact ⟨_, rfl, _, _, _, [], _, [], hW', trodAll_mk1 (shut_bool Try.underlying4 _), (trodAll_cons_mk (Below.trod laidOut (by kernel_rfl) (of_decide_eq_true (by kernel_rfl)) k0 bel lt0) (trodAll_cons_mk (Below.trod laidOut (by kernel_rfl) (of_decide_eq_true (by kernel_rfl)) k1 bel lt1) (trodAll_cons_mk (shut_int Try.underlying3 w2) trodAll_mk0))), rfl, bel.frame _, fun h => by cases h⟩

theorem over : Rows.icmpNoneRow.holds Try.pinned (OpenSpec.ofChange Rows.icmpNoneSpec) :=
  OpenClaim.holds_of_wide 7 Try.f7 rfl rfl rfl rfl rfl rfl rfl ⟨rfl, rfl, rfl, rfl, rfl⟩ rfl rfl rfl rfl rfl (by kernel_rfl) Try.func7 (by kernel_rfl)
    (of_decide_eq_true (by kernel_rfl)) (by unfold Func.isWrapper; first | (rw [if_pos (by decide +kernel)]; kernel_rfl) | (rw [if_neg (by decide +kernel)]; exact ⟨rfl, rfl⟩))
    (fun os started H enc _ => lifted os started H enc)

theorem proved : Rows.IcmpNoneSaid :=
  over
#print axioms proved
end Go.Proofs.Ytfmllopeeiecjaa.icmpNone
