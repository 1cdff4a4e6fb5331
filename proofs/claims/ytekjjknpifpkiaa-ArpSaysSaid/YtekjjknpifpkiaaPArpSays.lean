/- ArpSays: any bytes are a packet or none, and questions, answers and bytes of any packet are as the document says (P5.1). Conditions: none. -/
import Derived.Test.YtekjjknpifpkiaaRows
import Derived.Test.YtekjjknpifpkiaaLaw5s
import Derived.WalkKit
import Derived.ProofKit
import Derived.OpenShut
import Derived.ShutString
import Derived.ChangeOld
import Derived.Below
import Derived.Test.YtekjjknpifpkiaaOpen
import Derived.Test.YtekjjknpifpkiaaOpens
namespace Go.Proofs.Ytekjjknpifpkiaa.arpSays
open Go.ChangeShapes Go.WideShapes Go.ChangeAt Go.RowKit
open Go.ChangeMaps (open_string shut_string)
set_option linter.unusedVariables false

theorem laidOut : laidOutB Try.prog = true := by kernel_rfl
theorem own : ownKnob Try.prog.godebug = none := by kernel_rfl

def IsRow (k : IntKind) (w : World) (a : Option Addr) (len cap : Nat) (zs : List Int) : Prop :=
  (a = none ∧ len = 0 ∧ cap = 0 ∧ zs = []) ∨ ∃ x, a = some x ∧ len ≤ cap ∧ cap ≤ maxLen ∧ zs.length = cap ∧ (∀ i, i < zs.length → w.cell? (x.add i) = some (.int k (zs.getD i 0))) ∧ ∀ n ∈ zs, (Lit.int k n).wf = true

theorem open_28 {H : Type} {enc : TypeId × Value → H} {W : World} {r : Reach} {b0 : Nat} {v : Value} {d : DataW H} {p : List MemPlace} (hv : Value.okWide Try.prog W r b0 28 v) (h : DataW.Trod enc Try.prog W 0 (fun _ => true) true 28 v d p) :
    ∃ (v0 : Int) (v1b0 v1b1 v1b2 v1b3 v1b4 v1b5 : UInt8) (v2b0 v2b1 v2b2 v2b3 : UInt8) (v3b0 v3b1 v3b2 v3b3 v3b4 v3b5 : UInt8) (v4b0 v4b1 v4b2 v4b3 : UInt8), v = .agg #[.int .i64 v0, .int .u8 (v1b0.toNat : Int), .int .u8 (v1b1.toNat : Int), .int .u8 (v1b2.toNat : Int), .int .u8 (v1b3.toNat : Int), .int .u8 (v1b4.toNat : Int), .int .u8 (v1b5.toNat : Int), .int .u8 (v2b0.toNat : Int), .int .u8 (v2b1.toNat : Int), .int .u8 (v2b2.toNat : Int), .int .u8 (v2b3.toNat : Int), .int .u8 (v3b0.toNat : Int), .int .u8 (v3b1.toNat : Int), .int .u8 (v3b2.toNat : Int), .int .u8 (v3b3.toNat : Int), .int .u8 (v3b4.toNat : Int), .int .u8 (v3b5.toNat : Int), .int .u8 (v4b0.toNat : Int), .int .u8 (v4b1.toNat : Int), .int .u8 (v4b2.toNat : Int), .int .u8 (v4b3.toNat : Int)] := by
  obtain ⟨cs, rfl, hlen, hf⟩ := open_struct Try.underlying28 hv h
  replace hlen : cs.length = 21 := hlen.trans (by kernel_rfl)
  obtain ⟨y0, n0, g0⟩ : ∃ y n, DataW.trod enc Try.prog W 0 (fun _ => true) true n 3 (List.take (Try.prog.cellsOf 3) (List.drop 0 cs)) = some y := hf 0 _ rfl
  rw [show Try.prog.cellsOf 3 = 1 by kernel_rfl] at g0
  obtain ⟨v0, e0, _, wf0⟩ := DataW.trod_int Try.underlying3 g0
  have k0 : cs.drop 0 = [.int .i64 v0] ++ cs.drop 1 := by rw [← e0]; exact cut_list cs 0 1
  obtain ⟨y1, n1, g1⟩ : ∃ y n, DataW.trod enc Try.prog W 0 (fun _ => true) true n 24 (List.take (Try.prog.cellsOf 24) (List.drop 1 cs)) = some y := hf 1 _ rfl
  rw [show Try.prog.cellsOf 24 = 6 by kernel_rfl] at g1
  obtain ⟨l1, hl1, e1⟩ := cells_of_bytes Try.underlying24 Try.underlying5 (by kernel_rfl) (by kernel_rfl) g1
  obtain ⟨v1b0, v1b1, v1b2, v1b3, v1b4, v1b5, rfl⟩ := list6 l1 hl1
  have k1 : cs.drop 1 = ([v1b0, v1b1, v1b2, v1b3, v1b4, v1b5].map u8v) ++ cs.drop 7 := by rw [← e1]; exact cut_list cs 1 6
  obtain ⟨y2, n2, g2⟩ : ∃ y n, DataW.trod enc Try.prog W 0 (fun _ => true) true n 26 (List.take (Try.prog.cellsOf 26) (List.drop 7 cs)) = some y := hf 2 _ rfl
  rw [show Try.prog.cellsOf 26 = 4 by kernel_rfl] at g2
  obtain ⟨l2, hl2, e2⟩ := cells_of_bytes Try.underlying26 Try.underlying5 (by kernel_rfl) (by kernel_rfl) g2
  obtain ⟨v2b0, v2b1, v2b2, v2b3, rfl⟩ := list4 l2 hl2
  have k2 : cs.drop 7 = ([v2b0, v2b1, v2b2, v2b3].map u8v) ++ cs.drop 11 := by rw [← e2]; exact cut_list cs 7 4
  obtain ⟨y3, n3, g3⟩ : ∃ y n, DataW.trod enc Try.prog W 0 (fun _ => true) true n 24 (List.take (Try.prog.cellsOf 24) (List.drop 11 cs)) = some y := hf 3 _ rfl
  rw [show Try.prog.cellsOf 24 = 6 by kernel_rfl] at g3
  obtain ⟨l3, hl3, e3⟩ := cells_of_bytes Try.underlying24 Try.underlying5 (by kernel_rfl) (by kernel_rfl) g3
  obtain ⟨v3b0, v3b1, v3b2, v3b3, v3b4, v3b5, rfl⟩ := list6 l3 hl3
  have k3 : cs.drop 11 = ([v3b0, v3b1, v3b2, v3b3, v3b4, v3b5].map u8v) ++ cs.drop 17 := by rw [← e3]; exact cut_list cs 11 6
  obtain ⟨y4, n4, g4⟩ : ∃ y n, DataW.trod enc Try.prog W 0 (fun _ => true) true n 26 (List.take (Try.prog.cellsOf 26) (List.drop 17 cs)) = some y := hf 4 _ rfl
  rw [show Try.prog.cellsOf 26 = 4 by kernel_rfl] at g4
  obtain ⟨l4, hl4, e4⟩ := cells_of_bytes Try.underlying26 Try.underlying5 (by kernel_rfl) (by kernel_rfl) g4
  obtain ⟨v4b0, v4b1, v4b2, v4b3, rfl⟩ := list4 l4 hl4
  have k4 : cs.drop 17 = ([v4b0, v4b1, v4b2, v4b3].map u8v) ++ cs.drop 21 := by rw [← e4]; exact cut_list cs 17 4
  have kz : cs.drop 21 = [] := List.drop_eq_nil_of_le (by omega)
  have hcs : cs = [.int .i64 v0] ++ (([v1b0, v1b1, v1b2, v1b3, v1b4, v1b5].map u8v) ++ (([v2b0, v2b1, v2b2, v2b3].map u8v) ++ (([v3b0, v3b1, v3b2, v3b3, v3b4, v3b5].map u8v) ++ (([v4b0, v4b1, v4b2, v4b3].map u8v) ++ [])))) := by
    have h0 : cs = cs.drop 0 := rfl
    rw [h0, k0, k1, k2, k3, k4, kz]
  subst hcs
  exact ⟨v0, v1b0, v1b1, v1b2, v1b3, v1b4, v1b5, v2b0, v2b1, v2b2, v2b3, v3b0, v3b1, v3b2, v3b3, v3b4, v3b5, v4b0, v4b1, v4b2, v4b3, rfl⟩

set_option maxRecDepth 100000 in
theorem lifted (os : Os) (started : os.Started) (H : Type) (enc : TypeId × Value → H) :
    ReturnsInHanded {} Try.checked os 4 .any (Rows.arpSaysSpec.pre6 enc Try.prog Try.f4 Rows.arpSaysRow.domain false) (Rows.arpSaysSpec.post enc Try.prog Try.f4 false true false false) := by
  refine returnsInHanded_of_change (C := Try.checked) own started (by kernel_rfl) Try.func4
    (ChangeSpec.witness6 (enc := enc) (C := Try.checked) false ⟨#[], #[.slice none 0 0, .agg #[.int .i64 0, .int .u8 0, .int .u8 0, .int .u8 0, .int .u8 0, .int .u8 0, .int .u8 0, .int .u8 0, .int .u8 0, .int .u8 0, .int .u8 0, .int .u8 0, .int .u8 0, .int .u8 0, .int .u8 0, .int .u8 0, .int .u8 0, .int .u8 0, .int .u8 0, .int .u8 0, .int .u8 0], .agg #[.int .u8 0, .int .u8 0, .int .u8 0, .int .u8 0, .int .u8 0, .int .u8 0]], []⟩ 8 (by kernel_rfl) (by kernel_rfl) (by kernel_rfl) (by kernel_rfl)) ?_
  intro W base args ds gs before hval0 hW hcnd _
  have hval : ∀ (j : Nat) t v, Try.f4.params[j]? = some t → args[j]? = some v → Value.okWide Try.prog W .any base t v := hval0
  have hW' := hW
  obtain ⟨p, q, hA0, hV, rfl, hfz, hnd⟩ := hW
  have hA : DataW.TrodAll enc Try.prog W 0 (fun _ => true) true Try.f4.params.toList args.toList ds p := hA0
  rw [Try.params4] at hA hval
  obtain ⟨v0, vs0, d0, ds0, p0, q0, hargs, rfl, rfl, h0, r0⟩ := trodAll_cons hA
  obtain ⟨v1, vs1, d1, ds1, p1, q1, rfl, rfl, rfl, h1, r1⟩ := trodAll_cons r0
  obtain ⟨v2, vs2, d2, ds2, p2, q2, rfl, rfl, rfl, h2, r2⟩ := trodAll_cons r1
  obtain ⟨rfl, rfl, rfl⟩ := trodAll_nil r2
  obtain rfl : args = #[v0, v1, v2] := by cases args; simp_all
  obtain ⟨rfl, rfl⟩ := trodVars_none hV
  obtain ⟨a0, len0, cap0, rfl⟩ := okWide_slice Try.underlying32 (hval 0 32 v0 rfl rfl)
  have k0 := h0
  have lt0 : ∀ x ∈ p0, x.block < W.heap.size := by obtain ⟨m, hm⟩ := k0; exact DataW.trod_lt m _ _ _ hm
  obtain ⟨z0, wz0⟩ : ∃ zs, IsRow .u8 W a0 len0 cap0 zs := by
    obtain ⟨fuel, hf⟩ := h0
    rcases open_ints Try.underlying32 Try.underlying5 (by kernel_rfl) hf with ⟨hcs, _⟩ | ⟨x, l, c, zs, hcs, _, hl, hm, hz, _, hcell, hwz⟩
    · simp [Value.cells] at hcs; obtain ⟨rfl, rfl, rfl⟩ := hcs; exact ⟨[], .inl ⟨rfl, rfl, rfl, rfl⟩⟩
    · simp [Value.cells] at hcs; obtain ⟨rfl, rfl, rfl⟩ := hcs; exact ⟨zs, .inr ⟨_, rfl, hl, hm, by simpa using hz, hcell, hwz⟩⟩
  obtain ⟨l0, hl0⟩ := sl_of_row wz0
  have k1 := h1
  have lt1 : ∀ x ∈ p1, x.block < W.heap.size := by obtain ⟨m, hm⟩ := k1; exact DataW.trod_lt m _ _ _ hm
  obtain ⟨q1v0, q1v1b0, q1v1b1, q1v1b2, q1v1b3, q1v1b4, q1v1b5, q1v2b0, q1v2b1, q1v2b2, q1v2b3, q1v3b0, q1v3b1, q1v3b2, q1v3b3, q1v3b4, q1v3b5, q1v4b0, q1v4b1, q1v4b2, q1v4b3, rfl⟩ := open_28 (hval 1 28 v1 rfl rfl) h1
  have k2 := h2
  have lt2 : ∀ x ∈ p2, x.block < W.heap.size := by obtain ⟨m, hm⟩ := k2; exact DataW.trod_lt m _ _ _ hm
  obtain ⟨l2, hl2, rfl⟩ := open_bytes Try.underlying24 Try.underlying5 (by kernel_rfl) (by kernel_rfl) (hval 2 24 v2 rfl rfl) h2
  obtain ⟨b20, b21, b22, b23, b24, b25, rfl⟩ := list6 l2 hl2
  clear hA0 hval0
  refine (arpSays_walk a0 len0 cap0 l0 q1v0 q1v1b0 q1v1b1 q1v1b2 q1v1b3 q1v1b4 q1v1b5 q1v2b0 q1v2b1 q1v2b2 q1v2b3 q1v3b0 q1v3b1 q1v3b2 q1v3b3 q1v3b4 q1v3b5 q1v4b0 q1v4b1 q1v4b2 q1v4b3 b20 b21 b22 b23 b24 b25 W hl0).mono fun e W' ⟨he, bel⟩ => ?_
  subst he
  exact ⟨_, rfl, _, _, _, [], _, [], hW', trodAll_mk1 (shut_bool Try.underlying4 _), (trodAll_cons_mk (Below.trod laidOut (by kernel_rfl) (of_decide_eq_true (by kernel_rfl)) k0 bel lt0) (trodAll_cons_mk (Below.trod laidOut (by kernel_rfl) (of_decide_eq_true (by kernel_rfl)) k1 bel lt1) (trodAll_cons_mk (Below.trod laidOut (by kernel_rfl) (of_decide_eq_true (by kernel_rfl)) k2 bel lt2) trodAll_mk0))), rfl, bel.frame _, fun h => by cases h⟩

theorem over : Rows.arpSaysRow.holds Try.pinned (OpenSpec.ofChange Rows.arpSaysSpec) :=
  OpenClaim.holds_of_wide 4 Try.f4 rfl rfl rfl rfl rfl rfl rfl ⟨rfl, rfl, rfl, rfl, rfl⟩ rfl rfl rfl rfl rfl (by kernel_rfl) Try.func4 (by kernel_rfl)
    (of_decide_eq_true (by kernel_rfl)) (by unfold Func.isWrapper; first | (rw [if_pos (by decide +kernel)]; kernel_rfl) | (rw [if_neg (by decide +kernel)]; exact ⟨rfl, rfl⟩))
    (fun os started H enc _ => lifted os started H enc)

theorem proved : Rows.ArpSaysSaid :=
  over
#print axioms proved
end Go.Proofs.Ytekjjknpifpkiaa.arpSays
