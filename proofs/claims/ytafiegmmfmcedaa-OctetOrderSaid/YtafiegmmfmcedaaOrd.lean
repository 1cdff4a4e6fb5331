/- OctetOrder. -/
import Derived.Test.YtafiegmmfmcedaaLaws
import Derived.Deep.RegionWith
import Derived.Deep.DeepCutAuto
namespace Go.Proofs.Ytafiegmmfmcedaa
open Go.RowKit

/-- A slice whose string is known in this world and in all later ones. -/
def Str (w : World) (v : Value) (l : List UInt8) : Prop := ∀ W, Below w.heap.size w W → (convert 25 9 v).run Try.prog W = .ok (.string ⟨l.toArray⟩) W
theorem Str.at_ {w : World} {v : Value} {l : List UInt8} (h : Str w v l) : (convert 25 9 v).run Try.prog w = .ok (.string ⟨l.toArray⟩) w := h w (Below.refl _ _)

theorem w32_str (v : Int) (w : World) (h0 : 0 ≤ v) (h1 : v < 4294967296) :
    Calls Try.prog 13 #[.slice none 0 0, .int .u32 v] w fun e w' => ∃ A c, e = .returned (.slice A 4 c) ∧ Str w' (.slice A 4 c) (four v) ∧ Below w.heap.size w w' := by
  refine (w32_any none 0 0 [] v w h0 h1 (Sl.nil w) (by omega)).mono ?_
  rintro e w1 ⟨A, c, rfl, h, bel⟩
  exact ⟨A, c, rfl, fun W hW => (h.below hW).str (P := Try.prog) 25 5 9 Try.underlying25 Try.underlying5 Try.underlying9, bel⟩
theorem w16_str (v : Int) (w : World) :
    Calls Try.prog 14 #[.slice none 0 0, .int .i64 v] w fun e w' => ∃ A c, e = .returned (.slice A 2 c) ∧ Str w' (.slice A 2 c) (two v) ∧ Below w.heap.size w w' := by
  refine (w16_any none 0 0 [] v w (Sl.nil w) (by omega)).mono ?_
  rintro e w1 ⟨A, c, rfl, h, bel⟩
  exact ⟨A, c, rfl, fun W hW => (h.below hW).str (P := Try.prog) 25 5 9 Try.underlying25 Try.underlying5 Try.underlying9, bel⟩

set_option maxHeartbeats 2000000 in
theorem order_walk (a b : Int) (c d : Int) (w : World) (a0 : 0 ≤ a) (a1 : a < 4294967296) (b0 : 0 ≤ b) (b1 : b < 4294967296) :
    Calls Try.prog 7 #[.int .u32 a, .int .u32 b, .int .i64 c, .int .i64 d] w fun e w' => e = .returned (.bool true) ∧ Below w.heap.size w w' := by
  go_enter Try.func7, Try.ntmps7
  go_wp2_with fail
  refine (awake_any _).mono ?_
  rintro e w1 ⟨rfl, bel1⟩
  go_upto_region 3 with fail
  go_cut [9, 10] (fun s9 s10 wx => s9 = .string ⟨(four a).toArray⟩ ∧ s10 = .string ⟨(four b).toArray⟩ ∧ Below w.heap.size w wx)
  case first =>
    go_region_with (first
      | (go_at_call_of 13 (Value.int .u32 a); refine (w32_str a _ a0 a1).mono ?_; rintro e w2 ⟨A2, c2, rfl, h2, bel2⟩; have t2 := h2.at_; have bel2a := bel1.drew.trans (bel2.mono bel1.size))
      | (go_at_call_of 13 (Value.int .u32 b); refine (w32_str b _ b0 b1).mono ?_; rintro e w3 ⟨A3, c3, rfl, h3, bel3⟩; have t3 := h3.at_; have t23 := h2 _ bel3; have bel3a := bel2a.trans (bel3.mono bel2a.size)))
    all_goals (go_wp2_with fail; go_meet; exact ⟨rfl, rfl, bel3a⟩)
  case rest =>
    obtain ⟨rfl, rfl, bel3⟩ := hcut
    go_upto_region 4 with fail
    go_cut [11, 12] (fun s9 s10 wx => s9 = .string ⟨(two c).toArray⟩ ∧ s10 = .string ⟨(two d).toArray⟩ ∧ Below w.heap.size w wx)
    case first =>
      go_region_with (first
        | (go_at_call_of 14 (Value.int .i64 c); refine (w16_str c _).mono ?_; rintro e w4 ⟨A4, c4, rfl, h4, bel4⟩; have t4 := h4.at_; have bel4a := bel3.drew.trans (bel4.mono bel3.size))
        | (go_at_call_of 14 (Value.int .i64 d); refine (w16_str d _).mono ?_; rintro e w5 ⟨A5, c5, rfl, h5, bel5⟩; have t5 := h5.at_; have t45 := h4 _ bel5; have bel5a := bel4a.trans (bel5.mono bel4a.size)))
      all_goals (go_wp2_with fail; go_meet; exact ⟨rfl, rfl, bel5a⟩)
    case rest =>
      obtain ⟨rfl, rfl, bel5⟩ := hcut
      have e1 := less_four a b a0 a1 b0 b1
      have e2 := less_two c d
      have e3 := i64_and65535 c
      have e4 := i64_and65535 d
      have e5 : (four a).length = 4 := rfl
      have e6 : (two c).length = 2 := rfl
      go_wp2
      go_ret
      exact ⟨rfl, bel5⟩

end Go.Proofs.Ytafiegmmfmcedaa
