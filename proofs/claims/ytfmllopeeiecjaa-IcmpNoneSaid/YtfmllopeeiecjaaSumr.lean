/- The contracts of the reference's sums. -/
import Derived.Test.YtfmllopeeiecjaaSumw
namespace Go.Proofs.Ytfmllopeeiecjaa
open Go.RowKit

theorem take_two {l : List UInt8} {j : Nat} (h : j + 1 < l.length) : l.take (j + 2) = l.take j ++ [l[j], l[j + 1]] := by
  rw [show j + 2 = (j + 1) + 1 from rfl, List.take_succ_eq_append_getElem h, List.take_succ_eq_append_getElem (by omega), List.append_assoc]; rfl

set_option maxHeartbeats 400000 in
theorem rof_any (A : Option Addr) (n c : Nat) (l : List UInt8) (w : World) (hl : Sl w A n c l) (hn : n ≤ 100000) :
    Calls Try.prog 44 #[.slice A n c] w fun e w' => e = .returned (.int .i64 (ck l)) ∧ w = w' := by
  obtain ⟨h1, h2, h3, h4⟩ := hl
  have b0 : (0 : Int) ≤ n := by omega
  have b1 : (n : Int) ≤ 100000 := by omega
  have hlen := Lib.hid h1
  clear h1 h2 h3
  go_enter Try.func44, Try.ntmps44
  go_wp2
  go_loop [3, 4] (fun s i => ∃ j : Nat, j ≤ n + 1 ∧ j % 2 = 0 ∧ i = .int .i64 j ∧ s = .int .i64 (nrm (ws true (l.take j)))) (fun _ i => n + 2 - (intOf i).toNat)
  case atStart => exact ⟨0, by omega, rfl, rfl, rfl⟩
  case round =>
    obtain ⟨j, hj, he, rfl, rfl⟩ := hrel
    have b2 : (0 : Int) ≤ j := by omega
    have hny := nrm_le (ws true (l.take j))
    have hjl : (l.take j).length % 2 = 0 ∨ n ≤ j := by
      rw [List.length_take]; have := hlen.out; omega
    by_cases hlt : j < n
    · obtain ⟨g, o, rfl, hc⟩ := h4 (by omega)
      have hl1 := hlen.out
      have hjl0 : j < l.length := by omega
      have hpe : (l.take j).length % 2 = 0 := by omega
      have hcj := hc j _ (List.getElem?_eq_getElem hjl0)
      have b3 : (j : Int) < n := by omega
      have hxl := l[j].toNat_lt
      by_cases h2 : j + 1 < n
      · have hjl1 : j + 1 < l.length := by omega
        have hck := hc (j + 1) _ (List.getElem?_eq_getElem hjl1)
        have htk := take_two hjl1
        have hyl := l[j + 1].toNat_lt
        have hsum : ws true (l.take (j + 2)) = ws true (l.take j) + (l[j].toNat * 256 + l[j + 1].toNat) := by
          rw [htk, ws_even _ _ hpe, ws_pair]; simp [ws]
        have hor := or_i64 l[j].toNat l[j + 1].toNat hxl hyl
        unfold u8v at hcj hck
        generalize l[j].toNat = x at *
        generalize l[j + 1].toNat = y at *
        have hadd : Hid (addI (nrm (ws true (l.take j))) ((x : Int) * 256 + y) = nrm (ws true (l.take (j + 2)))) := Lib.hid (by
          have h := addI_nrm (ws true (l.take j)) (x * 256 + y) (by omega)
          rw [Int.natCast_add, Int.natCast_mul] at h
          rw [hsum]; exact h)
        have b4 : (j : Int) + 1 < n := by omega
        have b5 : (0 : Int) ≤ x := by omega
        have b6 : (x : Int) < 256 := by omega
        have b7 : (0 : Int) ≤ y := by omega
        have b8 : (y : Int) < 256 := by omega
        generalize nrm (ws true (l.take j)) = z at *
        clear hc hl1 htk hsum hpe hjl
        go_wp2_with fail
        refine (radd_any _ _ _).mono ?_
        rintro e w1 ⟨rfl, rfl⟩
        rw [hadd.out]
        go_wp2
        go_round
        case rel => exact ⟨j + 2, by omega, by omega, by go_num, rfl⟩
        case measure => simp [intOf]; omega
      · have hsum : ws true (l.take (j + 2)) = ws true (l.take j) + l[j].toNat * 256 := by
          have e := ws_even (l.take j) [l[j]] hpe
          rw [← List.take_succ_eq_append_getElem hjl0, List.take_of_length_le (by omega : l.length ≤ j + 1), ws_one] at e
          rw [List.take_of_length_le (by omega), e]; simp
        unfold u8v at hcj
        generalize l[j].toNat = x at *
        have hadd : Hid (addI (nrm (ws true (l.take j))) ((x : Int) * 256) = nrm (ws true (l.take (j + 2)))) := Lib.hid (by
          have h := addI_nrm (ws true (l.take j)) (x * 256) (by omega)
          rw [Int.natCast_mul] at h
          rw [hsum]; exact h)
        have b4 : decide ((j : Int) + 1 < (n : Int)) = false := decide_eq_false (by omega)
        have b5 : (0 : Int) ≤ x := by omega
        have b6 : (x : Int) < 256 := by omega
        generalize nrm (ws true (l.take j)) = z at *
        have hj1 := Lib.hid h2
        clear hc hl1 hsum hpe hjl h2
        go_wp2_with fail
        refine (radd_any _ _ _).mono ?_
        rintro e w1 ⟨rfl, rfl⟩
        rw [hadd.out]
        go_wp2
        go_round
        case rel => exact ⟨j + 2, by omega, by omega, by go_num, rfl⟩
        case measure => simp [intOf]; omega
    · have e1 : l.take j = l := List.take_of_length_le (by have := hlen.out; omega)
      rw [e1]
      have hck : Hid ((65535 : Int) - (nrm (ws true l) : Int) = ck l) := Lib.hid rfl
      have b3 : (n : Int) ≤ j := by omega
      have hnz := nrm_le (ws true l)
      generalize nrm (ws true l) = x at *
      clear e1 hjl hny
      go_wp2
      go_ret
      exact ⟨ret_i64 hck.out, rfl⟩

theorem ts_end {u j : Nat} {o t : List UInt8} (h : o.length ≤ j) : ts u (o.drop j) (t.drop j) = u := by
  rw [List.drop_of_length_le h]; rfl

end Go.Proofs.Ytfmllopeeiecjaa
