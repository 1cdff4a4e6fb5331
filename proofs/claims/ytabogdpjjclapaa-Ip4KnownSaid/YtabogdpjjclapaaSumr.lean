/- The contracts of the reference's sums. -/
import Derived.Test.YtabogdpjjclapaaSumw
namespace Go.Proofs.Ytabogdpjjclapaa
open Go.RowKit

theorem take_two {l : List UInt8} {j : Nat} (h : j + 1 < l.length) : l.take (j + 2) = l.take j ++ [l[j], l[j + 1]] := by
  rw [show j + 2 = (j + 1) + 1 from rfl, List.take_succ_eq_append_getElem h, List.take_succ_eq_append_getElem (by omega), List.append_assoc]; rfl

set_option maxHeartbeats 400000 in
theorem rof_any (A : Option Addr) (n c : Nat) (l : List UInt8) (w : World) (hl : Sl w A n c l) (hn : n ≤ 1000) :
    Calls Try.prog 19 #[.slice A n c] w fun e w' => e = .returned (.int .i64 (ck l)) ∧ w = w' := by
  obtain ⟨h1, h2, h3, h4⟩ := hl
  have b0 : (0 : Int) ≤ n := by omega
  have b1 : (n : Int) ≤ 1000 := by omega
  have hlen := Lib.hid h1
  clear h1 h2 h3
  go_enter Try.func19, Try.ntmps19
  go_wp2
  go_loop [3, 4] (fun s i => ∃ j : Nat, j ≤ n + 1 ∧ j % 2 = 0 ∧ i = .int .i64 j ∧ s = .int .i64 (nrm (ws true (l.take j)))) (fun _ i => n + 2 - (intOf i).toNat)
  case atStart => exact ⟨0, by omega, rfl, rfl, rfl⟩
  case round =>
    obtain ⟨j, hj, he, rfl, rfl⟩ := hrel
    have b2 : (0 : Int) ≤ j := by omega
    have hny := nrm_le (ws true (l.take j))
    have hjl : (l.take j).length % 2 = 0 ∨ n ≤ j := by
      rw [List.length_take]; have := hlen.out; omega
    by_cases hlt : j < n
    · obtain ⟨g, o, rfl, hc⟩ := h4 (by omega)
      have hl1 := hlen.out
      have hjl0 : j < l.length := by omega
      have hpe : (l.take j).length % 2 = 0 := by omega
      have hcj := hc j _ (List.getElem?_eq_getElem hjl0)
      have b3 : (j : Int) < n := by omega
      have hxl := l[j].toNat_lt
      by_cases h2 : j + 1 < n
      · have hjl1 : j + 1 < l.length := by omega
        have hck := hc (j + 1) _ (List.getElem?_eq_getElem hjl1)
        have htk := take_two hjl1
        have hyl := l[j + 1].toNat_lt
        have hsum : ws true (l.take (j + 2)) = ws true (l.take j) + (l[j].toNat * 256 + l[j + 1].toNat) := by
          rw [htk, ws_even _ _ hpe, ws_pair]; simp [ws]
        have hor := or_i64 l[j].toNat l[j + 1].toNat hxl hyl
        unfold u8v at hcj hck
        generalize l[j].toNat = x at *
        generalize l[j + 1].toNat = y at *
        have hadd : Hid (addI (nrm (ws true (l.take j))) ((x : Int) * 256 + y) = nrm (ws true (l.take (j + 2)))) := Lib.hid (by
          have h := addI_nrm (ws true (l.take j)) (x * 256 + y) (by omega)
          rw [Int.natCast_add, Int.natCast_mul] at h
          rw [hsum]; exact h)
        have b4 : (j : Int) + 1 < n := by omega
        have b5 : (0 : Int) ≤ x := by omega
        have b6 : (x : Int) < 256 := by omega
        have b7 : (0 : Int) ≤ y := by omega
        have b8 : (y : Int) < 256 := by omega
        generalize nrm (ws true (l.take j)) = z at *
        clear hc hl1 htk hsum hpe hjl
        go_wp2_with fail
        refine (radd_any _ _ _).mono ?_
        rintro e w1 ⟨rfl, rfl⟩
        rw [hadd.out]
        go_wp2
        go_round
        case rel => exact ⟨j + 2, by omega, by omega, by go_num, rfl⟩
        case measure => simp [intOf]; omega
      · have hsum : ws true (l.take (j + 2)) = ws true (l.take j) + l[j].toNat * 256 := by
          have e := ws_even (l.take j) [l[j]] hpe
          rw [← List.take_succ_eq_append_getElem hjl0, List.take_of_length_le (by omega : l.length ≤ j + 1), ws_one] at e
          rw [List.take_of_length_le (by omega), e]; simp
        unfold u8v at hcj
        generalize l[j].toNat = x at *
        have hadd : Hid (addI (nrm (ws true (l.take j))) ((x : Int) * 256) = nrm (ws true (l.take (j + 2)))) := Lib.hid (by
          have h := addI_nrm (ws true (l.take j)) (x * 256) (by omega)
          rw [Int.natCast_mul] at h
          rw [hsum]; exact h)
        have b4 : decide ((j : Int) + 1 < (n : Int)) = false := decide_eq_false (by omega)
        have b5 : (0 : Int) ≤ x := by omega
        have b6 : (x : Int) < 256 := by omega
        generalize nrm (ws true (l.take j)) = z at *
        have hj1 := Lib.hid h2
        clear hc hl1 hsum hpe hjl h2
        go_wp2_with fail
        refine (radd_any _ _ _).mono ?_
        rintro e w1 ⟨rfl, rfl⟩
        rw [hadd.out]
        go_wp2
        go_round
        case rel => exact ⟨j + 2, by omega, by omega, by go_num, rfl⟩
        case measure => simp [intOf]; omega
    · have e1 : l.take j = l := List.take_of_length_le (by have := hlen.out; omega)
      rw [e1]
      have hck : Hid ((65535 : Int) - (nrm (ws true l) : Int) = ck l) := Lib.hid rfl
      have b3 : (n : Int) ≤ j := by omega
      have hnz := nrm_le (ws true l)
      generalize nrm (ws true l) = x at *
      clear e1 hjl hny
      go_wp2
      go_ret
      exact ⟨ret_i64 hck.out, rfl⟩

theorem rturn_off (s : Int) (A B : Option Addr) (n c m d : Nat) (w : World) (hn : (n : Int) ≤ 9223372036854775807) (hm : (m : Int) ≤ 9223372036854775807) (h : n ≠ m ∨ n % 2 = 1) :
    Calls Try.prog 34 #[.int .i64 s, .slice A n c, .slice B m d] w fun e w' => e = .returned (.int .i64 s) ∧ w = w' := by
  have b0 : (0 : Int) ≤ n := by omega
  have b1 : (0 : Int) ≤ m := by omega
  by_cases hnm : n = m
  · obtain rfl := hnm
    have h2 : ((n : Int) % 2) = 1 := by omega
    clear h
    go_enter Try.func34, Try.ntmps34
    go_wp2
    go_ret
    exact ⟨rfl, rfl⟩
  · have h2 : ((n : Int) == (m : Int)) = false := beq_eq_false_iff_ne.2 (by omega)
    clear h hnm
    go_enter Try.func34, Try.ntmps34
    go_wp2
    go_ret
    exact ⟨rfl, rfl⟩

theorem ts_end {u j : Nat} {o t : List UInt8} (h : o.length ≤ j) : ts u (o.drop j) (t.drop j) = u := by
  rw [List.drop_of_length_le h]; rfl

set_option maxHeartbeats 400000 in
theorem rturn_on (s : Int) (A B : Option Addr) (n c d : Nat) (o t : List UInt8) (w : World) (hn : n ≤ 1000) (ho : Sl w A n c o) (ht : Sl w B n d t) (h : n % 2 = 0) :
    Calls Try.prog 34 #[.int .i64 s, .slice A n c, .slice B n d] w fun e w' => e = .returned (.int .i64 (tk s o t)) ∧ ∃ q, w' = w.drewN q := by
  have b0 : (0 : Int) ≤ n := by omega
  have b1 : (n : Int) ≤ 1000 := by omega
  have h2 : ((n : Int) % 2) = 0 := by omega
  have hol := Lib.hid ho.1
  have htl := Lib.hid ht.1
  have hand := i64_and65535 s
  have hw : Hid (65535 - s % 65536 = ((65535 - (s % 65536).toNat : Nat) : Int)) := Lib.hid (by omega)
  have htk : Hid (65535 - (nrm (ts (65535 - (s % 65536).toNat) o t) : Int) = tk s o t) := Lib.hid (by
    unfold tk; rw [if_neg (by have := ho.1; have := ht.1; omega)])
  obtain ⟨u0, hu0⟩ : ∃ u, Hid (65535 - (s % 65536).toNat = u) := ⟨_, Lib.hid rfl⟩
  rw [hu0.out] at hw htk
  have hub : u0 ≤ 65535 := by have := hu0.out; omega
  have hns : Hid (nrm u0 = u0) := Lib.hid (nrm_small hub)
  have b2 : 0 ≤ s % 65536 := by omega
  have b3 : s % 65536 ≤ 65535 := by omega
  go_enter Try.func34, Try.ntmps34
  go_wp2_with fail
  rw [hw.out]
  simp only [h2]
  clear hand b2 b3 h2
  go_loopg [7, 8] (n / 2) (fun k v i wr => ∃ (u j q : Nat), v = .int .i64 (nrm u) ∧ i = .int .i64 j ∧ j + 2 * k = n ∧ ts u (o.drop j) (t.drop j) = ts u0 o t ∧ wr = w.drewN q)
  case atStart => exact ⟨u0, 0, 0, by rw [hns.out], rfl, by omega, by rw [List.drop_zero, List.drop_zero], rfl⟩
  case round =>
    obtain ⟨u, j, q, rfl, rfl, hj, hts, rfl⟩ := hrel
    have hnu := nrm_le u
    have b4 : (0 : Int) ≤ j := by omega
    rcases Nat.eq_zero_or_pos gk with hk0 | hk0
    · subst hk0
      obtain rfl : j = n := by omega
      have hfin : Hid (65535 - (nrm u : Int) = tk s o t) := Lib.hid (by rw [← htk.out, ← hts, ts_end (by have := hol.out; omega)])
      clear hts hj
      generalize nrm u = x at *
      go_wp2
      go_ret
      exact ⟨ret_i64 hfin.out, q, rfl⟩
    · have hol1 := hol.out
      have htl1 := htl.out
      have hstep := ts_step (u := u) (o := o.drop j) (n := t.drop j) (by rw [List.length_drop]; omega) (by rw [List.length_drop]; omega)
      have hlo := be_lt 2 ((o.drop j).take 2) (by rw [List.length_take, List.length_drop]; omega)
      have hlt := be_lt 2 ((t.drop j).take 2) (by rw [List.length_take, List.length_drop]; omega)
      have ro2 := fun W (h : Sl W A n c o) => at16_any A n c j o W h (by omega) (by omega)
      have rt2 := fun W (h : Sl W B n d t) => at16_any B n d j t W h (by omega) (by omega)
      generalize be ((o.drop j).take 2) = x at *
      generalize be ((t.drop j).take 2) = y at *
      have RO := Lib.hid ro2
      have RT := Lib.hid rt2
      have ha1 : Hid (addI (nrm u) (65535 - (x : Int)) = nrm (u + (65535 - x))) := Lib.hid (by
        have h := addI_nrm u (65535 - x) (by omega)
        rw [show ((65535 - x : Nat) : Int) = 65535 - (x : Int) by omega] at h
        exact h)
      have ha2 : Hid (addI (nrm (u + (65535 - x))) (y : Int) = nrm (u + (65535 - x) + y)) := Lib.hid (addI_nrm _ y (by omega))
      have hts' : Hid (ts (u + (65535 - x) + y) (o.drop (j + 2)) (t.drop (j + 2)) = ts u0 o t) := Lib.hid (by
        rw [← hts, hstep, List.drop_drop, List.drop_drop])
      have b5 : (j : Int) < n := by omega
      have b6 : (0 : Int) ≤ x := by omega
      have b7 : (x : Int) ≤ 65535 := by omega
      clear hstep hlo hlt ro2 rt2 hts hol1 htl1
      go_wp2_with fail
      refine (RO.out _ (ho.drewN q)).mono ?_
      rintro e w3 ⟨rfl, q3, rfl⟩
      go_wp2_with fail
      refine (radd_any _ _ _).mono ?_
      rintro e w4 ⟨rfl, rfl⟩
      rw [ha1.out]
      go_wp2_with fail
      refine (RT.out _ (ht.drewN (q + q3))).mono ?_
      rintro e w4 ⟨rfl, q4, rfl⟩
      go_wp2_with fail
      refine (radd_any _ _ _).mono ?_
      rintro e w5 ⟨rfl, rfl⟩
      rw [ha2.out]
      go_wp2
      go_roundg (gk - 1)
      case measure => omega
      case rel => exact ⟨_, j + 2, q + q3 + q4, rfl, by go_num, by omega, hts'.out, by simp⟩
end Go.Proofs.Ytabogdpjjclapaa
