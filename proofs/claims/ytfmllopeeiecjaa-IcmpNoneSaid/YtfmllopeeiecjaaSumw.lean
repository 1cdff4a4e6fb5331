/- The contracts of package sum16 and of the reference's sums. -/
import Derived.Test.YtfmllopeeiecjaaWalkw
import Derived.Test.YtfmllopeeiecjaaSum
import Derived.Deep.QuietTactic
import Derived.BigQuiet
import Derived.Lib.Hide
import Derived.Deep.LoopGhost
namespace Go.Proofs.Ytfmllopeeiecjaa
open Go.RowKit

theorem ret_i64 {a b : Int} (h : a = b) : Ending.returned (.int .i64 a) = .returned (.int .i64 b) := by rw [h]

theorem add_any (a b : Int) (w : World) : Calls Try.prog 67 #[.int .i64 a, .int .i64 b] w fun e w' => e = .returned (.int .i64 (addI a b)) ∧ w = w' := by
  have e1 := i64_and65535 a
  have e2 := i64_and65535 b
  have e3 := i64_and65535 (a % 65536 + b % 65536)
  have b1 : 0 ≤ a % 65536 := by omega
  have b2 : a % 65536 ≤ 65535 := by omega
  have b3 : 0 ≤ b % 65536 := by omega
  have b4 : b % 65536 ≤ 65535 := by omega
  have b5 : 0 ≤ (a % 65536 + b % 65536) % 65536 := by omega
  have b6 : (a % 65536 + b % 65536) % 65536 ≤ 65535 := by omega
  go_enter Try.func67, Try.ntmps67
  go_wp2
  go_ret
  exact ⟨ret_i64 (by unfold addI; omega), rfl⟩
theorem radd_any (a b : Int) (w : World) : Calls Try.prog 63 #[.int .i64 a, .int .i64 b] w fun e w' => e = .returned (.int .i64 (addI a b)) ∧ w = w' := by
  have e1 := i64_and65535 a
  have e2 := i64_and65535 b
  have e3 := i64_and65535 (a % 65536 + b % 65536)
  have b1 : 0 ≤ a % 65536 := by omega
  have b2 : a % 65536 ≤ 65535 := by omega
  have b3 : 0 ≤ b % 65536 := by omega
  have b4 : b % 65536 ≤ 65535 := by omega
  have b5 : 0 ≤ (a % 65536 + b % 65536) % 65536 := by omega
  have b6 : (a % 65536 + b % 65536) % 65536 ≤ 65535 := by omega
  go_enter Try.func63, Try.ntmps63
  go_wp2
  go_ret
  exact ⟨ret_i64 (by unfold addI; omega), rfl⟩

/-- A slice of slices of bytes. -/
def Sls (w : World) (A : Option Addr) (m : Nat) (ls : List (List UInt8)) : Prop :=
  ls.length = m ∧ (0 < m → ∃ g o, A = some ⟨g, o, none⟩ ∧ ∀ j l, ls[j]? = some l → ∃ B n d, w.cell? ⟨g, o + j, none⟩ = some (.slice B n d) ∧ Sl w B n d l)

def shf (n : Nat) : Int := if n % 2 = 0 then 8 else 0
theorem shf_even {n : Nat} (h : n % 2 = 0) : shf n = 8 := if_pos h
theorem shf_odd {n : Nat} (h : ¬ n % 2 = 0) : shf n = 0 := if_neg h

theorem flat_succ {ls : List (List UInt8)} {k : Nat} (h : k < ls.length) : (ls.take (k + 1)).flatten = (ls.take k).flatten ++ ls[k] := by
  rw [List.take_succ_eq_append_getElem h, List.flatten_append]; simp

set_option maxHeartbeats 400000 in
theorem many_any (A : Option Addr) (m c : Nat) (ls : List (List UInt8)) (w : World) (hm : m ≤ maxLen) (hl : Sls w A m ls) :
    Calls Try.prog 52 #[.slice A m c] w fun e w' => e = .returned (.int .i64 (ck ls.flatten)) ∧ w = w' := by
  unfold maxLen at hm
  obtain ⟨hlen, hcell⟩ := hl
  go_enter Try.func52, Try.ntmps52
  go_wp2
  go_loop [3, 4, 11] (fun s sh i => ∃ (k : Nat) (v : Int), k ≤ m ∧ i = .int .i64 k ∧ s = .int .i64 (nrm (ws true (ls.take k).flatten)) ∧ sh = .int .i64 v ∧ v = shf (ls.take k).flatten.length) (fun _ _ i => m - (intOf i).toNat)
  case atStart => exact ⟨0, 8, by omega, rfl, rfl, rfl, rfl⟩
  case round =>
    obtain ⟨k, v, hk, rfl, rfl, rfl, hv⟩ := hrel
    by_cases hlt : k < m
    · have hkl : k < ls.length := by omega
      obtain ⟨g, o, rfl, hc⟩ := hcell (by omega)
      obtain ⟨B, n, d, hb, hsl⟩ := hc k _ (List.getElem?_eq_getElem hkl)
      have hfs := Lib.hid (flat_succ hkl)
      obtain ⟨p, hp⟩ : ∃ p, Hid ((ls.take k).flatten = p) := ⟨_, Lib.hid rfl⟩
      obtain ⟨l, hlk⟩ : ∃ l, Hid (ls[k] = l) := ⟨_, Lib.hid rfl⟩
      rw [hp.out] at hv ⊢
      rw [hp.out, hlk.out] at hfs
      rw [hlk.out] at hsl
      obtain ⟨h1, h2, h3, h4⟩ := hsl
      unfold maxLen at h3
      have b0 : (0 : Int) ≤ k := by omega
      have b1 : (k : Int) < m := by omega
      have b2 : (0 : Int) ≤ n := by omega
      have b3 : (n : Int) ≤ 9223372036854775807 := by omega
      have hv' := Lib.hid hv
      have h1' := Lib.hid h1
      have hlen' := Lib.hid hlen
      clear hv hcell hc h1 h2 hlen hp hlk
      go_wp2
      go_loop [3, 4, 17] (fun s sh i => ∃ (j : Nat) (v : Int), j ≤ n ∧ i = .int .i64 j ∧ s = .int .i64 (nrm (ws true (p ++ l.take j))) ∧ sh = .int .i64 v ∧ v = shf (p.length + j)) (fun _ _ i => n - (intOf i).toNat)
      case atStart => exact ⟨0, v, by omega, rfl, by simp, rfl, hv'.out⟩
      case round =>
        obtain ⟨j, u, hj, rfl, rfl, rfl, hu⟩ := hrel
        by_cases hjn : j < n
        · obtain ⟨g', o', rfl, hc⟩ := h4 (by omega)
          have hl1 := h1'.out
          have hjl : j < l.length := by omega
          have hcell := hc j _ (List.getElem?_eq_getElem hjl)
          have hsn : Hid (l.take (j + 1) = l.take j ++ [l[j]]) := Lib.hid (List.take_succ_eq_append_getElem hjl)
          obtain ⟨x, hx⟩ : ∃ x, Hid (l[j] = x) := ⟨_, Lib.hid rfl⟩
          rw [hx.out] at hcell hsn
          have hsum : Hid (ws true (p ++ l.take (j + 1)) = ws true (p ++ l.take j) + (if par true (p.length + j) then x.toNat * 256 else x.toNat)) := Lib.hid (by
            rw [hsn.out, ← List.append_assoc, ws_append, ws_one]
            rw [show (p ++ l.take j).length = p.length + j by rw [List.length_append, List.length_take]; omega])
          have hlx := x.toNat_lt
          unfold u8v at hcell
          have b4 : (0 : Int) ≤ j := by omega
          have b5 : (j : Int) < n := by omega
          have b6 : (0 : Int) ≤ x.toNat := by omega
          have b7 : (x.toNat : Int) < 256 := by omega
          clear hl1 hjl hc hx h4
          obtain ⟨y, hy⟩ : ∃ y, Hid (ws true (p ++ l.take j) = y) := ⟨_, Lib.hid rfl⟩
          rw [hy.out] at hsum ⊢
          have hny := nrm_le y
          by_cases hp : (p.length + j) % 2 = 0
          · obtain rfl : u = 8 := hu.trans (shf_even hp)
            have hs8 : Hid (shf (p.length + (j + 1)) = 0) := Lib.hid (shf_odd (by omega))
            have hadd : Hid (addI (nrm y) ((x.toNat : Int) * 256) = nrm (ws true (p ++ l.take (j + 1)))) := Lib.hid (by
              have h := addI_nrm y (x.toNat * 256) (by omega)
              rw [Int.natCast_mul] at h
              rw [hsum.out, show par true (p.length + j) = true from if_pos hp]
              exact h)
            clear hu hp hny hsum hsn
            go_wp2_with (go_at_call 67; refine (add_any _ _ _).mono ?_; rintro e w1 ⟨rfl, rfl⟩)
            go_round
            case rel => exact ⟨j + 1, 0, by omega, by go_num, by rw [hadd.out], rfl, hs8.out.symm⟩
            case measure => simp [intOf]; omega
          · obtain rfl : u = 0 := hu.trans (shf_odd hp)
            have hs8 : Hid (shf (p.length + (j + 1)) = 8) := Lib.hid (shf_even (by omega))
            have hadd : Hid (addI (nrm y) (x.toNat : Int) = nrm (ws true (p ++ l.take (j + 1)))) := Lib.hid (by
              have h := addI_nrm y x.toNat (by omega)
              rw [hsum.out, show par true (p.length + j) = false from if_neg hp]
              exact h)
            clear hu hp hny hsum hsn
            go_wp2_with (go_at_call 67; refine (add_any _ _ _).mono ?_; rintro e w1 ⟨rfl, rfl⟩)
            go_round
            case rel => exact ⟨j + 1, 8, by omega, by go_num, by rw [hadd.out], rfl, hs8.out.symm⟩
            case measure => simp [intOf]; omega
        · obtain rfl : j = n := by omega
          have e1 : l.take j = l := List.take_of_length_le (by have := h1'.out; omega)
          rw [e1]
          have hu' := Lib.hid hu
          clear hu e1
          go_wp2
          go_round
          case rel => exact ⟨k + 1, u, by omega, by go_num, by rw [hfs.out], rfl, by rw [hfs.out, hu'.out, List.length_append, h1'.out]⟩
          case measure => simp [intOf]; omega
    · obtain rfl : k = m := by omega
      have e1 : ls.take k = ls := List.take_of_length_le (by omega)
      rw [e1]
      have hb := ck_bounds ls.flatten
      have hck : (65535 : Int) - (nrm (ws true ls.flatten) : Int) = ck ls.flatten := rfl
      have hn := nrm_le (ws true ls.flatten)
      generalize nrm (ws true ls.flatten) = x at *
      have HK := Lib.hid hck
      clear hck e1 hv hlen hcell
      go_wp2
      go_ret
      exact ⟨ret_i64 HK.out, rfl⟩

theorem Sls.one {w : World} {A : Option Addr} {n c : Nat} {l : List UInt8} (h : Sl w A n c l) :
    Sls (w.alloc (.cells #[.slice A n c] 25)) (some ⟨w.heap.size, 0, none⟩) 1 [l] := by
  refine ⟨rfl, fun _ => ⟨_, _, rfl, fun j x hj => ?_⟩⟩
  match j, hj with
  | 0, hj =>
    obtain rfl : l = x := by simpa using hj
    refine ⟨A, n, c, ?_, h.below ((Below.refl _ _).alloc (Nat.le_refl _) _)⟩
    have h1 := heap_alloc_new w (.cells #[.slice A n c] 25)
    simp only [World.cell?, h1]; simp
  | j + 1, hj => simp at hj
theorem Sls.two {w : World} {A B : Option Addr} {n c m d : Nat} {l t : List UInt8} (h : Sl w A n c l) (h2 : Sl w B m d t) :
    Sls (w.alloc (.cells #[.slice A n c, .slice B m d] 25)) (some ⟨w.heap.size, 0, none⟩) 2 [l, t] := by
  have h1 := heap_alloc_new w (.cells #[.slice A n c, .slice B m d] 25)
  have bel := (Below.refl w.heap.size w).alloc (Nat.le_refl _) (.cells #[.slice A n c, .slice B m d] 25)
  refine ⟨rfl, fun _ => ⟨_, _, rfl, fun j x hj => ?_⟩⟩
  match j, hj with
  | 0, hj =>
    obtain rfl : l = x := by simpa using hj
    exact ⟨A, n, c, by simp only [World.cell?, h1]; simp, h.below bel⟩
  | 1, hj =>
    obtain rfl : t = x := by simpa using hj
    exact ⟨B, m, d, by simp only [World.cell?, h1]; simp, h2.below bel⟩
  | j + 2, hj => simp at hj

theorem of_any (A : Option Addr) (n c : Nat) (l : List UInt8) (w : World) (hl : Sl w A n c l) :
    Calls Try.prog 61 #[.slice A n c] w fun e w' => e = .returned (.int .i64 (ck l)) ∧ Below w.heap.size w w' := by
  have hs := Sls.one hl
  have bel := (Below.refl w.heap.size w).alloc (Nat.le_refl _) (.cells #[.slice A n c] 25)
  have hf : Hid ([l].flatten = l) := Lib.hid (by simp)
  go_enter Try.func61, Try.ntmps61
  go_wp2_with fail
  refine (many_any _ 1 1 [l] _ (by unfold maxLen; omega) hs).mono ?_
  rintro e w1 ⟨rfl, rfl⟩
  rw [hf.out]
  go_wp2
  go_ret
  exact ⟨rfl, bel⟩
theorem fits_yes (A : Option Addr) (n c : Nat) (l : List UInt8) (w : World) (hl : Sl w A n c l) (h : ck l = 0) :
    Calls Try.prog 39 #[.slice A n c] w fun e w' => e = .returned (.bool true) ∧ Below w.heap.size w w' := by
  have h0 := Lib.hid h
  clear h
  go_enter Try.func39, Try.ntmps39
  go_wp2_with fail
  refine (of_any A n c l _ hl).mono ?_
  rintro e w1 ⟨rfl, bel⟩
  rw [h0.out]
  go_wp2
  go_ret
  exact ⟨rfl, bel⟩
theorem fits_no (A : Option Addr) (n c : Nat) (l : List UInt8) (w : World) (hl : Sl w A n c l) (h : ck l ≠ 0) :
    Calls Try.prog 39 #[.slice A n c] w fun e w' => e = .returned (.bool false) ∧ Below w.heap.size w w' := by
  have h0 : ((ck l) == 0) = false := by simpa using h
  go_enter Try.func39, Try.ntmps39
  go_wp2_with fail
  refine (of_any A n c l _ hl).mono ?_
  rintro e w1 ⟨rfl, bel⟩
  go_wp2
  go_ret
  exact ⟨rfl, bel⟩
theorem ts_step {u : Nat} {o n : List UInt8} (ho : 2 ≤ o.length) (hn : 2 ≤ n.length) : ts u o n = ts (u + (65535 - be (o.take 2)) + be (n.take 2)) (o.drop 2) (n.drop 2) := by
  match o, n, ho, hn with
  | a :: b :: o, c :: d :: n, _, _ =>
    rw [ts]
    simp [be_two]
theorem wrap_low (s : Int) : addI 0 (wrap64 (65535 - s)) = ((65535 - (s % 65536).toNat : Nat) : Int) := by
  have h : wrap64 (65535 - s) % 65536 = (65535 - s) % 65536 := by unfold wrap64; omega
  unfold addI
  rw [h]
  omega

end Go.Proofs.Ytfmllopeeiecjaa
