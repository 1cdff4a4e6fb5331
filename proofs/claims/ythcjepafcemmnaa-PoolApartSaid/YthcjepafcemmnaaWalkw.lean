/- The contracts of what writes numbers, and of the reference's own. -/
import Derived.Test.YthcjepafcemmnaaWalks
import Derived.Deep.QuietTactic
import Derived.BigQuiet
namespace Go.Proofs.Ythcjepafcemmnaa
open Go.RowKit

theorem made2 (v : Int) (w : World) : Sl (w.alloc (.cells #[.int .u8 (v / 256 % 256), .int .u8 (v % 256)] 5)) (some ⟨w.heap.size, 0, none⟩) 2 2 (two v) := by
  have h := Sl.made w 5 (two v) (by simp [two, maxLen])
  simpa [two, u8v, byteOf_val] using h
theorem made4 (v : Int) (w : World) (h0 : 0 ≤ v) (h1 : v < 4294967296) :
    Sl (w.alloc (.cells #[.int .u8 (v / 16777216), .int .u8 (v / 65536 % 256), .int .u8 (v / 256 % 256), .int .u8 (v % 256)] 5)) (some ⟨w.heap.size, 0, none⟩) 4 4 (four v) := by
  have h := Sl.made w 5 (four v) (by simp [four, maxLen])
  have e : v / 16777216 % 256 = v / 16777216 := by omega
  simpa [four, u8v, byteOf_val, e] using h

theorem own_empty (w : World) : (w.alloc (.cells #[] 5)).ownsRow w.heap.size 5 1 (.slice (some ⟨w.heap.size, 0, none⟩) 0 0) 0 (([] : List UInt8).map u8v) :=
  ⟨rfl, .inr ⟨w.heap.size, 0, #[], rfl, Nat.le_refl _, heap_alloc_new w _, Nat.le_refl _, Nat.zero_le _, rfl, rfl⟩⟩

theorem at16_any (A : Option Addr) (n c k : Nat) (l : List UInt8) (w : World) (hl : Sl w A n c l) (hk : k + 2 ≤ n) (hm : k + 2 ≤ 100000) :
    Calls Try.prog 42 #[.slice A n c, .int .i64 k] w fun e w' => e = .returned (.int .i64 (be ((l.drop k).take 2))) ∧ ∃ q, w' = w.drewN q := by
  obtain ⟨h1, h2, h3, h4⟩ := hl
  obtain ⟨d, o, rfl, hc⟩ := h4 (by omega)
  have k1 : k < l.length := by omega
  have k2 : k + 1 < l.length := by omega
  have c1 := hc k _ (List.getElem?_eq_getElem k1)
  have c2 := hc (k + 1) _ (List.getElem?_eq_getElem k2)
  have HB : Hid (be ((l.drop k).take 2) = l[k].toNat * 256 + l[k + 1].toNat) := by
    unfold Hid
    rw [List.drop_eq_getElem_cons k1, List.drop_eq_getElem_cons k2]
    exact be_two _ _
  have u1 := l[k].toNat_lt
  have u2 := l[k + 1].toNat_lt
  unfold u8v at c1 c2
  generalize l[k].toNat = x at *
  generalize l[k + 1].toNat = y at *
  have b1 : (0 : Int) ≤ k := by omega
  have b2 : (k : Int) < n := by omega
  have b3 : (k : Int) + 1 < n := by omega
  have b4 : (x : Int) < 256 := by omega
  have b5 : (y : Int) < 256 := by omega
  have b6 : (0 : Int) ≤ x := by omega
  have b7 : (0 : Int) ≤ y := by omega
  have b8 : (k : Int) ≤ 100000 := by omega
  clear hc h1 h4 u1 u2
  go_enter Try.func42, Try.ntmps42
  go_wp2
  go_quiet (fail)
  go_wp2
  have hor := or_i64 x y (by omega) (by omega)
  refine bodyPost_ret (v := .int .i64 (be ((l.drop k).take 2))) (by simp [results, Try.results42, go_sem, hor, HB.out]) rfl ⟨rfl, nq, rfl⟩

theorem Sl.drewN {w : World} {A : Option Addr} {n c : Nat} {l : List UInt8} (h : Sl w A n c l) (q : Nat) : Sl (w.drewN q) A n c l := h.keep fun _ _ _ hc => hc

theorem at32_any (A : Option Addr) (n c : Nat) (l : List UInt8) (w : World) (hl : Sl w A n c l) (hk : 4 ≤ n) :
    Calls Try.prog 33 #[.slice A n c, .int .i64 0] w fun e w' => e = .returned (.int .u32 (be (l.take 4))) ∧ ∃ q, w' = w.drewN q := by
  have hlen := hl.1
  have HB : Hid (be (l.take 4) = be (l.take 2) * 65536 + be ((l.drop 2).take 2)) := by
    unfold Hid
    rw [show 4 = 2 + 2 from rfl, List.take_add, be_append]
    rw [show ((l.drop 2).take 2).length = 2 by rw [List.length_take, List.length_drop]; omega]
  have p1 := be_lt 2 (l.take 2) (by rw [List.length_take]; omega)
  have p2 := be_lt 2 ((l.drop 2).take 2) (by rw [List.length_take, List.length_drop]; omega)
  have c1 := fun W (h : Sl W A n c l) => at16_any A n c 0 l W h (by omega) (by omega)
  have c2 := fun W (h : Sl W A n c l) => at16_any A n c 2 l W h (by omega) (by omega)
  simp only [List.drop_zero] at c1
  generalize be (l.take 2) = x at *
  generalize be ((l.drop 2).take 2) = y at *
  have b1 : (0 : Int) ≤ x := by omega
  have b2 : (x : Int) < 65536 := by omega
  have b3 : (0 : Int) ≤ y := by omega
  have b4 : (y : Int) < 65536 := by omega
  have hor := or_u32_16 x y (by omega) (by omega)
  have C1 : Hid _ := c1
  have C2 : Hid _ := c2
  clear c1 c2 hlen
  go_enter Try.func33, Try.ntmps33
  go_wp2_with fail
  refine (C1.out _ hl).mono ?_
  rintro e w1 ⟨rfl, q, rfl⟩
  go_wp2_with fail
  refine (C2.out _ (hl.drewN q)).mono ?_
  rintro e w2 ⟨rfl, q2, rfl⟩
  go_wp2
  refine bodyPost_ret (v := .int .u32 (be (l.take 4))) (by simp [results, Try.results33, go_sem, HB.out]) rfl ⟨rfl, q + q2, ?_⟩
  simp

/-! awake: what the document tells of three bytes. -/
end Go.Proofs.Ythcjepafcemmnaa
