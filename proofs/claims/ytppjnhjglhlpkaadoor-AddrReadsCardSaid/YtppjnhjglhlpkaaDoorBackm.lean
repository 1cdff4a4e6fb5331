/- What is written is read back: a Mac's text. -/
import Derived.Test.YtppjnhjglhlpkaaDoorRef3m
import Derived.Test.YtppjnhjglhlpkaaDoorRef3x
namespace Go.Proofs.YtppjnhjglhlpkaaDoor

theorem hexI_dig : ∀ n : Fin 16, hexI (hexDig n.val) = n.val := by decide +kernel
theorem hexI_at (n : Nat) (h : n < 16) : hexI (hexDig n) = n := hexI_dig ⟨n, h⟩
theorem macT_six (b0 b1 b2 b3 b4 b5 : UInt8) : macT [b0, b1, b2, b3, b4, b5] 6 =
    [hexDig (b0.toNat / 16), hexDig (b0.toNat % 16), 58, hexDig (b1.toNat / 16), hexDig (b1.toNat % 16), 58, hexDig (b2.toNat / 16), hexDig (b2.toNat % 16), 58,
     hexDig (b3.toNat / 16), hexDig (b3.toNat % 16), 58, hexDig (b4.toNat / 16), hexDig (b4.toNat % 16), 58, hexDig (b5.toNat / 16), hexDig (b5.toNat % 16)] := by
  simp [macT]
theorem mac_byte (x : UInt8) : (16 : Int) * hexI (hexDig (x.toNat / 16)) + hexI (hexDig (x.toNat % 16)) = x.toNat := by
  have := x.toNat_lt
  rw [hexI_at _ (by omega), hexI_at _ (by omega)]; omega
theorem hexI_nn (x : UInt8) : ¬ hexI (hexDig (x.toNat / 16)) < 0 ∧ ¬ hexI (hexDig (x.toNat % 16)) < 0 := by
  have := x.toNat_lt
  rw [hexI_at _ (by omega), hexI_at _ (by omega)]; omega
/-- A Mac's text is read as the Mac. -/
theorem mac_back (b0 b1 b2 b3 b4 b5 : UInt8) : macOk (macT [b0, b1, b2, b3, b4, b5] 6) ∧ macBs (macT [b0, b1, b2, b3, b4, b5] 6) 6 = [b0, b1, b2, b3, b4, b5] := by
  rw [macT_six]
  have key : ∀ i, i < 6 → macB [hexDig (b0.toNat / 16), hexDig (b0.toNat % 16), 58, hexDig (b1.toNat / 16), hexDig (b1.toNat % 16), 58, hexDig (b2.toNat / 16), hexDig (b2.toNat % 16), 58,
     hexDig (b3.toNat / 16), hexDig (b3.toNat % 16), 58, hexDig (b4.toNat / 16), hexDig (b4.toNat % 16), 58, hexDig (b5.toNat / 16), hexDig (b5.toNat % 16)] i = (([b0, b1, b2, b3, b4, b5].getD i 0).toNat : Int) := by
    intro i hi
    match i, hi with
    | 0, _ | 1, _ | 2, _ | 3, _ | 4, _ | 5, _ =>
      unfold macB
      simp only [Nat.mul_zero, Nat.zero_add, Nat.reduceMul, Nat.reduceAdd, List.getD_cons_zero, List.getD_cons_succ]
      rw [if_neg (by simp [hexI_nn])]
      exact mac_byte _
  refine ⟨⟨rfl, fun i hi => by rw [key i hi]; omega⟩, ?_⟩
  apply List.ext_getElem
  · rw [macBs_len]; rfl
  · intro i h1 h2
    have hi : i < 6 := h2
    have e : (macBs [hexDig (b0.toNat / 16), hexDig (b0.toNat % 16), 58, hexDig (b1.toNat / 16), hexDig (b1.toNat % 16), 58, hexDig (b2.toNat / 16), hexDig (b2.toNat % 16), 58,
     hexDig (b3.toNat / 16), hexDig (b3.toNat % 16), 58, hexDig (b4.toNat / 16), hexDig (b4.toNat % 16), 58, hexDig (b5.toNat / 16), hexDig (b5.toNat % 16)] 6)[i] = byteOf (([b0, b1, b2, b3, b4, b5].getD i 0).toNat : Int) := by
      simp only [macBs, List.getElem_map, List.getElem_range]
      rw [if_pos hi, key i hi]
    refine e.trans ?_
    have bo : ∀ x : UInt8, byteOf (x.toNat : Int) = x := fun x => by
      apply UInt8.toNat_inj.1
      have := byteOf_val (x.toNat : Int)
      have := x.toNat_lt
      omega
    rw [bo]
    match i, hi with
    | 0, _ | 1, _ | 2, _ | 3, _ | 4, _ | 5, _ => rfl
end Go.Proofs.YtppjnhjglhlpkaaDoor
