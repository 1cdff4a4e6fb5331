/- The reference's AddrText. -/
import Derived.Test.YtppjnhjglhlpkaaDoorRef3t
namespace Go.Proofs.YtppjnhjglhlpkaaDoor
open Go.RowKit

/-- An address's text. -/
def adT (a b c d : UInt8) : List UInt8 := decT a.toNat ++ [46] ++ decT b.toNat ++ [46] ++ decT c.toNat ++ [46] ++ decT d.toNat
theorem add_run (x y : List UInt8) (hx : x.length ≤ 1000) (hy : y.length ≤ 1000) (W : World) : (Op.stringOp .add ⟨x.toArray⟩ ⟨y.toArray⟩).run Tryd.prog W = .ok (.string ⟨(x ++ y).toArray⟩) W := by
  rw [run_string_add_sum W _ _ (by rw [size_bs', size_bs']; omega), ByteArray.mk_append_mk]
theorem byte_len (a : UInt8) : (decT a.toNat).length ≤ 3 := decT_len 2 _ (by have := a.toNat_lt; omega)

set_option maxHeartbeats 2000000 in
theorem raddrtext_any (a b c d : UInt8) (w : World) :
    Calls Tryd.prog 25 #[.agg #[.int .u8 (a.toNat : Int), .int .u8 (b.toNat : Int), .int .u8 (c.toNat : Int), .int .u8 (d.toNat : Int)]] w fun e w' => e = .returned (.string ⟨(adT a b c d).toArray⟩) ∧ Below w.heap.size w w' := by
  have la := byte_len a
  have Ta := Lib.hid fun W => rtext_any 2 (by omega) a.toNat W (by have := a.toNat_lt; omega)
  have lb := byte_len b
  have Tb := Lib.hid fun W => rtext_any 2 (by omega) b.toNat W (by have := b.toNat_lt; omega)
  have lc := byte_len c
  have Tc := Lib.hid fun W => rtext_any 2 (by omega) c.toNat W (by have := c.toNat_lt; omega)
  have ld := byte_len d
  have Td := Lib.hid fun W => rtext_any 2 (by omega) d.toNat W (by have := d.toNat_lt; omega)
  have A1 := add_run (decT a.toNat) [46] (by omega) (by simp)
  have A2 := add_run (decT a.toNat ++ [46]) (decT b.toNat) (by rw [List.length_append, List.length_singleton]; omega) (by omega)
  have A3 := add_run (decT a.toNat ++ [46] ++ decT b.toNat) [46] (by simp only [List.length_append, List.length_singleton]; omega) (by simp)
  have A4 := add_run (decT a.toNat ++ [46] ++ decT b.toNat ++ [46]) (decT c.toNat) (by simp only [List.length_append, List.length_singleton]; omega) (by omega)
  have A5 := add_run (decT a.toNat ++ [46] ++ decT b.toNat ++ [46] ++ decT c.toNat) [46] (by simp only [List.length_append, List.length_singleton]; omega) (by simp)
  have A6 := add_run (decT a.toNat ++ [46] ++ decT b.toNat ++ [46] ++ decT c.toNat ++ [46]) (decT d.toNat) (by simp only [List.length_append, List.length_singleton]; omega) (by omega)
  have HE : Hid (decT a.toNat ++ [46] ++ decT b.toNat ++ [46] ++ decT c.toNat ++ [46] ++ decT d.toNat = adT a b c d) := Lib.hid rfl
  generalize decT a.toNat ++ [46] ++ decT b.toNat ++ [46] ++ decT c.toNat ++ [46] ++ decT d.toNat = s7 at *
  generalize decT a.toNat ++ [46] ++ decT b.toNat ++ [46] ++ decT c.toNat ++ [46] = s6 at *
  generalize decT a.toNat ++ [46] ++ decT b.toNat ++ [46] ++ decT c.toNat = s5 at *
  generalize decT a.toNat ++ [46] ++ decT b.toNat ++ [46] = s4 at *
  generalize decT a.toNat ++ [46] ++ decT b.toNat = s3 at *
  generalize decT a.toNat ++ [46] = s2 at *
  have xa : IntKind.i64.wrap (a.toNat : Int) = a.toNat := IntWalk.i64_in _ (by have := a.toNat_lt; omega)
  have xb : IntKind.i64.wrap (b.toNat : Int) = b.toNat := IntWalk.i64_in _ (by have := b.toNat_lt; omega)
  have xc : IntKind.i64.wrap (c.toNat : Int) = c.toNat := IntWalk.i64_in _ (by have := c.toNat_lt; omega)
  have xd : IntKind.i64.wrap (d.toNat : Int) = d.toNat := IntWalk.i64_in _ (by have := d.toNat_lt; omega)
  clear la lb lc ld
  have hblk := heap_alloc_new w (.cells #[.int .u8 (a.toNat : Int), .int .u8 (b.toNat : Int), .int .u8 (c.toNat : Int), .int .u8 (d.toNat : Int)] 24)
  obtain ⟨⟨q0, q1, q2, q3⟩, _⟩ := cells4 hblk
  have hlt : w.heap.size < (w.alloc (.cells #[.int .u8 (a.toNat : Int), .int .u8 (b.toNat : Int), .int .u8 (c.toNat : Int), .int .u8 (d.toNat : Int)] 24)).heap.size := by simp
  have bel1 : Below w.heap.size w (w.alloc (.cells #[.int .u8 (a.toNat : Int), .int .u8 (b.toNat : Int), .int .u8 (c.toNat : Int), .int .u8 (d.toNat : Int)] 24)) := (Below.refl _ w).alloc (Nat.le_refl _) _
  clear hblk
  go_enter Tryd.func25, Tryd.ntmps25
  go_wp2_with fail
  generalize w.alloc (.cells #[.int .u8 (a.toNat : Int), .int .u8 (b.toNat : Int), .int .u8 (c.toNat : Int), .int .u8 (d.toNat : Int)] 24) = w1 at q0 q1 q2 q3 hlt bel1 ⊢
  refine wp_region_held_drew (S := fun W => W.cell? ⟨w.heap.size, 0, none⟩ = some (.int .u8 (a.toNat : Int)) ∧ W.cell? ⟨w.heap.size, 1, none⟩ = some (.int .u8 (b.toNat : Int)) ∧ W.cell? ⟨w.heap.size, 2, none⟩ = some (.int .u8 (c.toNat : Int)) ∧ W.cell? ⟨w.heap.size, 3, none⟩ = some (.int .u8 (d.toNat : Int))) (by kernel_rfl) ⟨q0, q1, q2, q3⟩ (fun hH => ?_)
  refine wpAnyH_take (i := 0) (v := ?_) rfl (by kernel_rfl) (by kernel_rfl) (by kernel_rfl) (fun _ _ _ h => h) (Or.inl ⟨by rfl, ?_⟩) hH ?_
  rotate_left
  · ((intro W hW; obtain ⟨z0, z1, z2, z3⟩ := hW; go_simp) <;> with_reducible rfl)
  simp only [Act.put, List.getElem_toArray, List.getElem_cons_zero, List.setIfInBounds_toArray, List.set_cons_zero, List.set_cons_succ]
  refine wpAnyH_take (i := 1) (v := ?_) rfl (by kernel_rfl) (by kernel_rfl) (by kernel_rfl) (fun _ _ _ h => h) (Or.inl ⟨by rfl, ?_⟩) hH ?_
  rotate_left
  · ((intro W hW; obtain ⟨z0, z1, z2, z3⟩ := hW; go_simp) <;> with_reducible rfl)
  simp only [Act.put, List.getElem_toArray, List.getElem_cons_zero, List.getElem_cons_succ, List.setIfInBounds_toArray, List.set_cons_zero, List.set_cons_succ]
  refine wpAnyH_take (i := 2) (v := ?_) rfl (by kernel_rfl) (by kernel_rfl) (by kernel_rfl) (fun _ _ _ h => h) (Or.inl ⟨by rfl, ?_⟩) hH ?_
  rotate_left
  · ((intro W hW; obtain ⟨z0, z1, z2, z3⟩ := hW; go_simp) <;> with_reducible rfl)
  simp only [Act.put, List.getElem_toArray, List.getElem_cons_zero, List.getElem_cons_succ, List.setIfInBounds_toArray, List.set_cons_zero, List.set_cons_succ]
  refine wpAnyH_take (i := 5) (v := ?_) rfl (by kernel_rfl) (by kernel_rfl) (by kernel_rfl) (fun _ _ _ h => h) (Or.inl ⟨by rfl, ?_⟩) hH ?_
  rotate_left
  · ((intro W hW; obtain ⟨z0, z1, z2, z3⟩ := hW; go_simp) <;> with_reducible rfl)
  simp only [Act.put, List.getElem_toArray, List.getElem_cons_zero, List.getElem_cons_succ, List.setIfInBounds_toArray, List.set_cons_zero, List.set_cons_succ]
  refine wpAnyH_take (i := 6) (v := ?_) rfl (by kernel_rfl) (by kernel_rfl) (by kernel_rfl) (fun _ _ _ h => h) (Or.inl ⟨by rfl, ?_⟩) hH ?_
  rotate_left
  · ((intro W hW; obtain ⟨z0, z1, z2, z3⟩ := hW; go_simp) <;> with_reducible rfl)
  simp only [Act.put, List.getElem_toArray, List.getElem_cons_zero, List.getElem_cons_succ, List.setIfInBounds_toArray, List.set_cons_zero, List.set_cons_succ]
  refine wpAnyH_take (i := 7) (v := ?_) rfl (by kernel_rfl) (by kernel_rfl) (by kernel_rfl) (fun _ _ _ h => h) (Or.inl ⟨by rfl, ?_⟩) hH ?_
  rotate_left
  · ((intro W hW; obtain ⟨z0, z1, z2, z3⟩ := hW; go_simp) <;> with_reducible rfl)
  simp only [Act.put, List.getElem_toArray, List.getElem_cons_zero, List.getElem_cons_succ, List.setIfInBounds_toArray, List.set_cons_zero, List.set_cons_succ]
  refine wpAnyH_take (i := 11) (v := ?_) rfl (by kernel_rfl) (by kernel_rfl) (by kernel_rfl) (fun _ _ _ h => h) (Or.inl ⟨by rfl, ?_⟩) hH ?_
  rotate_left
  · ((intro W hW; obtain ⟨z0, z1, z2, z3⟩ := hW; go_simp) <;> with_reducible rfl)
  simp only [Act.put, List.getElem_toArray, List.getElem_cons_zero, List.getElem_cons_succ, List.setIfInBounds_toArray, List.set_cons_zero, List.set_cons_succ]
  refine wpAnyH_take (i := 12) (v := ?_) rfl (by kernel_rfl) (by kernel_rfl) (by kernel_rfl) (fun _ _ _ h => h) (Or.inl ⟨by rfl, ?_⟩) hH ?_
  rotate_left
  · ((intro W hW; obtain ⟨z0, z1, z2, z3⟩ := hW; go_simp) <;> with_reducible rfl)
  simp only [Act.put, List.getElem_toArray, List.getElem_cons_zero, List.getElem_cons_succ, List.setIfInBounds_toArray, List.set_cons_zero, List.set_cons_succ]
  refine wpAnyH_take (i := 13) (v := ?_) rfl (by kernel_rfl) (by kernel_rfl) (by kernel_rfl) (fun _ _ _ h => h) (Or.inl ⟨by rfl, ?_⟩) hH ?_
  rotate_left
  · ((intro W hW; obtain ⟨z0, z1, z2, z3⟩ := hW; go_simp) <;> with_reducible rfl)
  simp only [Act.put, List.getElem_toArray, List.getElem_cons_zero, List.getElem_cons_succ, List.setIfInBounds_toArray, List.set_cons_zero, List.set_cons_succ]
  refine wpAnyH_take (i := 17) (v := ?_) rfl (by kernel_rfl) (by kernel_rfl) (by kernel_rfl) (fun _ _ _ h => h) (Or.inl ⟨by rfl, ?_⟩) hH ?_
  rotate_left
  · ((intro W hW; obtain ⟨z0, z1, z2, z3⟩ := hW; go_simp) <;> with_reducible rfl)
  simp only [Act.put, List.getElem_toArray, List.getElem_cons_zero, List.getElem_cons_succ, List.setIfInBounds_toArray, List.set_cons_zero, List.set_cons_succ]
  refine wpAnyH_take (i := 18) (v := ?_) rfl (by kernel_rfl) (by kernel_rfl) (by kernel_rfl) (fun _ _ _ h => h) (Or.inl ⟨by rfl, ?_⟩) hH ?_
  rotate_left
  · ((intro W hW; obtain ⟨z0, z1, z2, z3⟩ := hW; go_simp) <;> with_reducible rfl)
  simp only [Act.put, List.getElem_toArray, List.getElem_cons_zero, List.getElem_cons_succ, List.setIfInBounds_toArray, List.set_cons_zero, List.set_cons_succ]
  refine wpAnyH_take (i := 19) (v := ?_) rfl (by kernel_rfl) (by kernel_rfl) (by kernel_rfl) (fun _ _ _ h => h) (Or.inl ⟨by rfl, ?_⟩) hH ?_
  rotate_left
  · ((intro W hW; obtain ⟨z0, z1, z2, z3⟩ := hW; go_simp) <;> with_reducible rfl)
  simp only [Act.put, List.getElem_toArray, List.getElem_cons_zero, List.getElem_cons_succ, List.setIfInBounds_toArray, List.set_cons_zero, List.set_cons_succ]
  refine wpAnyH_ready (rs := [3]) (by kernel_rfl) (by simp) ?_
  refine AllReadyH.cons (o := _) rfl (fun K hK => ?_) AllReadyH.nil
  simp only [List.getElem_toArray, List.getElem_cons_zero, List.getElem_cons_succ]
  go_simp
  refine (Ta.out _).mono ?_
  rintro e w2 ⟨rfl, b2⟩
  dsimp only
  have bel2 := bel1.drew.trans (b2.mono bel1.size)
  have hz2 : w.heap.size < w2.heap.size := Nat.lt_of_lt_of_le hlt b2.size
  refine hK.out _ _ ⟨(b2.cell (p := ⟨_, 0, none⟩) hlt).trans hH.1, (b2.cell (p := ⟨_, 1, none⟩) hlt).trans hH.2.1, (b2.cell (p := ⟨_, 2, none⟩) hlt).trans hH.2.2.1, (b2.cell (p := ⟨_, 3, none⟩) hlt).trans hH.2.2.2⟩ (fun h2 => ?_)
  clear hK K
  refine wpAnyH_take (i := 4) (v := ?_) rfl (by kernel_rfl) (by kernel_rfl) (by kernel_rfl) (fun _ _ _ h => h) (Or.inl ⟨by rfl, ?_⟩) h2 ?_
  rotate_left
  · ((intro w hw; clear hw; go_simp) <;> with_reducible rfl)
  simp only [Act.put, List.getElem_toArray, List.getElem_cons_zero, List.getElem_cons_succ, List.setIfInBounds_toArray, List.set_cons_zero, List.set_cons_succ]
  refine wpAnyH_ready (rs := [8]) (by kernel_rfl) (by simp) ?_
  refine AllReadyH.cons (o := _) rfl (fun K hK => ?_) AllReadyH.nil
  simp only [List.getElem_toArray, List.getElem_cons_zero, List.getElem_cons_succ]
  go_simp
  refine (Tb.out _).mono ?_
  rintro e w3 ⟨rfl, b3⟩
  dsimp only
  have bel3 := bel2.trans (b3.mono bel2.size)
  have hz3 : w.heap.size < w3.heap.size := Nat.lt_of_lt_of_le hz2 b3.size
  refine hK.out _ _ ⟨(b3.cell (p := ⟨_, 0, none⟩) hz2).trans h2.1, (b3.cell (p := ⟨_, 1, none⟩) hz2).trans h2.2.1, (b3.cell (p := ⟨_, 2, none⟩) hz2).trans h2.2.2.1, (b3.cell (p := ⟨_, 3, none⟩) hz2).trans h2.2.2.2⟩ (fun h3 => ?_)
  clear hK K
  refine wpAnyH_take (i := 9) (v := ?_) rfl (by kernel_rfl) (by kernel_rfl) (by kernel_rfl) (fun _ _ _ h => h) (Or.inl ⟨by rfl, ?_⟩) h3 ?_
  rotate_left
  · ((intro w hw; clear hw; go_simp) <;> with_reducible rfl)
  simp only [Act.put, List.getElem_toArray, List.getElem_cons_zero, List.getElem_cons_succ, List.setIfInBounds_toArray, List.set_cons_zero, List.set_cons_succ]
  refine wpAnyH_take (i := 10) (v := ?_) rfl (by kernel_rfl) (by kernel_rfl) (by kernel_rfl) (fun _ _ _ h => h) (Or.inl ⟨by rfl, ?_⟩) h3 ?_
  rotate_left
  · ((intro w hw; clear hw; go_simp) <;> with_reducible rfl)
  simp only [Act.put, List.getElem_toArray, List.getElem_cons_zero, List.getElem_cons_succ, List.setIfInBounds_toArray, List.set_cons_zero, List.set_cons_succ]
  refine wpAnyH_ready (rs := [14]) (by kernel_rfl) (by simp) ?_
  refine AllReadyH.cons (o := _) rfl (fun K hK => ?_) AllReadyH.nil
  simp only [List.getElem_toArray, List.getElem_cons_zero, List.getElem_cons_succ]
  go_simp
  refine (Tc.out _).mono ?_
  rintro e w4 ⟨rfl, b4⟩
  dsimp only
  have bel4 := bel3.trans (b4.mono bel3.size)
  have hz4 : w.heap.size < w4.heap.size := Nat.lt_of_lt_of_le hz3 b4.size
  refine hK.out _ _ ⟨(b4.cell (p := ⟨_, 0, none⟩) hz3).trans h3.1, (b4.cell (p := ⟨_, 1, none⟩) hz3).trans h3.2.1, (b4.cell (p := ⟨_, 2, none⟩) hz3).trans h3.2.2.1, (b4.cell (p := ⟨_, 3, none⟩) hz3).trans h3.2.2.2⟩ (fun h4 => ?_)
  clear hK K
  refine wpAnyH_take (i := 15) (v := ?_) rfl (by kernel_rfl) (by kernel_rfl) (by kernel_rfl) (fun _ _ _ h => h) (Or.inl ⟨by rfl, ?_⟩) h4 ?_
  rotate_left
  · ((intro w hw; clear hw; go_simp) <;> with_reducible rfl)
  simp only [Act.put, List.getElem_toArray, List.getElem_cons_zero, List.getElem_cons_succ, List.setIfInBounds_toArray, List.set_cons_zero, List.set_cons_succ]
  refine wpAnyH_take (i := 16) (v := ?_) rfl (by kernel_rfl) (by kernel_rfl) (by kernel_rfl) (fun _ _ _ h => h) (Or.inl ⟨by rfl, ?_⟩) h4 ?_
  rotate_left
  · ((intro w hw; clear hw; go_simp) <;> with_reducible rfl)
  simp only [Act.put, List.getElem_toArray, List.getElem_cons_zero, List.getElem_cons_succ, List.setIfInBounds_toArray, List.set_cons_zero, List.set_cons_succ]
  refine wpAnyH_ready (rs := [20]) (by kernel_rfl) (by simp) ?_
  refine AllReadyH.cons (o := _) rfl (fun K hK => ?_) AllReadyH.nil
  simp only [List.getElem_toArray, List.getElem_cons_zero, List.getElem_cons_succ]
  go_simp
  refine (Td.out _).mono ?_
  rintro e w5 ⟨rfl, b5⟩
  dsimp only
  have bel5 := bel4.trans (b5.mono bel4.size)
  have hz5 : w.heap.size < w5.heap.size := Nat.lt_of_lt_of_le hz4 b5.size
  refine hK.out _ _ ⟨(b5.cell (p := ⟨_, 0, none⟩) hz4).trans h4.1, (b5.cell (p := ⟨_, 1, none⟩) hz4).trans h4.2.1, (b5.cell (p := ⟨_, 2, none⟩) hz4).trans h4.2.2.1, (b5.cell (p := ⟨_, 3, none⟩) hz4).trans h4.2.2.2⟩ (fun h5 => ?_)
  clear hK K
  refine wpAnyH_take (i := 21) (v := ?_) rfl (by kernel_rfl) (by kernel_rfl) (by kernel_rfl) (fun _ _ _ h => h) (Or.inl ⟨by rfl, ?_⟩) h5 ?_
  rotate_left
  · ((intro w hw; clear hw; go_simp) <;> with_reducible rfl)
  simp only [Act.put, List.getElem_toArray, List.getElem_cons_zero, List.getElem_cons_succ, List.setIfInBounds_toArray, List.set_cons_zero, List.set_cons_succ]
  refine wpAnyH_take (i := 22) (v := ?_) rfl (by kernel_rfl) (by kernel_rfl) (by kernel_rfl) (fun _ _ _ h => h) (Or.inl ⟨by rfl, ?_⟩) h5 ?_
  rotate_left
  · ((intro w hw; clear hw; go_simp) <;> with_reducible rfl)
  simp only [Act.put, List.getElem_toArray, List.getElem_cons_zero, List.getElem_cons_succ, List.setIfInBounds_toArray, List.set_cons_zero, List.set_cons_succ]
  refine wpAnyH_done (by kernel_rfl) ?_ _
  go_wp2
  go_ret
  have h7 := HE.out
  subst h7
  exact ⟨rfl, bel5⟩
end Go.Proofs.YtppjnhjglhlpkaaDoor
