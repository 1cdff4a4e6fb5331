/- The walk of SumTurns. -/
import Derived.Test.YtbmngljendanlaaSeals
import Derived.Deep.RegionHeld3
namespace Go.Proofs.Ytbmngljendanlaa
open Go.RowKit

/-- A piece of a slice: from the front, to the end, from p to p + k. -/
theorem slice_front {w : World} {A : Option Addr} {n c : Nat} {l : List UInt8} (h : Sl w A n c l) {k : Nat} (hk : k ≤ n) :
    ∃ A' c', (∀ W, (Instr.slice 24 (.slice A n c) none (some (.int .i64 (k : Int))) none).run Try.prog W = .ok (.slice A' k c') W) ∧ Sl w A' k c' (l.take k) := by
  have h2 := h.2.1
  have hd := h.drop (k := 0) (by omega)
  have ht := hd.take (k := k) (by omega)
  rw [List.drop_zero] at ht
  refine ⟨_, _, fun W => ?_, ht⟩
  have hz : ∀ w, (Go.sizeOf 5).run Try.prog w = .ok 1 w := fun w => by kernel_rfl
  have hu : Try.prog.underlying 24 = some (.slice (Try.prog.elem 24)) := by kernel_rfl
  have he : Try.prog.elem 24 = 5 := by kernel_rfl
  rw [run_slice_h W 24 A n c hu .i64 _ (by omega) (by omega), he, hz]
  simp [Result.andThen, sliced]
theorem slice_back {w : World} {A : Option Addr} {n c : Nat} {l : List UInt8} (h : Sl w A n c l) {k : Nat} (hk : k ≤ n) :
    ∃ A' c', (∀ W, (Instr.slice 24 (.slice A n c) (some (.int .i64 (k : Int))) none none).run Try.prog W = .ok (.slice A' (n - k) c') W) ∧ Sl w A' (n - k) c' (l.drop k) := by
  have h2 := h.2.1
  refine ⟨_, _, fun W => ?_, h.drop hk⟩
  have hz : ∀ w, (Go.sizeOf 5).run Try.prog w = .ok 1 w := fun w => by kernel_rfl
  have hu : Try.prog.underlying 24 = some (.slice (Try.prog.elem 24)) := by kernel_rfl
  have he : Try.prog.elem 24 = 5 := by kernel_rfl
  rw [run_slice_l W 24 A n c hu .i64 _ (by omega) (by omega), he, hz]
  simp [Result.andThen, sliced]
theorem slice_mid {w : World} {A : Option Addr} {n c : Nat} {l : List UInt8} (h : Sl w A n c l) {p k : Nat} (hk : p + k ≤ n) :
    ∃ A' c', (∀ W, (Instr.slice 24 (.slice A n c) (some (.int .i64 (p : Int))) (some (.int .i64 ((p : Int) + k))) none).run Try.prog W = .ok (.slice A' k c') W) ∧ Sl w A' k c' ((l.drop p).take k) := by
  have h2 := h.2.1
  have hd := h.drop (k := p) (by omega)
  have ht := hd.take (k := k) (by omega)
  refine ⟨_, _, fun W => ?_, ht⟩
  have hz : ∀ w, (Go.sizeOf 5).run Try.prog w = .ok 1 w := fun w => by kernel_rfl
  have hu : Try.prog.underlying 24 = some (.slice (Try.prog.elem 24)) := by kernel_rfl
  have he : Try.prog.elem 24 = 5 := by kernel_rfl
  rw [run_slice_lh W 24 A n c hu .i64 .i64 _ _ (by omega) (by omega) (by omega), he, hz]
  have e1 : ((p : Int) + k).toNat = p + k := by omega
  simp [Result.andThen, sliced, e1]

set_option maxHeartbeats 2000000 in
theorem turns_in (A : Option Addr) (n c : Nat) (l : List UInt8) (p : Nat) (B : Option Addr) (m d : Nat) (t : List UInt8) (w : World) (hl : Sl w A n c l) (ht : Sl w B m d t)
    (hn : n ≤ 400) (hp : p % 2 = 0) (hm : m % 2 = 0) (hpn : p ≤ n) (hmn : m ≤ n - p) :
    Calls Try.prog 5 #[.slice A n c, .int .i64 p, .slice B m d] w fun e w' => e = .returned (.bool true) ∧ Below w.heap.size w w' := by
  have n0 : (0 : Int) ≤ n := by omega
  have n1 : (n : Int) ≤ 400 := by omega
  have p0 : (0 : Int) ≤ p := by omega
  have p1 : (p : Int) ≤ n := by omega
  have m0 : (0 : Int) ≤ m := by omega
  have m1 : (m : Int) ≤ n - p := by omega
  have m2 : (p : Int) + m ≤ n := by omega
  have hp2 : bits .and .i64 (p : Int) 1 = 0 := by rw [i64_and1]; omega
  have hm2 : bits .and .i64 (m : Int) 1 = 0 := by rw [i64_and1]; omega
  have hlen := Lib.hid hl.1
  have tlen := Lib.hid ht.1
  have HP := Lib.hid hp
  have HM := Lib.hid hm
  clear hp hm
  obtain ⟨ii, hii, hz0, hz1, hz2⟩ := info_parts Try.info5
  go_enter Try.func5, Try.ntmps5
  go_wp2_with fail
  refine (awake_any _).mono ?_
  rintro e w1 ⟨rfl, bel1⟩
  have hl1 := hl.below bel1
  have ht1 := ht.below bel1
  obtain ⟨A1, c1, hs1, hf⟩ := slice_front hl1 (k := p) (by omega)
  obtain ⟨A2, c2, hs2', hb⟩ := slice_back hl1 (k := p + m) (by omega)
  have hs2 : ∀ W, (Instr.slice 24 (.slice A n c) (some (.int .i64 ((p : Int) + m))) none none).run Try.prog W = .ok (.slice A2 (n - (p + m)) c2) W := by
    intro W; have := hs2' W; rwa [Int.natCast_add] at this
  clear hs2'
  have hwr : IntKind.i64.wrap ((p : Int) + m) = p + m := IntWalk.i64_in _ (by omega)
  go_wp2_with fail
  refine wp_region_held_drew (S := fun _ => True) (by kernel_rfl) trivial (fun hH => ?_)
  refine wpAnyH_take (i := 1) (v := ?_) rfl (by kernel_rfl) (by kernel_rfl) (by kernel_rfl) (fun _ _ _ h => h) (Or.inl ⟨by rfl, ?_⟩) hH ?_
  rotate_left
  · ((intro w hw; clear hw; go_simp) <;> with_reducible rfl)
  simp only [Act.put, List.getElem_toArray, List.getElem_cons_zero, List.getElem_cons_succ, List.setIfInBounds_toArray, List.set_cons_zero, List.set_cons_succ]
  refine wpAnyH_take (i := 2) (v := ?_) rfl (by kernel_rfl) (by kernel_rfl) (by kernel_rfl) (fun _ _ _ h => h) (Or.inl ⟨by rfl, ?_⟩) hH ?_
  rotate_left
  · ((intro w hw; clear hw; go_simp) <;> with_reducible rfl)
  simp only [Act.put, List.getElem_toArray, List.getElem_cons_zero, List.getElem_cons_succ, List.setIfInBounds_toArray, List.set_cons_zero, List.set_cons_succ]
  refine wpAnyH_take (i := 3) (v := ?_) rfl (by kernel_rfl) (by kernel_rfl) (by kernel_rfl) (fun _ _ _ h => h) (Or.inl ⟨by rfl, ?_⟩) hH ?_
  rotate_left
  · ((intro w hw; clear hw; go_simp) <;> with_reducible rfl)
  simp only [Act.put, List.getElem_toArray, List.getElem_cons_zero, List.getElem_cons_succ, List.setIfInBounds_toArray, List.set_cons_zero, List.set_cons_succ]
  refine wpAnyH_take (i := 5) (v := ?_) rfl (by kernel_rfl) (by kernel_rfl) (by kernel_rfl) (fun _ _ _ h => h) (Or.inl ⟨by rfl, ?_⟩) hH ?_
  rotate_left
  · ((intro w hw; clear hw; go_simp) <;> with_reducible rfl)
  simp only [Act.put, List.getElem_toArray, List.getElem_cons_zero, List.getElem_cons_succ, List.setIfInBounds_toArray, List.set_cons_zero, List.set_cons_succ]
  refine wpAnyH_take (i := 7) (v := ?_) rfl (by kernel_rfl) (by kernel_rfl) (by kernel_rfl) (fun _ _ _ h => h) (Or.inl ⟨by rfl, ?_⟩) hH ?_
  rotate_left
  · ((intro w hw; clear hw; go_simp) <;> with_reducible rfl)
  simp only [Act.put, List.getElem_toArray, List.getElem_cons_zero, List.getElem_cons_succ, List.setIfInBounds_toArray, List.set_cons_zero, List.set_cons_succ]
  refine wpAnyH_take (i := 8) (v := ?_) rfl (by kernel_rfl) (by kernel_rfl) (by kernel_rfl) (fun _ _ _ h => h) (Or.inl ⟨by rfl, ?_⟩) hH ?_
  rotate_left
  · ((intro w hw; clear hw; go_simp) <;> with_reducible rfl)
  simp only [Act.put, List.getElem_toArray, List.getElem_cons_zero, List.getElem_cons_succ, List.setIfInBounds_toArray, List.set_cons_zero, List.set_cons_succ]
  refine wpAnyH_take (i := 9) (v := ?_) rfl (by kernel_rfl) (by kernel_rfl) (by kernel_rfl) (fun _ _ _ h => h) (Or.inl ⟨by rfl, ?_⟩) hH ?_
  rotate_left
  · ((intro w hw; clear hw; go_simp) <;> with_reducible rfl)
  simp only [Act.put, List.getElem_toArray, List.getElem_cons_zero, List.getElem_cons_succ, List.setIfInBounds_toArray, List.set_cons_zero, List.set_cons_succ]
  refine wpAnyH_take (i := 10) (v := ?_) rfl (by kernel_rfl) (by kernel_rfl) (by kernel_rfl) (fun _ _ _ h => h) (Or.inl ⟨by rfl, ?_⟩) hH ?_
  rotate_left
  · ((intro w hw; clear hw; go_simp) <;> with_reducible rfl)
  simp only [Act.put, List.getElem_toArray, List.getElem_cons_zero, List.getElem_cons_succ, List.setIfInBounds_toArray, List.set_cons_zero, List.set_cons_succ]
  refine wpAnyH_take (i := 11) (v := ?_) rfl (by kernel_rfl) (by kernel_rfl) (by kernel_rfl) (fun _ _ _ h => h) (Or.inl ⟨by rfl, ?_⟩) hH ?_
  rotate_left
  · ((intro w hw; clear hw; go_simp) <;> with_reducible rfl)
  simp only [Act.put, List.getElem_toArray, List.getElem_cons_zero, List.getElem_cons_succ, List.setIfInBounds_toArray, List.set_cons_zero, List.set_cons_succ]
  refine wpAnyH_take (i := 12) (v := ?_) rfl (by kernel_rfl) (by kernel_rfl) (by kernel_rfl) (fun _ _ _ h => h) (Or.inl ⟨by rfl, ?_⟩) hH ?_
  rotate_left
  · ((intro w hw; clear hw; go_simp) <;> with_reducible rfl)
  simp only [Act.put, List.getElem_toArray, List.getElem_cons_zero, List.getElem_cons_succ, List.setIfInBounds_toArray, List.set_cons_zero, List.set_cons_succ]
  refine wpAnyH_ready (rs := [0]) (by kernel_rfl) (by simp) ?_
  refine AllReadyH.cons (o := _) rfl (fun K hK => ?_) AllReadyH.nil
  simp only [List.getElem_toArray, List.getElem_cons_zero]
  go_simp
  have hown : (w1.alloc (.cells #[] 5)).drew.ownsRow w1.heap.size 5 1 (.slice (some ⟨w1.heap.size, 0, none⟩) 0 0) 0 (([] : List UInt8).map u8v) := (own_empty w1).drew
  have bw2 : Below w1.heap.size w1 (w1.alloc (.cells #[] 5)).drew := ((Below.refl _ w1).alloc (Nat.le_refl _) _).drew
  have hs2z : w1.heap.size ≤ (w1.alloc (.cells #[] 5)).drew.heap.size := bw2.size
  generalize (w1.alloc (.cells #[] 5)).drew = w2 at *
  refine hK.out _ _ trivial (fun _ => ?_)
  clear hK K
  refine wpAnyH_ready (rs := [4]) (by kernel_rfl) (by simp) ?_
  refine AllReadyH.cons (o := _) rfl (fun K hK => ?_) AllReadyH.nil
  simp only [List.getElem_toArray, List.getElem_cons_zero, List.getElem_cons_succ]
  rw [if_pos (by rfl)]
  refine wp_append_bytes (.tmp 45) (.tmp 48) 24 rfl w1.heap.size 5 ii (.int .u8 0) Try.underlying24 hii hz0 hz1 hz2 rfl (.slice (some ⟨w1.heap.size, 0, none⟩) 0 0) 0 [] rfl hown A1 p c1 _ rfl (hf.below bw2) ?d1 ?d2 ?_
  case d1 => omega
  case d2 => exact hs2z
  intro v3 w3 hown3 hg3 hat3
  obtain ⟨bw3, hz3, hv3⟩ := own_grown bw2 hs2z (fun k h => by simp [Value.ownBlock] at h; omega) hg3 hat3
  refine hK.out _ _ trivial (fun _ => ?_)
  clear hK K hg3 hat3
  clear hown bw2 hs2z
  refine wpAnyH_ready (rs := [6]) (by kernel_rfl) (by simp) ?_
  refine AllReadyH.cons (o := _) rfl (fun K hK => ?_) AllReadyH.nil
  simp only [List.getElem_toArray, List.getElem_cons_zero, List.getElem_cons_succ]
  rw [if_pos (by rfl)]
  refine wp_append_bytes (.tmp 49) (.tmp 50) 24 rfl w1.heap.size 5 ii (.int .u8 0) Try.underlying24 hii hz0 hz1 hz2 rfl v3 _ _ rfl hown3 B m d t rfl (ht1.below bw3) ?d3 ?d4 ?_
  case d3 => omega
  case d4 => exact hz3
  intro v4 w4 hown4 hg4 hat4
  obtain ⟨bw4, hz4, hv4⟩ := own_grown bw3 hz3 hv3 hg4 hat4
  refine hK.out _ _ trivial (fun _ => ?_)
  clear hK K hg4 hat4
  clear hown3 bw3 hz3 hv3
  refine wpAnyH_ready (rs := [13]) (by kernel_rfl) (by simp) ?_
  refine AllReadyH.cons (o := _) rfl (fun K hK => ?_) AllReadyH.nil
  simp only [List.getElem_toArray, List.getElem_cons_zero, List.getElem_cons_succ]
  rw [if_pos (by rfl)]
  refine wp_append_bytes (.tmp 51) (.tmp 57) 24 rfl w1.heap.size 5 ii (.int .u8 0) Try.underlying24 hii hz0 hz1 hz2 rfl v4 _ _ rfl hown4 A2 _ c2 _ rfl (hb.below bw4) ?d5 ?d6 ?_
  case d5 => omega
  case d6 => exact hz4
  intro v5 w5 hown5 hg5 hat5
  obtain ⟨bw5, hz5, hv5⟩ := own_grown bw4 hz4 hv4 hg5 hat5
  refine hK.out _ _ trivial (fun _ => ?_)
  clear hK K hg5 hat5
  clear hown4 bw4 hz4 hv4
  refine wpAnyH_take (i := 14) (v := ?_) rfl (by kernel_rfl) (by kernel_rfl) (by kernel_rfl) (fun _ _ _ h => h) (Or.inl ⟨by rfl, ?_⟩) hH ?_
  rotate_left
  · ((intro w hw; clear hw; go_simp) <;> with_reducible rfl)
  simp only [Act.put, List.getElem_toArray, List.getElem_cons_zero, List.getElem_cons_succ, List.setIfInBounds_toArray, List.set_cons_zero, List.set_cons_succ]
  refine wpAnyH_done (by kernel_rfl) ?_ _
  have hown6 : w5.ownsRow w1.heap.size 5 1 v5 (p + m + (n - (p + m))) ((l.take p ++ t ++ l.drop (p + m)).map u8v) := by simpa using hown5
  obtain ⟨R, hR⟩ : ∃ R, Hid (l.take p ++ t ++ l.drop (p + m) = R) := ⟨_, Lib.hid rfl⟩
  rw [hR.out] at hown6
  obtain ⟨D, cd, rfl, hD⟩ := Sl.of_own hown6
  have bel5 := bel1.trans (bw5.mono bel1.size)
  have hl5 := hl.below bel5
  have ht5 := ht.below bel5
  have hl5d : Sl w5.drew A n c l := hl5.keep fun _ _ _ h => h
  obtain ⟨A3, c3, hs3, hm3⟩ := slice_mid hl5 (p := p) (k := m) (by omega)
  clear hown5 hown6 hv5 hz5 bw5 bel1 hl1 ht1 hs1 hs2 hf hb hH
  have TR := Lib.hid (turns (l.take p) ((l.drop p).take m) t (l.drop (p + m)) (by rw [List.length_take]; have := hlen.out; have := HP.out; omega) (by rw [tlen.out]; exact HM.out) (by rw [List.length_take, List.length_drop]; have := hlen.out; have := tlen.out; omega))
  have HJ : Hid (l.take p ++ (l.drop p).take m ++ l.drop (p + m) = l) := Lib.hid (by
    rw [List.append_assoc, ← List.drop_drop, List.take_append_drop, List.take_append_drop])
  rw [HJ.out, hR.out] at TR
  go_wp2_with fail
  refine wp_region_held_drew (S := fun _ => True) (by kernel_rfl) trivial (fun hH => ?_)
  refine wpAnyH_take (i := 0) (v := ?_) rfl (by kernel_rfl) (by kernel_rfl) (by kernel_rfl) (fun _ _ _ h => h) (Or.inl ⟨by rfl, ?_⟩) hH ?_
  rotate_left
  · ((intro w hw; clear hw; go_simp) <;> with_reducible rfl)
  simp only [Act.put, List.getElem_toArray, List.getElem_cons_zero, List.setIfInBounds_toArray, List.set_cons_zero, List.set_cons_succ]
  refine wpAnyH_take (i := 2) (v := ?_) rfl (by kernel_rfl) (by kernel_rfl) (by kernel_rfl) (fun _ _ _ h => h) (Or.inl ⟨by rfl, ?_⟩) hH ?_
  rotate_left
  · ((intro w hw; clear hw; go_simp) <;> with_reducible rfl)
  simp only [Act.put, List.getElem_toArray, List.getElem_cons_zero, List.getElem_cons_succ, List.setIfInBounds_toArray, List.set_cons_zero, List.set_cons_succ]
  refine wpAnyH_take (i := 3) (v := ?_) rfl (by kernel_rfl) (by kernel_rfl) (by kernel_rfl) (fun _ _ _ h => h) (Or.inl ⟨by rfl, ?_⟩) hH ?_
  rotate_left
  · ((intro w hw; clear hw; go_simp) <;> with_reducible rfl)
  simp only [Act.put, List.getElem_toArray, List.getElem_cons_zero, List.getElem_cons_succ, List.setIfInBounds_toArray, List.set_cons_zero, List.set_cons_succ]
  refine wpAnyH_take (i := 4) (v := ?_) rfl (by kernel_rfl) (by kernel_rfl) (by kernel_rfl) (fun _ _ _ h => h) (Or.inl ⟨by rfl, ?_⟩) hH ?_
  rotate_left
  · ((intro w hw; clear hw; go_simp) <;> with_reducible rfl)
  simp only [Act.put, List.getElem_toArray, List.getElem_cons_zero, List.getElem_cons_succ, List.setIfInBounds_toArray, List.set_cons_zero, List.set_cons_succ]
  refine wpAnyH_take (i := 5) (v := ?_) rfl (by kernel_rfl) (by kernel_rfl) (by kernel_rfl) (fun _ _ _ h => h) (Or.inl ⟨by rfl, ?_⟩) hH ?_
  rotate_left
  · ((intro w hw; clear hw; go_simp) <;> with_reducible rfl)
  simp only [Act.put, List.getElem_toArray, List.getElem_cons_zero, List.getElem_cons_succ, List.setIfInBounds_toArray, List.set_cons_zero, List.set_cons_succ]
  refine wpAnyH_take (i := 6) (v := ?_) rfl (by kernel_rfl) (by kernel_rfl) (by kernel_rfl) (fun _ _ _ h => h) (Or.inl ⟨by rfl, ?_⟩) hH ?_
  rotate_left
  · ((intro w hw; clear hw; go_simp) <;> with_reducible rfl)
  simp only [Act.put, List.getElem_toArray, List.getElem_cons_zero, List.getElem_cons_succ, List.setIfInBounds_toArray, List.set_cons_zero, List.set_cons_succ]
  refine wpAnyH_take (i := 7) (v := ?_) rfl (by kernel_rfl) (by kernel_rfl) (by kernel_rfl) (fun _ _ _ h => h) (Or.inl ⟨by rfl, ?_⟩) hH ?_
  rotate_left
  · ((intro w hw; clear hw; go_simp) <;> with_reducible rfl)
  simp only [Act.put, List.getElem_toArray, List.getElem_cons_zero, List.getElem_cons_succ, List.setIfInBounds_toArray, List.set_cons_zero, List.set_cons_succ]
  refine wpAnyH_take (i := 8) (v := ?_) rfl (by kernel_rfl) (by kernel_rfl) (by kernel_rfl) (fun _ _ _ h => h) (Or.inl ⟨by rfl, ?_⟩) hH ?_
  rotate_left
  · ((intro w hw; clear hw; go_simp) <;> with_reducible rfl)
  simp only [Act.put, List.getElem_toArray, List.getElem_cons_zero, List.getElem_cons_succ, List.setIfInBounds_toArray, List.set_cons_zero, List.set_cons_succ]
  refine wpAnyH_take (i := 9) (v := ?_) rfl (by kernel_rfl) (by kernel_rfl) (by kernel_rfl) (fun _ _ _ h => h) (Or.inl ⟨by rfl, ?_⟩) hH ?_
  rotate_left
  · ((intro w hw; clear hw; go_simp) <;> with_reducible rfl)
  simp only [Act.put, List.getElem_toArray, List.getElem_cons_zero, List.getElem_cons_succ, List.setIfInBounds_toArray, List.set_cons_zero, List.set_cons_succ]
  refine wpAnyH_take (i := 11) (v := ?_) rfl (by kernel_rfl) (by kernel_rfl) (by kernel_rfl) (fun _ _ _ h => h) (Or.inl ⟨by rfl, ?_⟩) hH ?_
  rotate_left
  · ((intro w hw; clear hw; go_simp) <;> with_reducible rfl)
  simp only [Act.put, List.getElem_toArray, List.getElem_cons_zero, List.getElem_cons_succ, List.setIfInBounds_toArray, List.set_cons_zero, List.set_cons_succ]
  refine wpAnyH_ready (rs := [1]) (by kernel_rfl) (by simp) ?_
  refine AllReadyH.cons (o := _) rfl (fun K hK => ?_) AllReadyH.nil
  simp only [List.getElem_toArray, List.getElem_cons_zero, List.getElem_cons_succ]
  go_simp
  with_reducible refine (of_any A n c l w5.drew hl5d).mono ?_
  rintro e w6 ⟨rfl, bw6⟩
  dsimp only
  have bel6 := bel5.drew.trans (bw6.mono bel5.size)
  have hm6 := (hm3.keep (w' := w5.drew) fun _ _ _ h => h).below bw6
  have hD6 := (hD.keep (w' := w5.drew) fun _ _ _ h => h).below bw6
  have ht6 := ht.below bel6
  refine hK.out _ _ trivial (fun _ => ?_)
  clear hK K bel5 bw6 hm3 hD ht5 hl5 hl5d
  refine wpAnyH_ready (rs := [10]) (by kernel_rfl) (by simp) ?_
  refine AllReadyH.cons (o := _) rfl (fun K hK => ?_) AllReadyH.nil
  simp only [List.getElem_toArray, List.getElem_cons_zero, List.getElem_cons_succ]
  go_simp
  with_reducible refine (turn_any (ck l) A3 B m c3 m d _ t _ (by omega) (by omega) hm6 ht6).mono ?_
  rintro e w7 ⟨rfl, bw7⟩
  dsimp only
  have bel7 := bel6.trans (bw7.mono bel6.size)
  have hD7 := hD6.below bw7
  refine hK.out _ _ trivial (fun _ => ?_)
  clear hK K bel6 bw7 hm6 hD6 ht6
  refine wpAnyH_ready (rs := [12]) (by kernel_rfl) (by simp) ?_
  refine AllReadyH.cons (o := _) rfl (fun K hK => ?_) AllReadyH.nil
  simp only [List.getElem_toArray, List.getElem_cons_zero, List.getElem_cons_succ]
  go_simp
  with_reducible refine (of_any D _ cd _ _ hD7).mono ?_
  rintro e w8 ⟨rfl, bw8⟩
  dsimp only
  have bel8 := bel7.trans (bw8.mono bel7.size)
  refine hK.out _ _ trivial (fun _ => ?_)
  clear hK K bel7 bw8 hD7
  refine wpAnyH_take (i := 13) (v := ?_) rfl (by kernel_rfl) (by kernel_rfl) (by kernel_rfl) (fun _ _ _ h => h) (Or.inl ⟨by rfl, ?_⟩) trivial ?_
  rotate_left
  · ((intro w hw; clear hw; go_simp) <;> with_reducible rfl)
  simp only [Act.put, List.getElem_toArray, List.getElem_cons_zero, List.getElem_cons_succ, List.setIfInBounds_toArray, List.set_cons_zero, List.set_cons_succ]
  refine wpAnyH_take (i := 14) (v := ?_) rfl (by kernel_rfl) (by kernel_rfl) (by kernel_rfl) (fun _ _ _ h => h) (Or.inl ⟨by rfl, ?_⟩) trivial ?_
  rotate_left
  · ((intro w hw; clear hw; go_simp) <;> with_reducible rfl)
  simp only [Act.put, List.getElem_toArray, List.getElem_cons_zero, List.getElem_cons_succ, List.setIfInBounds_toArray, List.set_cons_zero, List.set_cons_succ]
  refine wpAnyH_done (by kernel_rfl) ?_ _
  have q1 := ck_bounds R
  rcases TR.out with h | ⟨h, h0 | h0⟩
  · rw [h]
    generalize ck R = y at *
    have e1 : (y == y) = true := by simp
    clear h TR
    go_wp2
    go_ret
    exact ⟨rfl, bel8⟩
  · rw [h0] at h
    have hy : ck R = 65535 := by omega
    rw [h0, hy]
    clear h TR h0 hy q1
    go_wp2
    go_ret
    exact ⟨rfl, bel8⟩
  · rw [h0] at h
    have hy : tk (ck l) ((l.drop p).take m) t = 65535 := by omega
    rw [h0, hy]
    clear h TR h0 hy q1
    go_wp2
    go_ret
    exact ⟨rfl, bel8⟩

set_option maxHeartbeats 2000000 in
theorem sumTurns_walk (A : Option Addr) (n c : Nat) (l : List UInt8) (p : Int) (B : Option Addr) (m d : Nat) (t : List UInt8) (w : World) (hl : Sl w A n c l) (ht : Sl w B m d t) :
    Calls Try.prog 5 #[.slice A n c, .int .i64 p, .slice B m d] w fun e w' => e = .returned (.bool true) ∧ Below w.heap.size w w' := by
  have n0 : (0 : Int) ≤ n := by omega
  have m0 : (0 : Int) ≤ m := by omega
  have n9 := hl.2.1
  have n8 := hl.2.2.1
  have m9 := ht.2.1
  have m8 := ht.2.2.1
  unfold maxLen at n8 m8
  by_cases hg : n ≤ 400 ∧ 0 ≤ p ∧ p % 2 = 0 ∧ m % 2 = 0 ∧ p ≤ (n : Int) ∧ (m : Int) ≤ n - p
  · obtain ⟨h1, h2, h3, h4, h5, h6⟩ := hg
    obtain ⟨p, rfl⟩ := Int.eq_ofNat_of_zero_le h2
    exact turns_in A n c l p B m d t w hl ht h1 (by omega) h4 (by omega) (by omega)
  · clear hl ht
    rcases (by omega : (400 < n) ∨ (n ≤ 400 ∧ p < 0) ∨ (n ≤ 400 ∧ 0 ≤ p ∧ p % 2 = 1) ∨ (n ≤ 400 ∧ 0 ≤ p ∧ p % 2 = 0 ∧ m % 2 = 1) ∨ (n ≤ 400 ∧ 0 ≤ p ∧ p % 2 = 0 ∧ m % 2 = 0 ∧ (n : Int) < p) ∨ (n ≤ 400 ∧ 0 ≤ p ∧ p % 2 = 0 ∧ m % 2 = 0 ∧ p ≤ (n : Int) ∧ (n : Int) - p < m)) with h | h | h | h | h | h
    · have g0 : (400 : Int) < n := by omega
      clear hg h n9 n8 m9 m8
      go_enter Try.func5, Try.ntmps5
      go_wp2_with fail
      refine (awake_any _).mono ?_
      rintro e w1 ⟨rfl, bel1⟩
      go_wp2
      go_ret
      exact ⟨rfl, bel1⟩
    · have g0 : (n : Int) ≤ 400 := by omega
      have g1 : p < 0 := by omega
      clear hg h n9 n8 m9 m8
      go_enter Try.func5, Try.ntmps5
      go_wp2_with fail
      refine (awake_any _).mono ?_
      rintro e w1 ⟨rfl, bel1⟩
      go_wp2
      go_ret
      exact ⟨rfl, bel1⟩
    · have g0 : (n : Int) ≤ 400 := by omega
      have g1 : 0 ≤ p := by omega
      have g2 : bits .and .i64 p 1 = 1 := by rw [i64_and1]; omega
      clear hg h n9 n8 m9 m8
      go_enter Try.func5, Try.ntmps5
      go_wp2_with fail
      refine (awake_any _).mono ?_
      rintro e w1 ⟨rfl, bel1⟩
      go_wp2
      go_ret
      exact ⟨rfl, bel1⟩
    · have g0 : (n : Int) ≤ 400 := by omega
      have g1 : 0 ≤ p := by omega
      have g2 : bits .and .i64 p 1 = 0 := by rw [i64_and1]; omega
      have g3 : bits .and .i64 (m : Int) 1 = 1 := by rw [i64_and1]; omega
      clear hg h n9 n8 m9 m8
      go_enter Try.func5, Try.ntmps5
      go_wp2_with fail
      refine (awake_any _).mono ?_
      rintro e w1 ⟨rfl, bel1⟩
      go_wp2
      go_ret
      exact ⟨rfl, bel1⟩
    · have g0 : (n : Int) ≤ 400 := by omega
      have g1 : 0 ≤ p := by omega
      have g2 : bits .and .i64 p 1 = 0 := by rw [i64_and1]; omega
      have g3 : bits .and .i64 (m : Int) 1 = 0 := by rw [i64_and1]; omega
      have g4 : (n : Int) < p := by omega
      clear hg h n9 n8 m9 m8
      go_enter Try.func5, Try.ntmps5
      go_wp2_with fail
      refine (awake_any _).mono ?_
      rintro e w1 ⟨rfl, bel1⟩
      go_wp2
      go_ret
      exact ⟨rfl, bel1⟩
    · have g0 : (n : Int) ≤ 400 := by omega
      have g1 : 0 ≤ p := by omega
      have g2 : bits .and .i64 p 1 = 0 := by rw [i64_and1]; omega
      have g3 : bits .and .i64 (m : Int) 1 = 0 := by rw [i64_and1]; omega
      have g4 : p ≤ (n : Int) := by omega
      have g5 : (n : Int) - p < m := by omega
      clear hg h n9 n8 m9 m8
      go_enter Try.func5, Try.ntmps5
      go_wp2_with fail
      refine (awake_any _).mono ?_
      rintro e w1 ⟨rfl, bel1⟩
      go_wp2
      go_ret
      exact ⟨rfl, bel1⟩
end Go.Proofs.Ytbmngljendanlaa
