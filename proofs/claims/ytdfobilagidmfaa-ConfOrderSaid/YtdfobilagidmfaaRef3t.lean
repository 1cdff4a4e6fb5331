/- The reference's Text: a number's digits. -/
import Derived.Test.YtdfobilagidmfaaRef3
import Derived.Test.YtdfobilagidmfaaWalkw
import Derived.Deep.RegionHeld3
import Derived.Test.YtdfobilagidmfaaMemz
namespace Go.Proofs.Ytdfobilagidmfaa
open Go.RowKit

/-- A digit's byte. -/
def digT (n : Nat) : UInt8 := UInt8.ofNat (48 + n)
theorem digT_val {n : Nat} (h : n < 10) : (digT n).toNat = 48 + n := by unfold digT; rw [UInt8.toNat_ofNat']; omega
/-- A number's digits. -/
def decT (n : Nat) : List UInt8 := if n < 10 then [digT n] else decT (n / 10) ++ [digT (n % 10)]
decreasing_by omega
theorem decT_small {n : Nat} (h : n < 10) : decT n = [digT n] := by rw [decT, if_pos h]
theorem decT_more {n : Nat} (h : ¬ n < 10) : decT n = decT (n / 10) ++ [digT (n % 10)] := by rw [decT, if_neg h]
theorem decT_len (k : Nat) : ∀ n : Nat, n < 10 ^ (k + 1) → (decT n).length ≤ k + 1 := by
  induction k with
  | zero => intro n h; rw [decT_small (by omega)]; simp
  | succ k ih =>
    intro n h
    by_cases hn : n < 10
    · rw [decT_small hn]; simp
    · rw [decT_more hn, List.length_append]
      have := ih (n / 10) (by rw [Nat.pow_succ] at h; omega)
      simp; omega

theorem size_bs' (l : List UInt8) : (⟨l.toArray⟩ : ByteArray).size = l.length := by simp [ByteArray.size]
theorem Sl.drew' {w : World} {A : Option Addr} {n c : Nat} {l : List UInt8} (h : Sl w A n c l) : Sl w.drew A n c l := h.keep fun _ _ _ hc => hc
theorem wpAnyH_grow' {P : Program} {ops : Array Oper} {Q : Exit → Act → World → Prop} {md : Region.Mode} {S S' : World → Prop} (hs : ∀ w, S' w → S w) :
    ∀ {fuel : Nat} {listed : Array Bool} {a : Act} {w : World}, wpAnyH P md ops Q S' fuel listed a w → wpAnyH P md ops Q S fuel listed a w
  | 0, _, _, _, h => h
  | _ + 1, _, _, _, h => ⟨h.1, fun i hi => wpOp_mono (fun _ w' h' => ⟨hs w' h'.1, wpAnyH_grow' hs h'.2⟩) (h.2 i hi)⟩
theorem exec_convert' {P : Program} {o : Oper} {a : Act} {src dst : TypeId} {x : Operand} {val v : Value} {w : World} (ho : o.op = .convert src dst x) (hx : a.eval x = val) (h : (convert src dst val).run P w = .ok v w) :
    (execOp a.eval o).run P w = .ok (.value v) w := by
  subst hx
  simp [execOp, ho, h, Result.andThen]

theorem made_dig (d : UInt8) (x : Int) (hx : x = (d.toNat : Int)) (w : World) : Sl (w.alloc (.cells #[.int .u8 x] 5)) (some ⟨w.heap.size, 0, none⟩) 1 1 [d] := by
  subst hx; exact Sl.made w 5 [d] (by simp [maxLen])

set_option maxRecDepth 100000 in
set_option maxHeartbeats 2000000 in
theorem rtext_any (k : Nat) (hk : k ≤ 17) : ∀ (n : Nat) (w : World), n < 10 ^ (k + 1) →
    Calls Try.prog 13 #[.int .i64 (n : Int)] w fun e w' => e = .returned (.string ⟨(decT n).toArray⟩) ∧ Below w.heap.size w w' := by
  induction k with
  | zero =>
    intro n w h
    have hd : n < 10 := by omega
    rw [decT_small hd]
    have n0 : (0 : Int) ≤ n := by omega
    have n1 : (n : Int) < 10 := by omega
    have hm := made_dig (digT n) (48 + n) (by rw [digT_val hd]; omega) w
    have st := hm.str (P := Try.prog) 74 5 9 Try.underlying74 Try.underlying5 Try.underlying9
    have bel := (Below.refl w.heap.size w).alloc (Nat.le_refl _) (.cells #[.int .u8 (48 + (n : Int))] 5)
    clear hm
    go_enter Try.func13, Try.ntmps13
    go_wp2
    go_ret
    exact ⟨rfl, bel⟩
  | succ k ih =>
    intro n w h
    by_cases hn : n < 10
    · exact ih (by omega) n w (by have : (10 : Nat) ^ 1 ≤ 10 ^ (k + 1) := Nat.pow_le_pow_right (by omega) (by omega); omega)
    rw [decT_more hn]
    have h10 : n / 10 < 10 ^ (k + 1) := by rw [Nat.pow_succ] at h; omega
    have hlen := decT_len k (n / 10) h10
    have hb : n < 1000000000000000000 := by
      have : (10 : Nat) ^ (k + 1 + 1) ≤ 10 ^ 18 := Nat.pow_le_pow_right (by omega) (by omega)
      omega
    have n0 : (9 : Int) < n := by omega
    have t1 : decide ((n : Int) < 0) = false := decide_eq_false (by omega)
    have t2 : decide ((n : Int) < 10) = false := decide_eq_false (by omega)
    have n1 : (n : Int) < 1000000000000000000 := by omega
    have hdig := digT_val (n := n % 10) (by omega)
    have IH' := fun W => ih (by omega) (n / 10) W h10
    have hq : IntKind.i64.wrap ((n : Int) / 10) = ((n / 10 : Nat) : Int) := (IntWalk.i64_in _ (by omega)).trans (by omega)
    have ht : (n : Int).tmod 10 = ((n % 10 : Nat) : Int) := by rw [Int.tmod_eq_emod_of_nonneg (by omega)]; omega
    have hr := Nat.mod_lt n (show 0 < 10 by omega)
    generalize n / 10 = q at *
    generalize n % 10 = r at *
    have d0 : (0 : Int) ≤ r := by omega
    have d1 : (r : Int) < 10 := by omega
    have hadd : ∀ W, (Op.stringOp .add ⟨(decT q).toArray⟩ ⟨[digT r].toArray⟩).run Try.prog W = .ok (.string ⟨(decT q ++ [digT r]).toArray⟩) W := fun W => by
      rw [run_string_add_sum W _ _ (by rw [size_bs', size_bs']; simp; omega), ByteArray.mk_append_mk]
    have IH := Lib.hid IH'
    have hwr : IntKind.i64.wrap (48 + (r : Int)) = 48 + (r : Int) := IntWalk.i64_in _ (by omega)
    have hw8 : IntKind.u8.wrap (48 + (r : Int)) = 48 + (r : Int) := by simp [IntKind.wrap, IntKind.signed, IntKind.bits]; omega
    have HD : Hid ((48 + (r : Int)) = ((digT r).toNat : Int)) := Lib.hid (by rw [hdig]; omega)
    clear hdig IH' hr hlen
    clear h hn h10 ih hb
    go_enter Try.func13, Try.ntmps13
    go_wp2_with fail
    refine wp_region_held_drew (S := fun _ => True) (by kernel_rfl) trivial (fun hH => ?_)
    refine wpAnyH_take (i := 0) (v := ?_) rfl (by kernel_rfl) (by kernel_rfl) (by kernel_rfl) (fun _ _ _ h => h) (Or.inl ⟨by rfl, ?_⟩) hH ?_
    rotate_left
    · ((intro w hw; clear hw; go_simp) <;> with_reducible rfl)
    simp only [Act.put, List.getElem_toArray, List.getElem_cons_zero, List.setIfInBounds_toArray, List.set_cons_zero, List.set_cons_succ]
    refine wpAnyH_take (i := 1) (v := ?_) rfl (by kernel_rfl) (by kernel_rfl) (by kernel_rfl) (fun _ _ _ h => h) (Or.inl ⟨by rfl, ?_⟩) hH ?_
    rotate_left
    · ((intro w hw; clear hw; go_simp) <;> with_reducible rfl)
    simp only [Act.put, List.getElem_toArray, List.getElem_cons_zero, List.getElem_cons_succ, List.setIfInBounds_toArray, List.set_cons_zero, List.set_cons_succ]
    refine wpAnyH_take (i := 3) (v := ?_) rfl (by kernel_rfl) (by kernel_rfl) (by kernel_rfl) (fun _ _ _ h => h) (Or.inl ⟨by rfl, ?_⟩) hH ?_
    rotate_left
    · ((intro w hw; clear hw; go_simp) <;> with_reducible rfl)
    simp only [Act.put, List.getElem_toArray, List.getElem_cons_zero, List.getElem_cons_succ, List.setIfInBounds_toArray, List.set_cons_zero, List.set_cons_succ]
    refine wpAnyH_take (i := 4) (v := ?_) rfl (by kernel_rfl) (by kernel_rfl) (by kernel_rfl) (fun _ _ _ h => h) (Or.inl ⟨by rfl, ?_⟩) hH ?_
    rotate_left
    · ((intro w hw; clear hw; go_simp) <;> with_reducible rfl)
    simp only [Act.put, List.getElem_toArray, List.getElem_cons_zero, List.getElem_cons_succ, List.setIfInBounds_toArray, List.set_cons_zero, List.set_cons_succ]
    refine wpAnyH_take (i := 5) (v := ?_) rfl (by kernel_rfl) (by kernel_rfl) (by kernel_rfl) (fun _ _ _ h => h) (Or.inl ⟨by rfl, ?_⟩) hH ?_
    rotate_left
    · ((intro w hw; clear hw; go_simp) <;> with_reducible rfl)
    simp only [Act.put, List.getElem_toArray, List.getElem_cons_zero, List.getElem_cons_succ, List.setIfInBounds_toArray, List.set_cons_zero, List.set_cons_succ]
    refine wpAnyH_take (i := 6) (v := ?_) rfl (by kernel_rfl) (by kernel_rfl) (by kernel_rfl) (fun _ _ _ h => h) (Or.inl ⟨by rfl, ?_⟩) hH ?_
    rotate_left
    · ((intro w hw; clear hw; go_simp) <;> with_reducible rfl)
    simp only [Act.put, List.getElem_toArray, List.getElem_cons_zero, List.getElem_cons_succ, List.setIfInBounds_toArray, List.set_cons_zero, List.set_cons_succ]
    refine wpAnyH_ready (rs := [2, 7]) (by kernel_rfl) (by simp) ?_
    refine AllReadyH.cons (o := _) rfl (fun K hK => ?_) (AllReadyH.cons (o := _) rfl (fun K hK => ?_) AllReadyH.nil)
    · simp only [List.getElem_toArray, List.getElem_cons_zero, List.getElem_cons_succ]
      go_simp
      refine (IH.out _).mono ?_
      rintro e w3 ⟨rfl, bel3⟩
      dsimp only
      have bel3a : Below w.heap.size w w3 := (Below.refl _ w).drew.trans (bel3.mono (Nat.le_refl _))
      refine hK.out _ _ trivial (fun _ => ?_)
      clear hK K
      refine wpAnyH_ready (rs := [7]) (by kernel_rfl) (by simp) ?_
      refine AllReadyH.cons (o := _) rfl (fun K hK => ?_) AllReadyH.nil
      simp only [List.getElem_toArray, List.getElem_cons_zero, List.getElem_cons_succ]
      go_simp
      have hm := made_dig (digT r) _ HD.out w3
      have bel4 := bel3a.alloc bel3a.size (.cells #[.int .u8 (48 + (r : Int))] 5)
      refine hK.out _ _ trivial (fun _ => ?_)
      refine wpAnyH_grow' (S' := fun W => Sl W (some ⟨w3.heap.size, 0, none⟩) 1 1 [digT r]) (fun _ _ => trivial) ?_
      clear hK K
      refine wpAnyH_take (i := 8) (v := .string ⟨[digT r].toArray⟩) rfl (by kernel_rfl) (by kernel_rfl) (by kernel_rfl) (fun _ _ _ h => h) (Or.inl ⟨by rfl, fun W hW => exec_convert' rfl rfl (hW.str 74 5 9 Try.underlying74 Try.underlying5 Try.underlying9)⟩) hm ?_
      simp only [Act.put, List.getElem_toArray, List.getElem_cons_zero, List.getElem_cons_succ, List.setIfInBounds_toArray, List.set_cons_zero, List.set_cons_succ]
      refine wpAnyH_take (i := 9) (v := ?_) rfl (by kernel_rfl) (by kernel_rfl) (by kernel_rfl) (fun _ _ _ h => h) (Or.inl ⟨by rfl, ?_⟩) hm ?_
      rotate_left
      · ((intro w hw; clear hw; go_simp) <;> with_reducible rfl)
      simp only [Act.put, List.getElem_toArray, List.getElem_cons_zero, List.getElem_cons_succ, List.setIfInBounds_toArray, List.set_cons_zero, List.set_cons_succ]
      refine wpAnyH_take (i := 10) (v := ?_) rfl (by kernel_rfl) (by kernel_rfl) (by kernel_rfl) (fun _ _ _ h => h) (Or.inl ⟨by rfl, ?_⟩) hm ?_
      rotate_left
      · ((intro w hw; clear hw; go_simp) <;> with_reducible rfl)
      simp only [Act.put, List.getElem_toArray, List.getElem_cons_zero, List.getElem_cons_succ, List.setIfInBounds_toArray, List.set_cons_zero, List.set_cons_succ]
      refine wpAnyH_done (by kernel_rfl) ?_ _
      go_wp2
      go_ret
      exact ⟨rfl, bel4⟩
    · simp only [List.getElem_toArray, List.getElem_cons_zero, List.getElem_cons_succ]
      go_simp
      have hm : Sl (w.alloc (.cells #[.int .u8 (48 + (r : Int))] 5)).drew (some ⟨w.heap.size, 0, none⟩) 1 1 [digT r] := (made_dig (digT r) _ HD.out w).drew'
      have bel4 : Below w.heap.size w (w.alloc (.cells #[.int .u8 (48 + (r : Int))] 5)).drew := ((Below.refl _ w).alloc (Nat.le_refl _) _).drew
      refine hK.out _ _ trivial (fun _ => ?_)
      refine wpAnyH_grow' (S' := fun W => Sl W (some ⟨w.heap.size, 0, none⟩) 1 1 [digT r]) (fun _ _ => trivial) ?_
      clear hK K
      refine wpAnyH_take (i := 8) (v := .string ⟨[digT r].toArray⟩) rfl (by kernel_rfl) (by kernel_rfl) (by kernel_rfl) (fun _ _ _ h => h) (Or.inl ⟨by rfl, fun W hW => exec_convert' rfl rfl (hW.str 74 5 9 Try.underlying74 Try.underlying5 Try.underlying9)⟩) hm ?_
      simp only [Act.put, List.getElem_toArray, List.getElem_cons_zero, List.getElem_cons_succ, List.setIfInBounds_toArray, List.set_cons_zero, List.set_cons_succ]
      refine wpAnyH_ready (rs := [2]) (by kernel_rfl) (by simp) ?_
      refine AllReadyH.cons (o := _) rfl (fun K hK => ?_) AllReadyH.nil
      simp only [List.getElem_toArray, List.getElem_cons_zero, List.getElem_cons_succ]
      go_simp
      refine (IH.out _).mono ?_
      rintro e w3 ⟨rfl, bel3⟩
      dsimp only
      have bel5 := bel4.trans (bel3.mono bel4.size)
      refine hK.out _ _ (hm.below bel3) (fun hm3 => ?_)
      clear hK K hm
      refine wpAnyH_take (i := 9) (v := ?_) rfl (by kernel_rfl) (by kernel_rfl) (by kernel_rfl) (fun _ _ _ h => h) (Or.inl ⟨by rfl, ?_⟩) hm3 ?_
      rotate_left
      · ((intro w hw; clear hw; go_simp) <;> with_reducible rfl)
      simp only [Act.put, List.getElem_toArray, List.getElem_cons_zero, List.getElem_cons_succ, List.setIfInBounds_toArray, List.set_cons_zero, List.set_cons_succ]
      refine wpAnyH_take (i := 10) (v := ?_) rfl (by kernel_rfl) (by kernel_rfl) (by kernel_rfl) (fun _ _ _ h => h) (Or.inl ⟨by rfl, ?_⟩) hm3 ?_
      rotate_left
      · ((intro w hw; clear hw; go_simp) <;> with_reducible rfl)
      simp only [Act.put, List.getElem_toArray, List.getElem_cons_zero, List.getElem_cons_succ, List.setIfInBounds_toArray, List.set_cons_zero, List.set_cons_succ]
      refine wpAnyH_done (by kernel_rfl) ?_ _
      go_wp2
      go_ret
      exact ⟨rfl, bel5⟩
end Go.Proofs.Ytdfobilagidmfaa
