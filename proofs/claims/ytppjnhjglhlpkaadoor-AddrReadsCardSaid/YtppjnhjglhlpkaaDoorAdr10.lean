/- The contracts of addr's Text and NetText. -/
import Derived.Test.YtppjnhjglhlpkaaDoorAdr6
import Derived.Test.YtppjnhjglhlpkaaDoorAdr9
import Derived.Test.YtppjnhjglhlpkaaDoorRef3a
import Derived.Test.YtppjnhjglhlpkaaDoorRef3n
import Derived.Test.YtppjnhjglhlpkaaDoorShelf
import Derived.Lib.ItoaLen
import Derived.BigCall
namespace Go.Proofs.YtppjnhjglhlpkaaDoor
open Go.RowKit

theorem dec_eq : ∀ n : Nat, Lib.decDigits n = decT n := by
  intro n
  induction n using Nat.strongRecOn with
  | _ n ih =>
    rw [Lib.decDigits]
    by_cases h : n < 10
    · rw [dif_pos h, decT_small h]; rfl
    · rw [dif_neg h, decT_more h, ih (n / 10) (by omega)]; rfl
theorem itoa_nat (n : Nat) : Lib.itoa (n : Int) = decT n := by
  unfold Lib.itoa
  rw [if_neg (by omega), Int.toNat_natCast, dec_eq]
/-- The text of the first k numbers of an address. -/
def adK (l : List UInt8) : Nat → List UInt8
  | 0 => []
  | k + 1 => adK l k ++ (if 0 < k then [46] else []) ++ decT (l.getD k 0).toNat
theorem adK_len (l : List UInt8) : ∀ k, (adK l k).length ≤ 4 * k
  | 0 => by simp [adK]
  | k + 1 => by
    have := adK_len l k
    have := byte_len (l.getD k 0)
    rw [adK]
    split <;> simp only [List.length_append, List.length_singleton, List.length_nil] <;> omega
theorem adK_four (a b c d : UInt8) : adK [a, b, c, d] 4 = adT a b c d := by simp [adK, adT]
theorem idx4k (a b c d : UInt8) (k : Nat) (hk : k < 4) (W : World) : (Instr.index 24 (.agg #[.int .u8 (a.toNat : Int), .int .u8 (b.toNat : Int), .int .u8 (c.toNat : Int), .int .u8 (d.toNat : Int)]) (.int .i64 (k : Int))).run Tryd.prog W = .ok (.int .u8 (([a, b, c, d].getD k 0).toNat : Int)) W := by
  have h := idx4 (.int .u8 (a.toNat : Int)) (.int .u8 (b.toNat : Int)) (.int .u8 (c.toNat : Int)) (.int .u8 (d.toNat : Int)) W
  rcases (by omega : k = 0 ∨ k = 1 ∨ k = 2 ∨ k = 3) with rfl | rfl | rfl | rfl
  · exact h.1
  · exact h.2.1
  · exact h.2.2.1
  · exact h.2.2.2
/-- The library's table of powers of ten lies as it is laid. -/
def Tab (w : World) : Prop := Lib.TabIs Tryd.prog w (Rows.addrKnownRow.laid.getD 2 ("", .nil)).1 .u64 Lib.pow10Tab
theorem Tab.below {w w' : World} (h : Tab w) (hb : Below w.heap.size w w') : Tab w' := (Lib.tabBelow_of_tabIs h) w' hb
theorem append_dec (B n : Nat) (i : Nat) (hi : i < 256) (sv : Value) (L : List UInt8) (w0 w : World) (hT : Tab w0) (hB : B = w0.heap.size) (bel : Below B w0 w) (hown : w.ownsRow B 5 1 sv n (L.map u8v)) (hlim : n ≤ 1000) :
    Calls Tryd.prog 40 #[sv, .int .i64 (i : Int), .int .i64 10] w fun e w' => ∃ v', e = .returned v' ∧ w'.ownsRow B 5 1 v' (n + (decT i).length) ((L ++ decT i).map u8v) ∧ Below B w w' := by
  subst hB
  have hT' : Lib.TabBelow Tryd.prog w0.heap.size w0 (Rows.addrKnownRow.laid.getD 2 ("", .nil)).1 .u64 Lib.pow10Tab := Lib.tabBelow_of_tabIs hT
  refine (Tryd.strconv_AppendInt_10 w0.heap.size n (i : Int) (by omega) (by omega) sv (L.map u8v) w hown bel.size (by omega) (hT'.on bel)).mono ?_
  rintro e w' ⟨v', rfl, h1, h2, _⟩
  refine ⟨v', rfl, ?_, h2⟩
  rw [itoa_nat] at h1
  rw [List.map_append]
  exact h1

set_option maxRecDepth 100000 in
set_option maxHeartbeats 4000000 in
theorem atext_any (a b c d : UInt8) (w : World) (hT : Tab w) :
    Calls Tryd.prog 24 #[.agg #[.int .u8 (a.toNat : Int), .int .u8 (b.toNat : Int), .int .u8 (c.toNat : Int), .int .u8 (d.toNat : Int)]] w fun e w' => e = .returned (.string ⟨(adT a b c d).toArray⟩) ∧ Below w.heap.size w w' := by
  obtain ⟨ii, hii, hz0, hz1, hz2⟩ := info_parts Tryd.info_u8
  have bel0 := (Below.refl w.heap.size w).alloc (Nat.le_refl _) (.cells #[.int .u8 (a.toNat : Int), .int .u8 (b.toNat : Int), .int .u8 (c.toNat : Int), .int .u8 (d.toNat : Int)] 24)
  have IX := Lib.hid fun k hk W => idx4k a b c d k hk W
  have HE := Lib.hid (adK_four a b c d)
  obtain ⟨l, hl⟩ : ∃ l, Hid ([a, b, c, d] = l) := ⟨_, Lib.hid rfl⟩
  rw [hl.out] at IX HE
  have HT := Lib.hid hT
  clear hT
  go_enter Tryd.func24, Tryd.ntmps24
  go_wp2
  go_loopw [3, 7] (fun v i wr => ∃ (k : Nat) (j : Int) (v0 : Value), v0 = v ∧ k ≤ 4 ∧ i = .int .i64 j ∧ j = (k : Int) ∧ wr.ownsRow w.heap.size 5 1 v (adK l k).length ((adK l k).map u8v) ∧ Below w.heap.size w wr) (fun _ i _ => 4 - (intOf i).toNat)
  case atStart => exact ⟨0, 0, _, rfl, by omega, rfl, rfl, World.ownsRow_nil _ _ _ _, bel0⟩
  case round =>
    obtain ⟨k, j, v, rfl, hk, rfl, hj, hown, bel⟩ := hrel
    have HJ := Lib.hid hj
    by_cases hlt : k < 4
    · have ix := IX.out k hlt
      rw [← hj] at ix
      have j6 : j < 4 := by omega
      have j0 : 0 ≤ j := by omega
      have hln := adK_len l k
      obtain ⟨x, hx⟩ : ∃ x, Hid (l.getD k 0 = x) := ⟨_, Lib.hid rfl⟩
      rw [hx.out] at ix
      have hm1 : Hid (adK l (k + 1) = adK l k ++ (if 0 < k then [46] else []) ++ decT x.toNat) := Lib.hid (by rw [← hx.out]; rfl)
      have hxl := x.toNat_lt
      have c0 : (0 : Int) ≤ x.toNat := by omega
      have c1 : (x.toNat : Int) < 256 := by omega
      generalize adK l k = L at *
      by_cases hp : k = 0
      · subst hp
        obtain rfl : j = 0 := by omega
        clear hj j6 j0
        have hm2 : Hid (adK l 1 = L ++ decT x.toNat) := Lib.hid (by have := hm1.out; simpa using this)
        have hap := append_dec w.heap.size _ x.toNat hxl v L w wr HT.out rfl bel hown (by omega)
        have HAP := Lib.hid hap
        clear hm1 hap
        go_wp2_with fail
        with_reducible refine (HAP.out).mono ?_
        rintro e w3 ⟨v3, rfl, hown3, bel3⟩
        have bel4 := bel.trans bel3
        clear hown bel bel3
        go_wp2
        go_roundw
        case rel => exact ⟨1, _, _, rfl, by omega, rfl, by have := HJ.out; omega, by rw [hm2.out, List.length_append]; exact hown3, bel4⟩
        case measure => simp [intOf]
      · have z1 : (0 : Int) < j := by omega
        clear hj
        have hm2 : Hid (adK l (k + 1) = (L ++ [46]) ++ decT x.toNat) := Lib.hid (by have := hm1.out; rw [if_pos (by omega)] at this; exact this)
        clear hm1
        have m1 := made_one 46 wr
        go_wp2_with (at_builtin; refine wpList_append_bytes _ rfl (.tmp 13) (.tmp 14) 72 rfl w.heap.size 5 ii (.int .u8 0) Tryd.underlying72 hii hz0 hz1 hz2 rfl _ _ L rfl (hown.alloc _) _ 1 1 [46] rfl m1 (by omega) (by have := bel.size; simp; omega) ?_)
        intro v' w1 hown1 hg1 hat1
        replace hown1 : w1.ownsRow w.heap.size 5 1 v' (L.length + 1) ((L ++ [46]).map u8v) := by rw [List.map_append]; exact hown1
        obtain ⟨bel1, _, _⟩ := own_grown (bel.alloc bel.size _) (by have := bel.size; simp; omega) (fun k h => (hown.lt k h).1) hg1 (by simpa using hat1)
        have hap := append_dec w.heap.size _ x.toNat hxl v' (L ++ [46]) w w1 HT.out rfl bel1 hown1 (by omega)
        have HAP := Lib.hid hap
        clear hown hg1 hat1 bel m1 hap
        go_wp2_with fail
        with_reducible refine (HAP.out).mono ?_
        rintro e w3 ⟨v3, rfl, hown3, bel3⟩
        have bel4 := bel1.trans bel3
        clear hown1 bel1 bel3
        go_wp2
        go_roundw
        case rel => exact ⟨k + 1, _, _, rfl, by omega, rfl, by have := HJ.out; omega, by rw [hm2.out, List.length_append, List.length_append]; exact hown3, bel4⟩
        case measure => simp [intOf]; omega
    · obtain rfl : k = 4 := by omega
      obtain rfl : j = 4 := hj
      rw [HE.out] at hown
      obtain ⟨A, cc, rfl, hsl⟩ := Sl.of_own hown
      have st := hsl.str (P := Tryd.prog) 72 5 9 Tryd.underlying72 Tryd.underlying5 Tryd.underlying9
      clear hown hsl
      go_wp2
      go_ret
      exact ⟨rfl, bel⟩

theorem adT_len' (a b c d : UInt8) : (adT a b c d).length ≤ 15 := by
  have := byte_len a; have := byte_len b; have := byte_len c; have := byte_len d
  unfold adT
  simp only [List.length_append, List.length_singleton]
  omega
set_option maxRecDepth 100000 in
set_option maxHeartbeats 4000000 in
theorem anettext_any (a b c d : UInt8) (n : Nat) (hn : n < 100) (w : World) (hT : Tab w) :
    Calls Tryd.prog 29 #[.agg #[.int .u8 (a.toNat : Int), .int .u8 (b.toNat : Int), .int .u8 (c.toNat : Int), .int .u8 (d.toNat : Int), .int .i64 (n : Int)]] w fun e w' => e = .returned (.string ⟨(adT a b c d ++ [47] ++ decT n).toArray⟩) ∧ Below w.heap.size w w' := by
  have HT := Lib.hid hT
  have HTX := Lib.hid fun W h => atext_any a b c d W h
  have HIT' := fun W => Tryd.strconv_Itoa_small n hn W
  rw [dec_eq] at HIT'
  have HIT : Hid (∀ W, Calls Tryd.prog 43 #[.int .i64 (n : Int)] W fun e w' => e = .returned (.string ⟨(decT n).toArray⟩) ∧ W = w') := Lib.hid fun W => (HIT' W).mono fun e w' h => ⟨h.1, h.2.symm⟩
  have l1 := adT_len' a b c d
  have l2 := decT_len 1 n (by omega)
  have A1 := add_run (adT a b c d) [47] (by omega) (by simp)
  have A2 := add_run (adT a b c d ++ [47]) (decT n) (by rw [List.length_append, List.length_singleton]; omega) (by omega)
  have hb0 := heap_alloc_new w (.cells #[.int .u8 (a.toNat : Int), .int .u8 (b.toNat : Int), .int .u8 (c.toNat : Int), .int .u8 (d.toNat : Int), .int .i64 (n : Int)] 29)
  have bel : Below w.heap.size w (w.alloc (.cells #[.int .u8 (a.toNat : Int), .int .u8 (b.toNat : Int), .int .u8 (c.toNat : Int), .int .u8 (d.toNat : Int), .int .i64 (n : Int)] 29)) := (Below.refl _ w).alloc (Nat.le_refl _) _
  have hz0 : w.heap.size < (w.alloc (.cells #[.int .u8 (a.toNat : Int), .int .u8 (b.toNat : Int), .int .u8 (c.toNat : Int), .int .u8 (d.toNat : Int), .int .i64 (n : Int)] 29)).heap.size := by simp
  obtain ⟨⟨s0, s1, s2, s3, s4⟩, _⟩ := cells5 hb0
  clear hb0 l1 l2 HIT' hT
  go_enter Tryd.func29, Tryd.ntmps29
  go_wp2_with fail
  generalize w.alloc (.cells #[.int .u8 (a.toNat : Int), .int .u8 (b.toNat : Int), .int .u8 (c.toNat : Int), .int .u8 (d.toNat : Int), .int .i64 (n : Int)] 29) = w2 at s0 s1 s2 s3 s4 bel hz0 ⊢
  refine wp_region_held_drew (S := fun W => W.cell? ⟨w.heap.size, 0, none⟩ = some (.int .u8 (a.toNat : Int)) ∧ W.cell? ⟨w.heap.size, 1, none⟩ = some (.int .u8 (b.toNat : Int)) ∧ W.cell? ⟨w.heap.size, 2, none⟩ = some (.int .u8 (c.toNat : Int)) ∧ W.cell? ⟨w.heap.size, 3, none⟩ = some (.int .u8 (d.toNat : Int)) ∧ W.cell? ⟨w.heap.size, 4, none⟩ = some (.int .i64 (n : Int))) (by kernel_rfl) ⟨s0, s1, s2, s3, s4⟩ (fun hH => ?_)
  refine wpAnyH_take (i := 0) (v := ?_) rfl (by kernel_rfl) (by kernel_rfl) (by kernel_rfl) (fun _ _ _ h => h) (Or.inl ⟨by rfl, ?_⟩) hH ?_
  rotate_left
  · ((intro W hW; obtain ⟨s0, s1, s2, s3, s4⟩ := hW; go_simp) <;> with_reducible rfl)
  simp only [Act.put, List.getElem_toArray, List.getElem_cons_zero, List.setIfInBounds_toArray, List.set_cons_zero, List.set_cons_succ]
  refine wpAnyH_take (i := 1) (v := ?_) rfl (by kernel_rfl) (by kernel_rfl) (by kernel_rfl) (fun _ _ _ h => h) (Or.inl ⟨by rfl, ?_⟩) hH ?_
  rotate_left
  · ((intro W hW; obtain ⟨s0, s1, s2, s3, s4⟩ := hW; go_simp) <;> with_reducible rfl)
  simp only [Act.put, List.getElem_toArray, List.getElem_cons_zero, List.getElem_cons_succ, List.setIfInBounds_toArray, List.set_cons_zero, List.set_cons_succ]
  refine wpAnyH_take (i := 4) (v := ?_) rfl (by kernel_rfl) (by kernel_rfl) (by kernel_rfl) (fun _ _ _ h => h) (Or.inl ⟨by rfl, ?_⟩) hH ?_
  rotate_left
  · ((intro W hW; obtain ⟨s0, s1, s2, s3, s4⟩ := hW; go_simp) <;> with_reducible rfl)
  simp only [Act.put, List.getElem_toArray, List.getElem_cons_zero, List.getElem_cons_succ, List.setIfInBounds_toArray, List.set_cons_zero, List.set_cons_succ]
  refine wpAnyH_take (i := 5) (v := ?_) rfl (by kernel_rfl) (by kernel_rfl) (by kernel_rfl) (fun _ _ _ h => h) (Or.inl ⟨by rfl, ?_⟩) hH ?_
  rotate_left
  · ((intro W hW; obtain ⟨s0, s1, s2, s3, s4⟩ := hW; go_simp) <;> with_reducible rfl)
  simp only [Act.put, List.getElem_toArray, List.getElem_cons_zero, List.getElem_cons_succ, List.setIfInBounds_toArray, List.set_cons_zero, List.set_cons_succ]
  refine wpAnyH_ready (rs := [2]) (by kernel_rfl) (by simp) ?_
  refine AllReadyH.cons (o := _) rfl (fun K hK => ?_) AllReadyH.nil
  simp only [List.getElem_toArray, List.getElem_cons_zero, List.getElem_cons_succ]
  go_simp
  with_reducible refine (HTX.out _ (HT.out.below (Below.drew bel))).mono ?_
  rintro e v1 ⟨rfl, b1⟩
  dsimp only
  have bel1 := bel.drew.trans (b1.mono bel.size)
  refine hK.out _ _ ⟨(b1.cell (p := ⟨_, 0, none⟩) hz0).trans hH.1, (b1.cell (p := ⟨_, 1, none⟩) hz0).trans hH.2.1, (b1.cell (p := ⟨_, 2, none⟩) hz0).trans hH.2.2.1, (b1.cell (p := ⟨_, 3, none⟩) hz0).trans hH.2.2.2.1, (b1.cell (p := ⟨_, 4, none⟩) hz0).trans hH.2.2.2.2⟩ (fun hH1 => ?_)
  clear hK K
  replace hz0 := Nat.lt_of_lt_of_le hz0 b1.size
  refine wpAnyH_take (i := 3) (v := ?_) rfl (by kernel_rfl) (by kernel_rfl) (by kernel_rfl) (fun _ _ _ h => h) (Or.inl ⟨by rfl, ?_⟩) hH1 ?_
  rotate_left
  · ((intro W hW; obtain ⟨s0, s1, s2, s3, s4⟩ := hW; go_simp) <;> with_reducible rfl)
  simp only [Act.put, List.getElem_toArray, List.getElem_cons_zero, List.getElem_cons_succ, List.setIfInBounds_toArray, List.set_cons_zero, List.set_cons_succ]
  refine wpAnyH_ready (rs := [6]) (by kernel_rfl) (by simp) ?_
  refine AllReadyH.cons (o := _) rfl (fun K hK => ?_) AllReadyH.nil
  simp only [List.getElem_toArray, List.getElem_cons_zero, List.getElem_cons_succ]
  go_simp
  with_reducible refine (HIT.out _).mono ?_
  rintro e _ ⟨rfl, rfl⟩
  dsimp only
  refine hK.out _ _ hH1 (fun hH2 => ?_)
  clear hK K
  refine wpAnyH_take (i := 7) (v := ?_) rfl (by kernel_rfl) (by kernel_rfl) (by kernel_rfl) (fun _ _ _ h => h) (Or.inl ⟨by rfl, ?_⟩) hH2 ?_
  rotate_left
  · ((intro W hW; obtain ⟨s0, s1, s2, s3, s4⟩ := hW; go_simp) <;> with_reducible rfl)
  simp only [Act.put, List.getElem_toArray, List.getElem_cons_zero, List.getElem_cons_succ, List.setIfInBounds_toArray, List.set_cons_zero, List.set_cons_succ]
  refine wpAnyH_take (i := 8) (v := ?_) rfl (by kernel_rfl) (by kernel_rfl) (by kernel_rfl) (fun _ _ _ h => h) (Or.inl ⟨by rfl, ?_⟩) hH2 ?_
  rotate_left
  · ((intro W hW; obtain ⟨s0, s1, s2, s3, s4⟩ := hW; go_simp) <;> with_reducible rfl)
  simp only [Act.put, List.getElem_toArray, List.getElem_cons_zero, List.getElem_cons_succ, List.setIfInBounds_toArray, List.set_cons_zero, List.set_cons_succ]
  refine wpAnyH_done (by kernel_rfl) ?_ _
  go_wp2
  go_ret
  exact ⟨ret_s (by simp), bel1⟩
end Go.Proofs.YtppjnhjglhlpkaaDoor
