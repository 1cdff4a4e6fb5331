/- Texts put together: Pt3, Nrs, Pt4, Nrk. -/
import Derived.Test.YtbdaejodbcjmfaaGreatK1
import Derived.Test.YtbdaejodbcjmfaaGreatK3
import Derived.Lib.Overlaps
import Derived.Laws.Externs
import Derived.Maps.Keyed
import Derived.Maps.Own
import Derived.Carry
namespace Go.Proofs.YtbdaejodbcjmfaaGreat
open Go.RowKit
set_option linter.unusedVariables false
set_option linter.unusedSimpArgs false
set_option maxRecDepth 100000
set_option maxHeartbeats 16000000

/-- A pointer to a mapping, or to none. -/
def bptr (g : Nat) (a : Option Nat) : Option Addr := a.map (fun i => ⟨g, i * 9, none⟩)
theorem bestF_none {pr p : Int} {ad : Ad4} {l : List Mp} {j : Nat} {e : Mp} (he : l[j]? = some e) (h : bestF pr ad p l j = none) : bestF pr ad p l (j + 1) = if forB pr ad p e = true then some j else none := by
 rw [bestF, he]
 simp only [betB, h, Bool.and_true]
theorem bestF_some {pr p : Int} {ad : Ad4} {l : List Mp} {j i : Nat} {e x : Mp} (he : l[j]? = some e) (h : bestF pr ad p l j = some i) (hx : l[i]? = some x) : bestF pr ad p l (j + 1) = if (forB pr ad p e && decide (e.rank < x.rank)) = true then some j else some i := by
 rw [bestF, he]
 simp only [betB, h, hx]
theorem bestF_no {pr p : Int} {ad : Ad4} {l : List Mp} {j : Nat} {e : Mp} (he : l[j]? = some e) (h : forB pr ad p e = false) : bestF pr ad p l (j + 1) = bestF pr ad p l j := by
 rw [bestF, he]
 simp only [betB, h, Bool.false_and, Bool.false_eq_true, if_false]
theorem bf_none_pos {gt mb n c : Nat} {lw rm now : Int} {l : List Mp} {gE : Nat} {pr p : Int} {ad : Ad4} (w : World) (htb : w.heap[gt]? = some (.cells #[.int .i64 lw, .int .i64 rm, .int .i64 now, .slice (some ⟨gE, 0, none⟩) n c, .map (some mb)] 76 (0, 0))) (en : Sle mpE 9 w (some ⟨gE, 0, none⟩) n c l) (h32 : n ≤ 1000) (av_en_tb : Av (some ⟨gE, 0, none⟩) n gt) (hE : bestF pr ad p l n = none) : Calls Tryz.prog 135 #[.pointer (some ⟨gt, 0, none⟩), .agg #[.int .i64 pr, .int .u8 (ad.a.toNat : Int), .int .u8 (ad.b.toNat : Int), .int .u8 (ad.c.toNat : Int), .int .u8 (ad.d.toNat : Int), .int .i64 p]] w fun e w' => e = .returned (.pointer none) ∧ Below w.heap.size w w' := by
 have HLL : Hid (l.length = n) := Lib.hid en.1
 have n0 : (0 : Int) ≤ n := by omega
 have n1 : (n : Int) ≤ 1000 := by omega
 have HE := Lib.hid hE
 clear hE
 have bel := Below.refl w.heap.size w
 go_enter Tryz.func135, Tryz.ntmps135
 go_wp2_with (first | ((with_reducible show wpList _ _ _ (⟨some 3, _, _, _, _, _⟩ :: _) _ _); refine wpList_box_n rfl 164 (.tmp 1) rfl #[.int .i64 pr, .int .u8 (ad.a.toNat : Int), .int .u8 (ad.b.toNat : Int), .int .u8 (ad.c.toNat : Int), .int .u8 (ad.d.toNat : Int), .int .i64 p] rfl ?_; intro g3 w1 ge lt hh bb; have d_tb_fb := ne_new (hlt htb) ge; have av_en_fb := en.av_new ge; have ofb := Nat.le_trans bel.size ge; replace htb := blk_u htb bb; replace en := en.below bb; replace bel := bel.trans (bb.mono bel.size); have hfb := hh; clear hh lt ge bb; have R11 := cell_lit htb 3 _ rfl))
 try clear R11
 go_loopg [13, 5] (n) (fun gk s13 s5 wr => ∃ k : Nat, gk = n - k ∧ k ≤ n ∧ s13 = .int .i64 (k : Int) ∧ s5 = .pointer (bptr gE (bestF pr ad p l k)) ∧ wr.heap[gt]? = some (.cells #[.int .i64 lw, .int .i64 rm, .int .i64 now, .slice (some ⟨gE, 0, none⟩) n c, .map (some mb)] 76 (0, 0)) ∧ wr.heap[g3]? = some (.cells #[.int .i64 pr, .int .u8 (ad.a.toNat : Int), .int .u8 (ad.b.toNat : Int), .int .u8 (ad.c.toNat : Int), .int .u8 (ad.d.toNat : Int), .int .i64 p] 164 (0, 0)) ∧ Sle mpE 9 wr (some ⟨gE, 0, none⟩) (n) (c) (l) ∧ Below w.heap.size w wr)
 case atStart => exact ⟨0, Nat.sub_zero _, Nat.zero_le _, rfl, rfl, htb, hfb, en, bel⟩
 case round =>
  clear htb hfb en bel
  obtain ⟨k, HGK, hkn, rfl, rfl, htb, hfb, en, bel⟩ := hrel
  have HGK_ := Lib.hid HGK
  clear HGK
  by_cases h : k < n
  rotate_left
  ·obtain rfl : k = n := by omega
   replace h : decide (k < k) = false := decide_eq_false (by omega)
   go_wp2_with fail
   go_ret
   exact ⟨by rw [HE.out]; rfl, bel⟩
  obtain ⟨x, hx⟩ : ∃ x, l[k]? = some x := ⟨_, List.getElem?_eq_getElem (by have := HLL.out; omega)⟩
  have k0 : (0 : Int) ≤ k := by omega
  have k1 : (k : Int) < n := by omega
  have kk : k < n := by omega
  obtain ⟨b, HB_⟩ : ∃ b, forB pr ad p x = b := ⟨_, rfl⟩
  have HFR := Lib.hid HB_
  have HX := Lib.hid hx
  have R19 := cell_lit htb 3 _ rfl
  go_wp2_with fail
  clear R19
  replace bel := bel.drew
  replace htb : wr.drew.heap[gt]? = _ := htb
  replace hfb : wr.drew.heap[g3]? = _ := hfb
  replace en := en.drew
  refine wp_region_held_drew (S := fun W => W.heap[g3]? = some (.cells #[.int .i64 pr, .int .u8 (ad.a.toNat : Int), .int .u8 (ad.b.toNat : Int), .int .u8 (ad.c.toNat : Int), .int .u8 (ad.d.toNat : Int), .int .i64 p] 164 (0, 0)) ∧ Sle mpE 9 W (some ⟨gE, 0, none⟩) (n) (c) (l)) (by kernel_rfl) ⟨hfb, en⟩ (fun hH => ?_)
  generalize wr.drew = w2 at bel htb hfb en hH ⊢
  refine wpAnyH_take (i := 0) (v := ?_) rfl (by kernel_rfl) (by kernel_rfl) (by kernel_rfl) (fun _ _ _ h => h) (Or.inl ⟨by rfl, ?_⟩) hH ?_
  rotate_left
  ·((intro W hW; clear hW; go_simp) <;> with_reducible rfl)
  simp only [Act.put, List.getElem_toArray, List.getElem_cons_zero, List.setIfInBounds_toArray, List.set_cons_zero, List.set_cons_succ]
  refine wpAnyH_take (i := 1) (v := ?_) rfl (by kernel_rfl) (by kernel_rfl) (by kernel_rfl) (fun _ _ _ h => h) (Or.inl ⟨by rfl, ?_⟩) hH ?_
  rotate_left
  ·((intro W hW; clear hW; go_simp) <;> with_reducible rfl)
  simp only [sq3, sq4]
  refine wpAnyH_take (i := 2) (v := .agg #[.int .i64 x.pr, .int .i64 x.o, .int .u8 (x.ad.a.toNat : Int), .int .u8 (x.ad.b.toNat : Int), .int .u8 (x.ad.c.toNat : Int), .int .u8 (x.ad.d.toNat : Int), .int .i64 x.i, .int .i64 x.k, .int .i64 x.u]) rfl (by kernel_rfl) (by kernel_rfl) (by kernel_rfl) (fun _ _ _ h => h) (yieldsIf_load_mid (by kernel_rfl) 65 _ rfl gE (k * 9) rfl [.int .i64 x.pr, .int .i64 x.o, .int .u8 (x.ad.a.toNat : Int), .int .u8 (x.ad.b.toNat : Int), .int .u8 (x.ad.c.toNat : Int), .int .u8 (x.ad.d.toNat : Int), .int .i64 x.i, .int .i64 x.k, .int .i64 x.u] _ (fun W hW => Sle.zrange0 (hW.2) HX.out 9 [.int .i64 x.pr, .int .i64 x.o, .int .u8 (x.ad.a.toNat : Int), .int .u8 (x.ad.b.toNat : Int), .int .u8 (x.ad.c.toNat : Int), .int .u8 (x.ad.d.toNat : Int), .int .i64 x.i, .int .i64 x.k, .int .i64 x.u] rfl) Tryz.underlying65 rfl (by kernel_rfl)) hH ?_
  simp only [sq3, sq4]
  refine wpAnyH_take (i := 3) (v := .agg #[.int .i64 pr, .int .u8 (ad.a.toNat : Int), .int .u8 (ad.b.toNat : Int), .int .u8 (ad.c.toNat : Int), .int .u8 (ad.d.toNat : Int), .int .i64 p]) rfl (by kernel_rfl) (by kernel_rfl) (by kernel_rfl) (fun _ _ _ h => h) (yieldsIf_load_part (by kernel_rfl) 164 _ rfl g3 0 6 rfl _ 164 (0, 0) (fun W hW => hW.1) _ rfl _ Tryz.underlying164 rfl (by kernel_rfl)) hH ?_
  simp only [sq3, sq4]
  rcases b with _ | _
  ·have HV : Hid (bptr gE (bestF pr ad p l (k + 1)) = bptr gE (bestF pr ad p l k)) := Lib.hid (by rw [bestF_no hx HB_])
   clear hx
   refine wpAnyH_ready (rs := [4]) (by kernel_rfl) (by simp) ?_
   refine AllReadyH.cons (o := _) rfl (fun K hK => ?_) AllReadyH.nil
   simp only [sq3]
   go_simp
   with_reducible refine (isfor_any _ HFR.out).mono ?_
   rintro e w3 ⟨rfl, b3⟩
   dsimp only
   replace htb := blk_u htb b3
   replace hfb := blk_u hfb b3
   replace en := en.below b3
   replace bel := bel.trans (b3.mono bel.size)
   clear b3
   refine hK.out _ _ ⟨hfb, en⟩ (fun hH4 => ?_)
   clear hK K
   refine wpAnyH_take (i := 5) (v := ?_) rfl (by kernel_rfl) (by kernel_rfl) (by kernel_rfl) (fun _ _ _ h => h) (Or.inl ⟨by rfl, ?_⟩) hH4 ?_
   rotate_left
   ·((intro W hW; clear hW; go_simp) <;> with_reducible rfl)
   simp only [sq3, sq4]
   refine wpAnyH_take (i := 6) (v := undef) rfl (by kernel_rfl) (by kernel_rfl) (by kernel_rfl) (fun _ _ _ h => h) (Or.inr ⟨by rfl, rfl⟩) hH4 ?_
   simp only [sq3, sq4]
   refine wpAnyH_take (i := 7) (v := undef) rfl (by kernel_rfl) (by kernel_rfl) (by kernel_rfl) (fun _ _ _ h => h) (Or.inr ⟨by rfl, rfl⟩) hH4 ?_
   simp only [sq3, sq4]
   refine wpAnyH_take (i := 8) (v := undef) rfl (by kernel_rfl) (by kernel_rfl) (by kernel_rfl) (fun _ _ _ h => h) (Or.inr ⟨by rfl, rfl⟩) hH4 ?_
   simp only [sq3, sq4]
   refine wpAnyH_take (i := 9) (v := undef) rfl (by kernel_rfl) (by kernel_rfl) (by kernel_rfl) (fun _ _ _ h => h) (Or.inr ⟨by rfl, rfl⟩) hH4 ?_
   simp only [sq3, sq4]
   refine wpAnyH_take (i := 10) (v := undef) rfl (by kernel_rfl) (by kernel_rfl) (by kernel_rfl) (fun _ _ _ h => h) (Or.inr ⟨by rfl, rfl⟩) hH4 ?_
   simp only [sq3, sq4]
   refine wpAnyH_take (i := 11) (v := undef) rfl (by kernel_rfl) (by kernel_rfl) (by kernel_rfl) (fun _ _ _ h => h) (Or.inr ⟨by rfl, rfl⟩) hH4 ?_
   simp only [sq3, sq4]
   refine wpAnyH_take (i := 12) (v := undef) rfl (by kernel_rfl) (by kernel_rfl) (by kernel_rfl) (fun _ _ _ h => h) (Or.inr ⟨by rfl, rfl⟩) hH4 ?_
   simp only [sq3, sq4]
   refine wpAnyH_take (i := 13) (v := undef) rfl (by kernel_rfl) (by kernel_rfl) (by kernel_rfl) (fun _ _ _ h => h) (Or.inr ⟨by rfl, rfl⟩) hH4 ?_
   simp only [sq3, sq4]
   refine wpAnyH_take (i := 14) (v := undef) rfl (by kernel_rfl) (by kernel_rfl) (by kernel_rfl) (fun _ _ _ h => h) (Or.inr ⟨by rfl, rfl⟩) hH4 ?_
   simp only [sq3, sq4]
   refine wpAnyH_take (i := 15) (v := undef) rfl (by kernel_rfl) (by kernel_rfl) (by kernel_rfl) (fun _ _ _ h => h) (Or.inr ⟨by rfl, rfl⟩) hH4 ?_
   simp only [sq3, sq4]
   refine wpAnyH_take (i := 16) (v := undef) rfl (by kernel_rfl) (by kernel_rfl) (by kernel_rfl) (fun _ _ _ h => h) (Or.inr ⟨by rfl, rfl⟩) hH4 ?_
   simp only [sq3, sq4]
   refine wpAnyH_take (i := 17) (v := undef) rfl (by kernel_rfl) (by kernel_rfl) (by kernel_rfl) (fun _ _ _ h => h) (Or.inr ⟨by rfl, rfl⟩) hH4 ?_
   simp only [sq3, sq4]
   refine wpAnyH_take (i := 18) (v := undef) rfl (by kernel_rfl) (by kernel_rfl) (by kernel_rfl) (fun _ _ _ h => h) (Or.inr ⟨by rfl, rfl⟩) hH4 ?_
   simp only [sq3, sq4]
   refine wpAnyH_take (i := 19) (v := ?_) rfl (by kernel_rfl) (by kernel_rfl) (by kernel_rfl) (fun _ _ _ h => h) (Or.inl ⟨by rfl, ?_⟩) hH4 ?_
   rotate_left
   ·((intro W hW; clear hW; go_simp) <;> with_reducible rfl)
   simp only [sq3, sq4]
   refine wpAnyH_done (by kernel_rfl) ?_ _
   go_wp2_with fail
   go_roundg (n - (k + 1))
   case measure => have := HGK_.out; omega
   case rel => exact ⟨k + 1, rfl, by omega, by go_num, by rw [HV.out], htb, hfb, en, bel⟩
  rcases hn : bestF pr ad p l k with _ | j
  ·have HV : Hid (bptr gE (bestF pr ad p l (k + 1)) = some ⟨gE, k * 9, none⟩) := Lib.hid (by rw [bestF_none hx hn, if_pos HB_]; rfl)
   have hbp : bptr gE none = none := rfl
   clear hn
   clear hx
   refine wpAnyH_ready (rs := [4]) (by kernel_rfl) (by simp) ?_
   refine AllReadyH.cons (o := _) rfl (fun K hK => ?_) AllReadyH.nil
   simp only [sq3]
   go_simp
   with_reducible refine (isfor_any _ HFR.out).mono ?_
   rintro e w3 ⟨rfl, b3⟩
   dsimp only
   replace htb := blk_u htb b3
   replace hfb := blk_u hfb b3
   replace en := en.below b3
   replace bel := bel.trans (b3.mono bel.size)
   clear b3
   refine hK.out _ _ ⟨hfb, en⟩ (fun hH4 => ?_)
   clear hK K
   refine wpAnyH_take (i := 5) (v := ?_) rfl (by kernel_rfl) (by kernel_rfl) (by kernel_rfl) (fun _ _ _ h => h) (Or.inl ⟨by rfl, ?_⟩) hH4 ?_
   rotate_left
   ·((intro W hW; clear hW; go_simp) <;> with_reducible rfl)
   simp only [sq3, sq4]
   refine wpAnyH_take (i := 6) (v := ?_) rfl (by kernel_rfl) (by kernel_rfl) (by kernel_rfl) (fun _ _ _ h => h) (Or.inl ⟨by rfl, ?_⟩) hH4 ?_
   rotate_left
   ·((intro W hW; clear hW; go_simp) <;> with_reducible rfl)
   simp only [sq3, sq4]
   refine wpAnyH_take (i := 7) (v := ?_) rfl (by kernel_rfl) (by kernel_rfl) (by kernel_rfl) (fun _ _ _ h => h) (Or.inl ⟨by rfl, ?_⟩) hH4 ?_
   rotate_left
   ·((intro W hW; clear hW; go_simp) <;> with_reducible rfl)
   simp only [sq3, sq4]
   refine wpAnyH_take (i := 8) (v := ?_) rfl (by kernel_rfl) (by kernel_rfl) (by kernel_rfl) (fun _ _ _ h => h) (Or.inl ⟨by rfl, ?_⟩) hH4 ?_
   rotate_left
   ·((intro W hW; clear hW; go_simp) <;> with_reducible rfl)
   simp only [sq3, sq4]
   refine wpAnyH_take (i := 9) (v := undef) rfl (by kernel_rfl) (by kernel_rfl) (by kernel_rfl) (fun _ _ _ h => h) (Or.inr ⟨by rfl, rfl⟩) hH4 ?_
   simp only [sq3, sq4]
   refine wpAnyH_take (i := 10) (v := undef) rfl (by kernel_rfl) (by kernel_rfl) (by kernel_rfl) (fun _ _ _ h => h) (Or.inr ⟨by rfl, rfl⟩) hH4 ?_
   simp only [sq3, sq4]
   refine wpAnyH_take (i := 11) (v := undef) rfl (by kernel_rfl) (by kernel_rfl) (by kernel_rfl) (fun _ _ _ h => h) (Or.inr ⟨by rfl, rfl⟩) hH4 ?_
   simp only [sq3, sq4]
   refine wpAnyH_take (i := 12) (v := undef) rfl (by kernel_rfl) (by kernel_rfl) (by kernel_rfl) (fun _ _ _ h => h) (Or.inr ⟨by rfl, rfl⟩) hH4 ?_
   simp only [sq3, sq4]
   refine wpAnyH_take (i := 13) (v := undef) rfl (by kernel_rfl) (by kernel_rfl) (by kernel_rfl) (fun _ _ _ h => h) (Or.inr ⟨by rfl, rfl⟩) hH4 ?_
   simp only [sq3, sq4]
   refine wpAnyH_take (i := 14) (v := undef) rfl (by kernel_rfl) (by kernel_rfl) (by kernel_rfl) (fun _ _ _ h => h) (Or.inr ⟨by rfl, rfl⟩) hH4 ?_
   simp only [sq3, sq4]
   refine wpAnyH_take (i := 15) (v := undef) rfl (by kernel_rfl) (by kernel_rfl) (by kernel_rfl) (fun _ _ _ h => h) (Or.inr ⟨by rfl, rfl⟩) hH4 ?_
   simp only [sq3, sq4]
   refine wpAnyH_take (i := 16) (v := undef) rfl (by kernel_rfl) (by kernel_rfl) (by kernel_rfl) (fun _ _ _ h => h) (Or.inr ⟨by rfl, rfl⟩) hH4 ?_
   simp only [sq3, sq4]
   refine wpAnyH_take (i := 17) (v := undef) rfl (by kernel_rfl) (by kernel_rfl) (by kernel_rfl) (fun _ _ _ h => h) (Or.inr ⟨by rfl, rfl⟩) hH4 ?_
   simp only [sq3, sq4]
   refine wpAnyH_take (i := 18) (v := ?_) rfl (by kernel_rfl) (by kernel_rfl) (by kernel_rfl) (fun _ _ _ h => h) (Or.inl ⟨by rfl, ?_⟩) hH4 ?_
   rotate_left
   ·((intro W hW; clear hW; go_simp) <;> with_reducible rfl)
   simp only [sq3, sq4]
   refine wpAnyH_take (i := 19) (v := ?_) rfl (by kernel_rfl) (by kernel_rfl) (by kernel_rfl) (fun _ _ _ h => h) (Or.inl ⟨by rfl, ?_⟩) hH4 ?_
   rotate_left
   ·((intro W hW; clear hW; go_simp) <;> with_reducible rfl)
   simp only [sq3, sq4]
   refine wpAnyH_done (by kernel_rfl) ?_ _
   go_wp2_with fail
   go_roundg (n - (k + 1))
   case measure => have := HGK_.out; omega
   case rel => exact ⟨k + 1, rfl, by omega, by go_num, by rw [HV.out], htb, hfb, en, bel⟩
  have hj := hn
  clear hn
  have hjk := bestF_lt pr ad p l k j (by have := HLL.out; omega) hj
  obtain ⟨y, hy⟩ : ∃ y, l[j]? = some y := ⟨_, List.getElem?_eq_getElem (by have := HLL.out; omega)⟩
  have hbp : bptr gE (some j) = some ⟨gE, j * 9, none⟩ := rfl
  obtain ⟨r1, hr1⟩ : ∃ r, x.rank = r := ⟨_, rfl⟩
  obtain ⟨r2, hr2⟩ : ∃ r, y.rank = r := ⟨_, rfl⟩
  by_cases hte : r1 < r2
  ·have HV : Hid (bptr gE (bestF pr ad p l (k + 1)) = some ⟨gE, k * 9, none⟩) := Lib.hid (by rw [bestF_some hx hj hy, HB_, hr1, hr2, if_pos (by simpa using hte)]; rfl)
   have HY := Lib.hid hy
   have HR1 := Lib.hid hr1
   have HR2 := Lib.hid hr2
   clear hy hj hjk hr1 hr2
   clear hx
   refine wpAnyH_ready (rs := [4]) (by kernel_rfl) (by simp) ?_
   refine AllReadyH.cons (o := _) rfl (fun K hK => ?_) AllReadyH.nil
   simp only [sq3]
   go_simp
   with_reducible refine (isfor_any _ HFR.out).mono ?_
   rintro e w3 ⟨rfl, b3⟩
   dsimp only
   replace htb := blk_u htb b3
   replace hfb := blk_u hfb b3
   replace en := en.below b3
   replace bel := bel.trans (b3.mono bel.size)
   clear b3
   refine hK.out _ _ ⟨hfb, en⟩ (fun hH4 => ?_)
   clear hK K
   refine wpAnyH_take (i := 5) (v := ?_) rfl (by kernel_rfl) (by kernel_rfl) (by kernel_rfl) (fun _ _ _ h => h) (Or.inl ⟨by rfl, ?_⟩) hH4 ?_
   rotate_left
   ·((intro W hW; clear hW; go_simp) <;> with_reducible rfl)
   simp only [sq3, sq4]
   refine wpAnyH_take (i := 6) (v := ?_) rfl (by kernel_rfl) (by kernel_rfl) (by kernel_rfl) (fun _ _ _ h => h) (Or.inl ⟨by rfl, ?_⟩) hH4 ?_
   rotate_left
   ·((intro W hW; clear hW; go_simp) <;> with_reducible rfl)
   simp only [sq3, sq4]
   refine wpAnyH_take (i := 7) (v := ?_) rfl (by kernel_rfl) (by kernel_rfl) (by kernel_rfl) (fun _ _ _ h => h) (Or.inl ⟨by rfl, ?_⟩) hH4 ?_
   rotate_left
   ·((intro W hW; clear hW; go_simp) <;> with_reducible rfl)
   simp only [sq3, sq4]
   refine wpAnyH_take (i := 8) (v := ?_) rfl (by kernel_rfl) (by kernel_rfl) (by kernel_rfl) (fun _ _ _ h => h) (Or.inl ⟨by rfl, ?_⟩) hH4 ?_
   rotate_left
   ·((intro W hW; clear hW; go_simp) <;> with_reducible rfl)
   simp only [sq3, sq4]
   refine wpAnyH_take (i := 9) (v := ?_) rfl (by kernel_rfl) (by kernel_rfl) (by kernel_rfl) (fun _ _ _ h => h) (Or.inl ⟨by rfl, ?_⟩) hH4 ?_
   rotate_left
   ·((intro W hW; clear hW; go_simp) <;> with_reducible rfl)
   simp only [sq3, sq4]
   refine wpAnyH_take (i := 10) (v := ?_) rfl (by kernel_rfl) (by kernel_rfl) (by kernel_rfl) (fun _ _ _ h => h) (Or.inl ⟨by rfl, ?_⟩) hH4 ?_
   rotate_left
   ·((intro W hW; clear hW; go_simp) <;> with_reducible rfl)
   simp only [sq3, sq4]
   refine wpAnyH_take (i := 11) (v := .agg #[.int .i64 x.pr, .int .i64 x.o, .int .u8 (x.ad.a.toNat : Int), .int .u8 (x.ad.b.toNat : Int), .int .u8 (x.ad.c.toNat : Int), .int .u8 (x.ad.d.toNat : Int), .int .i64 x.i, .int .i64 x.k, .int .i64 x.u]) rfl (by kernel_rfl) (by kernel_rfl) (by kernel_rfl) (fun _ _ _ h => h) (yieldsIf_load_mid (by kernel_rfl) 65 _ rfl gE (k * 9) rfl [.int .i64 x.pr, .int .i64 x.o, .int .u8 (x.ad.a.toNat : Int), .int .u8 (x.ad.b.toNat : Int), .int .u8 (x.ad.c.toNat : Int), .int .u8 (x.ad.d.toNat : Int), .int .i64 x.i, .int .i64 x.k, .int .i64 x.u] _ (fun W hW => Sle.zrange0 (hW.2) HX.out 9 [.int .i64 x.pr, .int .i64 x.o, .int .u8 (x.ad.a.toNat : Int), .int .u8 (x.ad.b.toNat : Int), .int .u8 (x.ad.c.toNat : Int), .int .u8 (x.ad.d.toNat : Int), .int .i64 x.i, .int .i64 x.k, .int .i64 x.u] rfl) Tryz.underlying65 rfl (by kernel_rfl)) hH4 ?_
   simp only [sq3, sq4]
   refine wpAnyH_take (i := 13) (v := ?_) rfl (by kernel_rfl) (by kernel_rfl) (by kernel_rfl) (fun _ _ _ h => h) (Or.inl ⟨by rfl, ?_⟩) hH4 ?_
   rotate_left
   ·((intro W hW; clear hW; go_simp) <;> with_reducible rfl)
   simp only [sq3, sq4]
   refine wpAnyH_take (i := 14) (v := ?_) rfl (by kernel_rfl) (by kernel_rfl) (by kernel_rfl) (fun _ _ _ h => h) (Or.inl ⟨by rfl, ?_⟩) hH4 ?_
   rotate_left
   ·((intro W hW; clear hW; go_simp) <;> with_reducible rfl)
   simp only [sq3, sq4]
   refine wpAnyH_take (i := 15) (v := .agg #[.int .i64 y.pr, .int .i64 y.o, .int .u8 (y.ad.a.toNat : Int), .int .u8 (y.ad.b.toNat : Int), .int .u8 (y.ad.c.toNat : Int), .int .u8 (y.ad.d.toNat : Int), .int .i64 y.i, .int .i64 y.k, .int .i64 y.u]) rfl (by kernel_rfl) (by kernel_rfl) (by kernel_rfl) (fun _ _ _ h => h) (yieldsIf_load_mid (by kernel_rfl) 65 _ rfl gE (j * 9) rfl [.int .i64 y.pr, .int .i64 y.o, .int .u8 (y.ad.a.toNat : Int), .int .u8 (y.ad.b.toNat : Int), .int .u8 (y.ad.c.toNat : Int), .int .u8 (y.ad.d.toNat : Int), .int .i64 y.i, .int .i64 y.k, .int .i64 y.u] _ (fun W hW => Sle.zrange0 (hW.2) HY.out 9 [.int .i64 y.pr, .int .i64 y.o, .int .u8 (y.ad.a.toNat : Int), .int .u8 (y.ad.b.toNat : Int), .int .u8 (y.ad.c.toNat : Int), .int .u8 (y.ad.d.toNat : Int), .int .i64 y.i, .int .i64 y.k, .int .i64 y.u] rfl) Tryz.underlying65 rfl (by kernel_rfl)) hH4 ?_
   simp only [sq3, sq4]
   refine wpAnyH_ready (rs := [12]) (by kernel_rfl) (by simp) ?_
   refine AllReadyH.cons (o := _) rfl (fun K hK => ?_) AllReadyH.nil
   simp only [sq3]
   go_simp
   with_reducible refine (rank_any _ HR1.out).mono ?_
   rintro e w5 ⟨rfl, b5⟩
   dsimp only
   replace htb := blk_u htb b5
   replace hfb := blk_u hfb b5
   replace en := en.below b5
   replace bel := bel.trans (b5.mono bel.size)
   clear b5
   refine hK.out _ _ ⟨hfb, en⟩ (fun hH6 => ?_)
   clear hK K
   refine wpAnyH_ready (rs := [16]) (by kernel_rfl) (by simp) ?_
   refine AllReadyH.cons (o := _) rfl (fun K hK => ?_) AllReadyH.nil
   simp only [sq3]
   go_simp
   with_reducible refine (rank_any _ HR2.out).mono ?_
   rintro e w7 ⟨rfl, b7⟩
   dsimp only
   replace htb := blk_u htb b7
   replace hfb := blk_u hfb b7
   replace en := en.below b7
   replace bel := bel.trans (b7.mono bel.size)
   clear b7
   refine hK.out _ _ ⟨hfb, en⟩ (fun hH8 => ?_)
   clear hK K
   refine wpAnyH_take (i := 17) (v := ?_) rfl (by kernel_rfl) (by kernel_rfl) (by kernel_rfl) (fun _ _ _ h => h) (Or.inl ⟨by rfl, ?_⟩) hH8 ?_
   rotate_left
   ·((intro W hW; clear hW; go_simp) <;> with_reducible rfl)
   simp only [sq3, sq4]
   refine wpAnyH_take (i := 18) (v := ?_) rfl (by kernel_rfl) (by kernel_rfl) (by kernel_rfl) (fun _ _ _ h => h) (Or.inl ⟨by rfl, ?_⟩) hH8 ?_
   rotate_left
   ·((intro W hW; clear hW; go_simp) <;> with_reducible rfl)
   simp only [sq3, sq4]
   refine wpAnyH_take (i := 19) (v := ?_) rfl (by kernel_rfl) (by kernel_rfl) (by kernel_rfl) (fun _ _ _ h => h) (Or.inl ⟨by rfl, ?_⟩) hH8 ?_
   rotate_left
   ·((intro W hW; clear hW; go_simp) <;> with_reducible rfl)
   simp only [sq3, sq4]
   refine wpAnyH_done (by kernel_rfl) ?_ _
   go_wp2_with fail
   go_roundg (n - (k + 1))
   case measure => have := HGK_.out; omega
   case rel => exact ⟨k + 1, rfl, by omega, by go_num, by rw [HV.out], htb, hfb, en, bel⟩
  have HV : Hid (bptr gE (bestF pr ad p l (k + 1)) = some ⟨gE, j * 9, none⟩) := Lib.hid (by rw [bestF_some hx hj hy, HB_, hr1, hr2, if_neg (by simpa using hte)]; rfl)
  replace hte : decide (r1 < r2) = false := decide_eq_false hte
  have HY := Lib.hid hy
  have HR1 := Lib.hid hr1
  have HR2 := Lib.hid hr2
  clear hy hj hjk hr1 hr2
  clear hx
  refine wpAnyH_ready (rs := [4]) (by kernel_rfl) (by simp) ?_
  refine AllReadyH.cons (o := _) rfl (fun K hK => ?_) AllReadyH.nil
  simp only [sq3]
  go_simp
  with_reducible refine (isfor_any _ HFR.out).mono ?_
  rintro e w3 ⟨rfl, b3⟩
  dsimp only
  replace htb := blk_u htb b3
  replace hfb := blk_u hfb b3
  replace en := en.below b3
  replace bel := bel.trans (b3.mono bel.size)
  clear b3
  refine hK.out _ _ ⟨hfb, en⟩ (fun hH4 => ?_)
  clear hK K
  refine wpAnyH_take (i := 5) (v := ?_) rfl (by kernel_rfl) (by kernel_rfl) (by kernel_rfl) (fun _ _ _ h => h) (Or.inl ⟨by rfl, ?_⟩) hH4 ?_
  rotate_left
  ·((intro W hW; clear hW; go_simp) <;> with_reducible rfl)
  simp only [sq3, sq4]
  refine wpAnyH_take (i := 6) (v := ?_) rfl (by kernel_rfl) (by kernel_rfl) (by kernel_rfl) (fun _ _ _ h => h) (Or.inl ⟨by rfl, ?_⟩) hH4 ?_
  rotate_left
  ·((intro W hW; clear hW; go_simp) <;> with_reducible rfl)
  simp only [sq3, sq4]
  refine wpAnyH_take (i := 7) (v := ?_) rfl (by kernel_rfl) (by kernel_rfl) (by kernel_rfl) (fun _ _ _ h => h) (Or.inl ⟨by rfl, ?_⟩) hH4 ?_
  rotate_left
  ·((intro W hW; clear hW; go_simp) <;> with_reducible rfl)
  simp only [sq3, sq4]
  refine wpAnyH_take (i := 8) (v := ?_) rfl (by kernel_rfl) (by kernel_rfl) (by kernel_rfl) (fun _ _ _ h => h) (Or.inl ⟨by rfl, ?_⟩) hH4 ?_
  rotate_left
  ·((intro W hW; clear hW; go_simp) <;> with_reducible rfl)
  simp only [sq3, sq4]
  refine wpAnyH_take (i := 9) (v := ?_) rfl (by kernel_rfl) (by kernel_rfl) (by kernel_rfl) (fun _ _ _ h => h) (Or.inl ⟨by rfl, ?_⟩) hH4 ?_
  rotate_left
  ·((intro W hW; clear hW; go_simp) <;> with_reducible rfl)
  simp only [sq3, sq4]
  refine wpAnyH_take (i := 10) (v := ?_) rfl (by kernel_rfl) (by kernel_rfl) (by kernel_rfl) (fun _ _ _ h => h) (Or.inl ⟨by rfl, ?_⟩) hH4 ?_
  rotate_left
  ·((intro W hW; clear hW; go_simp) <;> with_reducible rfl)
  simp only [sq3, sq4]
  refine wpAnyH_take (i := 11) (v := .agg #[.int .i64 x.pr, .int .i64 x.o, .int .u8 (x.ad.a.toNat : Int), .int .u8 (x.ad.b.toNat : Int), .int .u8 (x.ad.c.toNat : Int), .int .u8 (x.ad.d.toNat : Int), .int .i64 x.i, .int .i64 x.k, .int .i64 x.u]) rfl (by kernel_rfl) (by kernel_rfl) (by kernel_rfl) (fun _ _ _ h => h) (yieldsIf_load_mid (by kernel_rfl) 65 _ rfl gE (k * 9) rfl [.int .i64 x.pr, .int .i64 x.o, .int .u8 (x.ad.a.toNat : Int), .int .u8 (x.ad.b.toNat : Int), .int .u8 (x.ad.c.toNat : Int), .int .u8 (x.ad.d.toNat : Int), .int .i64 x.i, .int .i64 x.k, .int .i64 x.u] _ (fun W hW => Sle.zrange0 (hW.2) HX.out 9 [.int .i64 x.pr, .int .i64 x.o, .int .u8 (x.ad.a.toNat : Int), .int .u8 (x.ad.b.toNat : Int), .int .u8 (x.ad.c.toNat : Int), .int .u8 (x.ad.d.toNat : Int), .int .i64 x.i, .int .i64 x.k, .int .i64 x.u] rfl) Tryz.underlying65 rfl (by kernel_rfl)) hH4 ?_
  simp only [sq3, sq4]
  refine wpAnyH_take (i := 13) (v := ?_) rfl (by kernel_rfl) (by kernel_rfl) (by kernel_rfl) (fun _ _ _ h => h) (Or.inl ⟨by rfl, ?_⟩) hH4 ?_
  rotate_left
  ·((intro W hW; clear hW; go_simp) <;> with_reducible rfl)
  simp only [sq3, sq4]
  refine wpAnyH_take (i := 14) (v := ?_) rfl (by kernel_rfl) (by kernel_rfl) (by kernel_rfl) (fun _ _ _ h => h) (Or.inl ⟨by rfl, ?_⟩) hH4 ?_
  rotate_left
  ·((intro W hW; clear hW; go_simp) <;> with_reducible rfl)
  simp only [sq3, sq4]
  refine wpAnyH_take (i := 15) (v := .agg #[.int .i64 y.pr, .int .i64 y.o, .int .u8 (y.ad.a.toNat : Int), .int .u8 (y.ad.b.toNat : Int), .int .u8 (y.ad.c.toNat : Int), .int .u8 (y.ad.d.toNat : Int), .int .i64 y.i, .int .i64 y.k, .int .i64 y.u]) rfl (by kernel_rfl) (by kernel_rfl) (by kernel_rfl) (fun _ _ _ h => h) (yieldsIf_load_mid (by kernel_rfl) 65 _ rfl gE (j * 9) rfl [.int .i64 y.pr, .int .i64 y.o, .int .u8 (y.ad.a.toNat : Int), .int .u8 (y.ad.b.toNat : Int), .int .u8 (y.ad.c.toNat : Int), .int .u8 (y.ad.d.toNat : Int), .int .i64 y.i, .int .i64 y.k, .int .i64 y.u] _ (fun W hW => Sle.zrange0 (hW.2) HY.out 9 [.int .i64 y.pr, .int .i64 y.o, .int .u8 (y.ad.a.toNat : Int), .int .u8 (y.ad.b.toNat : Int), .int .u8 (y.ad.c.toNat : Int), .int .u8 (y.ad.d.toNat : Int), .int .i64 y.i, .int .i64 y.k, .int .i64 y.u] rfl) Tryz.underlying65 rfl (by kernel_rfl)) hH4 ?_
  simp only [sq3, sq4]
  refine wpAnyH_ready (rs := [12]) (by kernel_rfl) (by simp) ?_
  refine AllReadyH.cons (o := _) rfl (fun K hK => ?_) AllReadyH.nil
  simp only [sq3]
  go_simp
  with_reducible refine (rank_any _ HR1.out).mono ?_
  rintro e w5 ⟨rfl, b5⟩
  dsimp only
  replace htb := blk_u htb b5
  replace hfb := blk_u hfb b5
  replace en := en.below b5
  replace bel := bel.trans (b5.mono bel.size)
  clear b5
  refine hK.out _ _ ⟨hfb, en⟩ (fun hH6 => ?_)
  clear hK K
  refine wpAnyH_ready (rs := [16]) (by kernel_rfl) (by simp) ?_
  refine AllReadyH.cons (o := _) rfl (fun K hK => ?_) AllReadyH.nil
  simp only [sq3]
  go_simp
  with_reducible refine (rank_any _ HR2.out).mono ?_
  rintro e w7 ⟨rfl, b7⟩
  dsimp only
  replace htb := blk_u htb b7
  replace hfb := blk_u hfb b7
  replace en := en.below b7
  replace bel := bel.trans (b7.mono bel.size)
  clear b7
  refine hK.out _ _ ⟨hfb, en⟩ (fun hH8 => ?_)
  clear hK K
  refine wpAnyH_take (i := 17) (v := ?_) rfl (by kernel_rfl) (by kernel_rfl) (by kernel_rfl) (fun _ _ _ h => h) (Or.inl ⟨by rfl, ?_⟩) hH8 ?_
  rotate_left
  ·((intro W hW; clear hW; go_simp) <;> with_reducible rfl)
  simp only [sq3, sq4]
  refine wpAnyH_take (i := 18) (v := ?_) rfl (by kernel_rfl) (by kernel_rfl) (by kernel_rfl) (fun _ _ _ h => h) (Or.inl ⟨by rfl, ?_⟩) hH8 ?_
  rotate_left
  ·((intro W hW; clear hW; go_simp) <;> with_reducible rfl)
  simp only [sq3, sq4]
  refine wpAnyH_take (i := 19) (v := ?_) rfl (by kernel_rfl) (by kernel_rfl) (by kernel_rfl) (fun _ _ _ h => h) (Or.inl ⟨by rfl, ?_⟩) hH8 ?_
  rotate_left
  ·((intro W hW; clear hW; go_simp) <;> with_reducible rfl)
  simp only [sq3, sq4]
  refine wpAnyH_done (by kernel_rfl) ?_ _
  go_wp2_with fail
  go_roundg (n - (k + 1))
  case measure => have := HGK_.out; omega
  case rel => exact ⟨k + 1, rfl, by omega, by go_num, by rw [HV.out], htb, hfb, en, bel⟩
theorem bf_nil {gt mb c : Nat} {lw rm now : Int} {A : Option Addr} {pr p : Int} {ad : Ad4} (w : World) (htb : w.heap[gt]? = some (.cells #[.int .i64 lw, .int .i64 rm, .int .i64 now, .slice A 0 c, .map (some mb)] 76 (0, 0))) : Calls Tryz.prog 135 #[.pointer (some ⟨gt, 0, none⟩), .agg #[.int .i64 pr, .int .u8 (ad.a.toNat : Int), .int .u8 (ad.b.toNat : Int), .int .u8 (ad.c.toNat : Int), .int .u8 (ad.d.toNat : Int), .int .i64 p]] w fun e w' => e = .returned (.pointer none) ∧ Below w.heap.size w w' := by
 have bel := Below.refl w.heap.size w
 go_enter Tryz.func135, Tryz.ntmps135
 go_wp2_with (first | ((with_reducible show wpList _ _ _ (⟨some 3, _, _, _, _, _⟩ :: _) _ _); refine wpList_box_n rfl 164 (.tmp 1) rfl #[.int .i64 pr, .int .u8 (ad.a.toNat : Int), .int .u8 (ad.b.toNat : Int), .int .u8 (ad.c.toNat : Int), .int .u8 (ad.d.toNat : Int), .int .i64 p] rfl ?_; intro g3 w1 ge lt hh bb; have d_tb_fb := ne_new (hlt htb) ge; have ofb := Nat.le_trans bel.size ge; replace htb := blk_u htb bb; replace bel := bel.trans (bb.mono bel.size); have hfb := hh; clear hh lt ge bb; have R11 := cell_lit htb 3 _ rfl))
 try clear R11
 refine wp_loop_rounds 1 ?_
 rw [rounds_succ]
 go_wp2_with fail
 go_ret
 exact ⟨rfl, bel⟩
/-- bestFor over the table's own row. -/
theorem bf_none {lo : Nat} {gt mb n c : Nat} {lw rm now : Int} {l : List Mp} {pr p : Int} {ad : Ad4} {A : Option Addr} (w : World) (htb : w.heap[gt]? = some (.cells #[.int .i64 lw, .int .i64 rm, .int .i64 now, .slice A n c, .map (some mb)] 76 (0, 0))) (own : w.ownsRow lo 65 9 (.slice A n c) n (l.flatMap mpE)) (h32 : n ≤ 1000) (hE : bestF pr ad p l n = none) : Calls Tryz.prog 135 #[.pointer (some ⟨gt, 0, none⟩), .agg #[.int .i64 pr, .int .u8 (ad.a.toNat : Int), .int .u8 (ad.b.toNat : Int), .int .u8 (ad.c.toNat : Int), .int .u8 (ad.d.toNat : Int), .int .i64 p]] w fun e w' => e = .returned (.pointer none) ∧ Below w.heap.size w w' := by
 rcases Nat.eq_zero_or_pos n with h0 | h0
 ·subst h0
  exact bf_nil w htb
 ·obtain ⟨gE, rfl, _⟩ := row_at own h0
  exact bf_none_pos w htb (owk_sle (by decide) mpE_len own).1 h32 (owk_av own (ofs_type own htb (by decide))) hE
theorem fo_own {gt mb n c : Nat} {lw rm now : Int} {l : List Mp} {pr p : Int} {ad : Ad4} {A : Option Addr} (w : World) (htb : w.heap[gt]? = some (.cells #[.int .i64 lw, .int .i64 rm, .int .i64 now, .slice A n c, .map (some mb)] 76 (0, 0))) (en : Sle mpE 9 w A n c l) (hS : MSrt l) (hO : ∀ e ∈ l, e.okp) (h32 : n ≤ 1000) (hpo : okP pr p) (h1 : lw ≤ p) (hf : mfhas l (kn pr p) = false) : Calls Tryz.prog 136 #[.pointer (some ⟨gt, 0, none⟩), .agg #[.int .i64 pr, .int .u8 (ad.a.toNat : Int), .int .u8 (ad.b.toNat : Int), .int .u8 (ad.c.toNat : Int), .int .u8 (ad.d.toNat : Int), .int .i64 p]] w fun e w' => e = .returned (.tuple #[.int .i64 p, .bool true]) ∧ Below w.heap.size w w' := by
 have HS := Lib.hid hS
 have HOK := Lib.hid hO
 clear hS hO
 have HPO := Lib.hid hpo
 have HF := Lib.hid hf
 have h2 : p ≥ lw := h1
 clear hpo hf h1
 have bel := Below.refl w.heap.size w
 go_enter Tryz.func136, Tryz.ntmps136
 go_wp2_with (first | ((with_reducible show wpList _ _ _ (⟨some 3, _, _, _, _, _⟩ :: _) _ _); refine wpList_box_n rfl 164 (.tmp 1) rfl #[.int .i64 pr, .int .u8 (ad.a.toNat : Int), .int .u8 (ad.b.toNat : Int), .int .u8 (ad.c.toNat : Int), .int .u8 (ad.d.toNat : Int), .int .i64 p] rfl ?_; intro g3 w1 ge lt hh bb; have d_tb_fb := ne_new (hlt htb) ge; have av_en_fb := en.av_new ge; have ofb := Nat.le_trans bel.size ge; replace htb := blk_u htb bb; replace en := en.below bb; replace bel := bel.trans (bb.mono bel.size); have hfb := hh; clear hh lt ge bb))
 replace bel := bel.drew
 replace htb : w1.drew.heap[gt]? = _ := htb
 replace hfb : w1.drew.heap[g3]? = _ := hfb
 replace en := en.drew
 refine wp_region_held_drew (S := fun W => W.heap[g3]? = some (.cells #[.int .i64 pr, .int .u8 (ad.a.toNat : Int), .int .u8 (ad.b.toNat : Int), .int .u8 (ad.c.toNat : Int), .int .u8 (ad.d.toNat : Int), .int .i64 p] 164 (0, 0)) ∧ W.heap[gt]? = some (.cells #[.int .i64 lw, .int .i64 rm, .int .i64 now, .slice A n c, .map (some mb)] 76 (0, 0))) (by kernel_rfl) ⟨hfb, htb⟩ (fun hH => ?_)
 generalize w1.drew = w2 at bel htb hfb en hH ⊢
 refine wpAnyH_take (i := 0) (v := ?_) rfl (by kernel_rfl) (by kernel_rfl) (by kernel_rfl) (fun _ _ _ h => h) (Or.inl ⟨by rfl, ?_⟩) hH ?_
 rotate_left
 ·((intro W hW; clear hW; go_simp) <;> with_reducible rfl)
 simp only [Act.put, List.getElem_toArray, List.getElem_cons_zero, List.setIfInBounds_toArray, List.set_cons_zero, List.set_cons_succ]
 refine wpAnyH_take (i := 1) (v := ?_) rfl (by kernel_rfl) (by kernel_rfl) (by kernel_rfl) (fun _ _ _ h => h) (Or.inl ⟨by rfl, ?_⟩) hH ?_
 rotate_left
 ·((intro W hW; have hk := cell_lit (hW.1) 5 _ rfl; clear hW; go_simp) <;> with_reducible rfl)
 simp only [sq3, sq4]
 refine wpAnyH_take (i := 2) (v := ?_) rfl (by kernel_rfl) (by kernel_rfl) (by kernel_rfl) (fun _ _ _ h => h) (Or.inl ⟨by rfl, ?_⟩) hH ?_
 rotate_left
 ·((intro W hW; clear hW; go_simp) <;> with_reducible rfl)
 simp only [sq3, sq4]
 refine wpAnyH_take (i := 3) (v := ?_) rfl (by kernel_rfl) (by kernel_rfl) (by kernel_rfl) (fun _ _ _ h => h) (Or.inl ⟨by rfl, ?_⟩) hH ?_
 rotate_left
 ·((intro W hW; clear hW; go_simp) <;> with_reducible rfl)
 simp only [sq3, sq4]
 refine wpAnyH_take (i := 4) (v := ?_) rfl (by kernel_rfl) (by kernel_rfl) (by kernel_rfl) (fun _ _ _ h => h) (Or.inl ⟨by rfl, ?_⟩) hH ?_
 rotate_left
 ·((intro W hW; clear hW; go_simp) <;> with_reducible rfl)
 simp only [sq3, sq4]
 refine wpAnyH_take (i := 5) (v := ?_) rfl (by kernel_rfl) (by kernel_rfl) (by kernel_rfl) (fun _ _ _ h => h) (Or.inl ⟨by rfl, ?_⟩) hH ?_
 rotate_left
 ·((intro W hW; have hk := cell_lit (hW.2) 0 _ rfl; clear hW; go_simp) <;> with_reducible rfl)
 simp only [sq3, sq4]
 refine wpAnyH_take (i := 6) (v := ?_) rfl (by kernel_rfl) (by kernel_rfl) (by kernel_rfl) (fun _ _ _ h => h) (Or.inl ⟨by rfl, ?_⟩) hH ?_
 rotate_left
 ·((intro W hW; clear hW; go_simp) <;> with_reducible rfl)
 simp only [sq3, sq4]
 refine wpAnyH_take (i := 7) (v := ?_) rfl (by kernel_rfl) (by kernel_rfl) (by kernel_rfl) (fun _ _ _ h => h) (Or.inl ⟨by rfl, ?_⟩) hH ?_
 rotate_left
 ·((intro W hW; clear hW; go_simp) <;> with_reducible rfl)
 simp only [sq3, sq4]
 refine wpAnyH_take (i := 8) (v := ?_) rfl (by kernel_rfl) (by kernel_rfl) (by kernel_rfl) (fun _ _ _ h => h) (Or.inl ⟨by rfl, ?_⟩) hH ?_
 rotate_left
 ·((intro W hW; clear hW; go_simp) <;> with_reducible rfl)
 simp only [sq3, sq4]
 refine wpAnyH_take (i := 9) (v := ?_) rfl (by kernel_rfl) (by kernel_rfl) (by kernel_rfl) (fun _ _ _ h => h) (Or.inl ⟨by rfl, ?_⟩) hH ?_
 rotate_left
 ·((intro W hW; clear hW; go_simp) <;> with_reducible rfl)
 simp only [sq3, sq4]
 refine wpAnyH_take (i := 10) (v := ?_) rfl (by kernel_rfl) (by kernel_rfl) (by kernel_rfl) (fun _ _ _ h => h) (Or.inl ⟨by rfl, ?_⟩) hH ?_
 rotate_left
 ·((intro W hW; have hk := cell_lit (hW.1) 0 _ rfl; clear hW; go_simp) <;> with_reducible rfl)
 simp only [sq3, sq4]
 refine wpAnyH_take (i := 11) (v := ?_) rfl (by kernel_rfl) (by kernel_rfl) (by kernel_rfl) (fun _ _ _ h => h) (Or.inl ⟨by rfl, ?_⟩) hH ?_
 rotate_left
 ·((intro W hW; clear hW; go_simp) <;> with_reducible rfl)
 simp only [sq3, sq4]
 refine wpAnyH_take (i := 12) (v := ?_) rfl (by kernel_rfl) (by kernel_rfl) (by kernel_rfl) (fun _ _ _ h => h) (Or.inl ⟨by rfl, ?_⟩) hH ?_
 rotate_left
 ·((intro W hW; have hk := cell_lit (hW.1) 5 _ rfl; clear hW; go_simp) <;> with_reducible rfl)
 simp only [sq3, sq4]
 refine wpAnyH_take (i := 13) (v := ?_) rfl (by kernel_rfl) (by kernel_rfl) (by kernel_rfl) (fun _ _ _ h => h) (Or.inl ⟨by rfl, ?_⟩) hH ?_
 rotate_left
 ·((intro W hW; clear hW; go_simp) <;> with_reducible rfl)
 simp only [sq3, sq4]
 refine wpAnyH_ready (rs := [14]) (by kernel_rfl) (by simp) ?_
 refine AllReadyH.cons (o := _) rfl (fun K hK => ?_) AllReadyH.nil
 simp only [sq3]
 go_simp
 with_reducible refine (mat_none pr p _ htb en HS.out HOK.out HPO.out h32 HF.out).mono ?_
 rintro e w3 ⟨rfl, b3⟩
 dsimp only
 replace htb := blk_u htb b3
 replace hfb := blk_u hfb b3
 replace en := en.below b3
 replace bel := bel.trans (b3.mono bel.size)
 clear b3
 refine hK.out _ _ ⟨hfb, htb⟩ (fun hH4 => ?_)
 clear hK K
 refine wpAnyH_take (i := 15) (v := ?_) rfl (by kernel_rfl) (by kernel_rfl) (by kernel_rfl) (fun _ _ _ h => h) (Or.inl ⟨by rfl, ?_⟩) hH4 ?_
 rotate_left
 ·((intro W hW; clear hW; go_simp) <;> with_reducible rfl)
 simp only [sq3, sq4]
 refine wpAnyH_take (i := 16) (v := ?_) rfl (by kernel_rfl) (by kernel_rfl) (by kernel_rfl) (fun _ _ _ h => h) (Or.inl ⟨by rfl, ?_⟩) hH4 ?_
 rotate_left
 ·((intro W hW; clear hW; go_simp) <;> with_reducible rfl)
 simp only [sq3, sq4]
 refine wpAnyH_done (by kernel_rfl) ?_ _
 have R25 := cell_lit hfb 5 _ rfl
 go_wp2_with fail
 clear R25
 exact bodyPost_ret (v := .tuple #[.int .i64 p, .bool true]) (by simp [results, Tryz.results136, go_sem]) rfl ⟨rfl, bel⟩
theorem fo_lt_y {gt mb n c : Nat} {lw rm now : Int} {l : List Mp} {pr p : Int} {ad : Ad4} {gE : Nat} {q : Int} (w : World) (htb : w.heap[gt]? = some (.cells #[.int .i64 lw, .int .i64 rm, .int .i64 now, .slice (some ⟨gE, 0, none⟩) n c, .map (some mb)] 76 (0, 0))) (en : Sle mpE 9 w (some ⟨gE, 0, none⟩) n c l) (av_en_tb : Av (some ⟨gE, 0, none⟩) n gt) (hS : MSrt l) (hO : ∀ e ∈ l, e.okp) (h32 : n ≤ 1000) (hlo1 : 0 ≤ lw) (hlq : lw ≤ q) (hq6 : q ≤ 65536) (hpr : 0 ≤ pr ∧ pr ≤ 255) (hall : ∀ o, lw ≤ o → o < q → mfhas l (kn pr o) = true) (h1 : ¬ lw ≤ p) (hq5 : q ≤ 65535) (hno : mfhas l (kn pr q) = false) : Calls Tryz.prog 136 #[.pointer (some ⟨gt, 0, none⟩), .agg #[.int .i64 pr, .int .u8 (ad.a.toNat : Int), .int .u8 (ad.b.toNat : Int), .int .u8 (ad.c.toNat : Int), .int .u8 (ad.d.toNat : Int), .int .i64 p]] w fun e w' => e = .returned (.tuple #[.int .i64 q, .bool true]) ∧ Below w.heap.size w w' := by
 have HS := Lib.hid hS
 have HOK := Lib.hid hO
 clear hS hO
 have HPR := Lib.hid hpr
 have HALL := Lib.hid hall
 have HLO := Lib.hid hlo1
 have HLQ := Lib.hid hlq
 have HQ6 := Lib.hid hq6
 clear hpr hall hlq hq6
 have HQ5 := Lib.hid hq5
 have HNO := Lib.hid hno
 clear hq5 hno
 have h2 : decide (p ≥ lw) = false := decide_eq_false h1
 have h3 : decide (lw ≤ p) = false := decide_eq_false h1
 clear h1
 have bel := Below.refl w.heap.size w
 go_enter Tryz.func136, Tryz.ntmps136
 go_wp2_with (first | ((with_reducible show wpList _ _ _ (⟨some 3, _, _, _, _, _⟩ :: _) _ _); refine wpList_box_n rfl 164 (.tmp 1) rfl #[.int .i64 pr, .int .u8 (ad.a.toNat : Int), .int .u8 (ad.b.toNat : Int), .int .u8 (ad.c.toNat : Int), .int .u8 (ad.d.toNat : Int), .int .i64 p] rfl ?_; intro g3 w1 ge lt hh bb; have d_tb_fb := ne_new (hlt htb) ge; have av_en_fb := en.av_new ge; have ofb := Nat.le_trans bel.size ge; replace htb := blk_u htb bb; replace en := en.below bb; replace bel := bel.trans (bb.mono bel.size); have hfb := hh; clear hh lt ge bb))
 replace bel := bel.drew
 replace htb : w1.drew.heap[gt]? = _ := htb
 replace hfb : w1.drew.heap[g3]? = _ := hfb
 replace en := en.drew
 refine wp_region_held_drew (S := fun W => W.heap[g3]? = some (.cells #[.int .i64 pr, .int .u8 (ad.a.toNat : Int), .int .u8 (ad.b.toNat : Int), .int .u8 (ad.c.toNat : Int), .int .u8 (ad.d.toNat : Int), .int .i64 p] 164 (0, 0)) ∧ W.heap[gt]? = some (.cells #[.int .i64 lw, .int .i64 rm, .int .i64 now, .slice (some ⟨gE, 0, none⟩) n c, .map (some mb)] 76 (0, 0))) (by kernel_rfl) ⟨hfb, htb⟩ (fun hH => ?_)
 generalize w1.drew = w2 at bel htb hfb en hH ⊢
 refine wpAnyH_take (i := 0) (v := ?_) rfl (by kernel_rfl) (by kernel_rfl) (by kernel_rfl) (fun _ _ _ h => h) (Or.inl ⟨by rfl, ?_⟩) hH ?_
 rotate_left
 ·((intro W hW; clear hW; go_simp) <;> with_reducible rfl)
 simp only [Act.put, List.getElem_toArray, List.getElem_cons_zero, List.setIfInBounds_toArray, List.set_cons_zero, List.set_cons_succ]
 refine wpAnyH_take (i := 1) (v := ?_) rfl (by kernel_rfl) (by kernel_rfl) (by kernel_rfl) (fun _ _ _ h => h) (Or.inl ⟨by rfl, ?_⟩) hH ?_
 rotate_left
 ·((intro W hW; have hk := cell_lit (hW.1) 5 _ rfl; clear hW; go_simp) <;> with_reducible rfl)
 simp only [sq3, sq4]
 refine wpAnyH_take (i := 2) (v := ?_) rfl (by kernel_rfl) (by kernel_rfl) (by kernel_rfl) (fun _ _ _ h => h) (Or.inl ⟨by rfl, ?_⟩) hH ?_
 rotate_left
 ·((intro W hW; clear hW; go_simp) <;> with_reducible rfl)
 simp only [sq3, sq4]
 refine wpAnyH_take (i := 3) (v := ?_) rfl (by kernel_rfl) (by kernel_rfl) (by kernel_rfl) (fun _ _ _ h => h) (Or.inl ⟨by rfl, ?_⟩) hH ?_
 rotate_left
 ·((intro W hW; clear hW; go_simp) <;> with_reducible rfl)
 simp only [sq3, sq4]
 refine wpAnyH_take (i := 4) (v := ?_) rfl (by kernel_rfl) (by kernel_rfl) (by kernel_rfl) (fun _ _ _ h => h) (Or.inl ⟨by rfl, ?_⟩) hH ?_
 rotate_left
 ·((intro W hW; clear hW; go_simp) <;> with_reducible rfl)
 simp only [sq3, sq4]
 refine wpAnyH_take (i := 5) (v := ?_) rfl (by kernel_rfl) (by kernel_rfl) (by kernel_rfl) (fun _ _ _ h => h) (Or.inl ⟨by rfl, ?_⟩) hH ?_
 rotate_left
 ·((intro W hW; have hk := cell_lit (hW.2) 0 _ rfl; clear hW; go_simp) <;> with_reducible rfl)
 simp only [sq3, sq4]
 refine wpAnyH_take (i := 6) (v := ?_) rfl (by kernel_rfl) (by kernel_rfl) (by kernel_rfl) (fun _ _ _ h => h) (Or.inl ⟨by rfl, ?_⟩) hH ?_
 rotate_left
 ·((intro W hW; clear hW; go_simp) <;> with_reducible rfl)
 simp only [sq3, sq4]
 refine wpAnyH_take (i := 7) (v := ?_) rfl (by kernel_rfl) (by kernel_rfl) (by kernel_rfl) (fun _ _ _ h => h) (Or.inl ⟨by rfl, ?_⟩) hH ?_
 rotate_left
 ·((intro W hW; clear hW; go_simp) <;> with_reducible rfl)
 simp only [sq3, sq4]
 refine wpAnyH_take (i := 8) (v := undef) rfl (by kernel_rfl) (by kernel_rfl) (by kernel_rfl) (fun _ _ _ h => h) (Or.inr ⟨by rfl, rfl⟩) hH ?_
 simp only [sq3, sq4]
 refine wpAnyH_take (i := 9) (v := undef) rfl (by kernel_rfl) (by kernel_rfl) (by kernel_rfl) (fun _ _ _ h => h) (Or.inr ⟨by rfl, rfl⟩) hH ?_
 simp only [sq3, sq4]
 refine wpAnyH_take (i := 10) (v := undef) rfl (by kernel_rfl) (by kernel_rfl) (by kernel_rfl) (fun _ _ _ h => h) (Or.inr ⟨by rfl, rfl⟩) hH ?_
 simp only [sq3, sq4]
 refine wpAnyH_take (i := 11) (v := undef) rfl (by kernel_rfl) (by kernel_rfl) (by kernel_rfl) (fun _ _ _ h => h) (Or.inr ⟨by rfl, rfl⟩) hH ?_
 simp only [sq3, sq4]
 refine wpAnyH_take (i := 12) (v := undef) rfl (by kernel_rfl) (by kernel_rfl) (by kernel_rfl) (fun _ _ _ h => h) (Or.inr ⟨by rfl, rfl⟩) hH ?_
 simp only [sq3, sq4]
 refine wpAnyH_take (i := 13) (v := undef) rfl (by kernel_rfl) (by kernel_rfl) (by kernel_rfl) (fun _ _ _ h => h) (Or.inr ⟨by rfl, rfl⟩) hH ?_
 simp only [sq3, sq4]
 refine wpAnyH_take (i := 14) (v := undef) rfl (by kernel_rfl) (by kernel_rfl) (by kernel_rfl) (fun _ _ _ h => h) (Or.inr ⟨by rfl, rfl⟩) hH ?_
 simp only [sq3, sq4]
 refine wpAnyH_take (i := 15) (v := undef) rfl (by kernel_rfl) (by kernel_rfl) (by kernel_rfl) (fun _ _ _ h => h) (Or.inr ⟨by rfl, rfl⟩) hH ?_
 simp only [sq3, sq4]
 refine wpAnyH_take (i := 16) (v := ?_) rfl (by kernel_rfl) (by kernel_rfl) (by kernel_rfl) (fun _ _ _ h => h) (Or.inl ⟨by rfl, ?_⟩) hH ?_
 rotate_left
 ·((intro W hW; clear hW; go_simp) <;> with_reducible rfl)
 simp only [sq3, sq4]
 refine wpAnyH_done (by kernel_rfl) ?_ _
 have R29 := cell_lit htb 0 _ rfl
 go_wp2_with fail
 clear R29
 go_loopg [6] ((65536 - lw).toNat) (fun gk s6 wr => ∃ j : Int, gk = (65536 - j).toNat ∧ lw ≤ j ∧ j ≤ q ∧ s6 = .int .i64 j ∧ wr.heap[gt]? = some (.cells #[.int .i64 lw, .int .i64 rm, .int .i64 now, .slice (some ⟨gE, 0, none⟩) n c, .map (some mb)] 76 (0, 0)) ∧ wr.heap[g3]? = some (.cells #[.int .i64 pr, .int .u8 (ad.a.toNat : Int), .int .u8 (ad.b.toNat : Int), .int .u8 (ad.c.toNat : Int), .int .u8 (ad.d.toNat : Int), .int .i64 p] 164 (0, 0)) ∧ Sle mpE 9 wr (some ⟨gE, 0, none⟩) (n) (c) (l) ∧ Below w.heap.size w wr)
 case atStart => exact ⟨lw, rfl, Int.le_refl _, HLQ.out, rfl, htb, hfb, en, bel⟩
 case round =>
  clear htb hfb en bel
  obtain ⟨j, HGK, hj1, hj2, rfl, htb, hfb, en, bel⟩ := hrel
  have HGK_ := Lib.hid HGK
  clear HGK
  by_cases h : j < q
  rotate_left
  ·obtain rfl : j = q := by omega
   have HPJ : Hid (okP pr j) := Lib.hid (by have := HPR.out; have := HLO.out; have := HQ5.out; unfold okP; omega)
   have hj5 := HQ5.out
   clear h
   have R36 := cell_lit hfb 0 _ rfl
   go_wp2_with fail
   clear R36
   with_reducible refine (mat_none pr j _ htb en HS.out HOK.out HPJ.out h32 HNO.out).mono ?_
   rintro e w3 ⟨rfl, b3⟩
   replace htb := blk_u htb b3
   replace hfb := blk_u hfb b3
   replace en := en.below b3
   replace bel := bel.trans (b3.mono bel.size)
   clear b3
   go_wp2_with fail
   exact bodyPost_ret (v := .tuple #[.int .i64 j, .bool true]) (by simp [results, Tryz.results136, go_sem]) rfl ⟨rfl, bel⟩
  have HPJ : Hid (okP pr j) := Lib.hid (by have := HPR.out; have := HLO.out; have := HQ6.out; unfold okP; omega)
  obtain ⟨i, x, hq, hx, _⟩ := mfhas_ex (HALL.out j hj1 h)
  have HQ := Lib.hid hq
  have HX := Lib.hid hx
  have HB := Lib.hid (HALL.out j hj1 h)
  clear hq hx
  have hj5 : j ≤ 65535 := by have := HQ6.out; omega
  have hw : IntKind.i64.wrap (j + 1) = j + 1 := IntWalk.i64_in _ (by have := HLO.out; omega)
  have R36 := cell_lit hfb 0 _ rfl
  go_wp2_with fail
  clear R36
  with_reducible refine (mat_some pr j _ htb en av_en_tb HS.out HOK.out HPJ.out h32 HQ.out HB.out HX.out).mono ?_
  rintro e w3 ⟨rfl, b3⟩
  replace htb := blk_u htb b3
  replace hfb := blk_u hfb b3
  replace en := en.below b3
  replace bel := bel.trans (b3.mono bel.size)
  clear b3
  go_wp2_with fail
  go_roundg ((65536 - (j + 1)).toNat)
  case measure => have := HGK_.out; omega
  case rel => exact ⟨j + 1, rfl, by omega, by omega, by go_num, htb, hfb, en, bel⟩
theorem fo_has_y {gt mb n c : Nat} {lw rm now : Int} {l : List Mp} {pr p : Int} {ad : Ad4} {gE : Nat} {q : Int} {i0 : Nat} {x0 : Mp} (w : World) (htb : w.heap[gt]? = some (.cells #[.int .i64 lw, .int .i64 rm, .int .i64 now, .slice (some ⟨gE, 0, none⟩) n c, .map (some mb)] 76 (0, 0))) (en : Sle mpE 9 w (some ⟨gE, 0, none⟩) n c l) (av_en_tb : Av (some ⟨gE, 0, none⟩) n gt) (hS : MSrt l) (hO : ∀ e ∈ l, e.okp) (h32 : n ≤ 1000) (hlo1 : 0 ≤ lw) (hlq : lw ≤ q) (hq6 : q ≤ 65536) (hpr : 0 ≤ pr ∧ pr ≤ 255) (hall : ∀ o, lw ≤ o → o < q → mfhas l (kn pr o) = true) (h1 : lw ≤ p) (hpo : okP pr p) (hqi : mfpos l (kn pr p) = i0) (hb : mfhas l (kn pr p) = true) (hx0 : l[i0]? = some x0) (hq5 : q ≤ 65535) (hno : mfhas l (kn pr q) = false) : Calls Tryz.prog 136 #[.pointer (some ⟨gt, 0, none⟩), .agg #[.int .i64 pr, .int .u8 (ad.a.toNat : Int), .int .u8 (ad.b.toNat : Int), .int .u8 (ad.c.toNat : Int), .int .u8 (ad.d.toNat : Int), .int .i64 p]] w fun e w' => e = .returned (.tuple #[.int .i64 q, .bool true]) ∧ Below w.heap.size w w' := by
 have HS := Lib.hid hS
 have HOK := Lib.hid hO
 clear hS hO
 have HPR := Lib.hid hpr
 have HALL := Lib.hid hall
 have HLO := Lib.hid hlo1
 have HLQ := Lib.hid hlq
 have HQ6 := Lib.hid hq6
 clear hpr hall hlq hq6
 have HQ5 := Lib.hid hq5
 have HNO := Lib.hid hno
 clear hq5 hno
 have h2 : p ≥ lw := h1
 have HPO := Lib.hid hpo
 have HQI := Lib.hid hqi
 have HB0 := Lib.hid hb
 have HX0 := Lib.hid hx0
 clear h1 hpo hqi hb hx0
 have bel := Below.refl w.heap.size w
 go_enter Tryz.func136, Tryz.ntmps136
 go_wp2_with (first | ((with_reducible show wpList _ _ _ (⟨some 3, _, _, _, _, _⟩ :: _) _ _); refine wpList_box_n rfl 164 (.tmp 1) rfl #[.int .i64 pr, .int .u8 (ad.a.toNat : Int), .int .u8 (ad.b.toNat : Int), .int .u8 (ad.c.toNat : Int), .int .u8 (ad.d.toNat : Int), .int .i64 p] rfl ?_; intro g3 w1 ge lt hh bb; have d_tb_fb := ne_new (hlt htb) ge; have av_en_fb := en.av_new ge; have ofb := Nat.le_trans bel.size ge; replace htb := blk_u htb bb; replace en := en.below bb; replace bel := bel.trans (bb.mono bel.size); have hfb := hh; clear hh lt ge bb))
 replace bel := bel.drew
 replace htb : w1.drew.heap[gt]? = _ := htb
 replace hfb : w1.drew.heap[g3]? = _ := hfb
 replace en := en.drew
 refine wp_region_held_drew (S := fun W => W.heap[g3]? = some (.cells #[.int .i64 pr, .int .u8 (ad.a.toNat : Int), .int .u8 (ad.b.toNat : Int), .int .u8 (ad.c.toNat : Int), .int .u8 (ad.d.toNat : Int), .int .i64 p] 164 (0, 0)) ∧ W.heap[gt]? = some (.cells #[.int .i64 lw, .int .i64 rm, .int .i64 now, .slice (some ⟨gE, 0, none⟩) n c, .map (some mb)] 76 (0, 0))) (by kernel_rfl) ⟨hfb, htb⟩ (fun hH => ?_)
 generalize w1.drew = w2 at bel htb hfb en hH ⊢
 refine wpAnyH_take (i := 0) (v := ?_) rfl (by kernel_rfl) (by kernel_rfl) (by kernel_rfl) (fun _ _ _ h => h) (Or.inl ⟨by rfl, ?_⟩) hH ?_
 rotate_left
 ·((intro W hW; clear hW; go_simp) <;> with_reducible rfl)
 simp only [Act.put, List.getElem_toArray, List.getElem_cons_zero, List.setIfInBounds_toArray, List.set_cons_zero, List.set_cons_succ]
 refine wpAnyH_take (i := 1) (v := ?_) rfl (by kernel_rfl) (by kernel_rfl) (by kernel_rfl) (fun _ _ _ h => h) (Or.inl ⟨by rfl, ?_⟩) hH ?_
 rotate_left
 ·((intro W hW; have hk := cell_lit (hW.1) 5 _ rfl; clear hW; go_simp) <;> with_reducible rfl)
 simp only [sq3, sq4]
 refine wpAnyH_take (i := 2) (v := ?_) rfl (by kernel_rfl) (by kernel_rfl) (by kernel_rfl) (fun _ _ _ h => h) (Or.inl ⟨by rfl, ?_⟩) hH ?_
 rotate_left
 ·((intro W hW; clear hW; go_simp) <;> with_reducible rfl)
 simp only [sq3, sq4]
 refine wpAnyH_take (i := 3) (v := ?_) rfl (by kernel_rfl) (by kernel_rfl) (by kernel_rfl) (fun _ _ _ h => h) (Or.inl ⟨by rfl, ?_⟩) hH ?_
 rotate_left
 ·((intro W hW; clear hW; go_simp) <;> with_reducible rfl)
 simp only [sq3, sq4]
 refine wpAnyH_take (i := 4) (v := ?_) rfl (by kernel_rfl) (by kernel_rfl) (by kernel_rfl) (fun _ _ _ h => h) (Or.inl ⟨by rfl, ?_⟩) hH ?_
 rotate_left
 ·((intro W hW; clear hW; go_simp) <;> with_reducible rfl)
 simp only [sq3, sq4]
 refine wpAnyH_take (i := 5) (v := ?_) rfl (by kernel_rfl) (by kernel_rfl) (by kernel_rfl) (fun _ _ _ h => h) (Or.inl ⟨by rfl, ?_⟩) hH ?_
 rotate_left
 ·((intro W hW; have hk := cell_lit (hW.2) 0 _ rfl; clear hW; go_simp) <;> with_reducible rfl)
 simp only [sq3, sq4]
 refine wpAnyH_take (i := 6) (v := ?_) rfl (by kernel_rfl) (by kernel_rfl) (by kernel_rfl) (fun _ _ _ h => h) (Or.inl ⟨by rfl, ?_⟩) hH ?_
 rotate_left
 ·((intro W hW; clear hW; go_simp) <;> with_reducible rfl)
 simp only [sq3, sq4]
 refine wpAnyH_take (i := 7) (v := ?_) rfl (by kernel_rfl) (by kernel_rfl) (by kernel_rfl) (fun _ _ _ h => h) (Or.inl ⟨by rfl, ?_⟩) hH ?_
 rotate_left
 ·((intro W hW; clear hW; go_simp) <;> with_reducible rfl)
 simp only [sq3, sq4]
 refine wpAnyH_take (i := 8) (v := ?_) rfl (by kernel_rfl) (by kernel_rfl) (by kernel_rfl) (fun _ _ _ h => h) (Or.inl ⟨by rfl, ?_⟩) hH ?_
 rotate_left
 ·((intro W hW; clear hW; go_simp) <;> with_reducible rfl)
 simp only [sq3, sq4]
 refine wpAnyH_take (i := 9) (v := ?_) rfl (by kernel_rfl) (by kernel_rfl) (by kernel_rfl) (fun _ _ _ h => h) (Or.inl ⟨by rfl, ?_⟩) hH ?_
 rotate_left
 ·((intro W hW; clear hW; go_simp) <;> with_reducible rfl)
 simp only [sq3, sq4]
 refine wpAnyH_take (i := 10) (v := ?_) rfl (by kernel_rfl) (by kernel_rfl) (by kernel_rfl) (fun _ _ _ h => h) (Or.inl ⟨by rfl, ?_⟩) hH ?_
 rotate_left
 ·((intro W hW; have hk := cell_lit (hW.1) 0 _ rfl; clear hW; go_simp) <;> with_reducible rfl)
 simp only [sq3, sq4]
 refine wpAnyH_take (i := 11) (v := ?_) rfl (by kernel_rfl) (by kernel_rfl) (by kernel_rfl) (fun _ _ _ h => h) (Or.inl ⟨by rfl, ?_⟩) hH ?_
 rotate_left
 ·((intro W hW; clear hW; go_simp) <;> with_reducible rfl)
 simp only [sq3, sq4]
 refine wpAnyH_take (i := 12) (v := ?_) rfl (by kernel_rfl) (by kernel_rfl) (by kernel_rfl) (fun _ _ _ h => h) (Or.inl ⟨by rfl, ?_⟩) hH ?_
 rotate_left
 ·((intro W hW; have hk := cell_lit (hW.1) 5 _ rfl; clear hW; go_simp) <;> with_reducible rfl)
 simp only [sq3, sq4]
 refine wpAnyH_take (i := 13) (v := ?_) rfl (by kernel_rfl) (by kernel_rfl) (by kernel_rfl) (fun _ _ _ h => h) (Or.inl ⟨by rfl, ?_⟩) hH ?_
 rotate_left
 ·((intro W hW; clear hW; go_simp) <;> with_reducible rfl)
 simp only [sq3, sq4]
 refine wpAnyH_ready (rs := [14]) (by kernel_rfl) (by simp) ?_
 refine AllReadyH.cons (o := _) rfl (fun K hK => ?_) AllReadyH.nil
 simp only [sq3]
 go_simp
 with_reducible refine (mat_some pr p _ htb en av_en_tb HS.out HOK.out HPO.out h32 HQI.out HB0.out HX0.out).mono ?_
 rintro e w3 ⟨rfl, b3⟩
 dsimp only
 replace htb := blk_u htb b3
 replace hfb := blk_u hfb b3
 replace en := en.below b3
 replace bel := bel.trans (b3.mono bel.size)
 clear b3
 refine hK.out _ _ ⟨hfb, htb⟩ (fun hH4 => ?_)
 clear hK K
 refine wpAnyH_take (i := 15) (v := ?_) rfl (by kernel_rfl) (by kernel_rfl) (by kernel_rfl) (fun _ _ _ h => h) (Or.inl ⟨by rfl, ?_⟩) hH4 ?_
 rotate_left
 ·((intro W hW; clear hW; go_simp) <;> with_reducible rfl)
 simp only [sq3, sq4]
 refine wpAnyH_take (i := 16) (v := ?_) rfl (by kernel_rfl) (by kernel_rfl) (by kernel_rfl) (fun _ _ _ h => h) (Or.inl ⟨by rfl, ?_⟩) hH4 ?_
 rotate_left
 ·((intro W hW; clear hW; go_simp) <;> with_reducible rfl)
 simp only [sq3, sq4]
 refine wpAnyH_done (by kernel_rfl) ?_ _
 have R29 := cell_lit htb 0 _ rfl
 go_wp2_with fail
 clear R29
 go_loopg [6] ((65536 - lw).toNat) (fun gk s6 wr => ∃ j : Int, gk = (65536 - j).toNat ∧ lw ≤ j ∧ j ≤ q ∧ s6 = .int .i64 j ∧ wr.heap[gt]? = some (.cells #[.int .i64 lw, .int .i64 rm, .int .i64 now, .slice (some ⟨gE, 0, none⟩) n c, .map (some mb)] 76 (0, 0)) ∧ wr.heap[g3]? = some (.cells #[.int .i64 pr, .int .u8 (ad.a.toNat : Int), .int .u8 (ad.b.toNat : Int), .int .u8 (ad.c.toNat : Int), .int .u8 (ad.d.toNat : Int), .int .i64 p] 164 (0, 0)) ∧ Sle mpE 9 wr (some ⟨gE, 0, none⟩) (n) (c) (l) ∧ Below w.heap.size w wr)
 case atStart => exact ⟨lw, rfl, Int.le_refl _, HLQ.out, rfl, htb, hfb, en, bel⟩
 case round =>
  clear htb hfb en bel
  obtain ⟨j, HGK, hj1, hj2, rfl, htb, hfb, en, bel⟩ := hrel
  have HGK_ := Lib.hid HGK
  clear HGK
  by_cases h : j < q
  rotate_left
  ·obtain rfl : j = q := by omega
   have HPJ : Hid (okP pr j) := Lib.hid (by have := HPR.out; have := HLO.out; have := HQ5.out; unfold okP; omega)
   have hj5 := HQ5.out
   clear h
   have R36 := cell_lit hfb 0 _ rfl
   go_wp2_with fail
   clear R36
   with_reducible refine (mat_none pr j _ htb en HS.out HOK.out HPJ.out h32 HNO.out).mono ?_
   rintro e w5 ⟨rfl, b5⟩
   replace htb := blk_u htb b5
   replace hfb := blk_u hfb b5
   replace en := en.below b5
   replace bel := bel.trans (b5.mono bel.size)
   clear b5
   go_wp2_with fail
   exact bodyPost_ret (v := .tuple #[.int .i64 j, .bool true]) (by simp [results, Tryz.results136, go_sem]) rfl ⟨rfl, bel⟩
  have HPJ : Hid (okP pr j) := Lib.hid (by have := HPR.out; have := HLO.out; have := HQ6.out; unfold okP; omega)
  obtain ⟨i, x, hq, hx, _⟩ := mfhas_ex (HALL.out j hj1 h)
  have HQ := Lib.hid hq
  have HX := Lib.hid hx
  have HB := Lib.hid (HALL.out j hj1 h)
  clear hq hx
  have hj5 : j ≤ 65535 := by have := HQ6.out; omega
  have hw : IntKind.i64.wrap (j + 1) = j + 1 := IntWalk.i64_in _ (by have := HLO.out; omega)
  have R36 := cell_lit hfb 0 _ rfl
  go_wp2_with fail
  clear R36
  with_reducible refine (mat_some pr j _ htb en av_en_tb HS.out HOK.out HPJ.out h32 HQ.out HB.out HX.out).mono ?_
  rintro e w5 ⟨rfl, b5⟩
  replace htb := blk_u htb b5
  replace hfb := blk_u hfb b5
  replace en := en.below b5
  replace bel := bel.trans (b5.mono bel.size)
  clear b5
  go_wp2_with fail
  go_roundg ((65536 - (j + 1)).toNat)
  case measure => have := HGK_.out; omega
  case rel => exact ⟨j + 1, rfl, by omega, by omega, by go_num, htb, hfb, en, bel⟩
open Go.RowKit

section
variable {k : Nat} {w : World} {B n c g : Nat} {T : TypeId} {xs : List Value}
theorem row_of (h : w.ownsRow B T k (.slice (some ⟨g, 0, none⟩) n c) n xs) : xs.length = n * k ∧ ∃ cur : List Value, B ≤ g ∧ w.heap[g]? = some (.cells cur.toArray T (0, 0)) ∧ n ≤ c ∧ c ≤ maxLen ∧ cur.length = c * k ∧ cur.take (n * k) = xs := by
 refine ⟨h.1, ?_⟩
 rcases h.2 with ⟨e, _⟩ | ⟨g', cap, cur, e, hb, hh, hn, hc, hs, ht⟩
 ·cases e
 ·injection e with e1 e2 e3
  injection e1 with e1
  injection e1 with e1
  subst e1
  subst e3
  exact ⟨cur.toList, hb, by simpa using hh, hn, hc, by simpa using hs, ht⟩
theorem row_mk {cur : List Value} (hb : B ≤ g) (hh : w.heap[g]? = some (.cells cur.toArray T (0, 0))) (hn : n ≤ c) (hc : c ≤ maxLen) (hs : cur.length = c * k) (ht : cur.take (n * k) = xs) : w.ownsRow B T k (.slice (some ⟨g, 0, none⟩) n c) n xs := by
 refine ⟨?_, .inr ⟨g, c, cur.toArray, rfl, hb, hh, hn, hc, by simpa using hs, by simpa using ht⟩⟩
 rw [← ht, List.length_take, hs]
 exact Nat.min_eq_left (Nat.mul_le_mul_right k hn)
/-- Cells written into a row. -/
theorem row_cells (h : w.ownsRow B T k (.slice (some ⟨g, 0, none⟩) n c) n xs) (p : Nat) (cs : List Value) (hp : p + cs.length ≤ n * k) :
  (w.setCells g p cs).ownsRow B T k (.slice (some ⟨g, 0, none⟩) n c) n (xs.take p ++ cs ++ xs.drop (p + cs.length)) ∧ w.grownBy (w.setCells g p cs) (some g) := by
 refine ⟨?_, setCells_grown cs p w⟩
 obtain ⟨hl, cur, hb, hh, hn, hc, hs, ht⟩ := row_of h
 have hnk : n * k ≤ c * k := Nat.mul_le_mul_right k hn
 have hcur : cur = xs ++ cur.drop (n * k) := by rw [← ht, List.take_append_drop]
 have h2 := setCells_heap (T := T) (fr := (0, 0)) cs p w cur hh (by omega)
 have e4 : cur.take p ++ cs ++ cur.drop (p + cs.length) = (xs.take p ++ cs ++ xs.drop (p + cs.length)) ++ cur.drop (n * k) := by
  conv => lhs; rw [hcur]
  rw [List.take_append_of_le_length (by omega), List.drop_append_of_le_length (by omega)]
  simp [List.append_assoc]
 rw [e4] at h2
 refine row_mk hb h2 hn hc ?_ ?_
 ·simp; omega
 ·rw [List.take_append_of_le_length (by simp; omega), List.take_of_length_le (by simp; omega)]
theorem row_store {P : Program} (h : w.ownsRow B T k (.slice (some ⟨g, 0, none⟩) n c) n xs) (p : Nat) (cs : List Value) (hp : p + cs.length ≤ n * k) (h1 : ∀ v ∈ cs, v.oneCell' = true) :
  (storeCells ⟨g, p, none⟩ cs 0).run P w = .ok () (w.setCells g p cs) := by
 have hl := h.1
 have hc : ∀ j, j < cs.length → (w.cell? ⟨g, p + 0 + j, none⟩).isSome = true := by
  intro j hj
  rw [h.cellAt (p + 0 + j) (by omega), List.getElem?_eq_getElem (by omega)]; rfl
 have hfz : ∀ j, j < cs.length → w.frozen? ⟨g, p + 0 + j, none⟩ = false := fun j _ => h.frozenAt _
 have := run_storeCells_cells (P := P) g p cs 0 w hc hfz h1
 simpa only [Nat.add_zero] using this
/-- A row of fewer elements, of more. -/
theorem row_less (h : w.ownsRow B T k (.slice (some ⟨g, 0, none⟩) n c) n xs) {i : Nat} (hi : i ≤ n) : w.ownsRow B T k (.slice (some ⟨g, 0, none⟩) i c) i (xs.take (i * k)) := by
 obtain ⟨hl, cur, hb, hh, hn, hc, hs, ht⟩ := row_of h
 refine row_mk hb hh (by omega) hc hs ?_
 rw [← ht, List.take_take, Nat.min_eq_left (Nat.mul_le_mul_right k hi)]
theorem row_more (h : w.ownsRow B T k (.slice (some ⟨g, 0, none⟩) n c) n xs) {m : Nat} (hm : n + m ≤ c) : ∃ ys, ys.length = m * k ∧ w.ownsRow B T k (.slice (some ⟨g, 0, none⟩) (n + m) c) (n + m) (xs ++ ys) := by
 obtain ⟨hl, cur, hb, hh, hn, hc, hs, ht⟩ := row_of h
 have h1 : (n + m) * k ≤ c * k := Nat.mul_le_mul_right k hm
 rw [Nat.add_mul] at h1
 refine ⟨(cur.drop (n * k)).take (m * k), by simp; omega, row_mk hb hh hm hc hs ?_⟩
 rw [Nat.add_mul, List.take_add, ht]
/-- The cells of a piece of a row. -/
theorem row_piece (h : w.ownsRow B T k (.slice (some ⟨g, 0, none⟩) n c) n xs) (p : Nat) (cs : List Value) (hcs : (xs.drop p).take cs.length = cs) : ∀ j v, cs[j]? = some v → w.cell? ((⟨g, p, none⟩ : Addr).add j) = some v := by
 intro j v hv
 rw [← hcs, List.getElem?_take] at hv
 split at hv
 ·rw [List.getElem?_drop] at hv
  have hj := (List.getElem?_eq_some_iff.1 hv).1
  rw [Addr.add_lit, h.cellAt (p + j) (by rw [← h.1]; exact hj)]
  exact hv
 ·cases hv
end
/-- Zeros. -/
def zerosL (z : Value) (n : Nat) : List Value := (Builtin.zeroCells z.cells n).toList
theorem zerosL_len (z : Value) (n : Nat) {k : Nat} (hz : z.cells.size = k) : (zerosL z n).length = n * k := by
 unfold zerosL
 rw [Array.length_toList, size_zeroCells, hz]
theorem zerosL_one (z : Value) (n : Nat) (hz : z.cells.all (·.oneCell') = true) : ∀ v ∈ zerosL z n, v.oneCell' = true := by
 intro v hv
 unfold zerosL Builtin.zeroCells at hv
 simp only [Array.toList_map, List.mem_map] at hv
 obtain ⟨i, hi, rfl⟩ := hv
 have hr : i < n * z.cells.size := by simpa using hi
 have h0 : 0 < z.cells.size := by
  rcases Nat.eq_zero_or_pos z.cells.size with h | h
  ·rw [h] at hr; omega
  ·exact h
 have hm : i % z.cells.size < z.cells.size := Nat.mod_lt _ h0
 rw [getElem!_pos z.cells _ hm]
 exact Array.all_eq_true.1 hz _ hm
section
variable {P : Program}
/-- clear(s[i:]): behind it the first i elements are a row. -/
theorem run_clear_row {k : Nat} {w : World} {B c g i m : Nat} {T : TypeId} {xs : List Value} (t e ty : TypeId) (z : Value) (ht : P.underlying t = some (.slice e)) (hz : (P.info? e).bind (·.zero) = some z) (hzs : z.cells.size = k) (hz1 : z.cells.all (·.oneCell') = true)
  (h : w.ownsRow B T k (.slice (some ⟨g, 0, none⟩) (i + m) c) (i + m) xs) (hm : 0 < m) (c2 : Nat) :
  ∃ w', (Builtin.clear_ #[t] ty #[.slice (some ⟨g, i * k, none⟩) m c2]).run P w = .ok (.tuple #[]) w' ∧ w'.ownsRow B T k (.slice (some ⟨g, 0, none⟩) i c) i (xs.take (i * k)) ∧ w.grownBy w' (some g) := by
 have hl := zerosL_len z m hzs
 have hle : i * k + (zerosL z m).length ≤ (i + m) * k := by rw [hl, Nat.add_mul]; omega
 have hr := row_cells h (i * k) (zerosL z m) hle
 have hst := row_store (P := P) h (i * k) (zerosL z m) hle (zerosL_one z m hz1)
 refine ⟨_, ?_, ?_, hr.2⟩
 ·have hzv : (zeroValue e).run P w = .ok z w := by
   cases hq : P.info? e with
   | none => simp [hq] at hz
   | some q =>
    have hz' : q.zero = some z := by simpa [hq] using hz
    simp [zeroValue, typeInfo, hq, hz']
  obtain ⟨m', rfl⟩ : ∃ q, m = q + 1 := ⟨m - 1, by omega⟩
  unfold zerosL at hst
  simp [Builtin.clear_, run_underlying ht, hzv, hst]
  rfl
 ·have h2 := row_less hr.1 (i := i) (by omega)
  have h1 := h.1
  rw [Nat.add_mul] at h1
  rw [List.append_assoc, List.take_append_of_le_length (by rw [List.length_take]; omega), List.take_take, Nat.min_self] at h2
  exact h2
theorem wp_clear_row {o : Oper} {a : Act} {K : Act → World → Prop} {Q : Exit → Act → World → Prop} {k : Nat} {w : World} {B c g i m : Nat} {T : TypeId} {xs : List Value} (x : Operand) (t e : TypeId) (ho : o.op = .call { callee := .builtin .clear, args := #[x], argTypes := #[t] })
  (z : Value) (ht : P.underlying t = some (.slice e)) (hz : (P.info? e).bind (·.zero) = some z) (hzs : z.cells.size = k) (hz1 : z.cells.all (·.oneCell') = true)
  (n : Nat) (hn : i + m = n) (h : w.ownsRow B T k (.slice (some ⟨g, 0, none⟩) n c) n xs) (hm : 0 < m) (c2 : Nat) (hx : a.eval x = .slice (some ⟨g, i * k, none⟩) m c2)
  (hK : ∀ w', w'.ownsRow B T k (.slice (some ⟨g, 0, none⟩) i c) i (xs.take (i * k)) → w.grownBy w' (some g) → K (a.put o.dst (.tuple #[])) w') : Oper.wp P o a w K Q := by
 subst hn
 obtain ⟨w', hr, h2, h3⟩ := run_clear_row (P := P) t e o.type z ht hz hzs hz1 h hm c2
 unfold Oper.wp execOp
 simp only [ho, resolve, invoke, builtin, Sem.run_bind, Sem.run_pure, Result.andThen_ok, List.map_toArray, List.map_cons, List.map_nil, hx, hr]
 exact hK _ h2 h3
theorem wpList_clear_row {ops : Array Oper} {rest : List Oper} {o : Oper} {a : Act} {Q : Exit → Act → World → Prop} {k : Nat} {w : World} {B c g i m : Nat} {T : TypeId} {xs : List Value} (hgd : o.guard = none) (x : Operand) (t e : TypeId) (ho : o.op = .call { callee := .builtin .clear, args := #[x], argTypes := #[t] })
  (z : Value) (ht : P.underlying t = some (.slice e)) (hz : (P.info? e).bind (·.zero) = some z) (hzs : z.cells.size = k) (hz1 : z.cells.all (·.oneCell') = true)
  (n : Nat) (hn : i + m = n) (h : w.ownsRow B T k (.slice (some ⟨g, 0, none⟩) n c) n xs) (hm : 0 < m) (c2 : Nat) (hx : a.eval x = .slice (some ⟨g, i * k, none⟩) m c2)
  (hK : ∀ w', w'.ownsRow B T k (.slice (some ⟨g, 0, none⟩) i c) i (xs.take (i * k)) → w.grownBy w' (some g) → wpList P ops Q rest (a.put o.dst (.tuple #[])) w') : wpList P ops Q (o :: rest) a w :=
 wpList_plain hgd fun _ hK' => wp_clear_row x t e ho z ht hz hzs hz1 n hn h hm c2 hx (fun w' h1 h2 => hK' _ _ (hK w' h1 h2))
/-- copy into a row, from wherever the cells are read. -/
theorem run_copy_rowk {k : Nat} {w : World} {B n c g : Nat} {T : TypeId} {xs : List Value} (dT sT ty e : TypeId) (hu : P.underlying dT = some (.slice e)) (hs : (P.info? e).map (·.size) = some k)
  (h : w.ownsRow B T k (.slice (some ⟨g, 0, none⟩) n c) n xs) (p dl dc : Nat) (ad : Addr) (sl sc : Nat) (cs : List Value) (hn : cs.length = Nat.min sl dl * k) (hsrc : ∀ j v, cs[j]? = some v → w.cell? (ad.add j) = some v) (hp : p + cs.length ≤ n * k) (h1 : ∀ v ∈ cs, v.oneCell' = true) :
  (Builtin.copy_ #[dT, sT] ty #[.slice (some ⟨g, p, none⟩) dl dc, .slice (some ad) sl sc]).run P w = .ok (goInt (Nat.min sl dl)) (w.setCells g p cs) := by
 have hl := run_loadCells_list (P := P) w ad cs hsrc
 have hst := row_store (P := P) h p cs hp h1
 cases hq : P.info? e with
 | none => simp [hq] at hs
 | some i =>
  have hi : i.size = k := by simpa [hq] using hs
  simp [Builtin.copy_, run_underlying hu, Builtin.lenOf, Builtin.firstCells, sizeOf, typeInfo, hq, hi, ← hn, hl, hst]
theorem wp_copy_rowk {o : Oper} {a : Act} {K : Act → World → Prop} {Q : Exit → Act → World → Prop} {k : Nat} {w : World} {B n c g : Nat} {T : TypeId} {xs : List Value} (d s : Operand) (dT sT e : TypeId) (ho : o.op = .call { callee := .builtin .copy, args := #[d, s], argTypes := #[dT, sT] })
  (hu : P.underlying dT = some (.slice e)) (hs : (P.info? e).map (·.size) = some k) (h : w.ownsRow B T k (.slice (some ⟨g, 0, none⟩) n c) n xs) (p dl dc : Nat) (ad : Addr) (sl sc : Nat) (cs : List Value)
  (hd : a.eval d = .slice (some ⟨g, p, none⟩) dl dc) (hx : a.eval s = .slice (some ad) sl sc) (hn : cs.length = Nat.min sl dl * k) (hsrc : ∀ j v, cs[j]? = some v → w.cell? (ad.add j) = some v) (hp : p + cs.length ≤ n * k) (h1 : ∀ v ∈ cs, v.oneCell' = true)
  (xs' : List Value) (he : xs.take p ++ cs ++ xs.drop (p + cs.length) = xs')
  (hK : ∀ w', w'.ownsRow B T k (.slice (some ⟨g, 0, none⟩) n c) n xs' → w.grownBy w' (some g) → K (a.put o.dst (goInt (Nat.min sl dl))) w') : Oper.wp P o a w K Q := by
 have hr := run_copy_rowk (P := P) dT sT o.type e hu hs h p dl dc ad sl sc cs hn hsrc hp h1
 have hc := row_cells h p cs hp
 rw [he] at hc
 unfold Oper.wp execOp
 simp only [ho, resolve, invoke, builtin, Sem.run_bind, Sem.run_pure, Result.andThen_ok, List.map_toArray, List.map_cons, List.map_nil, hd, hx, hr]
 exact hK _ hc.1 hc.2
theorem wpList_copy_rowk {ops : Array Oper} {rest : List Oper} {o : Oper} {a : Act} {Q : Exit → Act → World → Prop} {k : Nat} {w : World} {B n c g : Nat} {T : TypeId} {xs : List Value} (hgd : o.guard = none) (d s : Operand) (dT sT e : TypeId) (ho : o.op = .call { callee := .builtin .copy, args := #[d, s], argTypes := #[dT, sT] })
  (hu : P.underlying dT = some (.slice e)) (hs : (P.info? e).map (·.size) = some k) (h : w.ownsRow B T k (.slice (some ⟨g, 0, none⟩) n c) n xs) (p dl dc : Nat) (ad : Addr) (sl sc : Nat) (cs : List Value)
  (hd : a.eval d = .slice (some ⟨g, p, none⟩) dl dc) (hx : a.eval s = .slice (some ad) sl sc) (hn : cs.length = Nat.min sl dl * k) (hsrc : ∀ j v, cs[j]? = some v → w.cell? (ad.add j) = some v) (hp : p + cs.length ≤ n * k) (h1 : ∀ v ∈ cs, v.oneCell' = true)
  (xs' : List Value) (he : xs.take p ++ cs ++ xs.drop (p + cs.length) = xs')
  (hK : ∀ w', w'.ownsRow B T k (.slice (some ⟨g, 0, none⟩) n c) n xs' → w.grownBy w' (some g) → wpList P ops Q rest (a.put o.dst (goInt (Nat.min sl dl))) w') : wpList P ops Q (o :: rest) a w :=
 wpList_plain hgd fun _ hK' => wp_copy_rowk d s dT sT e ho hu hs h p dl dc ad sl sc cs hd hx hn hsrc hp h1 xs' he (fun w' h1 h2 => hK' _ _ (hK w' h1 h2))
/-- append(s[:i], make(S, m)...) where there is no room: a new row. -/
theorem run_append_fresh {k : Nat} {w : World} {B i c g : Nat} {T : TypeId} {xs : List Value} (t tn ty e : TypeId) (z : TypeInfo) (zv : Value) (kn : IntKind) (bytes : Nat) (ht : P.underlying t = some (.slice e)) (htn : P.underlying tn = some (.int kn)) (hi : P.info? e = some z) (hz : z.zero = some zv) (hs : z.size = k) (hby : z.bytes = bytes) (hzs : zv.cells.size = k) (hk : 0 < k)
  (h : w.ownsRow B T k (.slice (some ⟨g, 0, none⟩) i c) i xs) (kq : IntKind) (m : Nat) (hm : 0 < m) (hg : c < i + m) (h63 : i + m ≤ maxLen) (h47 : (i + m) * bytes ≤ 140737488355328) :
  ∃ g' c' w', (Builtin.append_ #[t, tn] ty #[.slice (some ⟨g, 0, none⟩) i c, .int kq m]).run P w = .ok (.slice (some ⟨g', 0, none⟩) (i + m) c') w' ∧ w.heap.size ≤ g' ∧ w'.ownsRow w.heap.size e k (.slice (some ⟨g', 0, none⟩) (i + m) c') (i + m) (xs ++ zerosL zv m) ∧ Below w.heap.size w w' := by
 subst hs
 subst hby
 have hold := run_firstCells_some (P := P) w.drew z.size i ⟨g, 0, none⟩ i c xs h.1 (by simpa using h.cells (g := g) rfl)
 have hfit : m * z.bytes ≤ 281474976710656 := by
  have : m * z.bytes ≤ (i + m) * z.bytes := Nat.mul_le_mul_right _ (by omega)
  omega
 have hr := Lib.run_append_grow_zeros (P := P) w t tn ty e z zv kq kn ht htn hi hz (some ⟨g, 0, none⟩) i c xs hold m hm hk hg (by unfold maxLen at h63; omega) hfit (growslice_fits hg h47)
 have hge := grownCap_ge w (i + m) c e
 have hcm := grownCap_le_maxLen w (i + m) c e h63
 refine ⟨_, _, _, hr, Nat.le_refl _, ?_, (Below.refl _ _).drew.alloc (Nat.le_refl _) _⟩
 have hh := heap_alloc_new w.drew (.cells (xs.toArray ++ Builtin.zeroCells zv.cells m ++ Builtin.zeroCells zv.cells (grownCap w (i + m) c e - (i + m))) e)
 refine row_mk (cur := xs ++ zerosL zv m ++ zerosL zv (grownCap w (i + m) c e - (i + m))) (Nat.le_refl _) ?_ hge hcm ?_ ?_
 ·rw [show w.drew.heap.size = w.heap.size from rfl] at hh
  rw [hh]
  simp [zerosL]
 ·simp only [List.length_append, zerosL_len _ _ hzs, h.1, ← Nat.add_mul]
  congr 1; omega
 ·rw [List.take_append_of_le_length (by simp only [List.length_append, zerosL_len _ _ hzs, h.1, ← Nat.add_mul]; omega), List.take_of_length_le (by simp only [List.length_append, zerosL_len _ _ hzs, h.1, ← Nat.add_mul]; omega)]
theorem wpList_append_fresh {ops : Array Oper} {rest : List Oper} {o : Oper} {a : Act} {Q : Exit → Act → World → Prop} {k : Nat} {w : World} {B i c g : Nat} {T : TypeId} {xs : List Value} (hgd : o.guard = none) (d s : Operand) (t tn e : TypeId) (ho : o.op = .call { callee := .builtin .append, args := #[d, s], argTypes := #[t, tn] })
  (z : TypeInfo) (zv : Value) (kn : IntKind) (bytes : Nat) (ht : P.underlying t = some (.slice e)) (htn : P.underlying tn = some (.int kn)) (hi : P.info? e = some z) (hz : z.zero = some zv) (hs : z.size = k) (hby : z.bytes = bytes) (hzs : zv.cells.size = k) (hk : 0 < k)
  (h : w.ownsRow B T k (.slice (some ⟨g, 0, none⟩) i c) i xs) (kq : IntKind) (m : Nat) (hd : a.eval d = .slice (some ⟨g, 0, none⟩) i c) (hx : a.eval s = .int kq m) (hm : 0 < m) (r : Nat) (hr : i + m = r) (hg : c < r) (h63 : r ≤ maxLen) (h47 : r * bytes ≤ 140737488355328)
  (hK : ∀ g' c' w', w.heap.size ≤ g' → w'.ownsRow w.heap.size e k (.slice (some ⟨g', 0, none⟩) r c') r (xs ++ zerosL zv m) → Below w.heap.size w w' → wpList P ops Q rest (a.put o.dst (.slice (some ⟨g', 0, none⟩) r c')) w') : wpList P ops Q (o :: rest) a w := by
 subst hr
 obtain ⟨g', c', w', hr, h1, h2, h3⟩ := run_append_fresh (P := P) t tn o.type e z zv kn bytes ht htn hi hz hs hby hzs hk h kq m hm hg h63 h47
 exact Lib.wpList_append_run w hgd d s t tn ho _ _ hd hx _ _ hr (hK g' c' w' h1 h2 h3)
end
open Go.RowKit

def ptV (p o : Int) : Value := .agg #[.int .i64 p, .int .i64 o]
def mpV (e : Mp) : Value := .agg #[.int .i64 e.pr, .int .i64 e.o, .int .u8 (e.ad.a.toNat : Int), .int .u8 (e.ad.b.toNat : Int), .int .u8 (e.ad.c.toNat : Int), .int .u8 (e.ad.d.toNat : Int), .int .i64 e.i, .int .i64 e.k, .int .i64 e.u]
theorem ptV_inj {p o q r : Int} (h : ptV p o = ptV q r) : p = q ∧ o = r := by
 simp only [ptV, Value.agg.injEq, Array.mk.injEq, List.cons.injEq, Value.int.injEq, true_and, and_true] at h
 exact h
theorem lawP : WideMaps.KeyLaw Tryz.prog 100 := deep_law_laid (by kernel_rfl) (m := 2) (by omega) (of_decide_eq_true (by kernel_rfl)) (by kernel_rfl) (by kernel_rfl)
theorem key_port {p o : Int} (h : okP p o) : ∃ l, keyOf Tryz.prog 100 (ptV p o) = some l := by
 obtain ⟨h1, h2, h3, h4⟩ := h
 obtain ⟨fs, hu, hall, hfs⟩ : ∃ fs, Tryz.prog.underlying 100 = some (.struct fs) ∧ fs.all (·.name != "_") = true ∧ fs.toList.map (fun f => (f.type, f.offset)) = [(3, 0), (3, 1)] := ⟨_, Tryz.underlying100, by simp, by rfl⟩
 have h8 : Tryz.prog.underlying 3 = some (.int .i64) := by kernel_rfl
 have hk : Tryz.prog.keyType 100 = true := by kernel_rfl
 have c2 : Tryz.prog.cellsOf 100 = 2 := by kernel_rfl
 have c1 : Tryz.prog.cellsOf 3 = 1 := by kernel_rfl
 obtain ⟨d, hd⟩ : ∃ d, Tryz.prog.types.size = d + 1 := ⟨Tryz.prog.types.size - 1, by have : 0 < Tryz.prog.types.size := of_decide_eq_true (by kernel_rfl); omega⟩
 have one : ∀ (a : Int), 0 ≤ a → a ≤ 65535 → Tryz.prog.keyLits (d + 1) 3 [.int .i64 a] = some [.int .i64 a] := fun a ha hb => by
  have hw : (Lit.int .i64 a).wf = true := by
   simp [Lit.wf, IntKind.min, IntKind.max, IntKind.signed, IntKind.bits]; omega
  unfold Program.keyLits
  simp only [h8]
  rw [if_pos ⟨trivial, hw⟩]
 rw [← Option.isSome_iff_exists]
 unfold keyOf
 simp only [hu, hk, Bool.true_and]
 have hf : (ptV p o).formed Tryz.prog 100 = true := by simp [Value.formed, ptV, hu, c2]
 rw [if_pos hf, hd]
 unfold Program.keyLits
 simp only [hu, c2]
 rw [if_pos ⟨show (ptV p o).cells.toList.length = 2 from rfl, hall⟩]
 obtain ⟨f1, f2, hl⟩ : ∃ f1 f2, fs.toList = [f1, f2] := by
  have hl2 : fs.toList.length = 2 := by have := congrArg List.length hfs; simpa using this
  rcases h9 : fs.toList with _ | ⟨f1, _ | ⟨f2, _ | ⟨f3, q⟩⟩⟩
  ·rw [h9] at hl2; cases hl2
  ·rw [h9] at hl2; cases hl2
  ·exact ⟨f1, f2, rfl⟩
  ·rw [h9] at hl2; simp at hl2
 rw [hl] at hfs ⊢
 simp only [List.map_cons, List.map_nil, List.cons.injEq, Prod.mk.injEq, and_true] at hfs
 obtain ⟨⟨t1, o1⟩, t2, o2⟩ := hfs
 simp only [ptV, Value.cells, List.mapM_cons, List.mapM_nil, t1, t2, o1, o2, c1, List.drop_zero, List.drop_succ_cons, List.take_succ_cons, List.take_zero, one p (by omega) (by omega), one o h3 h4, Option.pure_def, Option.bind_eq_bind, Option.bind_some, Option.map_some, Option.isSome_some]

/-- The map at block mb: those that are over. -/
def Om (lo mb : Nat) (w : World) (os : List Mp) : Prop := ∃ (es : Array MapEntry) (ck : Nat), w.heap[mb]? = some (.map es ck) ∧ lo ≤ mb ∧ es.toList.map (fun e => (e.key, e.val)) = os.map (fun m => (ptV m.pr m.o, mpV m)) ∧ OsOk os ∧ (∀ e ∈ es.toList, e.born < ck) ∧ (es.toList.map (·.born)).Nodup
theorem Om.of {lo mb : Nat} {w w' : World} {os : List Mp} (h : Om lo mb w os) (e : ∀ o, w.heap[mb]? = some o → w'.heap[mb]? = some o) : Om lo mb w' os := by
 obtain ⟨es, ck, h1, h2⟩ := h
 exact ⟨es, ck, e _ h1, h2⟩
theorem Om.lt {lo mb : Nat} {w : World} {os : List Mp} (h : Om lo mb w os) : mb < w.heap.size := by
 obtain ⟨es, ck, h1, _⟩ := h
 exact hlt h1
theorem Om.below {lo mb : Nat} {w w' : World} {os : List Mp} (h : Om lo mb w os) (b : Below w.heap.size w w') : Om lo mb w' os := h.of fun _ ho => blk_u ho b
theorem Om.ne {lo mb q : Nat} {w : World} {os : List Mp} {c : Array Value} {T : TypeId} {fz : Nat × Nat} (h : Om lo mb w os) (hq : w.heap[q]? = some (.cells c T fz)) : mb ≠ q := fun e => by
 obtain ⟨es, ck, h1, _⟩ := h
 subst e
 rw [h1] at hq; cases hq
theorem Om.grown {lo mb q : Nat} {w w' : World} {os : List Mp} {c : Array Value} {T : TypeId} {fz : Nat × Nat} (h : Om lo mb w os) (g : w.grownBy w' (some q)) (hq : w.heap[q]? = some (.cells c T fz)) : Om lo mb w' os := by
 have hne := h.ne hq
 have hl := h.lt
 exact h.of fun _ ho => (g.block mb hl (fun e => hne (by injection e))).trans ho
theorem Om.lo_le {lo lo' mb : Nat} {w : World} {os : List Mp} (h : Om lo mb w os) (hl : lo' ≤ lo) : Om lo' mb w os := by
 obtain ⟨es, ck, h1, h2, h3⟩ := h
 exact ⟨es, ck, h1, Nat.le_trans hl h2, h3⟩
theorem Om.row {lo mb B k n : Nat} {w w' : World} {os : List Mp} {T : TypeId} {v : Value} {xs : List Value} (h : Om lo mb w os) (g : w.grownBy w' v.ownBlock) (ho : w.ownsRow B T k v n xs) : Om lo mb w' os := by
 have hl := h.lt
 refine h.of fun o ho' => (g.block mb hl (fun e => ?_)).trans ho'
 rcases ho.2 with ⟨h2, _⟩ | ⟨g', cap, cur, e2, hb, hh, h2⟩
 ·rw [h2] at e; simp [Value.ownBlock] at e
 ·rw [e2] at e
  simp only [Value.ownBlock, Option.some.injEq] at e
  exact h.ne hh e
theorem om_drew {lo mb : Nat} {w : World} {os : List Mp} (h : Om lo mb w os) : Om lo mb w.drew os := h
theorem Om.blk {lo mb q : Nat} {w w' : World} {os : List Mp} {c : Array Value} {T : TypeId} {fz : Nat × Nat} (h : Om lo mb w os) (g : w.grownBy w' (some mb)) (hq : w.heap[q]? = some (.cells c T fz)) : w'.heap[q]? = some (.cells c T fz) :=
 (g.block q (hlt hq) (fun e => h.ne hq (by injection e with e; exact e.symm))).trans hq
theorem Om.own {lo mb B k n : Nat} {w w' : World} {os : List Mp} {T : TypeId} {v : Value} {xs : List Value} (h : Om lo mb w os) (g : w.grownBy w' (some mb)) (ho : w.ownsRow B T k v n xs) : w'.ownsRow B T k v n xs := by
 refine ⟨ho.1, ?_⟩
 rcases ho.2 with h2 | ⟨g', cap, cur, e2, hb, hh, h3⟩
 ·exact .inl h2
 ·exact .inr ⟨g', cap, cur, e2, hb, h.blk g hh, h3⟩
theorem Om.lo {lo mb : Nat} {w : World} {os : List Mp} (h : Om lo mb w os) : lo ≤ mb := by
 obtain ⟨_, _, _, h, _⟩ := h
 exact h
theorem Om.ok {lo mb : Nat} {w : World} {os : List Mp} (h : Om lo mb w os) : OsOk os := by
 obtain ⟨_, _, _, _, _, h, _⟩ := h
 exact h
theorem Om.bel {lo mb : Nat} {w0 w w' : World} {os : List Mp} (h : Om lo mb w os) (b : Below lo w0 w) (g : w.grownBy w' (some mb)) (hl : lo ≤ w.heap.size) : Below lo w0 w' := b.grown g hl (fun k e => by cases e; exact h.lo)
/-- Where a key stands. -/
theorem om_hit {w : World} {es : Array MapEntry} {os : List Mp} (he : es.toList.map (fun e => (e.key, e.val)) = os.map (fun m => (ptV m.pr m.o, mpV m))) (ok : OsOk os) {p o : Int} (hp : okP p o) :
  ((Instr.findKey 100 (ptV p o) es.toList).run Tryz.prog w = .ok none w ∧ ∀ m ∈ os, m.num ≠ kn p o) ∨
  ∃ (j : Nat) (e : MapEntry) (m : Mp), (Instr.findKey 100 (ptV p o) es.toList).run Tryz.prog w = .ok (some (j, e.val)) w ∧ es.toList[j]? = some e ∧ os[j]? = some m ∧ e.key = ptV p o ∧ e.val = mpV m ∧ m.num = kn p o := by
 obtain ⟨kl, hkl⟩ := key_port hp
 have at_ : ∀ (j : Nat) (e : MapEntry), es.toList[j]? = some e → ∃ m, os[j]? = some m ∧ e.key = ptV m.pr m.o ∧ e.val = mpV m := fun j e hx => by
  have h1 : (es.toList.map (fun e => (e.key, e.val)))[j]? = some (e.key, e.val) := by rw [List.getElem?_map, hx]; rfl
  rw [he, List.getElem?_map] at h1
  cases hm : os[j]? with
  | none => rw [hm] at h1; cases h1
  | some m =>
   rw [hm] at h1
   simp only [Option.map_some, Option.some.injEq, Prod.mk.injEq] at h1
   exact ⟨m, rfl, h1.1.symm, h1.2.symm⟩
 have hk : ∀ e ∈ es.toList, ∃ l, keyOf Tryz.prog 100 e.key = some l := fun e hx => by
  obtain ⟨j, hj⟩ := List.getElem?_of_mem hx
  obtain ⟨m, hm, h1, _⟩ := at_ j e hj
  rw [h1]
  exact key_port (ok.okp m (List.mem_of_getElem? hm))
 rcases lawP.find w hkl es.toList hk with ⟨h1, h2⟩ | ⟨j, e0, h1, h2, h3⟩
 ·refine .inl ⟨h1, fun m hm hn => ?_⟩
  obtain ⟨j, hj⟩ := List.getElem?_of_mem hm
  have hlen : os.length = es.toList.length := by have := congrArg List.length he; simpa using this.symm
  have hjl : j < es.toList.length := by have := (List.getElem?_eq_some_iff.1 hj).1; omega
  obtain ⟨m', hm', q1, _⟩ := at_ j _ (List.getElem?_eq_getElem hjl)
  rw [hj] at hm'; cases hm'
  obtain ⟨r1, r2⟩ := kn_inj (ok.okp m hm) hp hn
  exact h2 _ (List.getElem_mem hjl) (by rw [q1, r1, r2])
 ·obtain ⟨m, hm, q1, q2⟩ := at_ j e0 h2
  obtain ⟨r1, r2⟩ := ptV_inj (q1.symm.trans h3)
  exact .inr ⟨j, e0, m, h1, h2, hm, h3, q2, by show kn m.pr m.o = kn p o; rw [r1, r2]⟩
theorem os_set {os : List Mp} {j : Nat} {x m : Mp} (hx : os[j]? = some x) (nd : os.Pairwise (fun x y => x.num ≠ y.num)) : os.map (fun e => if e.num = x.num then m else e) = os.set j m := by
 apply List.ext_getElem?
 intro i
 have hj := (List.getElem?_eq_some_iff.1 hx).1
 rw [List.getElem?_map, List.getElem?_set]
 by_cases h : j = i
 ·subst h; rw [if_pos rfl, if_pos hj, hx]; simp
 ·rw [if_neg h]
  cases hi : os[i]? with
  | none => rfl
  | some y =>
   rw [Option.map_some]
   have h1 := (List.getElem?_eq_some_iff.1 hi)
   have h2 := (List.getElem?_eq_some_iff.1 hx)
   have hne : y.num ≠ x.num := by
    rcases Nat.lt_or_gt_of_ne h with hlt_ | hgt
    ·have := List.pairwise_iff_getElem.1 nd j i h2.1 h1.1 hlt_; rw [h2.2, h1.2] at this; exact fun e => this e.symm
    ·have := List.pairwise_iff_getElem.1 nd i j h1.1 h2.1 hgt; rw [h2.2, h1.2] at this; exact this
   rw [if_neg hne]
theorem os_era {os : List Mp} {j : Nat} {x : Mp} (hx : os[j]? = some x) (nd : os.Pairwise (fun x y => x.num ≠ y.num)) : odel os x.num = os.eraseIdx j := by
 unfold odel
 induction os generalizing j with
 | nil => cases hx
 | cons y q ih =>
  obtain ⟨n1, n2⟩ := List.pairwise_cons.1 nd
  cases j with
  | zero =>
   simp only [List.getElem?_cons_zero, Option.some.injEq] at hx
   subst hx
   rw [List.filter_cons_of_neg (by simp), List.eraseIdx_cons_zero, List.filter_eq_self]
   intro e he
   have := n1 e he
   simpa using fun h => this h.symm
  | succ j =>
   simp only [List.getElem?_cons_succ] at hx
   have := n1 x (List.mem_of_getElem? hx)
   rw [List.filter_cons_of_pos (by simpa using this), List.eraseIdx_cons_succ, ih hx n2]
theorem era_map {α β : Type} (f : α → β) : ∀ (l : List α) (j : Nat), (l.eraseIdx j).map f = (l.map f).eraseIdx j
 | [], _ => by simp
 | x :: l, 0 => by simp
 | x :: l, j + 1 => by simp [era_map f l j]
/-- One is laid in. -/
theorem Om.put {lo mb : Nat} {w : World} {os : List Mp} (h : Om lo mb w os) {m : Mp} (hm : m.okp) : ∃ w', (Instr.mapUpdate 73 (.map (some mb)) (ptV m.pr m.o) (mpV m)).run Tryz.prog w = .ok () w' ∧ Om lo mb w' (oput os m) ∧ w.grownBy w' (some mb) := by
 obtain ⟨es, ck, hb, hlo, he, ok, hbn, hnd⟩ := h
 obtain ⟨kl, hkl⟩ := key_port hm
 have ht : Tryz.prog.underlying 73 = some (.map 100 65) := by kernel_rfl
 have gr : ∀ o, w.grownBy (ChangeMaps.setBlock w mb o) (some mb) := fun o => ⟨rfl, rfl, rfl, by simp [ChangeMaps.setBlock], fun i _ hi => ChangeMaps.heap_setBlock_other hb _ (fun e => hi (by rw [e]))⟩
 have okq := ok.put hm
 rcases om_hit (w := w) he ok hm with ⟨h1, h2⟩ | ⟨j, e0, x, h1, h2, h3, h4, h5, h6⟩
 ·have hp : oput os m = os ++ [m] := by
   unfold oput
   rw [if_neg]
   intro ha
   obtain ⟨x, hx, hxe⟩ := List.any_eq_true.1 ha
   exact h2 x hx (beq_iff_eq.1 hxe)
  refine ⟨ChangeMaps.setBlock w mb (.map (es.push ⟨ptV m.pr m.o, mpV m, ck⟩) (ck + 1)), ?_, ⟨_, _, ChangeMaps.heap_setBlock_same hb _, hlo, ?_, okq, ?_, ?_⟩, gr _⟩
  ·simp [Instr.mapUpdate, run_underlying ht, MapKept.run_getObj_map hb, lawP.check w false hkl, h1, MapKept.run_setObj_map _ hb, Result.andThen, ChangeMaps.setBlock]
  ·rw [Array.toList_push, List.map_append, he, hp, List.map_append]; simp
  ·intro e hx
   rw [Array.toList_push] at hx
   rcases List.mem_append.1 hx with hx | hx
   ·have := hbn e hx; omega
   ·rw [List.mem_singleton.1 hx]; exact Nat.lt_succ_self _
  ·rw [Array.toList_push, List.map_append, List.nodup_append]
   refine ⟨hnd, by simp, fun a ha b hb' => ?_⟩
   obtain ⟨e, hx, rfl⟩ := List.mem_map.1 ha
   simp at hb'
   have := hbn e hx
   omega
 ·have hp : oput os m = os.set j m := by
   unfold oput
   rw [if_pos (List.any_eq_true.2 ⟨x, List.mem_of_getElem? h3, by rw [h6]; exact beq_self_eq_true _⟩), ← os_set h3 ok.nd, h6]; rfl
  have hja : es[j]? = some e0 := by rw [← Array.getElem?_toList]; exact h2
  have hst : (Instr.keyThatStays (ptV m.pr m.o) (ptV m.pr m.o)).run Tryz.prog w = .ok (ptV m.pr m.o) w := lawP.stays w hkl
  refine ⟨ChangeMaps.setBlock w mb (.map (es.modify j fun e => { e with key := ptV m.pr m.o, val := mpV m }) ck), ?_, ⟨_, _, ChangeMaps.heap_setBlock_same hb _, hlo, ?_, okq, ?_, ?_⟩, gr _⟩
  ·simp [Instr.mapUpdate, run_underlying ht, MapKept.run_getObj_map hb, lawP.check w false hkl, h1, hja, h4, hst, MapKept.run_setObj_map _ hb, Result.andThen, ChangeMaps.setBlock]
  ·rw [hp]
   apply List.ext_getElem?
   intro i
   have hi := congrArg (fun q => q[i]?) he
   simp only [List.getElem?_map] at hi
   have hj := (List.getElem?_eq_some_iff.1 h3).1
   rw [List.getElem?_map, List.getElem?_map, Array.getElem?_toList, Array.getElem?_modify, List.getElem?_set, ← Array.getElem?_toList]
   by_cases hij : j = i
   ·subst hij
    rw [if_pos rfl, if_pos rfl, if_pos hj, h2]
    rfl
   ·rw [if_neg hij, if_neg hij]; exact hi
  ·intro e hx
   obtain ⟨i, hi⟩ := List.getElem?_of_mem hx
   rw [Array.getElem?_toList, Array.getElem?_modify, ← Array.getElem?_toList] at hi
   by_cases hij : j = i
   ·subst hij
    rw [if_pos rfl, h2] at hi
    simp only [Option.map_some, Option.some.injEq] at hi
    rw [← hi]; exact hbn e0 (List.mem_of_getElem? h2)
   ·rw [if_neg hij] at hi
    exact hbn e (List.mem_of_getElem? hi)
  ·have : (es.modify j fun e => { e with key := ptV m.pr m.o, val := mpV m }).toList.map (·.born) = es.toList.map (·.born) := by
    apply List.ext_getElem?
    intro i
    rw [List.getElem?_map, List.getElem?_map, Array.getElem?_toList, Array.getElem?_modify, ← Array.getElem?_toList]
    by_cases hij : j = i
    ·subst hij; rw [if_pos rfl]; cases es.toList[j]? <;> rfl
    ·rw [if_neg hij]
   rw [this]; exact hnd
/-- One is taken out. -/
theorem Om.del {lo mb : Nat} {w : World} {os : List Mp} (h : Om lo mb w os) {p o : Int} (hp : okP p o) (ty : TypeId) : ∃ w', (Builtin.delete_ #[73, 100] ty #[.map (some mb), ptV p o]).run Tryz.prog w = .ok (.tuple #[]) w' ∧ Om lo mb w' (odel os (kn p o)) ∧ w.grownBy w' (some mb) := by
 obtain ⟨es, ck, hb, hlo, he, ok, hbn, hnd⟩ := h
 obtain ⟨kl, hkl⟩ := key_port hp
 have ht : Tryz.prog.underlying 73 = some (.map 100 65) := by kernel_rfl
 have gr : ∀ o, w.grownBy (ChangeMaps.setBlock w mb o) (some mb) := fun o => ⟨rfl, rfl, rfl, by simp [ChangeMaps.setBlock], fun i _ hi => ChangeMaps.heap_setBlock_other hb _ (fun e => hi (by rw [e]))⟩
 rcases om_hit (w := w) he ok hp with ⟨h1, h2⟩ | ⟨j, e0, x, h1, h2, h3, h4, h5, h6⟩
 ·have hd : odel os (kn p o) = os := by
   unfold odel
   rw [List.filter_eq_self]
   intro m hm
   simpa using h2 m hm
  refine ⟨ChangeMaps.setBlock w mb (.map es ck), ?_, ⟨_, _, ChangeMaps.heap_setBlock_same hb _, hlo, by rw [hd]; exact he, ok.del _, hbn, hnd⟩, gr _⟩
  simp [Builtin.delete_, run_underlying ht, MapKept.run_getObj_map hb, lawP.check w _ hkl, h1, MapKept.run_setObj_map _ hb, Result.andThen, ChangeMaps.setBlock]
 ·have hd : odel os (kn p o) = os.eraseIdx j := by rw [← h6]; exact os_era h3 ok.nd
  have hes : j < es.size := by have := (List.getElem?_eq_some_iff.1 h2).1; simpa using this
  have hel : (es.eraseIdxIfInBounds j).toList = es.toList.eraseIdx j := by
   rw [Array.eraseIdxIfInBounds_eq, dif_pos hes, Array.toList_eraseIdx]
  refine ⟨ChangeMaps.setBlock w mb (.map (es.eraseIdxIfInBounds j) ck), ?_, ⟨_, _, ChangeMaps.heap_setBlock_same hb _, hlo, ?_, ok.del _, ?_, ?_⟩, gr _⟩
  ·simp [Builtin.delete_, run_underlying ht, MapKept.run_getObj_map hb, lawP.check w _ hkl, h1, MapKept.run_setObj_map _ hb, Result.andThen, ChangeMaps.setBlock]
  ·rw [hel, hd]
   have := congrArg (fun q => q.eraseIdx j) he
   rw [era_map, era_map]; exact this
  ·rw [hel]; exact fun e hx => hbn e ((List.eraseIdx_sublist _ _).subset hx)
  ·rw [hel]
   exact List.Pairwise.sublist (List.Sublist.map _ (List.eraseIdx_sublist _ _)) hnd
theorem Om.made (w : World) : Om w.heap.size w.heap.size (w.alloc (.map #[] 0)) [] := ⟨#[], 0, (MapKept.heap_alloc w _).1, Nat.le_refl _, rfl, OsOk.nil, fun e h => by simp at h, by simp⟩
theorem Om.len {lo mb : Nat} {w : World} {os : List Mp} (h : Om lo mb w os) (ty : TypeId) : (Builtin.len_ #[73] ty #[.map (some mb)]).run Tryz.prog w = .ok (.int .i64 (os.length : Int)) w := by
 obtain ⟨es, ck, hb, _, he, _⟩ := h
 have ht : Tryz.prog.underlying 73 = some (.map 100 65) := by kernel_rfl
 have hl : es.size = os.length := by have := congrArg List.length he; simpa using this
 simp [Builtin.len_, run_underlying ht, MapKept.run_getObj_map hb, Result.andThen, goInt, hl]
open Go.RowKit

theorem Below.row {lo g : Nat} {w w' : World} (h : w.grownBy w' (some g)) (hg : lo ≤ g) (hs : lo ≤ w.heap.size) : Below lo w w' := (Below.refl lo w).grown h hs (fun k e => by cases e; exact hg)
theorem gk_drew {w0 w : World} {b : Option Nat} (h : w0.grownBy w b) : w0.grownBy w.drew b := ⟨h.os, h.tape, h.output, h.size, h.block⟩
theorem owk_lo {w : World} {B B' k n : Nat} {e : TypeId} {v : Value} {xs : List Value} (h : w.ownsRow B e k v n xs) (hb : B' ≤ B) : w.ownsRow B' e k v n xs := by
 refine ⟨h.1, ?_⟩
 rcases h.2 with h | ⟨g, cap, cur, e, hg, h⟩
 ·exact .inl h
 ·exact .inr ⟨g, cap, cur, e, Nat.le_trans hb hg, h⟩
theorem heap_drew {w : World} {b : Nat} {x : Obj} (h : w.heap[b]? = some x) : w.drew.heap[b]? = some x := h
theorem flat_take {α : Type} {f : α → List Value} {k : Nat} (hf : ∀ x, (f x).length = k) : ∀ (l : List α) (i : Nat), (l.take i).flatMap f = (l.flatMap f).take (i * k)
 | [], i => by simp
 | x :: l, 0 => by simp
 | x :: l, i + 1 => by
  rw [List.take_succ_cons, List.flatMap_cons, List.flatMap_cons, flat_take hf l i, Nat.succ_mul, Nat.add_comm (i * k) k, ← hf x, List.take_length_add_append]
theorem flat_drop {α : Type} {f : α → List Value} {k : Nat} (hf : ∀ x, (f x).length = k) : ∀ (l : List α) (i : Nat), (l.drop i).flatMap f = (l.flatMap f).drop (i * k)
 | [], i => by simp
 | x :: l, 0 => by simp
 | x :: l, i + 1 => by
  rw [List.drop_succ_cons, List.flatMap_cons, flat_drop hf l i, Nat.succ_mul, Nat.add_comm (i * k) k, ← hf x, List.drop_length_add_append]
theorem ins_cells {F ys X : List Value} {a k m : Nat} (ha : a + m = F.length) (hy : ys.length = k) (hX : X.length = k) :
  (((F ++ ys).take (a + k) ++ F.drop a ++ (F ++ ys).drop (a + k + (F.drop a).length)).take a ++ X ++ ((F ++ ys).take (a + k) ++ F.drop a ++ (F ++ ys).drop (a + k + (F.drop a).length)).drop (a + X.length)) = F.take a ++ X ++ F.drop a := by
 have h1 : (F.drop a).length = m := by rw [List.length_drop]; omega
 have h2 : (F ++ ys).drop (a + k + (F.drop a).length) = [] := List.drop_eq_nil_of_le (by rw [List.length_append, h1]; omega)
 have h3 : ((F ++ ys).take (a + k)).length = a + k := by rw [List.length_take, List.length_append]; omega
 rw [h2, List.append_nil]
 congr 1
 ·congr 1
  rw [List.take_append_of_le_length (by omega), List.take_take, Nat.min_eq_left (by omega), List.take_append_of_le_length (by omega)]
 ·rw [hX]; exact List.drop_left' h3
theorem ins_cells2 {F Z X : List Value} {a k m : Nat} (ha : a + m = F.length) (hz : Z.length = m + k) (hX : X.length = k) :
  (((F.take a ++ Z).take a ++ X ++ (F.take a ++ Z).drop (a + X.length)).take (a + k) ++ F.drop a ++ ((F.take a ++ Z).take a ++ X ++ (F.take a ++ Z).drop (a + X.length)).drop (a + k + (F.drop a).length)) = F.take a ++ X ++ F.drop a := by
 have h1 : (F.drop a).length = m := by rw [List.length_drop]; omega
 have h0 : (F.take a).length = a := by rw [List.length_take]; omega
 have h4 : (F.take a ++ Z).take a = F.take a := by
  conv => lhs; rw [← h0]
  rw [h0, List.take_append_of_le_length (by omega), List.take_take, Nat.min_self]
 have h5 : ((F.take a ++ Z).take a ++ X ++ (F.take a ++ Z).drop (a + X.length)).length = a + k + m := by
  rw [h4]; simp; omega
 have h6 : ((F.take a ++ Z).take a ++ X ++ (F.take a ++ Z).drop (a + X.length)).drop (a + k + (F.drop a).length) = [] := List.drop_eq_nil_of_le (by rw [h5, h1]; omega)
 rw [h6, List.append_nil]
 congr 1
 rw [h4, List.take_append_of_le_length (by simp; omega), List.take_of_length_le (by simp; omega)]
theorem off_ne {gE n c q : Nat} (h : Ofs (.slice (some ⟨gE, 0, none⟩) n c) q) : q ≠ gE := fun e => h gE rfl e.symm
theorem ne_off {gE n c q : Nat} (h : gE ≠ q) : Ofs (.slice (some ⟨gE, 0, none⟩) n c) q := fun g hg => by
 simp only [Value.ownBlock, Option.some.injEq] at hg
 subst hg; exact h
theorem Gr2.drew {w w' : World} {g : Nat} {v : Value} (h : Gr2 w w' g v) : Gr2 w w'.drew g v := ⟨h.os, h.tape, h.output, h.size, h.block⟩
end Go.Proofs.YtbdaejodbcjmfaaGreat
