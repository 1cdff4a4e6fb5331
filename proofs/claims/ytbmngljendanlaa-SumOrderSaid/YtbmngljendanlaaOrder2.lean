/- The walk of SumOrder. -/
import Derived.Test.YtbmngljendanlaaSeals
import Derived.BigRegion
import Derived.Deep.RegionWith
import Derived.Deep.DeepCutAuto
namespace Go.Proofs.Ytbmngljendanlaa
open Go.RowKit

set_option maxHeartbeats 2000000 in
theorem order_lt (A : Option Addr) (n c : Nat) (l : List UInt8) (i k : Nat) (w : World) (hl : Sl w A n c l) (h4 : n ≤ 400) (hi4 : i ≤ 400) (hk4 : k ≤ 400) (hi : 2 * i ≤ n - 2) (hk : 2 * k ≤ n - 2) (hn : 2 ≤ n) (hik : i < k) :
    Calls Try.prog 7 #[.slice A n c, .int .i64 i, .int .i64 k] w fun e w' => e = .returned (.bool true) ∧ Below w.heap.size w w' := by
  have n1 : (n : Int) ≤ 400 := by omega
  have i0 : (0 : Int) ≤ i := by omega
  have i1 : (i : Int) ≤ 400 := by omega
  have k0 : (0 : Int) ≤ k := by omega
  have k1 : (k : Int) ≤ 400 := by omega
  have i2 : 2 * (i : Int) ≤ n - 2 := by omega
  have k2 : 2 * (k : Int) ≤ n - 2 := by omega
  have hlen := Lib.hid hl.1
  have i3 : (i : Int) < k := by omega
  obtain ⟨gb, ob, rfl, hc⟩ := hl.2.2.2 (by omega)
  have hgb : gb < w.heap.size := cell_lt (a := ⟨gb, ob + 0, none⟩) (hc 0 _ (List.getElem?_eq_getElem (by have := hl.1; omega)))
  obtain ⟨ii, hii, hz0, hz1, hz2⟩ := info_parts Try.info5
  clear hc
  go_enter Try.func7, Try.ntmps7
  go_wp2_with fail
  refine (awake_any _).mono ?_
  rintro e w1 ⟨rfl, bel1⟩
  have hown := own_empty w1
  have bel2 : Below w1.heap.size w1 (w1.alloc (.cells #[] 5)) := (Below.refl _ _).alloc (Nat.le_refl _) _
  have hl2 := (hl.below bel1).below bel2
  go_wp2_with (at_builtin; refine wpList_append_bytes _ rfl (.tmp 45) (.tmp 46) 24 rfl w1.heap.size 5 ii (.int .u8 0) Try.underlying24 hii hz0 hz1 hz2 rfl _ 0 [] rfl hown (some ⟨gb, ob, none⟩) n c l rfl hl2 ?c1 ?c2 ?_)
  case c1 => omega
  case c2 => exact bel2.size
  intro v3 w3 hown3 hg3 hat3
  have bel3 : Below w1.heap.size w1 w3 := bel2.grown hg3 bel2.size (fun k h => by simp [Value.ownBlock] at h; omega)
  have bel3a := bel1.trans (bel3.mono bel1.size)
  clear hat3 hg3 hown hl2 bel2
  have hown4 : w3.ownsRow w1.heap.size 5 1 v3 n (l.map u8v) := by simpa using hown3
  obtain ⟨g, cc, rfl, ow, hgo, hnl⟩ := Ow.of_own hown4 (by omega)
  have hgw : w.heap.size ≤ g := Nat.le_trans bel1.size hgo
  have hne : gb ≠ g := by omega
  have HNL := Lib.hid hnl
  clear hown3 hown4 hnl hgo
  have hl3 := hl.below bel3a
  obtain ⟨_, _, _, hd⟩ := hl3
  obtain ⟨gb', ob', hgg, hc⟩ := hd (by omega)
  obtain ⟨rfl, rfl⟩ : gb = gb' ∧ ob = ob' := by simpa using hgg
  clear hgg hd
  have hL := hlen.out
  obtain ⟨xa, hxa⟩ : ∃ x, Hid (l[2 * i]? = some x) := ⟨_, Lib.hid (List.getElem?_eq_getElem (by omega))⟩
  obtain ⟨xb, hxb⟩ : ∃ x, Hid (l[2 * i + 1]? = some x) := ⟨_, Lib.hid (List.getElem?_eq_getElem (by omega))⟩
  obtain ⟨ya, hya⟩ : ∃ x, Hid (l[2 * k]? = some x) := ⟨_, Lib.hid (List.getElem?_eq_getElem (by omega))⟩
  obtain ⟨yb, hyb⟩ : ∃ x, Hid (l[2 * k + 1]? = some x) := ⟨_, Lib.hid (List.getElem?_eq_getElem (by omega))⟩
  have la := hc _ _ hxa.out
  have lb := hc _ _ hxb.out
  have lc := hc _ _ hya.out
  have ld := hc _ _ hyb.out
  obtain ⟨_, _, ca, fa⟩ := ow.at_ (2 * i) (by have := HNL.out; omega)
  obtain ⟨_, _, cb, fb⟩ := ow.at_ (2 * i + 1) (by have := HNL.out; omega)
  obtain ⟨_, _, cx, fx⟩ := ow.at_ (2 * k) (by have := HNL.out; omega)
  obtain ⟨_, _, cy, fy⟩ := ow.at_ (2 * k + 1) (by have := HNL.out; omega)
  unfold u8v at la lb lc ld
  have hcc : (n : Int) ≤ cc := by have := ow.1; have := HNL.out; omega
  clear hc hL
  clear bel3 bel1
  go_wp2_with fail
  go_region
  have E : Hid (ck ((((l.set (2 * i) ya).set (2 * i + 1) yb).set (2 * k) xa).set (2 * k + 1) xb) = ck l) := Lib.hid (ck_of_ws (swap_ws l i k xa xb ya yb hxa.out hxb.out hya.out hyb.out))
  have ow4 : Ow 5 ((((w3.setCell ⟨g, 2 * i, none⟩ (.int .u8 (ya.toNat : Int))).setCell ⟨g, 2 * i + 1, none⟩ (.int .u8 (yb.toNat : Int))).setCell ⟨g, 2 * k, none⟩ (.int .u8 (xa.toNat : Int))).setCell ⟨g, 2 * k + 1, none⟩ (.int .u8 (xb.toNat : Int))).drew g cc ((((l.set (2 * i) ya).set (2 * i + 1) yb).set (2 * k) xa).set (2 * k + 1) xb) :=
    ((((ow.set (2 * i) ya).set (2 * i + 1) yb).set (2 * k) xa).set (2 * k + 1) xb)
  have bel4 : Below w.heap.size w ((((w3.setCell ⟨g, 2 * i, none⟩ (.int .u8 (ya.toNat : Int))).setCell ⟨g, 2 * i + 1, none⟩ (.int .u8 (yb.toNat : Int))).setCell ⟨g, 2 * k, none⟩ (.int .u8 (xa.toNat : Int))).setCell ⟨g, 2 * k + 1, none⟩ (.int .u8 (xb.toNat : Int))).drew :=
    ((((bel3a.setCell hgw _).setCell hgw _).setCell hgw _).setCell hgw _).drew
  have hl4 : ((((l.set (2 * i) ya).set (2 * i + 1) yb).set (2 * k) xa).set (2 * k + 1) xb).length = n := by rw [List.length_set, List.length_set, List.length_set, List.length_set]; exact hlen.out
  generalize ((((w3.setCell ⟨g, 2 * i, none⟩ (.int .u8 (ya.toNat : Int))).setCell ⟨g, 2 * i + 1, none⟩ (.int .u8 (yb.toNat : Int))).setCell ⟨g, 2 * k, none⟩ (.int .u8 (xa.toNat : Int))).setCell ⟨g, 2 * k + 1, none⟩ (.int .u8 (xb.toNat : Int))).drew = w4 at ow4 bel4 ⊢
  have hs4 := ow4.sl
  rw [hl4] at hs4
  have hb4 := hl.below bel4
  clear la lb lc ld ca fa cb fb cx fx cy fy ow bel3a ow4 hl4
  go_wp2_with fail
  with_reducible refine (of_any _ n c l _ hb4).mono ?_
  rintro e w5 ⟨rfl, bw5⟩
  have hs5 := hs4.below bw5
  have bel5 := bel4.trans (bw5.mono bel4.size)
  clear hs4 hb4 bw5 bel4
  go_wp2_with fail
  with_reducible refine (of_any _ n cc _ _ hs5).mono ?_
  rintro e w6 ⟨rfl, bw6⟩
  rw [E.out]
  have bel6 := bel5.trans (bw6.mono bel5.size)
  go_wp2
  go_ret
  exact ⟨rfl, bel6⟩

set_option maxHeartbeats 2000000 in
theorem order_gt (A : Option Addr) (n c : Nat) (l : List UInt8) (i k : Nat) (w : World) (hl : Sl w A n c l) (h4 : n ≤ 400) (hi4 : i ≤ 400) (hk4 : k ≤ 400) (hi : 2 * i ≤ n - 2) (hn : 2 ≤ n) (hik : k < i) :
    Calls Try.prog 7 #[.slice A n c, .int .i64 i, .int .i64 k] w fun e w' => e = .returned (.bool true) ∧ Below w.heap.size w w' := by
  have n1 : (n : Int) ≤ 400 := by omega
  have i0 : (0 : Int) ≤ i := by omega
  have i1 : (i : Int) ≤ 400 := by omega
  have k0 : (0 : Int) ≤ k := by omega
  have k1 : (k : Int) ≤ 400 := by omega
  have i2 : 2 * (i : Int) ≤ n - 2 := by omega
  have k2 : 2 * (k : Int) ≤ n - 2 := by omega
  have hlen := Lib.hid hl.1
  have i3 : (k : Int) < i := by omega
  obtain ⟨gb, ob, rfl, hc⟩ := hl.2.2.2 (by omega)
  have hgb : gb < w.heap.size := cell_lt (a := ⟨gb, ob + 0, none⟩) (hc 0 _ (List.getElem?_eq_getElem (by have := hl.1; omega)))
  obtain ⟨ii, hii, hz0, hz1, hz2⟩ := info_parts Try.info5
  clear hc
  go_enter Try.func7, Try.ntmps7
  go_wp2_with fail
  refine (awake_any _).mono ?_
  rintro e w1 ⟨rfl, bel1⟩
  have hown := own_empty w1
  have bel2 : Below w1.heap.size w1 (w1.alloc (.cells #[] 5)) := (Below.refl _ _).alloc (Nat.le_refl _) _
  have hl2 := (hl.below bel1).below bel2
  go_wp2_with (at_builtin; refine wpList_append_bytes _ rfl (.tmp 45) (.tmp 46) 24 rfl w1.heap.size 5 ii (.int .u8 0) Try.underlying24 hii hz0 hz1 hz2 rfl _ 0 [] rfl hown (some ⟨gb, ob, none⟩) n c l rfl hl2 ?c1 ?c2 ?_)
  case c1 => omega
  case c2 => exact bel2.size
  intro v3 w3 hown3 hg3 hat3
  have bel3 : Below w1.heap.size w1 w3 := bel2.grown hg3 bel2.size (fun k h => by simp [Value.ownBlock] at h; omega)
  have bel3a := bel1.trans (bel3.mono bel1.size)
  clear hat3 hg3 hown hl2 bel2
  have hown4 : w3.ownsRow w1.heap.size 5 1 v3 n (l.map u8v) := by simpa using hown3
  obtain ⟨g, cc, rfl, ow, hgo, hnl⟩ := Ow.of_own hown4 (by omega)
  have hgw : w.heap.size ≤ g := Nat.le_trans bel1.size hgo
  have hne : gb ≠ g := by omega
  have HNL := Lib.hid hnl
  clear hown3 hown4 hnl hgo
  have hl3 := hl.below bel3a
  obtain ⟨_, _, _, hd⟩ := hl3
  obtain ⟨gb', ob', hgg, hc⟩ := hd (by omega)
  obtain ⟨rfl, rfl⟩ : gb = gb' ∧ ob = ob' := by simpa using hgg
  clear hgg hd
  have hL := hlen.out
  obtain ⟨xa, hxa⟩ : ∃ x, Hid (l[2 * i]? = some x) := ⟨_, Lib.hid (List.getElem?_eq_getElem (by omega))⟩
  obtain ⟨xb, hxb⟩ : ∃ x, Hid (l[2 * i + 1]? = some x) := ⟨_, Lib.hid (List.getElem?_eq_getElem (by omega))⟩
  obtain ⟨ya, hya⟩ : ∃ x, Hid (l[2 * k]? = some x) := ⟨_, Lib.hid (List.getElem?_eq_getElem (by omega))⟩
  obtain ⟨yb, hyb⟩ : ∃ x, Hid (l[2 * k + 1]? = some x) := ⟨_, Lib.hid (List.getElem?_eq_getElem (by omega))⟩
  have la := hc _ _ hxa.out
  have lb := hc _ _ hxb.out
  have lc := hc _ _ hya.out
  have ld := hc _ _ hyb.out
  obtain ⟨_, _, ca, fa⟩ := ow.at_ (2 * i) (by have := HNL.out; omega)
  obtain ⟨_, _, cb, fb⟩ := ow.at_ (2 * i + 1) (by have := HNL.out; omega)
  obtain ⟨_, _, cx, fx⟩ := ow.at_ (2 * k) (by have := HNL.out; omega)
  obtain ⟨_, _, cy, fy⟩ := ow.at_ (2 * k + 1) (by have := HNL.out; omega)
  unfold u8v at la lb lc ld
  have hcc : (n : Int) ≤ cc := by have := ow.1; have := HNL.out; omega
  clear hc hL
  clear bel3 bel1
  go_wp2_with fail
  go_region
  have E : Hid (ck ((((l.set (2 * i) ya).set (2 * i + 1) yb).set (2 * k) xa).set (2 * k + 1) xb) = ck l) := Lib.hid (ck_of_ws (swap_ws l i k xa xb ya yb hxa.out hxb.out hya.out hyb.out))
  have ow4 : Ow 5 ((((w3.setCell ⟨g, 2 * i, none⟩ (.int .u8 (ya.toNat : Int))).setCell ⟨g, 2 * i + 1, none⟩ (.int .u8 (yb.toNat : Int))).setCell ⟨g, 2 * k, none⟩ (.int .u8 (xa.toNat : Int))).setCell ⟨g, 2 * k + 1, none⟩ (.int .u8 (xb.toNat : Int))).drew g cc ((((l.set (2 * i) ya).set (2 * i + 1) yb).set (2 * k) xa).set (2 * k + 1) xb) :=
    ((((ow.set (2 * i) ya).set (2 * i + 1) yb).set (2 * k) xa).set (2 * k + 1) xb)
  have bel4 : Below w.heap.size w ((((w3.setCell ⟨g, 2 * i, none⟩ (.int .u8 (ya.toNat : Int))).setCell ⟨g, 2 * i + 1, none⟩ (.int .u8 (yb.toNat : Int))).setCell ⟨g, 2 * k, none⟩ (.int .u8 (xa.toNat : Int))).setCell ⟨g, 2 * k + 1, none⟩ (.int .u8 (xb.toNat : Int))).drew :=
    ((((bel3a.setCell hgw _).setCell hgw _).setCell hgw _).setCell hgw _).drew
  have hl4 : ((((l.set (2 * i) ya).set (2 * i + 1) yb).set (2 * k) xa).set (2 * k + 1) xb).length = n := by rw [List.length_set, List.length_set, List.length_set, List.length_set]; exact hlen.out
  generalize ((((w3.setCell ⟨g, 2 * i, none⟩ (.int .u8 (ya.toNat : Int))).setCell ⟨g, 2 * i + 1, none⟩ (.int .u8 (yb.toNat : Int))).setCell ⟨g, 2 * k, none⟩ (.int .u8 (xa.toNat : Int))).setCell ⟨g, 2 * k + 1, none⟩ (.int .u8 (xb.toNat : Int))).drew = w4 at ow4 bel4 ⊢
  have hs4 := ow4.sl
  rw [hl4] at hs4
  have hb4 := hl.below bel4
  clear la lb lc ld ca fa cb fb cx fx cy fy ow bel3a ow4 hl4
  go_wp2_with fail
  with_reducible refine (of_any _ n c l _ hb4).mono ?_
  rintro e w5 ⟨rfl, bw5⟩
  have hs5 := hs4.below bw5
  have bel5 := bel4.trans (bw5.mono bel4.size)
  clear hs4 hb4 bw5 bel4
  go_wp2_with fail
  with_reducible refine (of_any _ n cc _ _ hs5).mono ?_
  rintro e w6 ⟨rfl, bw6⟩
  rw [E.out]
  have bel6 := bel5.trans (bw6.mono bel5.size)
  go_wp2
  go_ret
  exact ⟨rfl, bel6⟩

set_option maxHeartbeats 2000000 in
theorem order_eq (A : Option Addr) (n c : Nat) (l : List UInt8) (i : Nat) (w : World) (hl : Sl w A n c l) (h4 : n ≤ 400) (hi4 : i ≤ 400) (hi : 2 * i ≤ n - 2) (hn : 2 ≤ n) :
    Calls Try.prog 7 #[.slice A n c, .int .i64 i, .int .i64 i] w fun e w' => e = .returned (.bool true) ∧ Below w.heap.size w w' := by
  have n1 : (n : Int) ≤ 400 := by omega
  have i0 : (0 : Int) ≤ i := by omega
  have i1 : (i : Int) ≤ 400 := by omega
  have i2 : 2 * (i : Int) ≤ n - 2 := by omega
  have hlen := Lib.hid hl.1
  obtain ⟨gb, ob, rfl, hc⟩ := hl.2.2.2 (by omega)
  have hgb : gb < w.heap.size := cell_lt (a := ⟨gb, ob + 0, none⟩) (hc 0 _ (List.getElem?_eq_getElem (by have := hl.1; omega)))
  obtain ⟨ii, hii, hz0, hz1, hz2⟩ := info_parts Try.info5
  clear hc
  go_enter Try.func7, Try.ntmps7
  go_wp2_with fail
  refine (awake_any _).mono ?_
  rintro e w1 ⟨rfl, bel1⟩
  have hown := own_empty w1
  have bel2 : Below w1.heap.size w1 (w1.alloc (.cells #[] 5)) := (Below.refl _ _).alloc (Nat.le_refl _) _
  have hl2 := (hl.below bel1).below bel2
  go_wp2_with (at_builtin; refine wpList_append_bytes _ rfl (.tmp 45) (.tmp 46) 24 rfl w1.heap.size 5 ii (.int .u8 0) Try.underlying24 hii hz0 hz1 hz2 rfl _ 0 [] rfl hown (some ⟨gb, ob, none⟩) n c l rfl hl2 ?c1 ?c2 ?_)
  case c1 => omega
  case c2 => exact bel2.size
  intro v3 w3 hown3 hg3 hat3
  have bel3 : Below w1.heap.size w1 w3 := bel2.grown hg3 bel2.size (fun k h => by simp [Value.ownBlock] at h; omega)
  have bel3a := bel1.trans (bel3.mono bel1.size)
  clear hat3 hg3 hown hl2 bel2
  have hown4 : w3.ownsRow w1.heap.size 5 1 v3 n (l.map u8v) := by simpa using hown3
  obtain ⟨g, cc, rfl, ow, hgo, hnl⟩ := Ow.of_own hown4 (by omega)
  have hgw : w.heap.size ≤ g := Nat.le_trans bel1.size hgo
  have hne : gb ≠ g := by omega
  have HNL := Lib.hid hnl
  clear hown3 hown4 hnl hgo
  have hl3 := hl.below bel3a
  obtain ⟨_, _, _, hd⟩ := hl3
  obtain ⟨gb', ob', hgg, hc⟩ := hd (by omega)
  obtain ⟨rfl, rfl⟩ : gb = gb' ∧ ob = ob' := by simpa using hgg
  clear hgg hd
  have hL := hlen.out
  obtain ⟨xa, hxa⟩ : ∃ x, Hid (l[2 * i]? = some x) := ⟨_, Lib.hid (List.getElem?_eq_getElem (by omega))⟩
  obtain ⟨xb, hxb⟩ : ∃ x, Hid (l[2 * i + 1]? = some x) := ⟨_, Lib.hid (List.getElem?_eq_getElem (by omega))⟩
  have la := hc _ _ hxa.out
  have lb := hc _ _ hxb.out
  obtain ⟨_, _, ca, fa⟩ := ow.at_ (2 * i) (by have := HNL.out; omega)
  obtain ⟨_, _, cb, fb⟩ := ow.at_ (2 * i + 1) (by have := HNL.out; omega)
  unfold u8v at la lb
  have hcc : (n : Int) ≤ cc := by have := ow.1; have := HNL.out; omega
  clear hc hL
  clear bel3 bel1
  go_wp2_with fail
  go_region
  have E : Hid (ck ((((l.set (2 * i) xa).set (2 * i + 1) xb).set (2 * i) xa).set (2 * i + 1) xb) = ck l) := Lib.hid (ck_of_ws (swap_ws l i i xa xb xa xb hxa.out hxb.out hxa.out hxb.out))
  have ow4 : Ow 5 ((((w3.setCell ⟨g, 2 * i, none⟩ (.int .u8 (xa.toNat : Int))).setCell ⟨g, 2 * i + 1, none⟩ (.int .u8 (xb.toNat : Int))).setCell ⟨g, 2 * i, none⟩ (.int .u8 (xa.toNat : Int))).setCell ⟨g, 2 * i + 1, none⟩ (.int .u8 (xb.toNat : Int))).drew g cc ((((l.set (2 * i) xa).set (2 * i + 1) xb).set (2 * i) xa).set (2 * i + 1) xb) :=
    ((((ow.set (2 * i) xa).set (2 * i + 1) xb).set (2 * i) xa).set (2 * i + 1) xb)
  have bel4 : Below w.heap.size w ((((w3.setCell ⟨g, 2 * i, none⟩ (.int .u8 (xa.toNat : Int))).setCell ⟨g, 2 * i + 1, none⟩ (.int .u8 (xb.toNat : Int))).setCell ⟨g, 2 * i, none⟩ (.int .u8 (xa.toNat : Int))).setCell ⟨g, 2 * i + 1, none⟩ (.int .u8 (xb.toNat : Int))).drew :=
    ((((bel3a.setCell hgw _).setCell hgw _).setCell hgw _).setCell hgw _).drew
  have hl4 : ((((l.set (2 * i) xa).set (2 * i + 1) xb).set (2 * i) xa).set (2 * i + 1) xb).length = n := by rw [List.length_set, List.length_set, List.length_set, List.length_set]; exact hlen.out
  generalize ((((w3.setCell ⟨g, 2 * i, none⟩ (.int .u8 (xa.toNat : Int))).setCell ⟨g, 2 * i + 1, none⟩ (.int .u8 (xb.toNat : Int))).setCell ⟨g, 2 * i, none⟩ (.int .u8 (xa.toNat : Int))).setCell ⟨g, 2 * i + 1, none⟩ (.int .u8 (xb.toNat : Int))).drew = w4 at ow4 bel4 ⊢
  have hs4 := ow4.sl
  rw [hl4] at hs4
  have hb4 := hl.below bel4
  clear la lb ca fa cb fb ow bel3a ow4 hl4
  go_wp2_with fail
  with_reducible refine (of_any _ n c l _ hb4).mono ?_
  rintro e w5 ⟨rfl, bw5⟩
  have hs5 := hs4.below bw5
  have bel5 := bel4.trans (bw5.mono bel4.size)
  clear hs4 hb4 bw5 bel4
  go_wp2_with fail
  with_reducible refine (of_any _ n cc _ _ hs5).mono ?_
  rintro e w6 ⟨rfl, bw6⟩
  rw [E.out]
  have bel6 := bel5.trans (bw6.mono bel5.size)
  go_wp2
  go_ret
  exact ⟨rfl, bel6⟩

set_option maxHeartbeats 2000000 in
theorem sumOrder_walk (A : Option Addr) (n c : Nat) (l : List UInt8) (i k : Int) (w : World) (hl : Sl w A n c l) :
    Calls Try.prog 7 #[.slice A n c, .int .i64 i, .int .i64 k] w fun e w' => e = .returned (.bool true) ∧ Below w.heap.size w w' := by
  have n0 : (0 : Int) ≤ n := by omega
  have n9 := hl.2.1
  have n8 := hl.2.2.1
  unfold maxLen at n8
  by_cases hg : n ≤ 400 ∧ 0 ≤ i ∧ 0 ≤ k ∧ i ≤ 400 ∧ k ≤ 400 ∧ 2 * i ≤ (n : Int) - 2 ∧ 2 * k ≤ (n : Int) - 2
  · obtain ⟨h1, h2, h3, h4, h5, h6, h7⟩ := hg
    obtain ⟨i, rfl⟩ := Int.eq_ofNat_of_zero_le h2
    obtain ⟨k, rfl⟩ := Int.eq_ofNat_of_zero_le h3
    rcases Nat.lt_trichotomy i k with h | h | h
    · exact order_lt A n c l i k w hl h1 (by omega) (by omega) (by omega) (by omega) (by omega) h
    · subst h
      exact order_eq A n c l i w hl h1 (by omega) (by omega) (by omega)
    · exact order_gt A n c l i k w hl h1 (by omega) (by omega) (by omega) (by omega) h
  · clear hl
    rcases (by omega : (400 < n) ∨ (n ≤ 400 ∧ i < 0) ∨ (n ≤ 400 ∧ 0 ≤ i ∧ k < 0) ∨ (n ≤ 400 ∧ 0 ≤ i ∧ 0 ≤ k ∧ 400 < i) ∨ (n ≤ 400 ∧ 0 ≤ i ∧ 0 ≤ k ∧ i ≤ 400 ∧ 400 < k) ∨ (n ≤ 400 ∧ 0 ≤ i ∧ 0 ≤ k ∧ i ≤ 400 ∧ k ≤ 400 ∧ (n : Int) - 2 < 2 * i) ∨ (n ≤ 400 ∧ 0 ≤ i ∧ 0 ≤ k ∧ i ≤ 400 ∧ k ≤ 400 ∧ 2 * i ≤ (n : Int) - 2 ∧ (n : Int) - 2 < 2 * k)) with h | h | h | h | h | h | h
    · have g0 : (400 : Int) < n := by omega
      clear hg h n9 n8
      go_enter Try.func7, Try.ntmps7
      go_wp2_with fail
      refine (awake_any _).mono ?_
      rintro e w1 ⟨rfl, bel1⟩
      go_wp2
      go_ret
      exact ⟨rfl, bel1⟩
    · have g0 : (n : Int) ≤ 400 := by omega
      have g1 : i < 0 := by omega
      clear hg h n9 n8
      go_enter Try.func7, Try.ntmps7
      go_wp2_with fail
      refine (awake_any _).mono ?_
      rintro e w1 ⟨rfl, bel1⟩
      go_wp2
      go_ret
      exact ⟨rfl, bel1⟩
    · have g0 : (n : Int) ≤ 400 := by omega
      have g1 : 0 ≤ i := by omega
      have g2 : k < 0 := by omega
      clear hg h n9 n8
      go_enter Try.func7, Try.ntmps7
      go_wp2_with fail
      refine (awake_any _).mono ?_
      rintro e w1 ⟨rfl, bel1⟩
      go_wp2
      go_ret
      exact ⟨rfl, bel1⟩
    · have g0 : (n : Int) ≤ 400 := by omega
      have g1 : 0 ≤ i := by omega
      have g2 : 0 ≤ k := by omega
      have g3 : 400 < i := by omega
      clear hg h n9 n8
      go_enter Try.func7, Try.ntmps7
      go_wp2_with fail
      refine (awake_any _).mono ?_
      rintro e w1 ⟨rfl, bel1⟩
      go_wp2
      go_ret
      exact ⟨rfl, bel1⟩
    · have g0 : (n : Int) ≤ 400 := by omega
      have g1 : 0 ≤ i := by omega
      have g2 : 0 ≤ k := by omega
      have g3 : i ≤ 400 := by omega
      have g4 : 400 < k := by omega
      clear hg h n9 n8
      go_enter Try.func7, Try.ntmps7
      go_wp2_with fail
      refine (awake_any _).mono ?_
      rintro e w1 ⟨rfl, bel1⟩
      go_wp2
      go_ret
      exact ⟨rfl, bel1⟩
    · have g0 : (n : Int) ≤ 400 := by omega
      have g1 : 0 ≤ i := by omega
      have g2 : 0 ≤ k := by omega
      have g3 : i ≤ 400 := by omega
      have g4 : k ≤ 400 := by omega
      have g5 : (n : Int) - 2 < 2 * i := by omega
      clear hg h n9 n8
      go_enter Try.func7, Try.ntmps7
      go_wp2_with fail
      refine (awake_any _).mono ?_
      rintro e w1 ⟨rfl, bel1⟩
      go_wp2
      go_ret
      exact ⟨rfl, bel1⟩
    · have g0 : (n : Int) ≤ 400 := by omega
      have g1 : 0 ≤ i := by omega
      have g2 : 0 ≤ k := by omega
      have g3 : i ≤ 400 := by omega
      have g4 : k ≤ 400 := by omega
      have g5 : 2 * i ≤ (n : Int) - 2 := by omega
      have g6 : (n : Int) - 2 < 2 * k := by omega
      clear hg h n9 n8
      go_enter Try.func7, Try.ntmps7
      go_wp2_with fail
      refine (awake_any _).mono ?_
      rintro e w1 ⟨rfl, bel1⟩
      go_wp2
      go_ret
      exact ⟨rfl, bel1⟩
end Go.Proofs.Ytbmngljendanlaa
