/- Texts put together: Udl, Rdo, Rd2, Ipa, Ipd, Eth4, Ipe. -/
import Derived.Test.YtbdaejodbcjmfaaGreatK1
import Derived.Test.YtbdaejodbcjmfaaGreatK6
import Derived.Laws.ResultCell
import Derived.Deep.RegionHeld3
namespace Go.Proofs.YtbdaejodbcjmfaaGreat
open Go.RowKit
set_option linter.unusedVariables false
set_option linter.unusedSimpArgs false
set_option maxRecDepth 100000
set_option maxHeartbeats 16000000

/-- What precedes the data in the sums. -/
def l4Ps (a0 a1 a2 a3 a4 a5 a6 a7 : UInt8) (pr k : Int) : List UInt8 := [a0, a1, a2, a3, a4, a5, a6, a7] ++ [0, byteOf pr] ++ two k
/-- The error of Get. -/
def udErr (fl pt pr : Int) (a0 a1 a2 a3 a4 a5 a6 a7 : UInt8) (b : List UInt8) : Int :=
 if pr ≠ 17 then 1 else if ¬ (pt = 0 ∧ fl % 2 = 0) then 10 else if b.length < 8 then 3 else if b.length < be ((b.drop 4).take 2) then 3 else if be ((b.drop 4).take 2) < 8 then 4
 else if be ((b.drop 6).take 2) ≠ 0 ∧ ck (l4Ps a0 a1 a2 a3 a4 a5 a6 a7 pr (be ((b.drop 4).take 2) : Nat) ++ b.take (be ((b.drop 4).take 2))) ≠ 0 then 5 else 0
def udGet (fl pt pr : Int) (a0 a1 a2 a3 a4 a5 a6 a7 : UInt8) (b : List UInt8) : (Int × Int) × List UInt8 × Int :=
 if udErr fl pt pr a0 a1 a2 a3 a4 a5 a6 a7 b ≠ 0 then ((0, 0), [], udErr fl pt pr a0 a1 a2 a3 a4 a5 a6 a7 b)
 else (((be (b.take 2) : Nat), (be ((b.drop 2).take 2) : Nat)), (b.drop 8).take (be ((b.drop 4).take 2) - 8), 0)
/-- The bytes of a datagram. -/
def udHd (df dt : Int) (n : Nat) : List UInt8 := two df ++ two dt ++ two (8 + (n : Int))
def udSum (a0 a1 a2 a3 a4 a5 a6 a7 : UInt8) (df dt : Int) (b : List UInt8) : Int :=
 if ck [l4Ps a0 a1 a2 a3 a4 a5 a6 a7 17 (8 + (b.length : Int)), udHd df dt b.length, b].flatten = 0 then 65535 else ck [l4Ps a0 a1 a2 a3 a4 a5 a6 a7 17 (8 + (b.length : Int)), udHd df dt b.length, b].flatten
def udBytes (a0 a1 a2 a3 a4 a5 a6 a7 : UInt8) (df dt : Int) (b : List UInt8) : List UInt8 := udHd df dt b.length ++ two (udSum a0 a1 a2 a3 a4 a5 a6 a7 df dt b) ++ b
def portOk (v : Int) : Bool := decide (0 ≤ v) && decide (v ≤ 65535)
/-- A packet in lists: its numbers, its addresses, its options and body; an error. -/
abbrev PkL := (List Int × List UInt8) × (List UInt8 × List UInt8) × Int
def pkNone (er : Int) : PkL := (([0, 0, 0, 0, 0, 0], [0, 0, 0, 0, 0, 0, 0, 0]), ([], []), er)
def udPut (tos id fl pt ttl : Int) (a0 a1 a2 a3 a4 a5 a6 a7 : UInt8) (lo : List UInt8) (df dt : Int) (b : List UInt8) : PkL :=
 if (portOk df && portOk dt) = false then pkNone 1 else if 1472 < b.length then pkNone 2 else (([tos, id, fl, pt, ttl, 17], [a0, a1, a2, a3, a4, a5, a6, a7]), (lo, udBytes a0 a1 a2 a3 a4 a5 a6 a7 df dt b), 0)
theorem udBytes_len (a0 a1 a2 a3 a4 a5 a6 a7 : UInt8) (df dt : Int) (b : List UInt8) : (udBytes a0 a1 a2 a3 a4 a5 a6 a7 df dt b).length = 8 + b.length := by
 simp [udBytes, udHd, two]
 omega
/-- What Get and Put answer. -/
def UdPost (R : (Int × Int) × List UInt8 × Int) (w : World) (e : Ending) (w' : World) : Prop :=
 ∃ (df dt : Int) (lb : List UInt8) (A : Option Addr) (c : Nat) (er : Int), e = .returned (.tuple #[.agg #[.int .i64 df, .int .i64 dt, .slice A lb.length c], .int .i64 er]) ∧ Sl w' A lb.length c lb ∧ Fr w.heap.size A lb.length ∧ Below w.heap.size w w' ∧ ((df, dt), lb, er) = R
def PkPost (R : PkL) (w : World) (e : Ending) (w' : World) : Prop :=
 ∃ (f0 f1 f2 f3 f4 f5 : Int) (a0 a1 a2 a3 a4 a5 a6 a7 : UInt8) (lo lb : List UInt8) (Ao Ab : Option Addr) (co cb : Nat) (er : Int), e = .returned (.tuple #[.agg #[.int .i64 f0, .int .i64 f1, .int .i64 f2, .int .i64 f3, .int .i64 f4, .int .i64 f5, .int .u8 (a0.toNat : Int), .int .u8 (a1.toNat : Int), .int .u8 (a2.toNat : Int), .int .u8 (a3.toNat : Int), .int .u8 (a4.toNat : Int), .int .u8 (a5.toNat : Int), .int .u8 (a6.toNat : Int), .int .u8 (a7.toNat : Int), .slice Ao lo.length co, .slice Ab lb.length cb], .int .i64 er]) ∧ Sl w' Ao lo.length co lo ∧ Sl w' Ab lb.length cb lb ∧ Fr w.heap.size Ao lo.length ∧ Fr w.heap.size Ab lb.length ∧ Below w.heap.size w w' ∧ (([f0, f1, f2, f3, f4, f5], [a0, a1, a2, a3, a4, a5, a6, a7]), (lo, lb), er) = R
theorem PkPost.none {er : Int} {w w' : World} (b : Below w.heap.size w w') : PkPost (pkNone er) w (.returned (.tuple #[packz, .int .i64 er])) w' :=
 ⟨0, 0, 0, 0, 0, 0, 0, 0, 0, 0, 0, 0, 0, 0, [], [], Option.none, Option.none, 0, 0, er, rfl, Sl.nil _, Sl.nil _, fun h => absurd h (by simp), fun h => absurd h (by simp), b, rfl⟩
theorem UdPost.none {er : Int} {R : (Int × Int) × List UInt8 × Int} {w w' : World} (h : ((0, 0), [], er) = R) (b : Below w.heap.size w w') : UdPost R w (.returned (.tuple #[.agg #[.int .i64 0, .int .i64 0, .slice Option.none 0 0], .int .i64 er])) w' :=
 ⟨0, 0, [], Option.none, 0, er, rfl, Sl.nil _, fun h => absurd h (by simp), b, h⟩
theorem list8 (l : List UInt8) (h : 8 ≤ l.length) : ∃ h0 h1 h2 h3 h4 h5 h6 h7 r, l = h0 :: h1 :: h2 :: h3 :: h4 :: h5 :: h6 :: h7 :: r := by
 rcases l with _ | ⟨x0, l⟩
 ·simp at h
 rcases l with _ | ⟨x1, l⟩
 ·simp at h
 rcases l with _ | ⟨x2, l⟩
 ·simp at h
 rcases l with _ | ⟨x3, l⟩
 ·simp at h
 rcases l with _ | ⟨x4, l⟩
 ·simp at h
 rcases l with _ | ⟨x5, l⟩
 ·simp at h
 rcases l with _ | ⟨x6, l⟩
 ·simp at h
 rcases l with _ | ⟨x7, l⟩
 ·simp at h
 exact ⟨x0, x1, x2, x3, x4, x5, x6, x7, l, rfl⟩
theorem ud_at {fl pt : Int} {a0 a1 a2 a3 a4 a5 a6 a7 : UInt8} {h0 h1 h2 h3 h4 h5 h6 h7 : UInt8} {r : List UInt8} {ln sm : Nat} (hln : be [h4, h5] = ln) (hsm : be [h6, h7] = sm) (hw : (decide (pt = 0) && decide (fl % 2 = 0)) = true) : udErr fl pt 17 a0 a1 a2 a3 a4 a5 a6 a7 (h0 :: h1 :: h2 :: h3 :: h4 :: h5 :: h6 :: h7 :: r) =
  if (h0 :: h1 :: h2 :: h3 :: h4 :: h5 :: h6 :: h7 :: r).length < ln then 3 else if ln < 8 then 4 else if sm ≠ 0 ∧ ck (l4Ps a0 a1 a2 a3 a4 a5 a6 a7 17 (ln : Int) ++ (h0 :: h1 :: h2 :: h3 :: h4 :: h5 :: h6 :: h7 :: r).take ln) ≠ 0 then 5 else 0 := by
 subst hln
 subst hsm
 unfold udErr
 rw [if_neg (by decide), if_neg (by simpa using hw), if_neg (by simp)]
 rfl
theorem ud_ok {fl pt pr : Int} {a0 a1 a2 a3 a4 a5 a6 a7 : UInt8} {h0 h1 h2 h3 h4 h5 h6 h7 : UInt8} {r : List UInt8} {ln k : Nat} (e : udErr fl pt pr a0 a1 a2 a3 a4 a5 a6 a7 (h0 :: h1 :: h2 :: h3 :: h4 :: h5 :: h6 :: h7 :: r) = 0) (hl : be [h4, h5] = ln) (hk : ln = k + 8) : udGet fl pt pr a0 a1 a2 a3 a4 a5 a6 a7 (h0 :: h1 :: h2 :: h3 :: h4 :: h5 :: h6 :: h7 :: r) = ((((be [h0, h1] : Nat) : Int), ((be [h2, h3] : Nat) : Int)), r.take k, 0) := by
 unfold udGet
 rw [if_neg (by rw [e]; decide)]
 have e8 : be (List.take 2 (List.drop 4 (h0 :: h1 :: h2 :: h3 :: h4 :: h5 :: h6 :: h7 :: r))) - 8 = k := by
  show be [h4, h5] - 8 = k
  omega
 rw [e8]
 rfl
open Go.RowKit

/-- A Reader at block g whose rest, where it is not empty, lies in a block that meets ok. -/
def Ro (w : World) (T : TypeId) (g : Nat) (ok : Nat → Prop) (l : List UInt8) (s : Bool) : Prop :=
 ∃ A n c, w.heap[g]? = some (.cells #[.slice A n c, .bool s] T (0, 0)) ∧ Sl w A n c l ∧ (0 < n → ∃ a o, A = some ⟨a, o, none⟩ ∧ ok a)
theorem Ro.rd {w : World} {T : TypeId} {g : Nat} {ok : Nat → Prop} {l : List UInt8} {s : Bool} (h : Ro w T g ok l s) : Rd w T g l s := by
 obtain ⟨A, n, c, h1, h2, _⟩ := h
 exact ⟨A, n, c, h1, h2⟩
theorem Ro.below {w w' : World} {T : TypeId} {g : Nat} {ok : Nat → Prop} {l : List UInt8} {s : Bool} (h : Ro w T g ok l s) (hb : Below w.heap.size w w') : Ro w' T g ok l s := by
 have hlt := h.rd.lt
 obtain ⟨A, n, c, h1, h2, h3⟩ := h
 exact ⟨A, n, c, (hb.block g hlt).trans h1, h2.below hb, h3⟩
/-- A store into a block that is neither the Reader's nor below the bound. -/
theorem Ro.setCell {w : World} {T : TypeId} {g q : Nat} {ok : Nat → Prop} {l : List UInt8} {s : Bool} (h : Ro w T g ok l s) (hq : ¬ ok q) (hne : q ≠ g) (i : Nat) (u : Value) : Ro (w.setCell ⟨q, i, none⟩ u) T g ok l s := by
 obtain ⟨A, n, c, h1, h2, h3⟩ := h
 have other : ∀ k, k ≠ q → (w.setCell ⟨q, i, none⟩ u).heap[k]? = w.heap[k]? := fun k hk => Below.heap_setCell w ⟨q, i, none⟩ u k (fun e => hk (by rw [e]))
 refine ⟨A, n, c, (other g (Ne.symm hne)).trans h1, ⟨h2.1, h2.2.1, h2.2.2.1, fun hn => ?_⟩, h3⟩
 obtain ⟨a, o, e, hc⟩ := h2.2.2.2 hn
 obtain ⟨a', o', e', hlt⟩ := h3 hn
 rw [e] at e'
 obtain ⟨rfl, rfl⟩ : a = a' ∧ o = o' := by injection e' with e'; injection e' with e1 e2; exact ⟨e1, e2⟩
 refine ⟨a, o, e, fun j b hj => ?_⟩
 exact (World.cell?_of_block (w := w) (other a (fun e => hq (e ▸ hlt)))).trans (hc j b hj)
theorem Ro.set {w w' : World} {T : TypeId} {g : Nat} {ok : Nat → Prop} {l l' : List UInt8} {s s' : Bool} {A : Option Addr} {n c : Nat} (hr : Ro w T g ok l s) (hg : w.grownBy w' (some g)) (hb : w'.heap[g]? = some (.cells #[.slice A n c, .bool s'] T (0, 0)))
  (hs : Sl w A n c l') (hB : 0 < n → ∃ a o, A = some ⟨a, o, none⟩ ∧ ok a) : Ro w' T g ok l' s' := ⟨A, n, c, hb, hs.far hr.rd hg, hB⟩
theorem take_yes_q (g : Nat) (ok : Nat → Prop) (l : List UInt8) (s : Bool) (k : Nat) (w : World) (hr : Ro w 134 g ok l s) (hk : k ≤ l.length) :
  Calls Tryz.prog 84 #[.pointer (some ⟨g, 0, none⟩), .int .i64 k] w fun e w' => ∃ A c, e = .returned (.slice A k c) ∧ Sl w' A k c (l.take k) ∧ Ro w' 134 g ok (l.drop k) s ∧ w.grownBy w' (some g) := by
 have hr' := hr
 obtain ⟨A, n, c, hb, hsl, hB⟩ := hr'
 have hn := hsl.1
 obtain ⟨hc0, hc1⟩ := cell_of_rd hb
 have hf0 : w.frozen? ⟨g, 0, none⟩ = false := by simp [World.frozen?, hb]
 have hf1 : w.frozen? ⟨g, 1, none⟩ = false := by simp [World.frozen?, hb]
 have hcap := hsl.2.1
 have b0 : (0 : Int) ≤ k := by omega
 have b1 : (k : Int) ≤ n := by omega
 have b2 : (n : Int) ≤ c := by omega
 have b3 : k ≤ n := by omega
 have hd := hsl.drop b3
 have ht := hsl.take b3
 by_cases hck : c = k
 ·rw [if_pos hck] at hd
  have hg : w.grownBy (w.setCell ⟨g, 0, none⟩ (.slice A (n - k) (c - k))) (some g) := grown_set (World.grownBy.refl w _) 0 _
  have R : Ro (w.setCell ⟨g, 0, none⟩ (.slice A (n - k) (c - k))) 134 g ok (l.drop k) s := hr.set hg (set_first hb) hd (fun h => hB (by omega))
  have T := ht.far hr.rd hg
  clear hn hb hd ht hsl hB
  subst hck
  have b4 : n = c := by omega
  subst b4
  simp only [Nat.sub_self] at R T hg
  go_enter Tryz.func84, Tryz.ntmps84
  go_wp2
  go_ret
  exact ⟨A, n, rfl, T, R, hg⟩
 ·rw [if_neg hck] at hd
  simp only [Nat.mul_one] at hd
  have hg : w.grownBy (w.setCell ⟨g, 0, none⟩ (.slice (A.map fun x => x.add k) (n - k) (c - k))) (some g) := grown_set (World.grownBy.refl w _) 0 _
  have R : Ro (w.setCell ⟨g, 0, none⟩ (.slice (A.map fun x => x.add k) (n - k) (c - k))) 134 g ok (l.drop k) s := hr.set hg (set_first hb) hd (fun h => by
   obtain ⟨a, o, rfl, hlt⟩ := hB (by omega)
   exact ⟨a, o + k, by simp [Addr.add_lit], hlt⟩)
  have T := ht.far hr.rd hg
  clear hn hb hd ht hsl hB
  have h0 : ¬ k = c := fun e => hck e.symm
  go_enter Tryz.func84, Tryz.ntmps84
  go_wp2
  all_goals (go_ret; exact ⟨A, c, rfl, T, R, hg⟩)

theorem number_yes_q (g : Nat) (ok : Nat → Prop) (l : List UInt8) (s : Bool) (k : Nat) (w : World) (hr : Ro w 134 g ok l s) (hk : k ≤ l.length) (h4 : k ≤ 4) (h0 : 0 < k) :
  Calls Tryz.prog 82 #[.pointer (some ⟨g, 0, none⟩), .int .i64 k] w fun e w' => e = .returned (.int .u32 (be (l.take k))) ∧ Ro w' 134 g ok (l.drop k) s ∧ w.grownBy w' (some g) := by
 go_enter Tryz.func82, Tryz.ntmps82
 go_wp2_with (go_at_call 84; refine (take_yes_q g ok l s k _ hr hk).mono ?_; rintro e w1 ⟨A, c, rfl, hsl, hr1, hg1⟩)
 obtain ⟨d, o, rfl, hc⟩ := hsl.2.2.2 h0
 have hlen := hsl.1
 obtain ⟨t, HT⟩ : ∃ t, Hid (l.take k = t) := ⟨_, rfl⟩
 rw [HT.out] at hc hlen
 clear hsl
 go_loop [5, 12] (fun v i => ∃ j : Nat, j ≤ k ∧ i = .int .i64 j ∧ v = .int .u32 (be (t.take j))) (fun _ i => k - (intOf i).toNat)
 case atStart => exact ⟨0, by omega, rfl, rfl⟩
 case round =>
  obtain ⟨j, hj, rfl, rfl⟩ := hrel
  have b0 : (0 : Int) ≤ k := by omega
  have b1 : (k : Int) ≤ 4 := by omega
  have b2 : (0 : Int) ≤ j := by omega
  by_cases hlt : j < k
  ·have hjl : j < t.length := by omega
   have hcell := hc j _ (List.getElem?_eq_getElem hjl)
   have hbe : be (t.take (j + 1)) = be (t.take j) * 256 + t[j].toNat := by
    rw [List.take_succ_eq_append_getElem hjl, be_snoc]
   have hv : be (t.take j) < 256 ^ j := be_lt j _ (by rw [List.length_take]; omega)
   have hv' : (256 : Nat) ^ j ≤ 256 ^ 3 := Nat.pow_le_pow_right (by omega) (by omega)
   have hu := t[j].toNat_lt
   unfold u8v at hcell
   generalize t[j].toNat = u at *
   clear hc hlen hr1 hr hg1
   have HBE : Hid (be (t.take (j + 1)) = be (t.take j) * 256 + u) := hbe
   clear hbe
   generalize be (t.take j) = v at *
   have b3 : (0 : Int) ≤ v := by omega
   have b4 : (v : Int) < 16777216 := by omega
   have b5 : (0 : Int) ≤ u := by omega
   have b6 : (u : Int) < 256 := by omega
   clear hv hv'
   have hor := or_u32 v u (by omega) (by omega)
   go_wp2
   go_round
   case rel => exact ⟨j + 1, by omega, by go_num, by rw [HBE.out]; go_num⟩
   case measure => simp [intOf]; omega
  ·go_wp2
   obtain rfl : j = k := by omega
   go_ret
   refine ⟨?_, hr1, hg1⟩
   rw [HT.out]
   show Ending.returned (.int .u32 (be (t.take j))) = _
   rw [List.take_of_length_le (by omega)]

theorem u8_yes_q (g : Nat) (ok : Nat → Prop) (l : List UInt8) (s : Bool) (w : World) (hr : Ro w 134 g ok l s) (hk : 1 ≤ l.length) :
  Calls Tryz.prog 42 #[.pointer (some ⟨g, 0, none⟩)] w fun e w' => e = .returned (.int .i64 (be (l.take 1))) ∧ Ro w' 134 g ok (l.drop 1) s ∧ w.grownBy w' (some g) := by
 have hlt := be_lt 1 (l.take 1) (by rw [List.length_take]; omega)
 have b1 : (be (l.take 1) : Int) < 256 := by omega
 have b0 : 0 ≤ (be (l.take 1) : Int) := by omega
 go_enter Tryz.func42, Tryz.ntmps42
 go_wp2_with (go_at_call 82; refine (number_yes_q g ok l s 1 _ hr hk (by omega) (by omega)).mono ?_; rintro e w1 ⟨rfl, hr1, hg1⟩)
 go_ret
 exact ⟨rfl, hr1, hg1⟩
theorem u16_yes_q (g : Nat) (ok : Nat → Prop) (l : List UInt8) (s : Bool) (w : World) (hr : Ro w 134 g ok l s) (hk : 2 ≤ l.length) :
  Calls Tryz.prog 43 #[.pointer (some ⟨g, 0, none⟩)] w fun e w' => e = .returned (.int .i64 (be (l.take 2))) ∧ Ro w' 134 g ok (l.drop 2) s ∧ w.grownBy w' (some g) := by
 have hlt := be_lt 2 (l.take 2) (by rw [List.length_take]; omega)
 have b1 : (be (l.take 2) : Int) < 65536 := by omega
 have b0 : 0 ≤ (be (l.take 2) : Int) := by omega
 go_enter Tryz.func43, Tryz.ntmps43
 go_wp2_with (go_at_call 82; refine (number_yes_q g ok l s 2 _ hr hk (by omega) (by omega)).mono ?_; rintro e w1 ⟨rfl, hr1, hg1⟩)
 go_ret
 exact ⟨rfl, hr1, hg1⟩
theorem u32_yes_q (g : Nat) (ok : Nat → Prop) (l : List UInt8) (s : Bool) (w : World) (hr : Ro w 134 g ok l s) (hk : 4 ≤ l.length) :
  Calls Tryz.prog 44 #[.pointer (some ⟨g, 0, none⟩)] w fun e w' => e = .returned (.int .u32 (be (l.take 4))) ∧ Ro w' 134 g ok (l.drop 4) s ∧ w.grownBy w' (some g) := by
 go_enter Tryz.func44, Tryz.ntmps44
 go_wp2_with (go_at_call 82; refine (number_yes_q g ok l s 4 _ hr hk (by omega) (by omega)).mono ?_; rintro e w1 ⟨rfl, hr1, hg1⟩)
 go_ret
 exact ⟨rfl, hr1, hg1⟩
theorem Ro.grown {w w' : World} {T : TypeId} {g q : Nat} {ok : Nat → Prop} {l : List UInt8} {s : Bool} (h : Ro w T g ok l s) (hg : w.grownBy w' (some q)) (hq : ¬ ok q) (hne : q ≠ g) : Ro w' T g ok l s := by
 have hlt := h.rd.lt
 obtain ⟨A, n, c, h1, h2, h3⟩ := h
 refine ⟨A, n, c, (hg.block g hlt (fun e => hne (by injection e with e; exact e.symm))).trans h1, ⟨h2.1, h2.2.1, h2.2.2.1, fun hn => ?_⟩, h3⟩
 obtain ⟨a, o, e, hc⟩ := h2.2.2.2 hn
 obtain ⟨a', o', e', hlt'⟩ := h3 hn
 rw [e] at e'
 obtain ⟨rfl, rfl⟩ : a = a' ∧ o = o' := by injection e' with e'; injection e' with e1 e2; exact ⟨e1, e2⟩
 refine ⟨a, o, e, fun j b hj => ?_⟩
 have hc' := hc j b hj
 exact (World.cell?_of_block (w := w) (hg.block a (cell_lt hc') (fun e => by injection e with e; exact hq (e ▸ hlt')))).trans hc'
theorem Ro.drew {w : World} {T : TypeId} {g : Nat} {ok : Nat → Prop} {l : List UInt8} {s : Bool} (h : Ro w T g ok l s) : Ro w.drew T g ok l s := by
 obtain ⟨A, n, c, h1, h2, h3⟩ := h
 exact ⟨A, n, c, h1, h2.keep fun _ _ _ h => h, h3⟩
theorem bytes_q (g : Nat) (ok : Nat → Prop) (l : List UInt8) (s : Bool) (k : Nat) (w : World) (hr : Ro w 134 g ok l s) (hk : k ≤ l.length) (hs : k ≤ 140737488355328) :
  Calls Tryz.prog 47 #[.pointer (some ⟨g, 0, none⟩), .int .i64 k] w fun e w' => ∃ A c, e = .returned (.slice A k c) ∧ Sl w' A k c (l.take k) ∧ Ro w' 134 g ok (l.drop k) s ∧ w.grownBy w' (some g) ∧ Fr w.heap.size A k := by
 go_enter Tryz.func47, Tryz.ntmps47
 go_wp2_with (go_at_call 84; refine (take_yes_q g ok l s k _ hr hk).mono ?_; rintro e w1 ⟨A, c, rfl, hsl, hr1, hg1⟩)
 go_wp2_with (go_at_call 81; refine (join_f A none k c 0 0 _ [] w1 hsl (Sl.nil w1) (by omega)).mono ?_; rintro e w2 ⟨A', c', rfl, hsl2, bel, hfr⟩)
 go_ret
 simp only [Nat.add_zero, List.append_nil] at hsl2 hfr
 exact ⟨A', c', rfl, hsl2, hr1.below bel, hg1.trans (grown_of_below bel), hfr.mono hg1.size⟩

/-- A Reader's rest is new memory. -/
theorem read_q (A : Option Addr) (n c : Nat) (l : List UInt8) (w : World) (hl : Sl w A n c l) (hs : n ≤ 140737488355328) :
  Calls Tryz.prog 41 #[.slice A n c] w fun e w' => ∃ g, e = .returned (.pointer (some ⟨g, 0, none⟩)) ∧ Ro w' 134 g (fun k => w.heap.size ≤ k) l false ∧ Below w.heap.size w w' ∧ w.heap.size ≤ g := by
 go_enter Tryz.func41, Tryz.ntmps41
 go_wp2_with (go_at_call 81; refine (join_f A none n c 0 0 l [] w hl (Sl.nil w) (by omega)).mono ?_; rintro e w1 ⟨A', c', rfl, hsl, bel, hfr⟩)
 simp only [Nat.add_zero, List.append_nil] at hsl hfr
 go_ret
 have hn : Below w1.heap.size w1 (w1.alloc (Obj.cells #[Value.slice A' n c', Value.bool false] 134)) := (Below.refl _ _).alloc (Nat.le_refl _) _
 exact ⟨w1.heap.size, rfl, ⟨A', n, c', heap_alloc_new w1 _, hsl.below hn, hfr⟩, bel.alloc bel.size _, bel.size⟩
/-- Numbers at the front of a list. -/
theorem u8_q1 (g : Nat) (ok : Nat → Prop) (x : UInt8) (r : List UInt8) (s : Bool) (w : World) (hr : Ro w 134 g ok (x :: r) s) :
  Calls Tryz.prog 42 #[.pointer (some ⟨g, 0, none⟩)] w fun e w' => e = .returned (.int .i64 (x.toNat : Int)) ∧ Ro w' 134 g ok r s ∧ w.grownBy w' (some g) := by
 refine (u8_yes_q g ok (x :: r) s w hr (by simp)).mono ?_
 rintro e w' ⟨rfl, h1, h2⟩
 exact ⟨by simp [be], h1, h2⟩
theorem u16_q2 (g : Nat) (ok : Nat → Prop) (x y : UInt8) (r : List UInt8) (s : Bool) (w : World) (hr : Ro w 134 g ok (x :: y :: r) s) :
  Calls Tryz.prog 43 #[.pointer (some ⟨g, 0, none⟩)] w fun e w' => e = .returned (.int .i64 (be [x, y] : Nat)) ∧ Ro w' 134 g ok r s ∧ w.grownBy w' (some g) := u16_yes_q g ok (x :: y :: r) s w hr (by simp)
theorem u32_q4 (g : Nat) (ok : Nat → Prop) (x y z u : UInt8) (r : List UInt8) (s : Bool) (w : World) (hr : Ro w 134 g ok (x :: y :: z :: u :: r) s) :
  Calls Tryz.prog 44 #[.pointer (some ⟨g, 0, none⟩)] w fun e w' => e = .returned (.int .u32 (be [x, y, z, u] : Nat)) ∧ Ro w' 134 g ok r s ∧ w.grownBy w' (some g) := u32_yes_q g ok (x :: y :: z :: u :: r) s w hr (by simp)
open Go.RowKit

theorem av_rd {w : World} {T : TypeId} {A B : Option Addr} {n c m d g : Nat} {s : Bool} {l : List UInt8} (hs : Sl w A n c l) (h : w.heap[g]? = some (.cells #[.slice B m d, .bool s] T (0, 0))) : Av A n g := fun hn a o p e => by
 obtain ⟨a', o', e', hc⟩ := hs.2.2.2 hn
 rw [e] at e'
 injection e' with e'
 injection e' with e1 e2
 subst e1
 have hl : 0 < l.length := by have := hs.1; omega
 exact byte_not_rd h (hc 0 _ (List.getElem?_eq_getElem hl))
/-- The Reader's rest lies in A's block, or is empty. -/
theorem ro_in {w : World} {T : TypeId} {A : Option Addr} {n c g : Nat} {s : Bool} {l : List UInt8} (h : w.heap[g]? = some (.cells #[.slice A n c, .bool s] T (0, 0))) (hs : Sl w A n c l) : Ro w T g (fun a => ∃ o p, A = some ⟨a, o, p⟩) l s :=
 ⟨A, n, c, h, hs, fun hn => by obtain ⟨a, o, e, _⟩ := hs.2.2.2 hn; exact ⟨a, o, e, o, none, e⟩⟩
theorem ro_out {w : World} {T : TypeId} {A : Option Addr} {n g : Nat} {s : Bool} {l : List UInt8} (hn : l.length ≤ n) (h : Ro w T g (fun a => ∃ o p, A = some ⟨a, o, p⟩) l s) : ∃ A' n' c', w.heap[g]? = some (.cells #[.slice A' n' c', .bool s] T (0, 0)) ∧ Sl w A' n' c' l ∧ Sub A' n' A n := by
 obtain ⟨A', n', c', h1, h2, h3⟩ := h
 refine ⟨A', n', c', h1, h2, fun h0 => ⟨by have := h2.1; omega, fun a o p e => ?_⟩⟩
 obtain ⟨a', o', e', h⟩ := h3 h0
 rw [e] at e'
 injection e' with e'
 injection e' with e1 e2
 subst e1
 exact h
theorem rd_read (A : Option Addr) (n c : Nat) (l : List UInt8) (w : World) (hl : Sl w A n c l) (hs : n ≤ 140737488355328) :
  Calls Tryz.prog 41 #[.slice A n c] w fun e w' => ∃ g A' c', e = .returned (.pointer (some ⟨g, 0, none⟩)) ∧ w.heap.size ≤ g ∧ w'.heap[g]? = some (.cells #[.slice A' n c', .bool false] 134 (0, 0)) ∧ Sl w' A' n c' l ∧ Fr w.heap.size A' n ∧ Av A' n g ∧ Below w.heap.size w w' := by
 refine (read_q A n c l w hl hs).mono ?_
 rintro e w' ⟨g, rfl, ⟨A', n', c', h1, h2, h3⟩, hb, hg⟩
 obtain rfl : n = n' := hl.1.symm.trans h2.1
 exact ⟨g, A', c', rfl, hg, h1, h2, h3, av_rd h2 h1, hb⟩
theorem rd_u16c (x y : UInt8) (r : List UInt8) (g : Nat) (A : Option Addr) (n c : Nat) (s : Bool) (w : World) (h : w.heap[g]? = some (.cells #[.slice A n c, .bool s] 134 (0, 0))) (hs : Sl w A n c (x :: y :: r)) :
  Calls Tryz.prog 43 #[.pointer (some ⟨g, 0, none⟩)] w fun e w' => ∃ A' n' c', e = .returned (.int .i64 (be [x, y] : Nat)) ∧ w'.heap[g]? = some (.cells #[.slice A' n' c', .bool s] 134 (0, 0)) ∧ Sl w' A' n' c' r ∧ Sub A' n' A n ∧ w.grownBy w' (some g) := by
 refine (u16_q2 g _ x y r s w (ro_in h hs)).mono ?_
 rintro e w' ⟨rfl, h1, h3⟩
 obtain ⟨A', n', c', h4, h5, h6⟩ := ro_out (n := n) (by have := hs.1; simp at this; omega) h1
 exact ⟨A', n', c', rfl, h4, h5, h6, h3⟩
theorem rd_u8c (x : UInt8) (r : List UInt8) (g : Nat) (A : Option Addr) (n c : Nat) (s : Bool) (w : World) (h : w.heap[g]? = some (.cells #[.slice A n c, .bool s] 134 (0, 0))) (hs : Sl w A n c (x :: r)) :
  Calls Tryz.prog 42 #[.pointer (some ⟨g, 0, none⟩)] w fun e w' => ∃ A' n' c', e = .returned (.int .i64 (x.toNat : Int)) ∧ w'.heap[g]? = some (.cells #[.slice A' n' c', .bool s] 134 (0, 0)) ∧ Sl w' A' n' c' r ∧ Sub A' n' A n ∧ w.grownBy w' (some g) := by
 refine (u8_q1 g _ x r s w (ro_in h hs)).mono ?_
 rintro e w' ⟨rfl, h1, h3⟩
 obtain ⟨A', n', c', h4, h5, h6⟩ := ro_out (n := n) (by have := hs.1; simp at this; omega) h1
 exact ⟨A', n', c', rfl, h4, h5, h6, h3⟩
theorem rd_u32c (x y z u : UInt8) (r : List UInt8) (g : Nat) (A : Option Addr) (n c : Nat) (s : Bool) (w : World) (h : w.heap[g]? = some (.cells #[.slice A n c, .bool s] 134 (0, 0))) (hs : Sl w A n c (x :: y :: z :: u :: r)) :
  Calls Tryz.prog 44 #[.pointer (some ⟨g, 0, none⟩)] w fun e w' => ∃ A' n' c', e = .returned (.int .u32 (be [x, y, z, u] : Nat)) ∧ w'.heap[g]? = some (.cells #[.slice A' n' c', .bool s] 134 (0, 0)) ∧ Sl w' A' n' c' r ∧ Sub A' n' A n ∧ w.grownBy w' (some g) := by
 refine (u32_q4 g _ x y z u r s w (ro_in h hs)).mono ?_
 rintro e w' ⟨rfl, h1, h3⟩
 obtain ⟨A', n', c', h4, h5, h6⟩ := ro_out (n := n) (by have := hs.1; simp at this; omega) h1
 exact ⟨A', n', c', rfl, h4, h5, h6, h3⟩
theorem rd_bytes (k : Nat) (g : Nat) (A : Option Addr) (n c : Nat) (l : List UInt8) (s : Bool) (w : World) (h : w.heap[g]? = some (.cells #[.slice A n c, .bool s] 134 (0, 0))) (hs : Sl w A n c l) (hk : k ≤ l.length) (hm : k ≤ 140737488355328) :
  Calls Tryz.prog 47 #[.pointer (some ⟨g, 0, none⟩), .int .i64 (k : Int)] w fun e w' => ∃ Ab cb A' n' c', e = .returned (.slice Ab k cb) ∧ w'.heap[g]? = some (.cells #[.slice A' n' c', .bool s] 134 (0, 0)) ∧ Sl w' A' n' c' (l.drop k) ∧ Sub A' n' A n ∧ Sl w' Ab k cb (l.take k) ∧ Fr w.heap.size Ab k ∧ w.grownBy w' (some g) := by
 refine (bytes_q g _ l s k w (ro_in h hs) hk hm).mono ?_
 rintro e w' ⟨Ab, cb, rfl, h0, h1, h3, hf⟩
 obtain ⟨A', n', c', h4, h5, h6⟩ := ro_out (n := n) (by rw [List.length_drop]; have := hs.1; omega) h1
 exact ⟨Ab, cb, A', n', c', rfl, h4, h5, h6, h0, hf, h3⟩
theorem rd_short (g : Nat) (A : Option Addr) (n c : Nat) (l : List UInt8) (s : Bool) (w : World) (h : w.heap[g]? = some (.cells #[.slice A n c, .bool s] 134 (0, 0))) (hs : Sl w A n c l) :
  Calls Tryz.prog 45 #[.pointer (some ⟨g, 0, none⟩)] w fun e w' => e = .returned (.bool s) ∧ w = w' := short_any g l s w ⟨A, n, c, h, hs⟩
theorem rd_left (g : Nat) (A : Option Addr) (n c : Nat) (l : List UInt8) (s : Bool) (w : World) (h : w.heap[g]? = some (.cells #[.slice A n c, .bool s] 134 (0, 0))) (hs : Sl w A n c l) :
  Calls Tryz.prog 48 #[.pointer (some ⟨g, 0, none⟩)] w fun e w' => e = .returned (.int .i64 l.length) ∧ w = w' := left_any g l s w ⟨A, n, c, h, hs⟩
open Go.RowKit

theorem ret_k {k : IntKind} {a b : Int} (h : a = b) : Ending.returned (.int k a) = .returned (.int k b) := by rw [h]
theorem idx4 (x0 x1 x2 x3 : Value) (W : World) : (Instr.index 35 (.agg #[x0, x1, x2, x3]) (.int .i64 0)).run Tryz.prog W = .ok x0 W ∧ (Instr.index 35 (.agg #[x0, x1, x2, x3]) (.int .i64 1)).run Tryz.prog W = .ok x1 W ∧
  (Instr.index 35 (.agg #[x0, x1, x2, x3]) (.int .i64 2)).run Tryz.prog W = .ok x2 W ∧ (Instr.index 35 (.agg #[x0, x1, x2, x3]) (.int .i64 3)).run Tryz.prog W = .ok x3 W := by
 simp [Instr.index, run_underlying Tryz.underlying35, asIntOf, go_sem]

set_option maxHeartbeats 1000000 in
theorem anum_any (a b c d : UInt8) (w : World) : Calls Tryz.prog 114 #[.agg #[.int .u8 (a.toNat : Int), .int .u8 (b.toNat : Int), .int .u8 (c.toNat : Int), .int .u8 (d.toNat : Int)]] w fun e w' => e = .returned (.int .u32 (be [a, b, c, d])) ∧ Below w.heap.size w w' := by
 have bel := (Below.refl w.heap.size w).alloc (Nat.le_refl _) (.cells #[.int .u8 (a.toNat : Int), .int .u8 (b.toNat : Int), .int .u8 (c.toNat : Int), .int .u8 (d.toNat : Int)] 35)
 have i0 := fun W => (idx4 (.int .u8 (a.toNat : Int)) (.int .u8 (b.toNat : Int)) (.int .u8 (c.toNat : Int)) (.int .u8 (d.toNat : Int)) W).1
 have i1 := fun W => (idx4 (.int .u8 (a.toNat : Int)) (.int .u8 (b.toNat : Int)) (.int .u8 (c.toNat : Int)) (.int .u8 (d.toNat : Int)) W).2.1
 have i2 := fun W => (idx4 (.int .u8 (a.toNat : Int)) (.int .u8 (b.toNat : Int)) (.int .u8 (c.toNat : Int)) (.int .u8 (d.toNat : Int)) W).2.2.1
 have i3 := fun W => (idx4 (.int .u8 (a.toNat : Int)) (.int .u8 (b.toNat : Int)) (.int .u8 (c.toNat : Int)) (.int .u8 (d.toNat : Int)) W).2.2.2
 have ha := a.toNat_lt; have hb := b.toNat_lt; have hc := c.toNat_lt; have hd := d.toNat_lt
 have h1 := or_u32 0 a.toNat (by omega) (by omega)
 have h1' : bits .or .u32 0 (a.toNat : Int) = a.toNat := by simpa using h1
 obtain ⟨n2, e2⟩ : ∃ n, n = a.toNat * 256 + b.toNat := ⟨_, rfl⟩
 have h2 : bits .or .u32 ((a.toNat : Int) * 256) (b.toNat : Int) = (n2 : Int) := by rw [e2]; exact or_u32 a.toNat b.toNat (by omega) (by omega)
 have g2 : n2 < 65536 := by omega
 obtain ⟨n3, e3⟩ : ∃ n, n = n2 * 256 + c.toNat := ⟨_, rfl⟩
 have h3 : bits .or .u32 ((n2 : Int) * 256) (c.toNat : Int) = (n3 : Int) := by rw [e3]; exact or_u32 n2 c.toNat (by omega) (by omega)
 have g3 : n3 < 16777216 := by omega
 obtain ⟨n4, e4⟩ : ∃ n, n = n3 * 256 + d.toNat := ⟨_, rfl⟩
 have h4 : bits .or .u32 ((n3 : Int) * 256) (d.toNat : Int) = (n4 : Int) := by rw [e4]; exact or_u32 n3 d.toNat (by omega) (by omega)
 have e : Hid (n4 = be [a, b, c, d]) := Lib.hid (by simp [be, e4, e3, e2])
 clear e2 e3 e4
 have x0 : (0 : Int) ≤ a.toNat := by omega
 have x1 : (a.toNat : Int) < 256 := by omega
 have x2 : (0 : Int) ≤ b.toNat := by omega
 have x3 : (b.toNat : Int) < 256 := by omega
 have x4 : (0 : Int) ≤ c.toNat := by omega
 have x5 : (c.toNat : Int) < 256 := by omega
 have x6 : (0 : Int) ≤ d.toNat := by omega
 have x7 : (d.toNat : Int) < 256 := by omega
 have y0 : (0 : Int) ≤ n2 := by omega
 have y1 : (n2 : Int) < 65536 := by omega
 have y2 : (0 : Int) ≤ n3 := by omega
 have y3 : (n3 : Int) < 16777216 := by omega
 clear h1 ha hb hc hd g2 g3
 go_enter Tryz.func114, Tryz.ntmps114
 go_wp2
 refine wp_loop_rounds 5 ?_
 rw [rounds_succ]
 go_wp2_with fail
 rw [rounds_succ]
 go_wp2_with fail
 rw [rounds_succ]
 go_wp2_with fail
 rw [rounds_succ]
 go_wp2_with fail
 rw [rounds_succ]
 go_wp2
 go_ret
 exact ⟨ret_k (congrArg _ e.out), bel⟩

/-- An address out of four bytes' number. -/
theorem four_of (p0 p1 p2 p3 : UInt8) : ((be [p0, p1, p2, p3] : Nat) : Int) / 16777216 = p0.toNat ∧ ((be [p0, p1, p2, p3] : Nat) : Int) / 65536 % 256 = p1.toNat ∧ ((be [p0, p1, p2, p3] : Nat) : Int) / 256 % 256 = p2.toNat ∧ ((be [p0, p1, p2, p3] : Nat) : Int) % 256 = p3.toNat := by
 have h0 := p0.toNat_lt; have h1 := p1.toNat_lt; have h2 := p2.toNat_lt; have h3 := p3.toNat_lt
 have e : be [p0, p1, p2, p3] = ((p0.toNat * 256 + p1.toNat) * 256 + p2.toNat) * 256 + p3.toNat := by simp [be]
 rw [e]
 generalize p0.toNat = a at *
 generalize p1.toNat = b at *
 generalize p2.toNat = c at *
 generalize p3.toNat = d at *
 omega
theorem aof_any (n : Nat) (w : World) (hn : n < 4294967296) : Calls Tryz.prog 116 #[.int .u32 (n : Int)] w fun e w' => e = .returned (.agg #[.int .u8 ((n : Int) / 16777216), .int .u8 ((n : Int) / 65536 % 256), .int .u8 ((n : Int) / 256 % 256), .int .u8 ((n : Int) % 256)]) ∧ Below w.heap.size w w' := by
 have n0 : (0 : Int) ≤ n := by omega
 have n1 : (n : Int) < 4294967296 := by omega
 go_enter Tryz.func116, Tryz.ntmps116
 go_wp2
 exact bodyPost_ret (v := .agg #[.int .u8 ((n : Int) / 16777216), .int .u8 ((n : Int) / 65536 % 256), .int .u8 ((n : Int) / 256 % 256), .int .u8 ((n : Int) % 256)]) (by simp [results, Tryz.results116, go_sem]) rfl ⟨rfl, (Below.refl _ _).alloc (Nat.le_refl _) _⟩
theorem aof_four (p0 p1 p2 p3 : UInt8) (w : World) : Calls Tryz.prog 116 #[.int .u32 (be [p0, p1, p2, p3] : Nat)] w fun e w' => e = .returned (.agg #[.int .u8 (p0.toNat : Int), .int .u8 (p1.toNat : Int), .int .u8 (p2.toNat : Int), .int .u8 (p3.toNat : Int)]) ∧ Below w.heap.size w w' := by
 refine (aof_any (be [p0, p1, p2, p3]) w (by have := be_lt 4 [p0, p1, p2, p3] rfl; omega)).mono ?_
 rintro e w' ⟨rfl, bel⟩
 obtain ⟨e0, e1, e2, e3⟩ := four_of p0 p1 p2 p3
 rw [e0, e1, e2, e3]
 exact ⟨rfl, bel⟩

theorem pair_any (A : Option Addr) (n c k : Nat) (l : List UInt8) (w : World) (hl : Sl w A n c l) (hk : k + 2 ≤ n) (hm : k ≤ 100000) :
  Calls Tryz.prog 115 #[.slice A n c, .int .i64 (k : Int)] w fun e w' => e = .returned (.int .i64 (be ((l.drop k).take 2) : Nat)) ∧ Below w.heap.size w w' := by
 obtain ⟨A', c', hs, hsl⟩ := slice_mid hl (p := k) (k := 2) hk
 replace hs : ∀ W, (Instr.slice 36 (.slice A n c) (some (.int .i64 (k : Int))) (some (.int .i64 ((k : Int) + 2))) none).run Tryz.prog W = .ok (.slice A' 2 c') W := hs
 have b0 : (0 : Int) ≤ k := by omega
 have b1 : (k : Int) ≤ 100000 := by omega
 have hL := hl.1
 clear hl
 go_enter Tryz.func115, Tryz.ntmps115
 go_wp2_with fail
 with_reducible refine (read_any A' 2 c' _ _ hsl (by omega)).mono ?_
 rintro e w1 ⟨g, rfl, hr, bel, hg⟩
 clear hs hsl
 go_wp2_with fail
 with_reducible refine (u16_yes g _ _ _ hr (by rw [List.length_take, List.length_drop]; omega)).mono ?_
 rintro e w2 ⟨rfl, hr2, hg2⟩
 have bel2 := bel.grown hg2 bel.size (fun k h => by cases h; exact hg)
 rw [List.take_take, Nat.min_self]
 go_wp2
 go_ret
 exact ⟨rfl, bel2⟩
theorem pair_2 (A : Option Addr) (n c : Nat) (l : List UInt8) (w : World) (hl : Sl w A n c l) (hk : 4 ≤ n) :
  Calls Tryz.prog 115 #[.slice A n c, .int .i64 2] w fun e w' => e = .returned (.int .i64 (be ((l.drop 2).take 2) : Nat)) ∧ Below w.heap.size w w' := pair_any A n c 2 l w hl hk (by omega)
theorem sz_short (A : Option Addr) (n c : Nat) (w : World) (h : n < 20) : Calls Tryz.prog 87 #[.slice A n c] w fun e w' => e = .returned (.tuple #[.int .i64 0, .int .i64 0, .int .i64 3]) ∧ Below w.heap.size w w' := by
 have bel := Below.refl w.heap.size w
 have h1 : (n : Int) < 20 := by omega
 clear h
 go_enter Tryz.func87, Tryz.ntmps87
 go_wp2
 exact bodyPost_ret (v := .tuple #[.int .i64 0, .int .i64 0, .int .i64 3]) (by simp [results, Tryz.results87, go_sem]) rfl ⟨rfl, bel⟩

set_option maxHeartbeats 4000000 in
theorem sz_bad4 (A : Option Addr) (n c : Nat) (x : UInt8) (r : List UInt8) (w : World) (hl : Sl w A n c (x :: r)) (hn : 20 ≤ n) (hv : x.toNat / 16 ≠ 4) :
  Calls Tryz.prog 87 #[.slice A n c] w fun e w' => e = .returned (.tuple #[.int .i64 0, .int .i64 0, .int .i64 4]) ∧ Below w.heap.size w w' := by
 have bel := Below.refl w.heap.size w
 have t1 : decide ((n : Int) < 20) = false := decide_eq_false (by omega)
 have n0 : (0 : Int) < n := by omega
 obtain ⟨d, o, rfl, hc⟩ := hl.2.2.2 (by omega)
 have k0 := hc 0 x rfl
 unfold u8v at k0
 rw [Nat.add_zero] at k0
 have hx := x.toNat_lt
 have x0 : (0 : Int) ≤ x.toNat := by omega
 have x1 : (x.toNat : Int) < 256 := by omega
 have ew : (x.toNat : Int) % 16 * 4 = (hlen x : Int) := by unfold hlen; omega
 have e1 : ((x.toNat : Int) / 16 == 4) = false := by simp; omega
 have e2 : ((x.toNat : Int) / 16 != 4) = true := by simp; omega
 have h60 : (hlen x : Int) ≤ 60 := by unfold hlen; omega
 clear hl hc hx hn hv
 go_enter Tryz.func87, Tryz.ntmps87
 go_wp2
 exact bodyPost_ret (v := .tuple #[.int .i64 0, .int .i64 0, .int .i64 4]) (by simp [results, Tryz.results87, go_sem]) rfl ⟨rfl, bel⟩

set_option maxHeartbeats 4000000 in
theorem sz_bad5 (A : Option Addr) (n c : Nat) (x : UInt8) (r : List UInt8) (w : World) (hl : Sl w A n c (x :: r)) (hn : 20 ≤ n) (g4 : x.toNat / 16 = 4) (hv : hlen x < 20) :
  Calls Tryz.prog 87 #[.slice A n c] w fun e w' => e = .returned (.tuple #[.int .i64 0, .int .i64 0, .int .i64 4]) ∧ Below w.heap.size w w' := by
 have bel := Below.refl w.heap.size w
 have t1 : decide ((n : Int) < 20) = false := decide_eq_false (by omega)
 have n0 : (0 : Int) < n := by omega
 obtain ⟨d, o, rfl, hc⟩ := hl.2.2.2 (by omega)
 have k0 := hc 0 x rfl
 unfold u8v at k0
 rw [Nat.add_zero] at k0
 have hx := x.toNat_lt
 have x0 : (0 : Int) ≤ x.toNat := by omega
 have x1 : (x.toNat : Int) < 256 := by omega
 have ew : (x.toNat : Int) % 16 * 4 = (hlen x : Int) := by unfold hlen; omega
 have e4 : (x.toNat : Int) / 16 = 4 := by omega
 obtain ⟨H, HH⟩ : ∃ H, Hid (hlen x = H) := ⟨_, Lib.hid rfl⟩
 have hH60 : H ≤ 60 := by have := HH.out; unfold hlen at this; omega
 rw [HH.out] at ew hv
 have t2 : (H : Int) < 20 := by omega
 clear hl hc hx hn g4 hv hH60
 go_enter Tryz.func87, Tryz.ntmps87
 go_wp2
 exact bodyPost_ret (v := .tuple #[.int .i64 0, .int .i64 0, .int .i64 4]) (by simp [results, Tryz.results87, go_sem]) rfl ⟨rfl, bel⟩

set_option maxHeartbeats 4000000 in
theorem sz_short2 (A : Option Addr) (n c : Nat) (x : UInt8) (r : List UInt8) (w : World) (hl : Sl w A n c (x :: r)) (hn : 20 ≤ n) (g4 : x.toNat / 16 = 4) (hv : 20 ≤ hlen x) (hv2 : n < hlen x) :
  Calls Tryz.prog 87 #[.slice A n c] w fun e w' => e = .returned (.tuple #[.int .i64 0, .int .i64 0, .int .i64 3]) ∧ Below w.heap.size w w' := by
 have bel := Below.refl w.heap.size w
 have t1 : decide ((n : Int) < 20) = false := decide_eq_false (by omega)
 have n0 : (0 : Int) < n := by omega
 obtain ⟨d, o, rfl, hc⟩ := hl.2.2.2 (by omega)
 have k0 := hc 0 x rfl
 unfold u8v at k0
 rw [Nat.add_zero] at k0
 have hx := x.toNat_lt
 have x0 : (0 : Int) ≤ x.toNat := by omega
 have x1 : (x.toNat : Int) < 256 := by omega
 have ew : (x.toNat : Int) % 16 * 4 = (hlen x : Int) := by unfold hlen; omega
 have e4 : (x.toNat : Int) / 16 = 4 := by omega
 obtain ⟨H, HH⟩ : ∃ H, Hid (hlen x = H) := ⟨_, Lib.hid rfl⟩
 have hH60 : H ≤ 60 := by have := HH.out; unfold hlen at this; omega
 rw [HH.out] at ew hv hv2
 have t2 : decide ((H : Int) < 20) = false := decide_eq_false (by omega)
 have t3 : n < H := by omega
 clear hl hc hx hn g4 hv hH60 hv2
 go_enter Tryz.func87, Tryz.ntmps87
 go_wp2
 exact bodyPost_ret (v := .tuple #[.int .i64 0, .int .i64 0, .int .i64 3]) (by simp [results, Tryz.results87, go_sem]) rfl ⟨rfl, bel⟩

set_option maxHeartbeats 4000000 in
theorem sz_sum (A : Option Addr) (n c : Nat) (x : UInt8) (r : List UInt8) (w : World) (hl : Sl w A n c (x :: r)) (hn : 20 ≤ n) (g4 : x.toNat / 16 = 4) (hv : 20 ≤ hlen x) (hv2 : hlen x ≤ n) (hm : n ≤ 100000) (hs : ck ((x :: r).take (hlen x)) ≠ 0) :
  Calls Tryz.prog 87 #[.slice A n c] w fun e w' => e = .returned (.tuple #[.int .i64 0, .int .i64 0, .int .i64 5]) ∧ Below w.heap.size w w' := by
 have bel := Below.refl w.heap.size w
 have t1 : decide ((n : Int) < 20) = false := decide_eq_false (by omega)
 have n0 : (0 : Int) < n := by omega
 obtain ⟨d, o, rfl, hc⟩ := hl.2.2.2 (by omega)
 have k0 := hc 0 x rfl
 unfold u8v at k0
 rw [Nat.add_zero] at k0
 have hx := x.toNat_lt
 have x0 : (0 : Int) ≤ x.toNat := by omega
 have x1 : (x.toNat : Int) < 256 := by omega
 have ew : (x.toNat : Int) % 16 * 4 = (hlen x : Int) := by unfold hlen; omega
 have e4 : (x.toNat : Int) / 16 = 4 := by omega
 obtain ⟨H, HH⟩ : ∃ H, Hid (hlen x = H) := ⟨_, Lib.hid rfl⟩
 have hH60 : H ≤ 60 := by have := HH.out; unfold hlen at this; omega
 rw [HH.out] at ew hv hv2 hs
 have t2 : decide ((H : Int) < 20) = false := decide_eq_false (by omega)
 have t3 : decide (n < H) = false := decide_eq_false (by omega)
 have HN := Lib.hid hn; have H60 := Lib.hid hH60; have HM := Lib.hid hm
 obtain ⟨AF, cF, sF, hF⟩ := slice_front hl (k := H) (by omega)
 have HL := Lib.hid fun W (h : Below w.heap.size w W) => hl.below h
 have HS := Lib.hid hs
 clear hl hc hx hn g4 hv hH60 hv2 hm hs
 go_enter Tryz.func87, Tryz.ntmps87
 go_wp2_with fail
 with_reducible refine (fits_no AF H cF _ _ hF HS.out).mono ?_
 rintro e w1 ⟨rfl, b1⟩
 replace bel := bel.trans (b1.mono bel.size)
 clear k0 b1 sF hF HS
 go_wp2
 exact bodyPost_ret (v := .tuple #[.int .i64 0, .int .i64 0, .int .i64 5]) (by simp [results, Tryz.results87, go_sem]) rfl ⟨rfl, bel⟩

set_option maxHeartbeats 4000000 in
theorem sz_bad6 (A : Option Addr) (n c : Nat) (x : UInt8) (r : List UInt8) (w : World) (hl : Sl w A n c (x :: r)) (hn : 20 ≤ n) (g4 : x.toNat / 16 = 4) (hv : 20 ≤ hlen x) (hv2 : hlen x ≤ n) (hm : n ≤ 100000) (hs : ck ((x :: r).take (hlen x)) = 0) (hb : be (((x :: r).drop 2).take 2) < hlen x) :
  Calls Tryz.prog 87 #[.slice A n c] w fun e w' => e = .returned (.tuple #[.int .i64 0, .int .i64 0, .int .i64 4]) ∧ Below w.heap.size w w' := by
 have bel := Below.refl w.heap.size w
 have t1 : decide ((n : Int) < 20) = false := decide_eq_false (by omega)
 have n0 : (0 : Int) < n := by omega
 obtain ⟨d, o, rfl, hc⟩ := hl.2.2.2 (by omega)
 have k0 := hc 0 x rfl
 unfold u8v at k0
 rw [Nat.add_zero] at k0
 have hx := x.toNat_lt
 have x0 : (0 : Int) ≤ x.toNat := by omega
 have x1 : (x.toNat : Int) < 256 := by omega
 have ew : (x.toNat : Int) % 16 * 4 = (hlen x : Int) := by unfold hlen; omega
 have e4 : (x.toNat : Int) / 16 = 4 := by omega
 obtain ⟨H, HH⟩ : ∃ H, Hid (hlen x = H) := ⟨_, Lib.hid rfl⟩
 have hH60 : H ≤ 60 := by have := HH.out; unfold hlen at this; omega
 rw [HH.out] at ew hv hv2 hs hb
 have t2 : decide ((H : Int) < 20) = false := decide_eq_false (by omega)
 have t3 : decide (n < H) = false := decide_eq_false (by omega)
 have HN := Lib.hid hn; have H60 := Lib.hid hH60; have HM := Lib.hid hm
 obtain ⟨AF, cF, sF, hF⟩ := slice_front hl (k := H) (by omega)
 have HL := Lib.hid fun W (h : Below w.heap.size w W) => hl.below h
 have HS := Lib.hid hs
 obtain ⟨nn, hnn⟩ : ∃ nn, Hid (be (((x :: r).drop 2).take 2) = nn) := ⟨_, Lib.hid rfl⟩
 rw [hnn.out] at hb
 have t5 : nn < H := by omega
 clear hl hc hx hn g4 hv hH60 hv2 hm hs hb
 go_enter Tryz.func87, Tryz.ntmps87
 go_wp2_with fail
 with_reducible refine (fits_yes AF H cF _ _ hF HS.out).mono ?_
 rintro e w1 ⟨rfl, b1⟩
 replace bel := bel.trans (b1.mono bel.size)
 clear k0 b1 sF hF HS
 go_wp2_with fail
 with_reducible refine (pair_2 _ n c _ _ (HL.out _ bel) (by have := HN.out; omega)).mono ?_
 rintro e w2 ⟨rfl, b2⟩
 replace bel := bel.trans (b2.mono bel.size)
 clear b2
 rw [hnn.out]
 go_wp2
 exact bodyPost_ret (v := .tuple #[.int .i64 0, .int .i64 0, .int .i64 4]) (by simp [results, Tryz.results87, go_sem]) rfl ⟨rfl, bel⟩

set_option maxHeartbeats 4000000 in
theorem sz_short3 (A : Option Addr) (n c : Nat) (x : UInt8) (r : List UInt8) (w : World) (hl : Sl w A n c (x :: r)) (hn : 20 ≤ n) (g4 : x.toNat / 16 = 4) (hv : 20 ≤ hlen x) (hv2 : hlen x ≤ n) (hm : n ≤ 100000) (hs : ck ((x :: r).take (hlen x)) = 0) (hb : hlen x ≤ be (((x :: r).drop 2).take 2)) (hb2 : n < be (((x :: r).drop 2).take 2)) :
  Calls Tryz.prog 87 #[.slice A n c] w fun e w' => e = .returned (.tuple #[.int .i64 0, .int .i64 0, .int .i64 3]) ∧ Below w.heap.size w w' := by
 have bel := Below.refl w.heap.size w
 have t1 : decide ((n : Int) < 20) = false := decide_eq_false (by omega)
 have n0 : (0 : Int) < n := by omega
 obtain ⟨d, o, rfl, hc⟩ := hl.2.2.2 (by omega)
 have k0 := hc 0 x rfl
 unfold u8v at k0
 rw [Nat.add_zero] at k0
 have hx := x.toNat_lt
 have x0 : (0 : Int) ≤ x.toNat := by omega
 have x1 : (x.toNat : Int) < 256 := by omega
 have ew : (x.toNat : Int) % 16 * 4 = (hlen x : Int) := by unfold hlen; omega
 have e4 : (x.toNat : Int) / 16 = 4 := by omega
 obtain ⟨H, HH⟩ : ∃ H, Hid (hlen x = H) := ⟨_, Lib.hid rfl⟩
 have hH60 : H ≤ 60 := by have := HH.out; unfold hlen at this; omega
 rw [HH.out] at ew hv hv2 hs hb
 have t2 : decide ((H : Int) < 20) = false := decide_eq_false (by omega)
 have t3 : decide (n < H) = false := decide_eq_false (by omega)
 have HN := Lib.hid hn; have H60 := Lib.hid hH60; have HM := Lib.hid hm
 obtain ⟨AF, cF, sF, hF⟩ := slice_front hl (k := H) (by omega)
 have HL := Lib.hid fun W (h : Below w.heap.size w W) => hl.below h
 have HS := Lib.hid hs
 obtain ⟨nn, hnn⟩ : ∃ nn, Hid (be (((x :: r).drop 2).take 2) = nn) := ⟨_, Lib.hid rfl⟩
 rw [hnn.out] at hb hb2
 have t5 : decide (nn < H) = false := decide_eq_false (by omega)
 have t6 : n < nn := by omega
 clear hl hc hx hn g4 hv hH60 hv2 hm hs hb hb2
 go_enter Tryz.func87, Tryz.ntmps87
 go_wp2_with fail
 with_reducible refine (fits_yes AF H cF _ _ hF HS.out).mono ?_
 rintro e w1 ⟨rfl, b1⟩
 replace bel := bel.trans (b1.mono bel.size)
 clear k0 b1 sF hF HS
 go_wp2_with fail
 with_reducible refine (pair_2 _ n c _ _ (HL.out _ bel) (by have := HN.out; omega)).mono ?_
 rintro e w2 ⟨rfl, b2⟩
 replace bel := bel.trans (b2.mono bel.size)
 clear b2
 rw [hnn.out]
 go_wp2
 exact bodyPost_ret (v := .tuple #[.int .i64 0, .int .i64 0, .int .i64 3]) (by simp [results, Tryz.results87, go_sem]) rfl ⟨rfl, bel⟩

set_option maxHeartbeats 4000000 in
theorem sz_ok (A : Option Addr) (n c : Nat) (x : UInt8) (r : List UInt8) (w : World) (hl : Sl w A n c (x :: r)) (hn : 20 ≤ n) (g4 : x.toNat / 16 = 4) (hv : 20 ≤ hlen x) (hv2 : hlen x ≤ n) (hm : n ≤ 100000) (hs : ck ((x :: r).take (hlen x)) = 0) (hb : hlen x ≤ be (((x :: r).drop 2).take 2)) (hb2 : be (((x :: r).drop 2).take 2) ≤ n) :
  Calls Tryz.prog 87 #[.slice A n c] w fun e w' => e = .returned (.tuple #[.int .i64 (hlen x : Int), .int .i64 (be (((x :: r).drop 2).take 2) : Nat), .int .i64 0]) ∧ Below w.heap.size w w' := by
 have bel := Below.refl w.heap.size w
 have t1 : decide ((n : Int) < 20) = false := decide_eq_false (by omega)
 have n0 : (0 : Int) < n := by omega
 obtain ⟨d, o, rfl, hc⟩ := hl.2.2.2 (by omega)
 have k0 := hc 0 x rfl
 unfold u8v at k0
 rw [Nat.add_zero] at k0
 have hx := x.toNat_lt
 have x0 : (0 : Int) ≤ x.toNat := by omega
 have x1 : (x.toNat : Int) < 256 := by omega
 have ew : (x.toNat : Int) % 16 * 4 = (hlen x : Int) := by unfold hlen; omega
 have e4 : (x.toNat : Int) / 16 = 4 := by omega
 obtain ⟨H, HH⟩ : ∃ H, Hid (hlen x = H) := ⟨_, Lib.hid rfl⟩
 have hH60 : H ≤ 60 := by have := HH.out; unfold hlen at this; omega
 rw [HH.out] at ew hv hv2 hs hb ⊢
 have t2 : decide ((H : Int) < 20) = false := decide_eq_false (by omega)
 have t3 : decide (n < H) = false := decide_eq_false (by omega)
 have HN := Lib.hid hn; have H60 := Lib.hid hH60; have HM := Lib.hid hm
 obtain ⟨AF, cF, sF, hF⟩ := slice_front hl (k := H) (by omega)
 have HL := Lib.hid fun W (h : Below w.heap.size w W) => hl.below h
 have HS := Lib.hid hs
 obtain ⟨nn, hnn⟩ : ∃ nn, Hid (be (((x :: r).drop 2).take 2) = nn) := ⟨_, Lib.hid rfl⟩
 rw [hnn.out] at hb hb2 ⊢
 have t5 : decide (nn < H) = false := decide_eq_false (by omega)
 have t6 : decide (n < nn) = false := decide_eq_false (by omega)
 clear hl hc hx hn g4 hv hH60 hv2 hm hs hb hb2
 go_enter Tryz.func87, Tryz.ntmps87
 go_wp2_with fail
 with_reducible refine (fits_yes AF H cF _ _ hF HS.out).mono ?_
 rintro e w1 ⟨rfl, b1⟩
 replace bel := bel.trans (b1.mono bel.size)
 clear k0 b1 sF hF HS
 go_wp2_with fail
 with_reducible refine (pair_2 _ n c _ _ (HL.out _ bel) (by have := HN.out; omega)).mono ?_
 rintro e w2 ⟨rfl, b2⟩
 replace bel := bel.trans (b2.mono bel.size)
 clear b2
 rw [hnn.out]
 go_wp2
 exact bodyPost_ret (v := .tuple #[.int .i64 (H : Int), .int .i64 (nn : Int), .int .i64 0]) (by simp [results, Tryz.results87, go_sem]) rfl ⟨rfl, bel⟩

theorem sz_err (A : Option Addr) (n c : Nat) (l : List UInt8) (w : World) (hl : Sl w A n c l) (hm : n ≤ 100000) (he : ipErr l ≠ 0) :
  Calls Tryz.prog 87 #[.slice A n c] w fun e w' => e = .returned (.tuple #[.int .i64 0, .int .i64 0, .int .i64 (ipErr l)]) ∧ Below w.heap.size w w' := by
 have hn := hl.1
 by_cases g1 : n < 20
 ·have e : ipErr l = 3 := by unfold ipErr; rw [if_pos (by omega)]
  rw [e]; exact sz_short A n c w g1
 obtain ⟨h0, h1, h2, h3, h4, h5, h6, h7, h8, h9, h10, h11, h12, h13, h14, h15, h16, h17, h18, h19, r, rfl⟩ := list20 l (by omega)
 have n1 : ¬ (h0 :: h1 :: h2 :: h3 :: h4 :: h5 :: h6 :: h7 :: h8 :: h9 :: h10 :: h11 :: h12 :: h13 :: h14 :: h15 :: h16 :: h17 :: h18 :: h19 :: r).length < 20 := by omega
 by_cases g2 : h0.toNat / 16 = 4
 ·by_cases g3 : hlen h0 < 20
  ·have e : ipErr (h0 :: h1 :: h2 :: h3 :: h4 :: h5 :: h6 :: h7 :: h8 :: h9 :: h10 :: h11 :: h12 :: h13 :: h14 :: h15 :: h16 :: h17 :: h18 :: h19 :: r) = 4 := by unfold ipErr; rw [if_neg n1, if_pos (.inr g3)]
   rw [e]; exact sz_bad5 A n c h0 _ w hl (by omega) g2 g3
  have n2 : ¬ (((h0 :: h1 :: h2 :: h3 :: h4 :: h5 :: h6 :: h7 :: h8 :: h9 :: h10 :: h11 :: h12 :: h13 :: h14 :: h15 :: h16 :: h17 :: h18 :: h19 :: r).getD 0 0).toNat / 16 ≠ 4 ∨ hlen ((h0 :: h1 :: h2 :: h3 :: h4 :: h5 :: h6 :: h7 :: h8 :: h9 :: h10 :: h11 :: h12 :: h13 :: h14 :: h15 :: h16 :: h17 :: h18 :: h19 :: r).getD 0 0) < 20) := fun h => h.elim (fun h => h g2) g3
  by_cases g4 : n < hlen h0
  ·have e : ipErr (h0 :: h1 :: h2 :: h3 :: h4 :: h5 :: h6 :: h7 :: h8 :: h9 :: h10 :: h11 :: h12 :: h13 :: h14 :: h15 :: h16 :: h17 :: h18 :: h19 :: r) = 3 := by unfold ipErr; rw [if_neg n1, if_neg n2, if_pos (by rw [hn]; exact g4)]
   rw [e]; exact sz_short2 A n c h0 _ w hl (by omega) g2 (by omega) g4
  have n3 : ¬ (h0 :: h1 :: h2 :: h3 :: h4 :: h5 :: h6 :: h7 :: h8 :: h9 :: h10 :: h11 :: h12 :: h13 :: h14 :: h15 :: h16 :: h17 :: h18 :: h19 :: r).length < hlen ((h0 :: h1 :: h2 :: h3 :: h4 :: h5 :: h6 :: h7 :: h8 :: h9 :: h10 :: h11 :: h12 :: h13 :: h14 :: h15 :: h16 :: h17 :: h18 :: h19 :: r).getD 0 0) := by rw [hn]; exact g4
  by_cases g5 : ck ((h0 :: h1 :: h2 :: h3 :: h4 :: h5 :: h6 :: h7 :: h8 :: h9 :: h10 :: h11 :: h12 :: h13 :: h14 :: h15 :: h16 :: h17 :: h18 :: h19 :: r).take (hlen h0)) = 0
  ·have n4 : ¬ ck ((h0 :: h1 :: h2 :: h3 :: h4 :: h5 :: h6 :: h7 :: h8 :: h9 :: h10 :: h11 :: h12 :: h13 :: h14 :: h15 :: h16 :: h17 :: h18 :: h19 :: r).take (hlen ((h0 :: h1 :: h2 :: h3 :: h4 :: h5 :: h6 :: h7 :: h8 :: h9 :: h10 :: h11 :: h12 :: h13 :: h14 :: h15 :: h16 :: h17 :: h18 :: h19 :: r).getD 0 0))) ≠ 0 := fun h => h g5
   by_cases g6 : be [h2, h3] < hlen h0
   ·have e : ipErr (h0 :: h1 :: h2 :: h3 :: h4 :: h5 :: h6 :: h7 :: h8 :: h9 :: h10 :: h11 :: h12 :: h13 :: h14 :: h15 :: h16 :: h17 :: h18 :: h19 :: r) = 4 := by unfold ipErr; rw [if_neg n1, if_neg n2, if_neg n3, if_neg n4, if_pos (by exact g6)]
    rw [e]; exact sz_bad6 A n c h0 _ w hl (by omega) g2 (by omega) (by omega) hm g5 g6
   have n5 : ¬ be (((h0 :: h1 :: h2 :: h3 :: h4 :: h5 :: h6 :: h7 :: h8 :: h9 :: h10 :: h11 :: h12 :: h13 :: h14 :: h15 :: h16 :: h17 :: h18 :: h19 :: r).drop 2).take 2) < hlen ((h0 :: h1 :: h2 :: h3 :: h4 :: h5 :: h6 :: h7 :: h8 :: h9 :: h10 :: h11 :: h12 :: h13 :: h14 :: h15 :: h16 :: h17 :: h18 :: h19 :: r).getD 0 0) := g6
   by_cases g7 : n < be [h2, h3]
   ·have e : ipErr (h0 :: h1 :: h2 :: h3 :: h4 :: h5 :: h6 :: h7 :: h8 :: h9 :: h10 :: h11 :: h12 :: h13 :: h14 :: h15 :: h16 :: h17 :: h18 :: h19 :: r) = 3 := by unfold ipErr; rw [if_neg n1, if_neg n2, if_neg n3, if_neg n4, if_neg n5, if_pos (by rw [hn]; exact g7)]
    rw [e]; exact sz_short3 A n c h0 _ w hl (by omega) g2 (by omega) (by omega) hm g5 (Nat.le_of_not_lt g6) g7
   have n6 : ¬ (h0 :: h1 :: h2 :: h3 :: h4 :: h5 :: h6 :: h7 :: h8 :: h9 :: h10 :: h11 :: h12 :: h13 :: h14 :: h15 :: h16 :: h17 :: h18 :: h19 :: r).length < be (((h0 :: h1 :: h2 :: h3 :: h4 :: h5 :: h6 :: h7 :: h8 :: h9 :: h10 :: h11 :: h12 :: h13 :: h14 :: h15 :: h16 :: h17 :: h18 :: h19 :: r).drop 2).take 2) := by rw [hn]; exact g7
   exact absurd (by unfold ipErr; rw [if_neg n1, if_neg n2, if_neg n3, if_neg n4, if_neg n5, if_neg n6]) he
  ·have e : ipErr (h0 :: h1 :: h2 :: h3 :: h4 :: h5 :: h6 :: h7 :: h8 :: h9 :: h10 :: h11 :: h12 :: h13 :: h14 :: h15 :: h16 :: h17 :: h18 :: h19 :: r) = 5 := by unfold ipErr; rw [if_neg n1, if_neg n2, if_neg n3, if_pos (by exact g5)]
   rw [e]; exact sz_sum A n c h0 _ w hl (by omega) g2 (by omega) (by omega) hm g5
 ·have e : ipErr (h0 :: h1 :: h2 :: h3 :: h4 :: h5 :: h6 :: h7 :: h8 :: h9 :: h10 :: h11 :: h12 :: h13 :: h14 :: h15 :: h16 :: h17 :: h18 :: h19 :: r) = 4 := by unfold ipErr; rw [if_neg n1, if_pos (.inl g2)]
  rw [e]; exact sz_bad4 A n c h0 _ w hl (by omega) g2
theorem sz_good (A : Option Addr) (n c : Nat) (h0 h1 h2 h3 h4 h5 h6 h7 h8 h9 h10 h11 h12 h13 h14 h15 h16 h17 h18 h19 : UInt8) (r : List UInt8) (w : World) (hl : Sl w A n c (h0 :: h1 :: h2 :: h3 :: h4 :: h5 :: h6 :: h7 :: h8 :: h9 :: h10 :: h11 :: h12 :: h13 :: h14 :: h15 :: h16 :: h17 :: h18 :: h19 :: r)) (hm : n ≤ 100000) (he : ipErr (h0 :: h1 :: h2 :: h3 :: h4 :: h5 :: h6 :: h7 :: h8 :: h9 :: h10 :: h11 :: h12 :: h13 :: h14 :: h15 :: h16 :: h17 :: h18 :: h19 :: r) = 0) :
  Calls Tryz.prog 87 #[.slice A n c] w fun e w' => e = .returned (.tuple #[.int .i64 (hlen h0 : Int), .int .i64 (be [h2, h3] : Nat), .int .i64 0]) ∧ Below w.heap.size w w' := by
 obtain ⟨g1, g2, g3, g4, g5, g6⟩ := ok_parts he
 rw [hl.1] at g3 g6
 exact sz_ok A n c h0 _ w hl (by omega) g1 g2 g3 hm g4 g5 g6
open Go.RowKit

/-- A slice of numbers. -/
def Si (w : World) (A : Option Addr) (n : Nat) (l : List Int) : Prop :=
 l.length = n ∧ n ≤ 1000 ∧ (0 < n → ∃ g o, A = some ⟨g, o, none⟩ ∧ ∀ j v, l[j]? = some v → w.cell? ⟨g, o + j, none⟩ = some (.int .i64 v))
theorem Si.made1 (w : World) (T : TypeId) (a : Int) : Si (w.alloc (.cells #[.int .i64 a] T)) (some ⟨w.heap.size, 0, none⟩) 1 [a] := by
 have h := heap_alloc_new w (.cells #[.int .i64 a] T)
 refine ⟨rfl, by omega, fun _ => ⟨_, _, rfl, fun j v hj => ?_⟩⟩
 match j, hj with
 | 0, hj => simp at hj; subst hj; exact cell_lit h 0 _ rfl
 | j + 1, hj => simp at hj
theorem Si.made3 (w : World) (T : TypeId) (a b c : Int) : Si (w.alloc (.cells #[.int .i64 a, .int .i64 b, .int .i64 c] T)) (some ⟨w.heap.size, 0, none⟩) 3 [a, b, c] := by
 have h := heap_alloc_new w (.cells #[.int .i64 a, .int .i64 b, .int .i64 c] T)
 refine ⟨rfl, by omega, fun _ => ⟨_, _, rfl, fun j v hj => ?_⟩⟩
 match j, hj with
 | 0, hj => simp at hj; subst hj; exact cell_lit h 0 _ rfl
 | 1, hj => simp at hj; subst hj; exact cell_lit h 1 _ rfl
 | 2, hj => simp at hj; subst hj; exact cell_lit h 2 _ rfl
 | j + 3, hj => simp at hj
/-- All from 0 to m. -/
def upTo (m : Int) (l : List Int) : Bool := l.all fun v => decide (0 ≤ v) && decide (v ≤ m)
theorem upto_bad {m : Int} {l : List Int} {k : Nat} {v : Int} (hk : l[k]? = some v) (h : v < 0 ∨ m < v) : upTo m l = false := by
 unfold upTo
 rw [List.all_eq_false]
 refine ⟨v, List.mem_of_getElem? hk, ?_⟩
 simp only [Bool.and_eq_true, decide_eq_true_eq]
 omega
theorem upto_good {m : Int} {l : List Int} (h : ∀ (j : Nat) (v : Int), l[j]? = some v → 0 ≤ v ∧ v ≤ m) : upTo m l = true := by
 unfold upTo
 rw [List.all_eq_true]
 intro v hv
 obtain ⟨j, hj⟩ := List.getElem?_of_mem hv
 have := h j v hj
 simp only [Bool.and_eq_true, decide_eq_true_eq]
 exact this
set_option maxHeartbeats 1000000 in
theorem upto_any (m : Int) (A : Option Addr) (n c : Nat) (l : List Int) (w : World) (hl : Si w A n l) :
  Calls Tryz.prog 85 #[.int .i64 m, .slice A n c] w fun e w' => e = .returned (.bool (upTo m l)) ∧ w = w' := by
 obtain ⟨hlen, hn, hc⟩ := hl
 go_enter Tryz.func85, Tryz.ntmps85
 go_wp2
 go_loop [9] (fun i => ∃ k : Nat, k ≤ n ∧ i = .int .i64 k ∧ ∀ j v, j < k → l[j]? = some v → 0 ≤ v ∧ v ≤ m) (fun i => n - (intOf i).toNat)
 case atStart => exact ⟨0, by omega, rfl, fun j v hj => by omega⟩
 case round =>
  obtain ⟨k, hk, rfl, hall⟩ := hrel
  have b0 : (0 : Int) ≤ k := by omega
  have b1 : (n : Int) ≤ 1000 := by omega
  by_cases hlt : k < n
  ·obtain ⟨g, o, rfl, hcell⟩ := hc (by omega)
   have hkl : k < l.length := by omega
   have hv := List.getElem?_eq_getElem hkl
   generalize l[k] = v at hv
   have kc := hcell k v hv
   have t0 : (k : Int) < n := by omega
   have HA := Lib.hid hall
   have HV := Lib.hid hv
   clear hall hv hcell hc hlen hkl
   by_cases h0 : v < 0
   ·go_wp2
    go_ret
    exact ⟨by rw [upto_bad HV.out (.inl h0)]; rfl, rfl⟩
   have t1 : decide (v < 0) = false := decide_eq_false h0
   have g0 : 0 ≤ v := by omega
   by_cases h1 : m < v
   ·clear h0
    go_wp2
    go_ret
    exact ⟨by rw [upto_bad HV.out (.inr h1)]; rfl, rfl⟩
   have t2 : decide (m < v) = false := decide_eq_false h1
   have H1 := Lib.hid h1
   clear h0 h1
   go_wp2
   go_round
   case rel => exact ⟨k + 1, by omega, by go_num, fun j u hj hu => by
    by_cases e : j = k
    ·subst e
     obtain rfl := Option.some.inj (HV.out.symm.trans hu)
     exact ⟨g0, Int.not_lt.1 H1.out⟩
    ·exact HA.out j u (by omega) hu⟩
   case measure => simp [intOf]; omega
  ·obtain rfl : k = n := by omega
   have HA := Lib.hid (upto_good (m := m) (l := l) (fun j v hj => hall j v (by have := (List.getElem?_eq_some_iff.1 hj).1; omega) hj))
   clear hall hc hlen hlt
   go_wp2
   go_ret
   exact ⟨by rw [HA.out]; rfl, rfl⟩

theorem fits_w6 (tos id fl pt ttl pr : Int) (a0 a1 a2 a3 a4 a5 a6 a7 : UInt8) (So Sb : Option Addr) (no co nb cb : Nat) (w : World) (H0 : Hid (upTo 255 [tos, ttl, pr] = true)) (H1 : Hid (upTo 65535 [id] = true)) (H2 : Hid (upTo 7 [fl] = true)) (H3 : Hid (upTo 8191 [pt] = true)) (h5 : no ≤ 40) (h6 : no % 4 = 0) : Calls Tryz.prog 49 #[.agg #[.int .i64 tos, .int .i64 id, .int .i64 fl, .int .i64 pt, .int .i64 ttl, .int .i64 pr, .int .u8 (a0.toNat : Int), .int .u8 (a1.toNat : Int), .int .u8 (a2.toNat : Int), .int .u8 (a3.toNat : Int), .int .u8 (a4.toNat : Int), .int .u8 (a5.toNat : Int), .int .u8 (a6.toNat : Int), .int .u8 (a7.toNat : Int), .slice So no co, .slice Sb nb cb]] w fun e w' => e = .returned (.bool true) ∧ Below w.heap.size w w' := by
 have t5 : (no : Int) ≤ 40 := by omega
 have t6 : (no : Int) % 4 = 0 := by omega
 have n0 : (0 : Int) ≤ no := by omega
 clear h5 h6
 have bel := Below.refl w.heap.size w
 have hp : (w.alloc (.cells #[.int .i64 tos, .int .i64 id, .int .i64 fl, .int .i64 pt, .int .i64 ttl, .int .i64 pr, .int .u8 (a0.toNat : Int), .int .u8 (a1.toNat : Int), .int .u8 (a2.toNat : Int), .int .u8 (a3.toNat : Int), .int .u8 (a4.toNat : Int), .int .u8 (a5.toNat : Int), .int .u8 (a6.toNat : Int), .int .u8 (a7.toNat : Int), .slice So no co, .slice Sb nb cb] 38)).heap[w.heap.size]? = some (.cells #[.int .i64 tos, .int .i64 id, .int .i64 fl, .int .i64 pt, .int .i64 ttl, .int .i64 pr, .int .u8 (a0.toNat : Int), .int .u8 (a1.toNat : Int), .int .u8 (a2.toNat : Int), .int .u8 (a3.toNat : Int), .int .u8 (a4.toNat : Int), .int .u8 (a5.toNat : Int), .int .u8 (a6.toNat : Int), .int .u8 (a7.toNat : Int), .slice So no co, .slice Sb nb cb] 38 (0, 0)) := by have := heap_alloc_new w (.cells #[.int .i64 tos, .int .i64 id, .int .i64 fl, .int .i64 pt, .int .i64 ttl, .int .i64 pr, .int .u8 (a0.toNat : Int), .int .u8 (a1.toNat : Int), .int .u8 (a2.toNat : Int), .int .u8 (a3.toNat : Int), .int .u8 (a4.toNat : Int), .int .u8 (a5.toNat : Int), .int .u8 (a6.toNat : Int), .int .u8 (a7.toNat : Int), .slice So no co, .slice Sb nb cb] 38); simpa using this
 have zp : w.heap.size < (w.alloc (.cells #[.int .i64 tos, .int .i64 id, .int .i64 fl, .int .i64 pt, .int .i64 ttl, .int .i64 pr, .int .u8 (a0.toNat : Int), .int .u8 (a1.toNat : Int), .int .u8 (a2.toNat : Int), .int .u8 (a3.toNat : Int), .int .u8 (a4.toNat : Int), .int .u8 (a5.toNat : Int), .int .u8 (a6.toNat : Int), .int .u8 (a7.toNat : Int), .slice So no co, .slice Sb nb cb] 38)).heap.size := by simp
 replace bel := bel.alloc bel.size (.cells #[.int .i64 tos, .int .i64 id, .int .i64 fl, .int .i64 pt, .int .i64 ttl, .int .i64 pr, .int .u8 (a0.toNat : Int), .int .u8 (a1.toNat : Int), .int .u8 (a2.toNat : Int), .int .u8 (a3.toNat : Int), .int .u8 (a4.toNat : Int), .int .u8 (a5.toNat : Int), .int .u8 (a6.toNat : Int), .int .u8 (a7.toNat : Int), .slice So no co, .slice Sb nb cb] 38)
 go_enter Tryz.func49, Tryz.ntmps49
 have R3 := cell_lit hp 0 _ rfl
 have R5 := cell_lit hp 4 _ rfl
 have R7 := cell_lit hp 5 _ rfl
 have R12 := cell_lit hp 1 _ rfl
 have R18 := cell_lit hp 2 _ rfl
 have R24 := cell_lit hp 3 _ rfl
 have R30 := cell_lit hp 14 _ rfl
 have R36 := cell_lit hp 14 _ rfl
 have sm := Si.made3 (w.alloc (.cells #[.int .i64 tos, .int .i64 id, .int .i64 fl, .int .i64 pt, .int .i64 ttl, .int .i64 pr, .int .u8 (a0.toNat : Int), .int .u8 (a1.toNat : Int), .int .u8 (a2.toNat : Int), .int .u8 (a3.toNat : Int), .int .u8 (a4.toNat : Int), .int .u8 (a5.toNat : Int), .int .u8 (a6.toNat : Int), .int .u8 (a7.toNat : Int), .slice So no co, .slice Sb nb cb] 38)) 3 tos ttl pr
 rw [show (w.alloc (.cells #[.int .i64 tos, .int .i64 id, .int .i64 fl, .int .i64 pt, .int .i64 ttl, .int .i64 pr, .int .u8 (a0.toNat : Int), .int .u8 (a1.toNat : Int), .int .u8 (a2.toNat : Int), .int .u8 (a3.toNat : Int), .int .u8 (a4.toNat : Int), .int .u8 (a5.toNat : Int), .int .u8 (a6.toNat : Int), .int .u8 (a7.toNat : Int), .slice So no co, .slice Sb nb cb] 38)).heap.size = w.heap.size + 1 by simp] at sm
 replace hp := (Go.heap_alloc_old (w.alloc (.cells #[.int .i64 tos, .int .i64 id, .int .i64 fl, .int .i64 pt, .int .i64 ttl, .int .i64 pr, .int .u8 (a0.toNat : Int), .int .u8 (a1.toNat : Int), .int .u8 (a2.toNat : Int), .int .u8 (a3.toNat : Int), .int .u8 (a4.toNat : Int), .int .u8 (a5.toNat : Int), .int .u8 (a6.toNat : Int), .int .u8 (a7.toNat : Int), .slice So no co, .slice Sb nb cb] 38)) (.cells #[.int .i64 tos, .int .i64 ttl, .int .i64 pr] 3) (r := w.heap.size) zp).trans hp
 replace zp := Nat.lt_trans zp (show (w.alloc (.cells #[.int .i64 tos, .int .i64 id, .int .i64 fl, .int .i64 pt, .int .i64 ttl, .int .i64 pr, .int .u8 (a0.toNat : Int), .int .u8 (a1.toNat : Int), .int .u8 (a2.toNat : Int), .int .u8 (a3.toNat : Int), .int .u8 (a4.toNat : Int), .int .u8 (a5.toNat : Int), .int .u8 (a6.toNat : Int), .int .u8 (a7.toNat : Int), .slice So no co, .slice Sb nb cb] 38)).heap.size < ((w.alloc (.cells #[.int .i64 tos, .int .i64 id, .int .i64 fl, .int .i64 pt, .int .i64 ttl, .int .i64 pr, .int .u8 (a0.toNat : Int), .int .u8 (a1.toNat : Int), .int .u8 (a2.toNat : Int), .int .u8 (a3.toNat : Int), .int .u8 (a4.toNat : Int), .int .u8 (a5.toNat : Int), .int .u8 (a6.toNat : Int), .int .u8 (a7.toNat : Int), .slice So no co, .slice Sb nb cb] 38)).alloc (.cells #[.int .i64 tos, .int .i64 ttl, .int .i64 pr] 3)).heap.size by simp)
 replace bel := bel.alloc bel.size (.cells #[.int .i64 tos, .int .i64 ttl, .int .i64 pr] 3)
 go_wp2_with fail
 with_reducible refine (upto_any 255 _ 3 3 [tos, ttl, pr] _ sm).mono ?_
 rintro e _ ⟨rfl, rfl⟩
 rw [H0.out]
 clear sm R3 R5 R7 R12 R18 R24 R30 R36
 generalize ((w.alloc (.cells #[.int .i64 tos, .int .i64 id, .int .i64 fl, .int .i64 pt, .int .i64 ttl, .int .i64 pr, .int .u8 (a0.toNat : Int), .int .u8 (a1.toNat : Int), .int .u8 (a2.toNat : Int), .int .u8 (a3.toNat : Int), .int .u8 (a4.toNat : Int), .int .u8 (a5.toNat : Int), .int .u8 (a6.toNat : Int), .int .u8 (a7.toNat : Int), .slice So no co, .slice Sb nb cb] 38)).alloc (.cells #[.int .i64 tos, .int .i64 ttl, .int .i64 pr] 3)) = v1 at hp zp bel ⊢
 have R3 := cell_lit hp 0 _ rfl
 have R5 := cell_lit hp 4 _ rfl
 have R7 := cell_lit hp 5 _ rfl
 have R12 := cell_lit hp 1 _ rfl
 have R18 := cell_lit hp 2 _ rfl
 have R24 := cell_lit hp 3 _ rfl
 have R30 := cell_lit hp 14 _ rfl
 have R36 := cell_lit hp 14 _ rfl
 have sm := Si.made1 v1 3 id
 replace hp := (Go.heap_alloc_old v1 (.cells #[.int .i64 id] 3) (r := w.heap.size) zp).trans hp
 replace zp := Nat.lt_trans zp (show v1.heap.size < (v1.alloc (.cells #[.int .i64 id] 3)).heap.size by simp)
 replace bel := bel.alloc bel.size (.cells #[.int .i64 id] 3)
 go_wp2_with fail
 with_reducible refine (upto_any 65535 _ 1 1 [id] _ sm).mono ?_
 rintro e _ ⟨rfl, rfl⟩
 rw [H1.out]
 clear sm R3 R5 R7 R12 R18 R24 R30 R36
 generalize (v1.alloc (.cells #[.int .i64 id] 3)) = v2 at hp zp bel ⊢
 have R3 := cell_lit hp 0 _ rfl
 have R5 := cell_lit hp 4 _ rfl
 have R7 := cell_lit hp 5 _ rfl
 have R12 := cell_lit hp 1 _ rfl
 have R18 := cell_lit hp 2 _ rfl
 have R24 := cell_lit hp 3 _ rfl
 have R30 := cell_lit hp 14 _ rfl
 have R36 := cell_lit hp 14 _ rfl
 have sm := Si.made1 v2 3 fl
 replace hp := (Go.heap_alloc_old v2 (.cells #[.int .i64 fl] 3) (r := w.heap.size) zp).trans hp
 replace zp := Nat.lt_trans zp (show v2.heap.size < (v2.alloc (.cells #[.int .i64 fl] 3)).heap.size by simp)
 replace bel := bel.alloc bel.size (.cells #[.int .i64 fl] 3)
 go_wp2_with fail
 with_reducible refine (upto_any 7 _ 1 1 [fl] _ sm).mono ?_
 rintro e _ ⟨rfl, rfl⟩
 rw [H2.out]
 clear sm R3 R5 R7 R12 R18 R24 R30 R36
 generalize (v2.alloc (.cells #[.int .i64 fl] 3)) = v3 at hp zp bel ⊢
 have R3 := cell_lit hp 0 _ rfl
 have R5 := cell_lit hp 4 _ rfl
 have R7 := cell_lit hp 5 _ rfl
 have R12 := cell_lit hp 1 _ rfl
 have R18 := cell_lit hp 2 _ rfl
 have R24 := cell_lit hp 3 _ rfl
 have R30 := cell_lit hp 14 _ rfl
 have R36 := cell_lit hp 14 _ rfl
 have sm := Si.made1 v3 3 pt
 replace hp := (Go.heap_alloc_old v3 (.cells #[.int .i64 pt] 3) (r := w.heap.size) zp).trans hp
 replace zp := Nat.lt_trans zp (show v3.heap.size < (v3.alloc (.cells #[.int .i64 pt] 3)).heap.size by simp)
 replace bel := bel.alloc bel.size (.cells #[.int .i64 pt] 3)
 go_wp2_with fail
 with_reducible refine (upto_any 8191 _ 1 1 [pt] _ sm).mono ?_
 rintro e _ ⟨rfl, rfl⟩
 rw [H3.out]
 clear sm R3 R5 R7 R12 R18 R24 R30 R36
 generalize (v3.alloc (.cells #[.int .i64 pt] 3)) = v5 at hp zp bel ⊢
 have R3 := cell_lit hp 0 _ rfl
 have R5 := cell_lit hp 4 _ rfl
 have R7 := cell_lit hp 5 _ rfl
 have R12 := cell_lit hp 1 _ rfl
 have R18 := cell_lit hp 2 _ rfl
 have R24 := cell_lit hp 3 _ rfl
 have R30 := cell_lit hp 14 _ rfl
 have R36 := cell_lit hp 14 _ rfl
 go_wp2
 go_ret
 exact ⟨rfl, bel⟩
theorem upto_1 (m v : Int) : (upTo m [v] = true) = (0 ≤ v ∧ v ≤ m) := by simp [upTo]
theorem upto_3 (m u v x : Int) : (upTo m [u, v, x] = true) = ((0 ≤ u ∧ u ≤ m) ∧ (0 ≤ v ∧ v ≤ m) ∧ (0 ≤ x ∧ x ≤ m)) := by simp [upTo]
theorem and1_i64 (n : Int) : bits .and .i64 n 1 = n % 2 := by
 show IntKind.i64.wrap ((BitVec.ofInt 64 n &&& BitVec.ofInt 64 1).toNat : Int) = _
 rw [BitVec.toNat_and, show (BitVec.ofInt 64 1).toNat = 2 ^ 1 - 1 from rfl, Nat.and_two_pow_sub_one_eq_mod, BitVec.toNat_ofInt]
 rw [IntKind.wrap_i64]
 omega
theorem whole_p (tos id fl pt ttl pr : Int) (a0 a1 a2 a3 a4 a5 a6 a7 : UInt8) (So Sb : Option Addr) (no co nb cb : Nat) (w : World) (hp0 : pt ≠ 0) : Calls Tryz.prog 32 #[.agg #[.int .i64 tos, .int .i64 id, .int .i64 fl, .int .i64 pt, .int .i64 ttl, .int .i64 pr, .int .u8 (a0.toNat : Int), .int .u8 (a1.toNat : Int), .int .u8 (a2.toNat : Int), .int .u8 (a3.toNat : Int), .int .u8 (a4.toNat : Int), .int .u8 (a5.toNat : Int), .int .u8 (a6.toNat : Int), .int .u8 (a7.toNat : Int), .slice So no co, .slice Sb nb cb]] w fun e w' => e = .returned (.bool false) ∧ Below w.heap.size w w' := by
 have t0 : (pt == 0) = false := by simpa using hp0
 clear hp0
 have bel := Below.refl w.heap.size w
 have hp : (w.alloc (.cells #[.int .i64 tos, .int .i64 id, .int .i64 fl, .int .i64 pt, .int .i64 ttl, .int .i64 pr, .int .u8 (a0.toNat : Int), .int .u8 (a1.toNat : Int), .int .u8 (a2.toNat : Int), .int .u8 (a3.toNat : Int), .int .u8 (a4.toNat : Int), .int .u8 (a5.toNat : Int), .int .u8 (a6.toNat : Int), .int .u8 (a7.toNat : Int), .slice So no co, .slice Sb nb cb] 38)).heap[w.heap.size]? = some (.cells #[.int .i64 tos, .int .i64 id, .int .i64 fl, .int .i64 pt, .int .i64 ttl, .int .i64 pr, .int .u8 (a0.toNat : Int), .int .u8 (a1.toNat : Int), .int .u8 (a2.toNat : Int), .int .u8 (a3.toNat : Int), .int .u8 (a4.toNat : Int), .int .u8 (a5.toNat : Int), .int .u8 (a6.toNat : Int), .int .u8 (a7.toNat : Int), .slice So no co, .slice Sb nb cb] 38 (0, 0)) := by have := heap_alloc_new w (.cells #[.int .i64 tos, .int .i64 id, .int .i64 fl, .int .i64 pt, .int .i64 ttl, .int .i64 pr, .int .u8 (a0.toNat : Int), .int .u8 (a1.toNat : Int), .int .u8 (a2.toNat : Int), .int .u8 (a3.toNat : Int), .int .u8 (a4.toNat : Int), .int .u8 (a5.toNat : Int), .int .u8 (a6.toNat : Int), .int .u8 (a7.toNat : Int), .slice So no co, .slice Sb nb cb] 38); simpa using this
 have zp : w.heap.size < (w.alloc (.cells #[.int .i64 tos, .int .i64 id, .int .i64 fl, .int .i64 pt, .int .i64 ttl, .int .i64 pr, .int .u8 (a0.toNat : Int), .int .u8 (a1.toNat : Int), .int .u8 (a2.toNat : Int), .int .u8 (a3.toNat : Int), .int .u8 (a4.toNat : Int), .int .u8 (a5.toNat : Int), .int .u8 (a6.toNat : Int), .int .u8 (a7.toNat : Int), .slice So no co, .slice Sb nb cb] 38)).heap.size := by simp
 replace bel := bel.alloc bel.size (.cells #[.int .i64 tos, .int .i64 id, .int .i64 fl, .int .i64 pt, .int .i64 ttl, .int .i64 pr, .int .u8 (a0.toNat : Int), .int .u8 (a1.toNat : Int), .int .u8 (a2.toNat : Int), .int .u8 (a3.toNat : Int), .int .u8 (a4.toNat : Int), .int .u8 (a5.toNat : Int), .int .u8 (a6.toNat : Int), .int .u8 (a7.toNat : Int), .slice So no co, .slice Sb nb cb] 38)
 go_enter Tryz.func32, Tryz.ntmps32
 have R3 := cell_lit hp 3 _ rfl
 have R7 := cell_lit hp 2 _ rfl
 go_wp2
 go_ret
 exact ⟨rfl, bel⟩
theorem whole_f (tos id fl pt ttl pr : Int) (a0 a1 a2 a3 a4 a5 a6 a7 : UInt8) (So Sb : Option Addr) (no co nb cb : Nat) (w : World) (hp0 : pt = 0) (hf0 : fl % 2 ≠ 0) : Calls Tryz.prog 32 #[.agg #[.int .i64 tos, .int .i64 id, .int .i64 fl, .int .i64 pt, .int .i64 ttl, .int .i64 pr, .int .u8 (a0.toNat : Int), .int .u8 (a1.toNat : Int), .int .u8 (a2.toNat : Int), .int .u8 (a3.toNat : Int), .int .u8 (a4.toNat : Int), .int .u8 (a5.toNat : Int), .int .u8 (a6.toNat : Int), .int .u8 (a7.toNat : Int), .slice So no co, .slice Sb nb cb]] w fun e w' => e = .returned (.bool false) ∧ Below w.heap.size w w' := by
 have t0 : (pt == 0) = true := by simpa using hp0
 clear hp0
 have ea := and1_i64 fl
 have t1 : (fl % 2 == 0) = false := by simpa using hf0
 clear hf0
 have bel := Below.refl w.heap.size w
 have hp : (w.alloc (.cells #[.int .i64 tos, .int .i64 id, .int .i64 fl, .int .i64 pt, .int .i64 ttl, .int .i64 pr, .int .u8 (a0.toNat : Int), .int .u8 (a1.toNat : Int), .int .u8 (a2.toNat : Int), .int .u8 (a3.toNat : Int), .int .u8 (a4.toNat : Int), .int .u8 (a5.toNat : Int), .int .u8 (a6.toNat : Int), .int .u8 (a7.toNat : Int), .slice So no co, .slice Sb nb cb] 38)).heap[w.heap.size]? = some (.cells #[.int .i64 tos, .int .i64 id, .int .i64 fl, .int .i64 pt, .int .i64 ttl, .int .i64 pr, .int .u8 (a0.toNat : Int), .int .u8 (a1.toNat : Int), .int .u8 (a2.toNat : Int), .int .u8 (a3.toNat : Int), .int .u8 (a4.toNat : Int), .int .u8 (a5.toNat : Int), .int .u8 (a6.toNat : Int), .int .u8 (a7.toNat : Int), .slice So no co, .slice Sb nb cb] 38 (0, 0)) := by have := heap_alloc_new w (.cells #[.int .i64 tos, .int .i64 id, .int .i64 fl, .int .i64 pt, .int .i64 ttl, .int .i64 pr, .int .u8 (a0.toNat : Int), .int .u8 (a1.toNat : Int), .int .u8 (a2.toNat : Int), .int .u8 (a3.toNat : Int), .int .u8 (a4.toNat : Int), .int .u8 (a5.toNat : Int), .int .u8 (a6.toNat : Int), .int .u8 (a7.toNat : Int), .slice So no co, .slice Sb nb cb] 38); simpa using this
 have zp : w.heap.size < (w.alloc (.cells #[.int .i64 tos, .int .i64 id, .int .i64 fl, .int .i64 pt, .int .i64 ttl, .int .i64 pr, .int .u8 (a0.toNat : Int), .int .u8 (a1.toNat : Int), .int .u8 (a2.toNat : Int), .int .u8 (a3.toNat : Int), .int .u8 (a4.toNat : Int), .int .u8 (a5.toNat : Int), .int .u8 (a6.toNat : Int), .int .u8 (a7.toNat : Int), .slice So no co, .slice Sb nb cb] 38)).heap.size := by simp
 replace bel := bel.alloc bel.size (.cells #[.int .i64 tos, .int .i64 id, .int .i64 fl, .int .i64 pt, .int .i64 ttl, .int .i64 pr, .int .u8 (a0.toNat : Int), .int .u8 (a1.toNat : Int), .int .u8 (a2.toNat : Int), .int .u8 (a3.toNat : Int), .int .u8 (a4.toNat : Int), .int .u8 (a5.toNat : Int), .int .u8 (a6.toNat : Int), .int .u8 (a7.toNat : Int), .slice So no co, .slice Sb nb cb] 38)
 go_enter Tryz.func32, Tryz.ntmps32
 have R3 := cell_lit hp 3 _ rfl
 have R7 := cell_lit hp 2 _ rfl
 go_wp2
 go_ret
 exact ⟨rfl, bel⟩
theorem whole_y (tos id fl pt ttl pr : Int) (a0 a1 a2 a3 a4 a5 a6 a7 : UInt8) (So Sb : Option Addr) (no co nb cb : Nat) (w : World) (hp0 : pt = 0) (hf0 : fl % 2 = 0) : Calls Tryz.prog 32 #[.agg #[.int .i64 tos, .int .i64 id, .int .i64 fl, .int .i64 pt, .int .i64 ttl, .int .i64 pr, .int .u8 (a0.toNat : Int), .int .u8 (a1.toNat : Int), .int .u8 (a2.toNat : Int), .int .u8 (a3.toNat : Int), .int .u8 (a4.toNat : Int), .int .u8 (a5.toNat : Int), .int .u8 (a6.toNat : Int), .int .u8 (a7.toNat : Int), .slice So no co, .slice Sb nb cb]] w fun e w' => e = .returned (.bool true) ∧ Below w.heap.size w w' := by
 have t0 : (pt == 0) = true := by simpa using hp0
 have ea := and1_i64 fl
 have t1 : (fl % 2 == 0) = true := by simpa using hf0
 clear hf0 hp0
 have bel := Below.refl w.heap.size w
 have hp : (w.alloc (.cells #[.int .i64 tos, .int .i64 id, .int .i64 fl, .int .i64 pt, .int .i64 ttl, .int .i64 pr, .int .u8 (a0.toNat : Int), .int .u8 (a1.toNat : Int), .int .u8 (a2.toNat : Int), .int .u8 (a3.toNat : Int), .int .u8 (a4.toNat : Int), .int .u8 (a5.toNat : Int), .int .u8 (a6.toNat : Int), .int .u8 (a7.toNat : Int), .slice So no co, .slice Sb nb cb] 38)).heap[w.heap.size]? = some (.cells #[.int .i64 tos, .int .i64 id, .int .i64 fl, .int .i64 pt, .int .i64 ttl, .int .i64 pr, .int .u8 (a0.toNat : Int), .int .u8 (a1.toNat : Int), .int .u8 (a2.toNat : Int), .int .u8 (a3.toNat : Int), .int .u8 (a4.toNat : Int), .int .u8 (a5.toNat : Int), .int .u8 (a6.toNat : Int), .int .u8 (a7.toNat : Int), .slice So no co, .slice Sb nb cb] 38 (0, 0)) := by have := heap_alloc_new w (.cells #[.int .i64 tos, .int .i64 id, .int .i64 fl, .int .i64 pt, .int .i64 ttl, .int .i64 pr, .int .u8 (a0.toNat : Int), .int .u8 (a1.toNat : Int), .int .u8 (a2.toNat : Int), .int .u8 (a3.toNat : Int), .int .u8 (a4.toNat : Int), .int .u8 (a5.toNat : Int), .int .u8 (a6.toNat : Int), .int .u8 (a7.toNat : Int), .slice So no co, .slice Sb nb cb] 38); simpa using this
 have zp : w.heap.size < (w.alloc (.cells #[.int .i64 tos, .int .i64 id, .int .i64 fl, .int .i64 pt, .int .i64 ttl, .int .i64 pr, .int .u8 (a0.toNat : Int), .int .u8 (a1.toNat : Int), .int .u8 (a2.toNat : Int), .int .u8 (a3.toNat : Int), .int .u8 (a4.toNat : Int), .int .u8 (a5.toNat : Int), .int .u8 (a6.toNat : Int), .int .u8 (a7.toNat : Int), .slice So no co, .slice Sb nb cb] 38)).heap.size := by simp
 replace bel := bel.alloc bel.size (.cells #[.int .i64 tos, .int .i64 id, .int .i64 fl, .int .i64 pt, .int .i64 ttl, .int .i64 pr, .int .u8 (a0.toNat : Int), .int .u8 (a1.toNat : Int), .int .u8 (a2.toNat : Int), .int .u8 (a3.toNat : Int), .int .u8 (a4.toNat : Int), .int .u8 (a5.toNat : Int), .int .u8 (a6.toNat : Int), .int .u8 (a7.toNat : Int), .slice So no co, .slice Sb nb cb] 38)
 go_enter Tryz.func32, Tryz.ntmps32
 have R3 := cell_lit hp 3 _ rfl
 have R7 := cell_lit hp 2 _ rfl
 go_wp2
 go_ret
 exact ⟨rfl, bel⟩
theorem ipwhole_any (tos id fl pt ttl pr : Int) (a0 a1 a2 a3 a4 a5 a6 a7 : UInt8) (So Sb : Option Addr) (no co nb cb : Nat) (w : World) : Calls Tryz.prog 32 #[.agg #[.int .i64 tos, .int .i64 id, .int .i64 fl, .int .i64 pt, .int .i64 ttl, .int .i64 pr, .int .u8 (a0.toNat : Int), .int .u8 (a1.toNat : Int), .int .u8 (a2.toNat : Int), .int .u8 (a3.toNat : Int), .int .u8 (a4.toNat : Int), .int .u8 (a5.toNat : Int), .int .u8 (a6.toNat : Int), .int .u8 (a7.toNat : Int), .slice So no co, .slice Sb nb cb]] w fun e w' => e = .returned (.bool (decide (pt = 0) && decide (fl % 2 = 0))) ∧ Below w.heap.size w w' := by
 by_cases h : pt = 0
 ·by_cases h2 : fl % 2 = 0
  ·rw [decide_eq_true h, decide_eq_true h2]; exact whole_y tos id fl pt ttl pr a0 a1 a2 a3 a4 a5 a6 a7 So Sb no co nb cb w h h2
  ·rw [decide_eq_true h, decide_eq_false h2]; exact whole_f tos id fl pt ttl pr a0 a1 a2 a3 a4 a5 a6 a7 So Sb no co nb cb w h h2
 ·rw [decide_eq_false h]; exact whole_p tos id fl pt ttl pr a0 a1 a2 a3 a4 a5 a6 a7 So Sb no co nb cb w h
open Go.RowKit

set_option maxHeartbeats 400000 in
theorem join_o (A B : Option Addr) (n c m d : Nat) (l t : List UInt8) (w : World) (hl : Sl w A n c l) (ht : Sl w B m d t) (hs : n + m ≤ 140737488355328) :
  Calls Tryz.prog 81 #[.slice A n c, .slice B m d] w fun e w' => ∃ v, e = .returned v ∧ w'.ownsRow w.heap.size 5 1 v (n + m) ((l ++ t).map u8v) ∧ Below w.heap.size w w' := by
 obtain ⟨i, hi, hz0, hz1, hz2⟩ := info_parts Tryz.info5
 have hb1 : (0 : Int) ≤ n := by omega
 have hb2 : (0 : Int) ≤ m := by omega
 have hb3 : (n : Int) + m ≤ 140737488355328 := by omega
 go_enter Tryz.func81, Tryz.ntmps81
 go_wp2_with (at_make; refine wpList_make_own _ rfl _ _ 36 rfl w.heap.size 5 i (.int .u8 0) 1 Tryz.underlying36 hi hz0 hz1 _ _ _ (n + m) rfl rfl ?b1 ?b2 ?b3 (Nat.le_refl _) ?_)
 case b1 => simp
 case b2 => rw [hz2]; omega
 case b3 => unfold maxLen; omega
 intro w1 hown hg1
 have bel1 : Below w.heap.size w w1 := (Below.refl _ _).grown hg1 (Nat.le_refl _) (fun k h => by cases h)
 have hsz : w.heap.size ≤ w1.heap.size := bel1.size
 go_wp2_with (at_builtin; refine wpList_append_bytes w1 rfl (.tmp 12) (.tmp 13) 36 rfl w.heap.size 5 i (.int .u8 0) Tryz.underlying36 hi hz0 hz1 hz2 rfl _ 0 [] rfl hown A n c l rfl (hl.below bel1) ?c1 ?c2 ?_)
 case c1 => omega
 case c2 => exact hsz
 intro v2 w2 hown2 hg2 hat2
 have bel2 : Below w.heap.size w w2 := bel1.grown hg2 hsz (fun k h => by simp [Value.ownBlock] at h; omega)
 have hv2 : ∀ k, v2.ownBlock = some k → w.heap.size ≤ k := by
  intro k hk
  rcases hat2 with h | h
  ·rw [h] at hk; simp [Value.ownBlock] at hk; omega
  ·rw [h] at hk; simp at hk; omega
 clear hat2
 go_wp2_with (at_builtin; refine wpList_append_bytes w2 rfl (.tmp 15) (.tmp 16) 36 rfl w.heap.size 5 i (.int .u8 0) Tryz.underlying36 hi hz0 hz1 hz2 rfl _ n l rfl hown2 B m d t rfl (ht.below bel2) ?c1 ?c2 ?_)
 case c1 => omega
 case c2 => exact bel2.size
 intro v3 w3 hown3 hg3 hat3
 have bel3 : Below w.heap.size w w3 := bel2.grown hg3 bel2.size hv2
 clear hat3 hv2
 rw [← List.map_append] at hown3
 go_wp2
 go_ret
 exact ⟨v3, rfl, hown3, bel3⟩

theorem w16_o (A : Option Addr) (n c : Nat) (l : List UInt8) (v0 : Int) (w : World) (hl : Sl w A n c l) (hs : n + 2 ≤ 140737488355328) :
  Calls Tryz.prog 80 #[.slice A n c, .int .i64 v0] w fun e w' => ∃ v, e = .returned v ∧ w'.ownsRow w.heap.size 5 1 v (n + 2) ((l ++ two v0).map u8v) ∧ Below w.heap.size w w' := by
 have hm := made2 v0 w
 have bel := (Below.refl w.heap.size w).alloc (Nat.le_refl _) (.cells #[.int .u8 (v0 / 256 % 256), .int .u8 (v0 % 256)] 5)
 have hl1 := hl.below bel
 go_enter Tryz.func80, Tryz.ntmps80
 go_wp2_with (go_at_call 81; refine (join_o A _ n c 2 2 l (two v0) _ hl1 hm hs).mono ?_; rintro e w1 ⟨v, rfl, hown, bel1⟩)
 go_ret
 exact ⟨v, rfl, ⟨hown.1, by rcases hown.2 with h | ⟨g, cap, cur, e, hb, h⟩; exact .inl h; exact .inr ⟨g, cap, cur, e, Nat.le_trans bel.size hb, h⟩⟩, bel.trans (bel1.mono bel.size)⟩
open Go.RowKit

theorem w32_o (A : Option Addr) (n c : Nat) (l : List UInt8) (v0 : Int) (w : World) (h0 : 0 ≤ v0) (h1 : v0 < 4294967296) (hl : Sl w A n c l) (hs : n + 4 ≤ 140737488355328) :
  Calls Tryz.prog 78 #[.slice A n c, .int .u32 v0] w fun e w' => ∃ v, e = .returned v ∧ w'.ownsRow w.heap.size 5 1 v (n + 4) ((l ++ four v0).map u8v) ∧ Below w.heap.size w w' := by
 have hm := made4 v0 w h0 h1
 have bel := (Below.refl w.heap.size w).alloc (Nat.le_refl _) (.cells #[.int .u8 (v0 / 16777216), .int .u8 (v0 / 65536 % 256), .int .u8 (v0 / 256 % 256), .int .u8 (v0 % 256)] 5)
 have hl1 := hl.below bel
 go_enter Tryz.func78, Tryz.ntmps78
 go_wp2_with (go_at_call 81; refine (join_o A _ n c 4 4 l (four v0) _ hl1 hm hs).mono ?_; rintro e w1 ⟨v, rfl, hown, bel1⟩)
 go_ret
 exact ⟨v, rfl, ownsRow_mono hown bel.size, bel.trans (bel1.mono bel.size)⟩
theorem four_be (p0 p1 p2 p3 : UInt8) : four (be [p0, p1, p2, p3] : Nat) = [p0, p1, p2, p3] := by
 obtain ⟨e0, e1, e2, e3⟩ := four_of p0 p1 p2 p3
 unfold four
 have b : ∀ (x : Int) (p : UInt8), x % 256 = (p.toNat : Int) → byteOf x = p := by
  intro x p h
  have := byteOf_val x
  rw [h] at this
  exact UInt8.toNat_inj.1 (by omega)
 rw [b _ p0 (by have := p0.toNat_lt; omega), b _ p1 e1, b _ p2 e2, b _ p3 e3]
theorem u32_first (p0 p1 p2 p3 : UInt8) (w : World) : Calls Tryz.prog 78 #[.slice none 0 0, .int .u32 (be [p0, p1, p2, p3] : Nat)] w fun e w' => ∃ A c, e = .returned (.slice A 4 c) ∧ Sl w' A 4 c [p0, p1, p2, p3] ∧ Below w.heap.size w w' := by
 have hb := be_lt 4 [p0, p1, p2, p3] rfl
 have h := w32_any none 0 0 [] (be [p0, p1, p2, p3] : Nat) w (by omega) (by omega) (Sl.nil w) (by omega)
 rw [four_be] at h
 exact h
theorem u32_then (A : Option Addr) (c : Nat) (l : List UInt8) (p0 p1 p2 p3 : UInt8) (w : World) (hl : Sl w A 4 c l) : Calls Tryz.prog 78 #[.slice A 4 c, .int .u32 (be [p0, p1, p2, p3] : Nat)] w fun e w' => ∃ v, e = .returned v ∧ w'.ownsRow w.heap.size 5 1 v 8 ((l ++ [p0, p1, p2, p3]).map u8v) ∧ Below w.heap.size w w' := by
 have hb := be_lt 4 [p0, p1, p2, p3] rfl
 have h := w32_o A 4 c l (be [p0, p1, p2, p3] : Nat) w (by omega) (by omega) hl (by omega)
 rw [four_be] at h
 exact h
theorem ends_o (tos id fl pt ttl pr : Int) (a0 a1 a2 a3 a4 a5 a6 a7 : UInt8) (So Sb : Option Addr) (no co nb cb : Nat) (w : World) : Calls Tryz.prog 86 #[.agg #[.int .i64 tos, .int .i64 id, .int .i64 fl, .int .i64 pt, .int .i64 ttl, .int .i64 pr, .int .u8 (a0.toNat : Int), .int .u8 (a1.toNat : Int), .int .u8 (a2.toNat : Int), .int .u8 (a3.toNat : Int), .int .u8 (a4.toNat : Int), .int .u8 (a5.toNat : Int), .int .u8 (a6.toNat : Int), .int .u8 (a7.toNat : Int), .slice So no co, .slice Sb nb cb]] w fun e w' => ∃ v, e = .returned v ∧ w'.ownsRow w.heap.size 5 1 v 8 ([a0, a1, a2, a3, a4, a5, a6, a7].map u8v) ∧ Below w.heap.size w w' := by
 have bel := Below.refl w.heap.size w
 have hp : (w.alloc (.cells #[.int .i64 tos, .int .i64 id, .int .i64 fl, .int .i64 pt, .int .i64 ttl, .int .i64 pr, .int .u8 (a0.toNat : Int), .int .u8 (a1.toNat : Int), .int .u8 (a2.toNat : Int), .int .u8 (a3.toNat : Int), .int .u8 (a4.toNat : Int), .int .u8 (a5.toNat : Int), .int .u8 (a6.toNat : Int), .int .u8 (a7.toNat : Int), .slice So no co, .slice Sb nb cb] 38)).heap[w.heap.size]? = some (.cells #[.int .i64 tos, .int .i64 id, .int .i64 fl, .int .i64 pt, .int .i64 ttl, .int .i64 pr, .int .u8 (a0.toNat : Int), .int .u8 (a1.toNat : Int), .int .u8 (a2.toNat : Int), .int .u8 (a3.toNat : Int), .int .u8 (a4.toNat : Int), .int .u8 (a5.toNat : Int), .int .u8 (a6.toNat : Int), .int .u8 (a7.toNat : Int), .slice So no co, .slice Sb nb cb] 38 (0, 0)) := by have := heap_alloc_new w (.cells #[.int .i64 tos, .int .i64 id, .int .i64 fl, .int .i64 pt, .int .i64 ttl, .int .i64 pr, .int .u8 (a0.toNat : Int), .int .u8 (a1.toNat : Int), .int .u8 (a2.toNat : Int), .int .u8 (a3.toNat : Int), .int .u8 (a4.toNat : Int), .int .u8 (a5.toNat : Int), .int .u8 (a6.toNat : Int), .int .u8 (a7.toNat : Int), .slice So no co, .slice Sb nb cb] 38); simpa using this
 have zp : w.heap.size < (w.alloc (.cells #[.int .i64 tos, .int .i64 id, .int .i64 fl, .int .i64 pt, .int .i64 ttl, .int .i64 pr, .int .u8 (a0.toNat : Int), .int .u8 (a1.toNat : Int), .int .u8 (a2.toNat : Int), .int .u8 (a3.toNat : Int), .int .u8 (a4.toNat : Int), .int .u8 (a5.toNat : Int), .int .u8 (a6.toNat : Int), .int .u8 (a7.toNat : Int), .slice So no co, .slice Sb nb cb] 38)).heap.size := by simp
 replace bel := bel.alloc bel.size (.cells #[.int .i64 tos, .int .i64 id, .int .i64 fl, .int .i64 pt, .int .i64 ttl, .int .i64 pr, .int .u8 (a0.toNat : Int), .int .u8 (a1.toNat : Int), .int .u8 (a2.toNat : Int), .int .u8 (a3.toNat : Int), .int .u8 (a4.toNat : Int), .int .u8 (a5.toNat : Int), .int .u8 (a6.toNat : Int), .int .u8 (a7.toNat : Int), .slice So no co, .slice Sb nb cb] 38)
 go_enter Tryz.func86, Tryz.ntmps86
 go_wp2_with fail
 replace bel := bel.drew
 replace hp : (w.alloc (.cells #[.int .i64 tos, .int .i64 id, .int .i64 fl, .int .i64 pt, .int .i64 ttl, .int .i64 pr, .int .u8 (a0.toNat : Int), .int .u8 (a1.toNat : Int), .int .u8 (a2.toNat : Int), .int .u8 (a3.toNat : Int), .int .u8 (a4.toNat : Int), .int .u8 (a5.toNat : Int), .int .u8 (a6.toNat : Int), .int .u8 (a7.toNat : Int), .slice So no co, .slice Sb nb cb] 38)).drew.heap[w.heap.size]? = some (.cells #[.int .i64 tos, .int .i64 id, .int .i64 fl, .int .i64 pt, .int .i64 ttl, .int .i64 pr, .int .u8 (a0.toNat : Int), .int .u8 (a1.toNat : Int), .int .u8 (a2.toNat : Int), .int .u8 (a3.toNat : Int), .int .u8 (a4.toNat : Int), .int .u8 (a5.toNat : Int), .int .u8 (a6.toNat : Int), .int .u8 (a7.toNat : Int), .slice So no co, .slice Sb nb cb] 38 (0, 0)) := hp
 replace zp : w.heap.size < (w.alloc (.cells #[.int .i64 tos, .int .i64 id, .int .i64 fl, .int .i64 pt, .int .i64 ttl, .int .i64 pr, .int .u8 (a0.toNat : Int), .int .u8 (a1.toNat : Int), .int .u8 (a2.toNat : Int), .int .u8 (a3.toNat : Int), .int .u8 (a4.toNat : Int), .int .u8 (a5.toNat : Int), .int .u8 (a6.toNat : Int), .int .u8 (a7.toNat : Int), .slice So no co, .slice Sb nb cb] 38)).drew.heap.size := zp
 refine wp_region_held_drew (S := fun W => W.heap[w.heap.size]? = some (.cells #[.int .i64 tos, .int .i64 id, .int .i64 fl, .int .i64 pt, .int .i64 ttl, .int .i64 pr, .int .u8 (a0.toNat : Int), .int .u8 (a1.toNat : Int), .int .u8 (a2.toNat : Int), .int .u8 (a3.toNat : Int), .int .u8 (a4.toNat : Int), .int .u8 (a5.toNat : Int), .int .u8 (a6.toNat : Int), .int .u8 (a7.toNat : Int), .slice So no co, .slice Sb nb cb] 38 (0, 0))) (by kernel_rfl) hp (fun hH => ?_)
 generalize (w.alloc (.cells #[.int .i64 tos, .int .i64 id, .int .i64 fl, .int .i64 pt, .int .i64 ttl, .int .i64 pr, .int .u8 (a0.toNat : Int), .int .u8 (a1.toNat : Int), .int .u8 (a2.toNat : Int), .int .u8 (a3.toNat : Int), .int .u8 (a4.toNat : Int), .int .u8 (a5.toNat : Int), .int .u8 (a6.toNat : Int), .int .u8 (a7.toNat : Int), .slice So no co, .slice Sb nb cb] 38)).drew = vd at bel hp zp hH ⊢
 refine wpAnyH_take (i := 0) (v := ?_) rfl (by kernel_rfl) (by kernel_rfl) (by kernel_rfl) (fun _ _ _ h => h) (Or.inl ⟨by rfl, ?_⟩) hH ?_
 rotate_left
 ·((intro W hW; clear hW; go_simp) <;> with_reducible rfl)
 simp only [Act.put, List.getElem_toArray, List.getElem_cons_zero, List.setIfInBounds_toArray, List.set_cons_zero, List.set_cons_succ]
 refine wpAnyH_take (i := 1) (v := .agg #[.int .u8 (a0.toNat : Int), .int .u8 (a1.toNat : Int), .int .u8 (a2.toNat : Int), .int .u8 (a3.toNat : Int)]) rfl (by kernel_rfl) (by kernel_rfl) (by kernel_rfl) (fun _ _ _ h => h) (yieldsIf_load_part (by kernel_rfl) 35 _ rfl (w.heap.size) 6 4 rfl [.int .i64 tos, .int .i64 id, .int .i64 fl, .int .i64 pt, .int .i64 ttl, .int .i64 pr, .int .u8 (a0.toNat : Int), .int .u8 (a1.toNat : Int), .int .u8 (a2.toNat : Int), .int .u8 (a3.toNat : Int), .int .u8 (a4.toNat : Int), .int .u8 (a5.toNat : Int), .int .u8 (a6.toNat : Int), .int .u8 (a7.toNat : Int), .slice So no co, .slice Sb nb cb] 38 (0, 0) (fun W hW => hW) [.int .u8 (a0.toNat : Int), .int .u8 (a1.toNat : Int), .int .u8 (a2.toNat : Int), .int .u8 (a3.toNat : Int)] rfl _ Tryz.underlying35 rfl (by kernel_rfl)) hH ?_
 simp only [sq3, sq4]
 refine wpAnyH_take (i := 4) (v := ?_) rfl (by kernel_rfl) (by kernel_rfl) (by kernel_rfl) (fun _ _ _ h => h) (Or.inl ⟨by rfl, ?_⟩) hH ?_
 rotate_left
 ·((intro W hW; clear hW; go_simp) <;> with_reducible rfl)
 simp only [sq3, sq4]
 refine wpAnyH_take (i := 5) (v := .agg #[.int .u8 (a4.toNat : Int), .int .u8 (a5.toNat : Int), .int .u8 (a6.toNat : Int), .int .u8 (a7.toNat : Int)]) rfl (by kernel_rfl) (by kernel_rfl) (by kernel_rfl) (fun _ _ _ h => h) (yieldsIf_load_part (by kernel_rfl) 35 _ rfl (w.heap.size) 10 4 rfl [.int .i64 tos, .int .i64 id, .int .i64 fl, .int .i64 pt, .int .i64 ttl, .int .i64 pr, .int .u8 (a0.toNat : Int), .int .u8 (a1.toNat : Int), .int .u8 (a2.toNat : Int), .int .u8 (a3.toNat : Int), .int .u8 (a4.toNat : Int), .int .u8 (a5.toNat : Int), .int .u8 (a6.toNat : Int), .int .u8 (a7.toNat : Int), .slice So no co, .slice Sb nb cb] 38 (0, 0) (fun W hW => hW) [.int .u8 (a4.toNat : Int), .int .u8 (a5.toNat : Int), .int .u8 (a6.toNat : Int), .int .u8 (a7.toNat : Int)] rfl _ Tryz.underlying35 rfl (by kernel_rfl)) hH ?_
 simp only [sq3, sq4]
 refine wpAnyH_ready (rs := [2]) (by kernel_rfl) (by simp) ?_
 refine AllReadyH.cons (o := _) rfl (fun K hK => ?_) AllReadyH.nil
 simp only [sq3]
 go_simp
 with_reducible refine (anum_any a0 a1 a2 a3 _).mono ?_
 rintro e v11 ⟨rfl, b11⟩
 dsimp only
 replace bel := bel.trans (b11.mono bel.size)
 replace hp := (b11.block _ zp).trans hp
 replace zp := Nat.lt_of_lt_of_le zp b11.size
 refine hK.out _ _ hp (fun hH11 => ?_)
 clear hK K
 refine wpAnyH_ready (rs := [3]) (by kernel_rfl) (by simp) ?_
 refine AllReadyH.cons (o := _) rfl (fun K hK => ?_) AllReadyH.nil
 simp only [sq3]
 go_simp
 with_reducible refine (u32_first a0 a1 a2 a3 _).mono ?_
 rintro e v12 ⟨A1, c1, rfl, hs1, b12⟩
 dsimp only
 replace bel := bel.trans (b12.mono bel.size)
 replace hp := (b12.block _ zp).trans hp
 replace zp := Nat.lt_of_lt_of_le zp b12.size
 refine hK.out _ _ hp (fun hH12 => ?_)
 clear hK K
 refine wpAnyH_ready (rs := [6]) (by kernel_rfl) (by simp) ?_
 refine AllReadyH.cons (o := _) rfl (fun K hK => ?_) AllReadyH.nil
 simp only [sq3]
 go_simp
 with_reducible refine (anum_any a4 a5 a6 a7 _).mono ?_
 rintro e v13 ⟨rfl, b13⟩
 dsimp only
 replace bel := bel.trans (b13.mono bel.size)
 replace hp := (b13.block _ zp).trans hp
 replace zp := Nat.lt_of_lt_of_le zp b13.size
 replace hs1 := hs1.below b13
 have zs := bel.size
 refine hK.out _ _ hp (fun hH13 => ?_)
 clear hK K
 refine wpAnyH_ready (rs := [7]) (by kernel_rfl) (by simp) ?_
 refine AllReadyH.cons (o := _) rfl (fun K hK => ?_) AllReadyH.nil
 simp only [sq3]
 go_simp
 with_reducible refine (u32_then A1 c1 _ a4 a5 a6 a7 _ hs1).mono ?_
 rintro e v14 ⟨v, rfl, hown, b14⟩
 dsimp only
 replace bel := bel.trans (b14.mono bel.size)
 replace hp := (b14.block _ zp).trans hp
 replace zp := Nat.lt_of_lt_of_le zp b14.size
 replace hown := ownsRow_mono (B := w.heap.size) hown zs
 refine hK.out _ _ hp (fun hH14 => ?_)
 clear hK K
 refine wpAnyH_take (i := 8) (v := ?_) rfl (by kernel_rfl) (by kernel_rfl) (by kernel_rfl) (fun _ _ _ h => h) (Or.inl ⟨by rfl, ?_⟩) hH14 ?_
 rotate_left
 ·((intro W hW; clear hW; go_simp) <;> with_reducible rfl)
 simp only [sq3, sq4]
 refine wpAnyH_done (by kernel_rfl) ?_ _
 go_wp2
 go_ret
 exact ⟨v, rfl, hown, bel⟩
theorem own_below {w w' : World} {B : Nat} {e : TypeId} {v : Value} {n : Nat} {xs : List Value} (h : w.ownsRow B e 1 v n xs) (hb : Below w.heap.size w w') : w'.ownsRow B e 1 v n xs := by
 refine ⟨h.1, ?_⟩
 rcases h.2 with h | ⟨g, cap, cur, e, hg, hh, h⟩
 ·exact .inl h
 ·exact .inr ⟨g, cap, cur, e, hg, (hb.block g (Array.getElem?_eq_some_iff.1 hh).1).trans hh, h⟩
theorem made_0b (y : Int) (w : World) : Sl (w.alloc (.cells #[.int .u8 0, .int .u8 (y % 256)] 5)) (some ⟨w.heap.size, 0, none⟩) 2 2 [0, byteOf y] := by
 have h := Sl.made w 5 [0, byteOf y] (by simp [maxLen])
 simpa [u8v, byteOf_val] using h
theorem u8_wrap (x : Int) : IntKind.u8.wrap x = x % 256 := by simp [IntKind.wrap, IntKind.signed, IntKind.bits]
theorem made_b2 (x y : Int) (w : World) : Sl (w.alloc (.cells #[.int .u8 (x % 256), .int .u8 (y % 256)] 5)) (some ⟨w.heap.size, 0, none⟩) 2 2 [byteOf x, byteOf y] := by
 have h := Sl.made w 5 [byteOf x, byteOf y] (by simp [maxLen])
 simpa [u8v, byteOf_val] using h
theorem ippseudo_o (tos id fl pt ttl pr : Int) (a0 a1 a2 a3 a4 a5 a6 a7 : UInt8) (So Sb : Option Addr) (no co nb cb : Nat) (k : Int) (w : World) : Calls Tryz.prog 91 #[.agg #[.int .i64 tos, .int .i64 id, .int .i64 fl, .int .i64 pt, .int .i64 ttl, .int .i64 pr, .int .u8 (a0.toNat : Int), .int .u8 (a1.toNat : Int), .int .u8 (a2.toNat : Int), .int .u8 (a3.toNat : Int), .int .u8 (a4.toNat : Int), .int .u8 (a5.toNat : Int), .int .u8 (a6.toNat : Int), .int .u8 (a7.toNat : Int), .slice So no co, .slice Sb nb cb], .int .i64 k] w fun e w' => ∃ v, e = .returned v ∧ w'.ownsRow w.heap.size 5 1 v 12 (([a0, a1, a2, a3, a4, a5, a6, a7] ++ [0, byteOf pr] ++ two k).map u8v) ∧ Below w.heap.size w w' := by
 obtain ⟨ii, hii, hz0, hz1, hz2⟩ := info_parts Tryz.info5
 have ew := u8_wrap pr
 have bel := Below.refl w.heap.size w
 have hp : (w.alloc (.cells #[.int .i64 tos, .int .i64 id, .int .i64 fl, .int .i64 pt, .int .i64 ttl, .int .i64 pr, .int .u8 (a0.toNat : Int), .int .u8 (a1.toNat : Int), .int .u8 (a2.toNat : Int), .int .u8 (a3.toNat : Int), .int .u8 (a4.toNat : Int), .int .u8 (a5.toNat : Int), .int .u8 (a6.toNat : Int), .int .u8 (a7.toNat : Int), .slice So no co, .slice Sb nb cb] 38)).heap[w.heap.size]? = some (.cells #[.int .i64 tos, .int .i64 id, .int .i64 fl, .int .i64 pt, .int .i64 ttl, .int .i64 pr, .int .u8 (a0.toNat : Int), .int .u8 (a1.toNat : Int), .int .u8 (a2.toNat : Int), .int .u8 (a3.toNat : Int), .int .u8 (a4.toNat : Int), .int .u8 (a5.toNat : Int), .int .u8 (a6.toNat : Int), .int .u8 (a7.toNat : Int), .slice So no co, .slice Sb nb cb] 38 (0, 0)) := by have := heap_alloc_new w (.cells #[.int .i64 tos, .int .i64 id, .int .i64 fl, .int .i64 pt, .int .i64 ttl, .int .i64 pr, .int .u8 (a0.toNat : Int), .int .u8 (a1.toNat : Int), .int .u8 (a2.toNat : Int), .int .u8 (a3.toNat : Int), .int .u8 (a4.toNat : Int), .int .u8 (a5.toNat : Int), .int .u8 (a6.toNat : Int), .int .u8 (a7.toNat : Int), .slice So no co, .slice Sb nb cb] 38); simpa using this
 have zp : w.heap.size < (w.alloc (.cells #[.int .i64 tos, .int .i64 id, .int .i64 fl, .int .i64 pt, .int .i64 ttl, .int .i64 pr, .int .u8 (a0.toNat : Int), .int .u8 (a1.toNat : Int), .int .u8 (a2.toNat : Int), .int .u8 (a3.toNat : Int), .int .u8 (a4.toNat : Int), .int .u8 (a5.toNat : Int), .int .u8 (a6.toNat : Int), .int .u8 (a7.toNat : Int), .slice So no co, .slice Sb nb cb] 38)).heap.size := by simp
 replace bel := bel.alloc bel.size (.cells #[.int .i64 tos, .int .i64 id, .int .i64 fl, .int .i64 pt, .int .i64 ttl, .int .i64 pr, .int .u8 (a0.toNat : Int), .int .u8 (a1.toNat : Int), .int .u8 (a2.toNat : Int), .int .u8 (a3.toNat : Int), .int .u8 (a4.toNat : Int), .int .u8 (a5.toNat : Int), .int .u8 (a6.toNat : Int), .int .u8 (a7.toNat : Int), .slice So no co, .slice Sb nb cb] 38)
 go_enter Tryz.func91, Tryz.ntmps91
 go_wp2_with fail
 replace bel := bel.drew
 replace hp : (w.alloc (.cells #[.int .i64 tos, .int .i64 id, .int .i64 fl, .int .i64 pt, .int .i64 ttl, .int .i64 pr, .int .u8 (a0.toNat : Int), .int .u8 (a1.toNat : Int), .int .u8 (a2.toNat : Int), .int .u8 (a3.toNat : Int), .int .u8 (a4.toNat : Int), .int .u8 (a5.toNat : Int), .int .u8 (a6.toNat : Int), .int .u8 (a7.toNat : Int), .slice So no co, .slice Sb nb cb] 38)).drew.heap[w.heap.size]? = some (.cells #[.int .i64 tos, .int .i64 id, .int .i64 fl, .int .i64 pt, .int .i64 ttl, .int .i64 pr, .int .u8 (a0.toNat : Int), .int .u8 (a1.toNat : Int), .int .u8 (a2.toNat : Int), .int .u8 (a3.toNat : Int), .int .u8 (a4.toNat : Int), .int .u8 (a5.toNat : Int), .int .u8 (a6.toNat : Int), .int .u8 (a7.toNat : Int), .slice So no co, .slice Sb nb cb] 38 (0, 0)) := hp
 replace zp : w.heap.size < (w.alloc (.cells #[.int .i64 tos, .int .i64 id, .int .i64 fl, .int .i64 pt, .int .i64 ttl, .int .i64 pr, .int .u8 (a0.toNat : Int), .int .u8 (a1.toNat : Int), .int .u8 (a2.toNat : Int), .int .u8 (a3.toNat : Int), .int .u8 (a4.toNat : Int), .int .u8 (a5.toNat : Int), .int .u8 (a6.toNat : Int), .int .u8 (a7.toNat : Int), .slice So no co, .slice Sb nb cb] 38)).drew.heap.size := zp
 refine wp_region_held_drew (S := fun W => W.heap[w.heap.size]? = some (.cells #[.int .i64 tos, .int .i64 id, .int .i64 fl, .int .i64 pt, .int .i64 ttl, .int .i64 pr, .int .u8 (a0.toNat : Int), .int .u8 (a1.toNat : Int), .int .u8 (a2.toNat : Int), .int .u8 (a3.toNat : Int), .int .u8 (a4.toNat : Int), .int .u8 (a5.toNat : Int), .int .u8 (a6.toNat : Int), .int .u8 (a7.toNat : Int), .slice So no co, .slice Sb nb cb] 38 (0, 0))) (by kernel_rfl) hp (fun hH => ?_)
 generalize (w.alloc (.cells #[.int .i64 tos, .int .i64 id, .int .i64 fl, .int .i64 pt, .int .i64 ttl, .int .i64 pr, .int .u8 (a0.toNat : Int), .int .u8 (a1.toNat : Int), .int .u8 (a2.toNat : Int), .int .u8 (a3.toNat : Int), .int .u8 (a4.toNat : Int), .int .u8 (a5.toNat : Int), .int .u8 (a6.toNat : Int), .int .u8 (a7.toNat : Int), .slice So no co, .slice Sb nb cb] 38)).drew = vd at bel hp zp hH ⊢
 refine wpAnyH_take (i := 0) (v := .agg #[.int .i64 tos, .int .i64 id, .int .i64 fl, .int .i64 pt, .int .i64 ttl, .int .i64 pr, .int .u8 (a0.toNat : Int), .int .u8 (a1.toNat : Int), .int .u8 (a2.toNat : Int), .int .u8 (a3.toNat : Int), .int .u8 (a4.toNat : Int), .int .u8 (a5.toNat : Int), .int .u8 (a6.toNat : Int), .int .u8 (a7.toNat : Int), .slice So no co, .slice Sb nb cb]) rfl (by kernel_rfl) (by kernel_rfl) (by kernel_rfl) (fun _ _ _ h => h) (yieldsIf_load_part (by kernel_rfl) 38 _ rfl (w.heap.size) 0 16 rfl [.int .i64 tos, .int .i64 id, .int .i64 fl, .int .i64 pt, .int .i64 ttl, .int .i64 pr, .int .u8 (a0.toNat : Int), .int .u8 (a1.toNat : Int), .int .u8 (a2.toNat : Int), .int .u8 (a3.toNat : Int), .int .u8 (a4.toNat : Int), .int .u8 (a5.toNat : Int), .int .u8 (a6.toNat : Int), .int .u8 (a7.toNat : Int), .slice So no co, .slice Sb nb cb] 38 (0, 0) (fun W hW => hW) [.int .i64 tos, .int .i64 id, .int .i64 fl, .int .i64 pt, .int .i64 ttl, .int .i64 pr, .int .u8 (a0.toNat : Int), .int .u8 (a1.toNat : Int), .int .u8 (a2.toNat : Int), .int .u8 (a3.toNat : Int), .int .u8 (a4.toNat : Int), .int .u8 (a5.toNat : Int), .int .u8 (a6.toNat : Int), .int .u8 (a7.toNat : Int), .slice So no co, .slice Sb nb cb] rfl _ Tryz.underlying38 rfl (by kernel_rfl)) hH ?_
 simp only [Act.put, List.getElem_toArray, List.getElem_cons_zero, List.setIfInBounds_toArray, List.set_cons_zero, List.set_cons_succ]
 refine wpAnyH_take (i := 2) (v := ?_) rfl (by kernel_rfl) (by kernel_rfl) (by kernel_rfl) (fun _ _ _ h => h) (Or.inl ⟨by rfl, ?_⟩) hH ?_
 rotate_left
 ·((intro W hW; clear hW; go_simp) <;> with_reducible rfl)
 simp only [sq3, sq4]
 refine wpAnyH_take (i := 3) (v := ?_) rfl (by kernel_rfl) (by kernel_rfl) (by kernel_rfl) (fun _ _ _ h => h) (Or.inl ⟨by rfl, ?_⟩) hH ?_
 rotate_left
 ·((intro W hW; have hk := cell_lit (hW) 5 _ rfl; clear hW; go_simp) <;> with_reducible rfl)
 simp only [sq3, sq4]
 refine wpAnyH_take (i := 4) (v := ?_) rfl (by kernel_rfl) (by kernel_rfl) (by kernel_rfl) (fun _ _ _ h => h) (Or.inl ⟨by rfl, ?_⟩) hH ?_
 rotate_left
 ·((intro W hW; clear hW; go_simp) <;> with_reducible rfl)
 simp only [sq3, sq4]
 refine wpAnyH_take (i := 7) (v := ?_) rfl (by kernel_rfl) (by kernel_rfl) (by kernel_rfl) (fun _ _ _ h => h) (Or.inl ⟨by rfl, ?_⟩) hH ?_
 rotate_left
 ·((intro W hW; clear hW; go_simp) <;> with_reducible rfl)
 simp only [sq3, sq4]
 refine wpAnyH_ready (rs := [1, 5]) (by kernel_rfl) (by simp) ?_
 refine AllReadyH.cons (o := _) rfl (fun K hK => ?_) (AllReadyH.cons (o := _) rfl (fun K hK => ?_) AllReadyH.nil)
 ·have mkzp := zp
  have mkw := bel.size
  simp only [sq3]
  go_simp
  with_reducible refine (ends_o tos id fl pt ttl pr a0 a1 a2 a3 a4 a5 a6 a7 So Sb no co nb cb _).mono ?_
  rintro e v11 ⟨v, rfl, hown, b11⟩
  dsimp only
  replace bel := bel.trans (b11.mono bel.size)
  replace hp := (b11.block _ zp).trans hp
  replace zp := Nat.lt_of_lt_of_le zp b11.size
  have mk := b11.size
  have mkb := b11
  refine hK.out _ _ hp (fun hH11 => ?_)
  clear hK K
  refine wpAnyH_ready (rs := [5]) (by kernel_rfl) (by simp) ?_
  refine AllReadyH.cons (o := _) rfl (fun K hK => ?_) AllReadyH.nil
  simp only [sq3]
  go_simp
  have ba := (Below.refl v11.heap.size v11).alloc (Nat.le_refl _) (.cells #[.int .u8 0, .int .u8 (pr % 256)] 5)
  replace mkb := mkb.trans (ba.mono mk)
  replace mk := Nat.le_trans mk ba.size
  have hm := made_0b pr v11
  replace bel := bel.trans (ba.mono bel.size)
  replace hp := (ba.block _ zp).trans hp
  replace zp := Nat.lt_of_lt_of_le zp ba.size
  replace hown := own_below hown ba
  generalize v11.alloc (.cells #[.int .u8 0, .int .u8 (pr % 256)] 5) = v12 at bel hp zp hown hm mk mkb ba ⊢
  refine hK.out _ _ hp (fun hH12 => ?_)
  clear hK K ba
  refine wpAnyH_ready (rs := [6]) (by kernel_rfl) (by simp) ?_
  refine AllReadyH.cons (o := _) rfl (fun K hK => ?_) AllReadyH.nil
  simp only [sq3]
  rw [if_pos (by rfl)]
  refine wp_append_bb (.tmp 6) (.tmp 10) 36 rfl (vd.heap.size) 5 ii (.int .u8 0) Tryz.underlying36 hii hz0 hz1 hz2 rfl v (8) ([a0, a1, a2, a3, a4, a5, a6, a7]) rfl hown (_) (2) (2) ([0, byteOf pr]) rfl hm (by omega) (by omega) ?_
  intro r13 v13 hown2_ bb
  replace hp := (bb.block _ mkzp).trans hp
  replace zp := Nat.lt_of_lt_of_le zp bb.size
  replace bel := bel.trans (bb.mono mkw)
  clear hown
  replace mkb := mkb.trans bb
  replace mk := Nat.le_trans mk bb.size
  clear bb
  clear hm
  have hown2 := hown2_
  clear hown2_
  refine hK.out _ _ hp (fun hH13 => ?_)
  clear hK K
  have zw := bel.size
  obtain ⟨A3, c3, rfl, hs3⟩ := Sl.of_own hown2
  clear hown2
  refine wpAnyH_ready (rs := [8]) (by kernel_rfl) (by simp) ?_
  refine AllReadyH.cons (o := _) rfl (fun K hK => ?_) AllReadyH.nil
  simp only [sq3]
  go_simp
  with_reducible refine (w16_o A3 10 c3 ([a0, a1, a2, a3, a4, a5, a6, a7] ++ [0, byteOf pr]) k _ hs3 (by omega)).mono ?_
  rintro e v14 ⟨v4, rfl, hwo, b14⟩
  dsimp only
  replace bel := bel.trans (b14.mono bel.size)
  replace hp := (b14.block _ zp).trans hp
  replace zp := Nat.lt_of_lt_of_le zp b14.size
  replace mkb := mkb.trans (b14.mono mk)
  replace mk := Nat.le_trans mk b14.size
  refine hK.out _ _ hp (fun hH14 => ?_)
  clear hK K
  refine wpAnyH_take (i := 9) (v := ?_) rfl (by kernel_rfl) (by kernel_rfl) (by kernel_rfl) (fun _ _ _ h => h) (Or.inl ⟨by rfl, ?_⟩) hH14 ?_
  rotate_left
  ·((intro W hW; clear hW; go_simp) <;> with_reducible rfl)
  simp only [sq3, sq4]
  refine wpAnyH_done (by kernel_rfl) ?_ _
  go_wp2
  go_ret
  exact ⟨v4, rfl, ownsRow_mono hwo zw, bel⟩
 ·simp only [sq3]
  go_simp
  have ba := (Below.refl vd.heap.size vd).alloc (Nat.le_refl _) (.cells #[.int .u8 0, .int .u8 (pr % 256)] 5)
  have hm := made_0b pr vd
  replace bel := bel.trans (ba.mono bel.size)
  replace hp := (ba.block _ zp).trans hp
  replace zp := Nat.lt_of_lt_of_le zp ba.size
  generalize vd.alloc (.cells #[.int .u8 0, .int .u8 (pr % 256)] 5) = v11 at bel hp zp hm ba ⊢
  refine hK.out _ _ hp (fun hH11 => ?_)
  clear hK K ba
  have mkzp := zp
  have mkshm := hm
  have mkw := bel.size
  refine wpAnyH_ready (rs := [1]) (by kernel_rfl) (by simp) ?_
  refine AllReadyH.cons (o := _) rfl (fun K hK => ?_) AllReadyH.nil
  simp only [sq3]
  go_simp
  with_reducible refine (ends_o tos id fl pt ttl pr a0 a1 a2 a3 a4 a5 a6 a7 So Sb no co nb cb _).mono ?_
  rintro e v12 ⟨v, rfl, hown, b12⟩
  dsimp only
  replace bel := bel.trans (b12.mono bel.size)
  replace hp := (b12.block _ zp).trans hp
  replace zp := Nat.lt_of_lt_of_le zp b12.size
  have mk := b12.size
  have mkb := b12
  replace hm := hm.below b12
  refine hK.out _ _ hp (fun hH12 => ?_)
  clear hK K
  refine wpAnyH_ready (rs := [6]) (by kernel_rfl) (by simp) ?_
  refine AllReadyH.cons (o := _) rfl (fun K hK => ?_) AllReadyH.nil
  simp only [sq3]
  rw [if_pos (by rfl)]
  refine wp_append_bb (.tmp 6) (.tmp 10) 36 rfl (v11.heap.size) 5 ii (.int .u8 0) Tryz.underlying36 hii hz0 hz1 hz2 rfl v (8) ([a0, a1, a2, a3, a4, a5, a6, a7]) rfl hown (_) (2) (2) ([0, byteOf pr]) rfl hm (by omega) (by omega) ?_
  intro r13 v13 hown2_ bb
  replace hp := (bb.block _ mkzp).trans hp
  replace zp := Nat.lt_of_lt_of_le zp bb.size
  replace bel := bel.trans (bb.mono mkw)
  clear hown
  replace mkb := mkb.trans bb
  replace mk := Nat.le_trans mk bb.size
  clear bb
  clear hm
  have hown2 := hown2_
  clear hown2_
  refine hK.out _ _ hp (fun hH13 => ?_)
  clear hK K
  have zw := bel.size
  obtain ⟨A3, c3, rfl, hs3⟩ := Sl.of_own hown2
  clear hown2
  refine wpAnyH_ready (rs := [8]) (by kernel_rfl) (by simp) ?_
  refine AllReadyH.cons (o := _) rfl (fun K hK => ?_) AllReadyH.nil
  simp only [sq3]
  go_simp
  with_reducible refine (w16_o A3 10 c3 ([a0, a1, a2, a3, a4, a5, a6, a7] ++ [0, byteOf pr]) k _ hs3 (by omega)).mono ?_
  rintro e v14 ⟨v4, rfl, hwo, b14⟩
  dsimp only
  replace bel := bel.trans (b14.mono bel.size)
  replace hp := (b14.block _ zp).trans hp
  replace zp := Nat.lt_of_lt_of_le zp b14.size
  replace mkb := mkb.trans (b14.mono mk)
  replace mk := Nat.le_trans mk b14.size
  refine hK.out _ _ hp (fun hH14 => ?_)
  clear hK K
  refine wpAnyH_take (i := 9) (v := ?_) rfl (by kernel_rfl) (by kernel_rfl) (by kernel_rfl) (fun _ _ _ h => h) (Or.inl ⟨by rfl, ?_⟩) hH14 ?_
  rotate_left
  ·((intro W hW; clear hW; go_simp) <;> with_reducible rfl)
  simp only [sq3, sq4]
  refine wpAnyH_done (by kernel_rfl) ?_ _
  go_wp2
  go_ret
  exact ⟨v4, rfl, ownsRow_mono hwo zw, bel⟩
theorem ippseudo_any (tos id fl pt ttl pr : Int) (a0 a1 a2 a3 a4 a5 a6 a7 : UInt8) (So Sb : Option Addr) (no co nb cb : Nat) (k : Int) (w : World) : Calls Tryz.prog 91 #[.agg #[.int .i64 tos, .int .i64 id, .int .i64 fl, .int .i64 pt, .int .i64 ttl, .int .i64 pr, .int .u8 (a0.toNat : Int), .int .u8 (a1.toNat : Int), .int .u8 (a2.toNat : Int), .int .u8 (a3.toNat : Int), .int .u8 (a4.toNat : Int), .int .u8 (a5.toNat : Int), .int .u8 (a6.toNat : Int), .int .u8 (a7.toNat : Int), .slice So no co, .slice Sb nb cb], .int .i64 k] w fun e w' => ∃ A c, e = .returned (.slice A 12 c) ∧ Sl w' A 12 c ([a0, a1, a2, a3, a4, a5, a6, a7] ++ [0, byteOf pr] ++ two k) ∧ Below w.heap.size w w' := by
 refine (ippseudo_o tos id fl pt ttl pr a0 a1 a2 a3 a4 a5 a6 a7 So Sb no co nb cb k w).mono ?_
 rintro e w' ⟨v, rfl, hown, bel⟩
 obtain ⟨A, c, rfl, hs⟩ := Sl.of_own hown
 exact ⟨A, c, rfl, hs, bel⟩
end Go.Proofs.YtbdaejodbcjmfaaGreat
