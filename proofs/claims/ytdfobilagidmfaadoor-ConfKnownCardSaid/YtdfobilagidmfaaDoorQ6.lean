/- Texts put together: Cg2, Cg3, Adr6. -/
import Derived.Test.YtdfobilagidmfaaDoorQ2
import Derived.Test.YtdfobilagidmfaaDoorQ3
import Derived.Test.YtdfobilagidmfaaDoorQ4
import Derived.Test.YtdfobilagidmfaaDoorQ5
import Derived.LoopN
namespace Go.Proofs.YtdfobilagidmfaaDoor
open Go.RowKit

/-- A number's value, and whether it is one; an address's, a MAC's. -/
def decOk (l : List UInt8) : Bool := decide (0 ≤ numI l 999999999)
def decV (l : List UInt8) : Int := if 0 ≤ numI l 999999999 then numI l 999999999 else 0
theorem dec_no {l : List UInt8} (h : numI l 999999999 = -1) : decV l = 0 ∧ decOk l = false := by unfold decV decOk; rw [h]; exact ⟨rfl, rfl⟩
theorem dec_yes {l : List UInt8} {n : Nat} (h : numI l 999999999 = n) : decV l = n ∧ decOk l = true := by
  unfold decV decOk; rw [h, if_pos (by omega), decide_eq_true (by omega)]; exact ⟨rfl, rfl⟩
theorem decV_range (l : List UInt8) : 0 ≤ decV l ∧ decV l ≤ 999999999 := by
  have := numI_range l 999999999
  unfold decV
  split <;> omega
def p4 (l : List UInt8) : Ad4 := match parse4 l with
  | some (a, b, c, d) => ⟨a, b, c, d⟩
  | none => ⟨0, 0, 0, 0⟩
def p4ok (l : List UInt8) : Bool := (parse4 l).isSome
def errI (b : Bool) : Int := if b then 0 else 9
theorem aparse_l (l : List UInt8) (w : World) (hl : l.length ≤ 100000) : Calls Tryd.prog 83 #[.string ⟨l.toArray⟩] w fun e w' => e = .returned (.tuple #[.agg #[.int .u8 ((p4 l).a.toNat : Int), .int .u8 ((p4 l).b.toNat : Int), .int .u8 ((p4 l).c.toNat : Int), .int .u8 ((p4 l).d.toNat : Int)], .int .i64 (errI (p4ok l))]) ∧ Below w.heap.size w w' := by
  refine (aparse_any ⟨l.toArray⟩ w (by rw [st_size]; omega)).mono fun e w' h => ?_
  unfold AParsePost at h
  change (match parse4 l with
   | none => e = .returned (.tuple #[addrV 0 0 0 0, .int .i64 9])
   | some (a, b, c, d) => e = .returned (.tuple #[addrV a b c d, .int .i64 0])) ∧ Below w.heap.size w w' at h
  unfold p4 p4ok
  cases hp : parse4 l with
  | none => rw [hp] at h; exact h
  | some x => obtain ⟨a, b, c, d⟩ := x; rw [hp] at h; exact h
instance (l : List UInt8) : Decidable (macOk l) := by unfold macOk; infer_instance
def mcok (l : List UInt8) : Bool := decide (macOk l)
def mcl (l : List UInt8) : Mc6 := if macOk l then ⟨byteOf (macB l 0), byteOf (macB l 1), byteOf (macB l 2), byteOf (macB l 3), byteOf (macB l 4), byteOf (macB l 5)⟩ else ⟨0, 0, 0, 0, 0, 0⟩
theorem macBs_six (l : List UInt8) : macBs l 6 = [byteOf (macB l 0), byteOf (macB l 1), byteOf (macB l 2), byteOf (macB l 3), byteOf (macB l 4), byteOf (macB l 5)] := by simp [macBs, List.range, List.range.loop]
theorem amac_l (l : List UInt8) (w : World) (hl : l.length ≤ 100000) : Calls Tryd.prog 84 #[.string ⟨l.toArray⟩] w fun e w' => e = .returned (.tuple #[.agg #[.int .u8 ((mcl l).a.toNat : Int), .int .u8 ((mcl l).b.toNat : Int), .int .u8 ((mcl l).c.toNat : Int), .int .u8 ((mcl l).d.toNat : Int), .int .u8 ((mcl l).e.toNat : Int), .int .u8 ((mcl l).f.toNat : Int)], .int .i64 (errI (mcok l))]) ∧ Below w.heap.size w w' := by
  refine (amac_any ⟨l.toArray⟩ w (by rw [st_size]; omega)).mono fun e w' h => ?_
  unfold AMacPost at h
  change (macOk l ∧ e = .returned (.tuple #[.agg ((macBs l 6).map u8v).toArray, .int .i64 0]) ∨ ¬ macOk l ∧ e = .returned (.tuple #[mac0, .int .i64 9])) ∧ Below w.heap.size w w' at h
  obtain ⟨h | h, hb⟩ := h
  · refine ⟨?_, hb⟩
    rw [h.2, macBs_six]
    unfold mcl mcok
    rw [if_pos h.1, decide_eq_true h.1]
    rfl
  · refine ⟨?_, hb⟩
    rw [h.2]
    unfold mcl mcok
    rw [if_neg h.1, decide_eq_false h.1]
    rfl
theorem onlyW_none {l : List UInt8} (h : (wordsL l).length ≠ 1) : onlyW l = none := by
  unfold onlyW
  split
  · rename_i hh; rw [hh] at h; exact absurd rfl h
  · rfl
theorem onlyW_some {l x : List UInt8} (h : (wordsL l).length = 1) (hx : (wordsL l)[0]? = some x) : onlyW l = some x := by
  obtain ⟨y, hy⟩ := List.length_eq_one_iff.1 h
  rw [hy] at hx
  unfold onlyW
  rw [hy]
  simpa using hx
set_option linter.unusedVariables false in
set_option linter.unusedSimpArgs false in
set_option maxRecDepth 100000 in
set_option maxHeartbeats 16000000 in
theorem cdecimal_any (l : List UInt8) (w : World) : Calls Tryd.prog 82 #[.string ⟨l.toArray⟩] w fun e w' => e = .returned (.tuple #[.int .i64 (decV l), .bool (decOk l)]) ∧ Below w.heap.size w w' := by
  have bel := Below.refl w.heap.size w
  go_enter Tryd.func82, Tryd.ntmps82
  by_cases h9 : 9 < l.length
  · have h9k : (9 : Int) < l.length := by omega
    have HP : Hid (decV l = 0 ∧ decOk l = false) := Lib.hid (dec_no (numI_shape _ (.inr (.inl h9))))
    have R9 := fun W => st_len l 3 W
    go_wp2_with fail
    clear R9
    exact bodyPost_ret (v := .tuple #[.int .i64 0, .bool false]) (by simp [results, Tryd.results82, go_sem]) rfl ⟨by rw [HP.out.1, HP.out.2], bel⟩
  · have h9k : decide ((9 : Int) < l.length) = false := decide_eq_false (by omega)
    have R9 := fun W => st_len l 3 W
    go_wp2_with (first | ((with_reducible show wpList _ _ _ (⟨some 12, _, _, _, _, _⟩ :: _) _ _); refine wpList_range_n rfl 9 (.tmp 11) rfl (by kernel_rfl) (l) rfl ?_; intro g12 w1 ge lt hh bb; have oit := Nat.le_trans bel.size ge; replace bel := bel.trans (bb.mono bel.size); have hit := hh; clear hh lt ge bb))
    try clear R9
    simp only [Act.put, List.setIfInBounds_toArray, List.set_cons_zero, List.set_cons_succ]
    go_loopg [4] (l.length + 1) (fun gk s4 wr => ∃ pos : Nat, ∃ n : Nat, gk = l.length + 1 - pos ∧ pos ≤ l.length ∧ Hid (DecInv l pos n) ∧ Hid (n < 10 ^ pos) ∧ s4 = .int .i64 (n : Int) ∧ wr.heap[g12]? = some (.stringIter ⟨(l).toArray⟩ (pos)) ∧ Below w.heap.size w wr)
    case atStart => exact ⟨0, 0, rfl, Nat.zero_le _, Lib.hid (dec_start _), Lib.hid (by decide), rfl, hit, bel⟩
    case round =>
      clear hit bel
      obtain ⟨pos, n, HGK, hp, HI, HN, rfl, hit, bel⟩ := hrel
      have HGK_ := Lib.hid HGK
      clear HGK
      by_cases hpl : pos < l.length
      · obtain ⟨r, k, c, hd, hc, hr, hk, hcase⟩ := dec_rune ⟨l.toArray⟩ pos (by rw [st_size]; exact hpl)
        replace hc : l[pos]? = some c := hc
        have HD := Lib.hid hd
        have HC := Lib.hid hc
        clear hd hc
        have r0 : (0 : Int) ≤ r := by omega
        have r1 : (r : Int) ≤ 1114111 := by omega
        have n0 : (0 : Int) ≤ n := by omega
        have n1 : (n : Int) ≤ 99999999 := pow_le9 HN.out (by omega)
        obtain ⟨ip, hip⟩ : ∃ ip : Int, ip = (pos : Int) := ⟨_, rfl⟩
        have HIP := Lib.hid hip
        have ip0 : 0 ≤ ip := by omega
        have ip9 : ip ≤ 9 := by omega
        clear hip
        by_cases hz : 0 < pos ∧ n = 0
        · have HP : Hid (decV l = 0 ∧ decOk l = false) := Lib.hid (dec_no (by have h := HI.out; rw [hz.2] at h; exact dec_zero h hz.1 HC.out _))
          have en : ((n : Int) == 0) = true := beq_iff_eq.2 (by omega)
          have ip1 : (0 : Int) < ip := by have := HIP.out; omega
          clear hcase hz hk hr
          go_wp2_with (first | ((with_reducible show wpList _ _ _ (⟨some 13, _, _, _, _, _⟩ :: _) _ _); refine wpList_next_n rfl (.tmp 12) rfl g12 rfl (l) (pos) hit (r) (k) (HD.out) (hpl) (ip) (HIP.out) ?_; intro w2 hq gr; replace bel := below_grown bel gr oit bel.size; clear hit; have hit := hq; clear hq gr))
          exact bodyPost_ret (v := .tuple #[.int .i64 0, .bool false]) (by simp [results, Tryd.results82, go_sem]) rfl ⟨by rw [HP.out.1, HP.out.2], bel⟩
        · have HZ := Lib.hid hz
          clear hz
          by_cases hp0 : pos = 0
          · have ip1 : decide ((0 : Int) < ip) = false := decide_eq_false (by have := HIP.out; omega)
            rcases hcase with ⟨hc1, hr1⟩ | ⟨hc1, hr1⟩ | ⟨hc1, hc2, hrc, hk1⟩
            · have HP : Hid (decV l = 0 ∧ decOk l = false) := Lib.hid (dec_no (dec_bad HI.out HC.out (.inl hc1) _))
              have t1 : (r : Int) < 48 := by omega
              clear hc1 hr1 hk hr
              go_wp2_with (first | ((with_reducible show wpList _ _ _ (⟨some 13, _, _, _, _, _⟩ :: _) _ _); refine wpList_next_n rfl (.tmp 12) rfl g12 rfl (l) (pos) hit (r) (k) (HD.out) (hpl) (ip) (HIP.out) ?_; intro w2 hq gr; replace bel := below_grown bel gr oit bel.size; clear hit; have hit := hq; clear hq gr))
              exact bodyPost_ret (v := .tuple #[.int .i64 0, .bool false]) (by simp [results, Tryd.results82, go_sem]) rfl ⟨by rw [HP.out.1, HP.out.2], bel⟩
            · have HP : Hid (decV l = 0 ∧ decOk l = false) := Lib.hid (dec_no (dec_bad HI.out HC.out (.inr hc1) _))
              have t1 : decide ((r : Int) < 48) = false := decide_eq_false (by omega)
              have t2 : (57 : Int) < r := by omega
              clear hc1 hr1 hk hr
              go_wp2_with (first | ((with_reducible show wpList _ _ _ (⟨some 13, _, _, _, _, _⟩ :: _) _ _); refine wpList_next_n rfl (.tmp 12) rfl g12 rfl (l) (pos) hit (r) (k) (HD.out) (hpl) (ip) (HIP.out) ?_; intro w2 hq gr; replace bel := below_grown bel gr oit bel.size; clear hit; have hit := hq; clear hq gr))
              exact bodyPost_ret (v := .tuple #[.int .i64 0, .bool false]) (by simp [results, Tryd.results82, go_sem]) rfl ⟨by rw [HP.out.1, HP.out.2], bel⟩
            · have t1 : decide ((r : Int) < 48) = false := decide_eq_false (by omega)
              have t2 : decide ((57 : Int) < r) = false := decide_eq_false (by omega)
              have q0 : (48 : Int) ≤ r := by omega
              have q1 : (r : Int) ≤ 57 := by omega
              have E1 : Hid (((10 * n + (c.toNat - 48) : Nat) : Int) = 10 * n + (r - 48)) := Lib.hid (by omega)
              have HS := Lib.hid (dec_step HI.out HC.out hc1 hc2 HZ.out)
              have HPW := Lib.hid (pow_next (d := c.toNat - 48) HN.out (by omega))
              have HK1 := Lib.hid hk1
              clear hc1 hc2 hrc hk1 hk hr
              go_wp2_with (first | ((with_reducible show wpList _ _ _ (⟨some 13, _, _, _, _, _⟩ :: _) _ _); refine wpList_next_n rfl (.tmp 12) rfl g12 rfl (l) (pos) hit (r) (k) (HD.out) (hpl) (ip) (HIP.out) ?_; intro w2 hq gr; replace bel := below_grown bel gr oit bel.size; clear hit; have hit := hq; clear hq gr))
              go_roundg (l.length + 1 - (pos + k))
              case measure => have := HGK_.out; have := HK1.out; omega
              case rel => exact ⟨pos + k, 10 * n + (c.toNat - 48), rfl, by have := HK1.out; omega, by rw [HK1.out]; exact HS, by rw [HK1.out]; exact HPW, by rw [E1.out], hit, bel⟩
          · have ip1 : (0 : Int) < ip := by have := HIP.out; omega
            have en : ((n : Int) == 0) = false := beq_eq_false_iff_ne.2 (by have := HZ.out; omega)
            rcases hcase with ⟨hc1, hr1⟩ | ⟨hc1, hr1⟩ | ⟨hc1, hc2, hrc, hk1⟩
            · have HP : Hid (decV l = 0 ∧ decOk l = false) := Lib.hid (dec_no (dec_bad HI.out HC.out (.inl hc1) _))
              have t1 : (r : Int) < 48 := by omega
              clear hc1 hr1 hk hr
              go_wp2_with (first | ((with_reducible show wpList _ _ _ (⟨some 13, _, _, _, _, _⟩ :: _) _ _); refine wpList_next_n rfl (.tmp 12) rfl g12 rfl (l) (pos) hit (r) (k) (HD.out) (hpl) (ip) (HIP.out) ?_; intro w2 hq gr; replace bel := below_grown bel gr oit bel.size; clear hit; have hit := hq; clear hq gr))
              exact bodyPost_ret (v := .tuple #[.int .i64 0, .bool false]) (by simp [results, Tryd.results82, go_sem]) rfl ⟨by rw [HP.out.1, HP.out.2], bel⟩
            · have HP : Hid (decV l = 0 ∧ decOk l = false) := Lib.hid (dec_no (dec_bad HI.out HC.out (.inr hc1) _))
              have t1 : decide ((r : Int) < 48) = false := decide_eq_false (by omega)
              have t2 : (57 : Int) < r := by omega
              clear hc1 hr1 hk hr
              go_wp2_with (first | ((with_reducible show wpList _ _ _ (⟨some 13, _, _, _, _, _⟩ :: _) _ _); refine wpList_next_n rfl (.tmp 12) rfl g12 rfl (l) (pos) hit (r) (k) (HD.out) (hpl) (ip) (HIP.out) ?_; intro w2 hq gr; replace bel := below_grown bel gr oit bel.size; clear hit; have hit := hq; clear hq gr))
              exact bodyPost_ret (v := .tuple #[.int .i64 0, .bool false]) (by simp [results, Tryd.results82, go_sem]) rfl ⟨by rw [HP.out.1, HP.out.2], bel⟩
            · have t1 : decide ((r : Int) < 48) = false := decide_eq_false (by omega)
              have t2 : decide ((57 : Int) < r) = false := decide_eq_false (by omega)
              have q0 : (48 : Int) ≤ r := by omega
              have q1 : (r : Int) ≤ 57 := by omega
              have E1 : Hid (((10 * n + (c.toNat - 48) : Nat) : Int) = 10 * n + (r - 48)) := Lib.hid (by omega)
              have HS := Lib.hid (dec_step HI.out HC.out hc1 hc2 HZ.out)
              have HPW := Lib.hid (pow_next (d := c.toNat - 48) HN.out (by omega))
              have HK1 := Lib.hid hk1
              clear hc1 hc2 hrc hk1 hk hr
              go_wp2_with (first | ((with_reducible show wpList _ _ _ (⟨some 13, _, _, _, _, _⟩ :: _) _ _); refine wpList_next_n rfl (.tmp 12) rfl g12 rfl (l) (pos) hit (r) (k) (HD.out) (hpl) (ip) (HIP.out) ?_; intro w2 hq gr; replace bel := below_grown bel gr oit bel.size; clear hit; have hit := hq; clear hq gr))
              go_roundg (l.length + 1 - (pos + k))
              case measure => have := HGK_.out; have := HK1.out; omega
              case rel => exact ⟨pos + k, 10 * n + (c.toNat - 48), rfl, by have := HK1.out; omega, by rw [HK1.out]; exact HS, by rw [HK1.out]; exact HPW, by rw [E1.out], hit, bel⟩
      · obtain rfl : pos = l.length := by omega
        have n0 : (0 : Int) ≤ n := by omega
        have n1 : (n : Int) ≤ 999999999 := by have := HN.out; have h_ : (10 : Nat) ^ l.length ≤ 10 ^ 9 := Nat.pow_le_pow_right (by omega) (by omega); omega
        by_cases hn : l = []
        · have e9 : (l == []) = true := by rw [hn]; rfl
          have HNN : Hid ((n : Int) = 0) := Lib.hid (by rcases HI.out.2 with h | h | h <;> simp [hn] at h <;> omega)
          have HP : Hid (decV l = 0 ∧ decOk l = false) := Lib.hid (dec_no (by rw [hn]; exact dec_none _))
          clear hn
          have R13 := fun ty => next_end (P := Tryd.prog) ty hit (hpl)
          go_wp2_with fail
          clear R13
          exact bodyPost_ret (v := .tuple #[.int .i64 (n : Int), .bool false]) (by simp [results, Tryd.results82, go_sem]) rfl ⟨by rw [HP.out.1, HP.out.2, HNN.out], bel⟩
        · have e9 : (l == []) = false := by simpa using hn
          have HP : Hid (decV l = n ∧ decOk l = true) := Lib.hid (dec_yes (dec_end9 HI.out (List.length_pos_iff.2 hn) (by omega) _ n1))
          clear hn
          have R13 := fun ty => next_end (P := Tryd.prog) ty hit (hpl)
          go_wp2_with fail
          clear R13
          exact bodyPost_ret (v := .tuple #[.int .i64 (n : Int), .bool true]) (by simp [results, Tryd.results82, go_sem]) rfl ⟨by rw [HP.out.1, HP.out.2], bel⟩
set_option linter.unusedVariables false in
set_option linter.unusedSimpArgs false in
set_option maxRecDepth 100000 in
set_option maxHeartbeats 16000000 in
theorem onlyWord_any (l : List UInt8) (w : World) (hlen : l.length ≤ 100000) : Calls Tryd.prog 53 #[.string ⟨l.toArray⟩] w fun e w' => e = .returned (.tuple #[.string ⟨((onlyW l).getD []).toArray⟩, .bool (onlyW l).isSome]) ∧ Below w.heap.size w w' := by
  have bel := Below.refl w.heap.size w
  go_enter Tryd.func53, Tryd.ntmps53
  go_wp2_with fail
  with_reducible refine (wordsOf_any l _ hlen).mono ?_
  rintro e w1 ⟨v, rfl, wtw, b1⟩
  have wtlo := bel.size
  have lz_wt := b1.size
  replace bel := bel.trans (b1.mono bel.size)
  clear b1
  obtain ⟨Awt, cwt, rfl⟩ := owk_val wtw
  have wt := (owk_sle (by decide) stf_len wtw).1
  have fr_wt := (owk_sle (by decide) stf_len wtw).2
  obtain ⟨ws, hws⟩ : ∃ ws, wordsL l = ws := ⟨_, rfl⟩
  obtain ⟨n, hn⟩ : ∃ n, ws.length = n := ⟨_, rfl⟩
  rw [hws, hn] at wt wtw fr_wt
  rw [hws, hn]
  have HWS := Lib.hid hws
  have HNN := Lib.hid hn
  have n0 : (0 : Int) ≤ n := by omega
  clear hws hn
  by_cases h1 : n = 1
  · obtain ⟨x, hx⟩ : ∃ x, ws[0]? = some x := ⟨_, List.getElem?_eq_getElem (by rw [HNN.out]; omega)⟩
    have HX := Lib.hid hx
    have HP : Hid (onlyW l = some x) := Lib.hid (onlyW_some (by rw [HWS.out, HNN.out]; exact h1) (by rw [HWS.out]; exact hx))
    clear hx
    obtain ⟨g, o, rfl⟩ := wt.place (by omega)
    have h1k : ((n : Int) == 1) = true := beq_iff_eq.2 (by omega)
    have h1j : ((n : Int) != 1) = false := by rw [bne, h1k]; rfl
    have n1 : (1 : Int) ≤ n := by omega
    have R12 := (by have h_ := Sle.st (i := 0) wt HX.out; rw [Nat.add_zero] at h_; exact h_)
    go_wp2_with fail
    clear R12
    exact bodyPost_ret (v := .tuple #[.string ⟨(x).toArray⟩, .bool true]) (by simp [results, Tryd.results53, go_sem]) rfl ⟨by rw [HP.out]; rfl, bel⟩
  · have HP : Hid (onlyW l = none) := Lib.hid (onlyW_none (by rw [HWS.out, HNN.out]; exact h1))
    have h1k : ((n : Int) == 1) = false := beq_eq_false_iff_ne.2 (by omega)
    have h1j : ((n : Int) != 1) = true := by rw [bne, h1k]; rfl
    go_wp2_with fail
    exact bodyPost_ret (v := .tuple #[.string ⟨#[]⟩, .bool false]) (by simp [results, Tryd.results53, go_sem]) rfl ⟨by rw [HP.out]; rfl, bel⟩
/-- A name's kind. -/
def kindK (s : List UInt8) : Option Nat :=
  if (s == [108, 97, 110]) = true then some 2 else
  if (s == [108, 97, 110, 109, 97, 99]) = true then some 3 else
  if (s == [119, 97, 110, 109, 97, 99]) = true then some 3 else
  if (s == [102, 105, 114, 115, 116]) = true then some 1 else
  if (s == [108, 97, 115, 116]) = true then some 1 else
  if (s == [100, 110, 115]) = true then some 1 else
  if (s == [116, 105, 109, 101]) = true then some 0 else
  if (s == [117, 100, 112, 116, 105, 109, 101]) = true then some 0 else
  if (s == [116, 99, 112, 116, 105, 109, 101]) = true then some 0 else
  if (s == [105, 99, 109, 112, 116, 105, 109, 101]) = true then some 0 else
  if (s == [108, 111, 119]) = true then some 0 else
  none
set_option linter.unusedVariables false in
set_option linter.unusedSimpArgs false in
set_option maxRecDepth 100000 in
set_option maxHeartbeats 16000000 in
theorem kindOf_any (s : List UInt8) (w : World) : Calls Tryd.prog 74 #[.string ⟨s.toArray⟩] w fun e w' => e = .returned (.tuple #[.int .i64 (((kindK s).getD 0 : Nat) : Int), .bool (kindK s).isSome]) ∧ w = w' := by
  skip
  go_enter Tryd.func74, Tryd.ntmps74
  rcases (by decide : ∀ b : Bool, b = true ∨ b = false) (s == [108, 97, 110]) with b0 | b0
  · have HP : Hid (kindK s = some 2) := Lib.hid (by unfold kindK; rw [if_pos b0])
    go_wp2_with fail
    exact bodyPost_ret (v := .tuple #[.int .i64 2, .bool true]) (by simp [results, Tryd.results74, go_sem]) rfl ⟨by rw [HP.out]; rfl, rfl⟩
  · rcases (by decide : ∀ b : Bool, b = true ∨ b = false) (s == [108, 97, 110, 109, 97, 99]) with b1 | b1
    · have HP : Hid (kindK s = some 3) := Lib.hid (by unfold kindK; rw [if_neg (by rw [b0]; decide), if_pos b1])
      go_wp2_with fail
      exact bodyPost_ret (v := .tuple #[.int .i64 3, .bool true]) (by simp [results, Tryd.results74, go_sem]) rfl ⟨by rw [HP.out]; rfl, rfl⟩
    · rcases (by decide : ∀ b : Bool, b = true ∨ b = false) (s == [119, 97, 110, 109, 97, 99]) with b2 | b2
      · have HP : Hid (kindK s = some 3) := Lib.hid (by unfold kindK; rw [if_neg (by rw [b0]; decide), if_neg (by rw [b1]; decide), if_pos b2])
        go_wp2_with fail
        exact bodyPost_ret (v := .tuple #[.int .i64 3, .bool true]) (by simp [results, Tryd.results74, go_sem]) rfl ⟨by rw [HP.out]; rfl, rfl⟩
      · rcases (by decide : ∀ b : Bool, b = true ∨ b = false) (s == [102, 105, 114, 115, 116]) with b3 | b3
        · have HP : Hid (kindK s = some 1) := Lib.hid (by unfold kindK; rw [if_neg (by rw [b0]; decide), if_neg (by rw [b1]; decide), if_neg (by rw [b2]; decide), if_pos b3])
          go_wp2_with fail
          exact bodyPost_ret (v := .tuple #[.int .i64 1, .bool true]) (by simp [results, Tryd.results74, go_sem]) rfl ⟨by rw [HP.out]; rfl, rfl⟩
        · rcases (by decide : ∀ b : Bool, b = true ∨ b = false) (s == [108, 97, 115, 116]) with b4 | b4
          · have HP : Hid (kindK s = some 1) := Lib.hid (by unfold kindK; rw [if_neg (by rw [b0]; decide), if_neg (by rw [b1]; decide), if_neg (by rw [b2]; decide), if_neg (by rw [b3]; decide), if_pos b4])
            go_wp2_with fail
            exact bodyPost_ret (v := .tuple #[.int .i64 1, .bool true]) (by simp [results, Tryd.results74, go_sem]) rfl ⟨by rw [HP.out]; rfl, rfl⟩
          · rcases (by decide : ∀ b : Bool, b = true ∨ b = false) (s == [100, 110, 115]) with b5 | b5
            · have HP : Hid (kindK s = some 1) := Lib.hid (by unfold kindK; rw [if_neg (by rw [b0]; decide), if_neg (by rw [b1]; decide), if_neg (by rw [b2]; decide), if_neg (by rw [b3]; decide), if_neg (by rw [b4]; decide), if_pos b5])
              go_wp2_with fail
              exact bodyPost_ret (v := .tuple #[.int .i64 1, .bool true]) (by simp [results, Tryd.results74, go_sem]) rfl ⟨by rw [HP.out]; rfl, rfl⟩
            · rcases (by decide : ∀ b : Bool, b = true ∨ b = false) (s == [116, 105, 109, 101]) with b6 | b6
              · have HP : Hid (kindK s = some 0) := Lib.hid (by unfold kindK; rw [if_neg (by rw [b0]; decide), if_neg (by rw [b1]; decide), if_neg (by rw [b2]; decide), if_neg (by rw [b3]; decide), if_neg (by rw [b4]; decide), if_neg (by rw [b5]; decide), if_pos b6])
                go_wp2_with fail
                exact bodyPost_ret (v := .tuple #[.int .i64 0, .bool true]) (by simp [results, Tryd.results74, go_sem]) rfl ⟨by rw [HP.out]; rfl, rfl⟩
              · rcases (by decide : ∀ b : Bool, b = true ∨ b = false) (s == [117, 100, 112, 116, 105, 109, 101]) with b7 | b7
                · have HP : Hid (kindK s = some 0) := Lib.hid (by unfold kindK; rw [if_neg (by rw [b0]; decide), if_neg (by rw [b1]; decide), if_neg (by rw [b2]; decide), if_neg (by rw [b3]; decide), if_neg (by rw [b4]; decide), if_neg (by rw [b5]; decide), if_neg (by rw [b6]; decide), if_pos b7])
                  go_wp2_with fail
                  exact bodyPost_ret (v := .tuple #[.int .i64 0, .bool true]) (by simp [results, Tryd.results74, go_sem]) rfl ⟨by rw [HP.out]; rfl, rfl⟩
                · rcases (by decide : ∀ b : Bool, b = true ∨ b = false) (s == [116, 99, 112, 116, 105, 109, 101]) with b8 | b8
                  · have HP : Hid (kindK s = some 0) := Lib.hid (by unfold kindK; rw [if_neg (by rw [b0]; decide), if_neg (by rw [b1]; decide), if_neg (by rw [b2]; decide), if_neg (by rw [b3]; decide), if_neg (by rw [b4]; decide), if_neg (by rw [b5]; decide), if_neg (by rw [b6]; decide), if_neg (by rw [b7]; decide), if_pos b8])
                    go_wp2_with fail
                    exact bodyPost_ret (v := .tuple #[.int .i64 0, .bool true]) (by simp [results, Tryd.results74, go_sem]) rfl ⟨by rw [HP.out]; rfl, rfl⟩
                  · rcases (by decide : ∀ b : Bool, b = true ∨ b = false) (s == [105, 99, 109, 112, 116, 105, 109, 101]) with b9 | b9
                    · have HP : Hid (kindK s = some 0) := Lib.hid (by unfold kindK; rw [if_neg (by rw [b0]; decide), if_neg (by rw [b1]; decide), if_neg (by rw [b2]; decide), if_neg (by rw [b3]; decide), if_neg (by rw [b4]; decide), if_neg (by rw [b5]; decide), if_neg (by rw [b6]; decide), if_neg (by rw [b7]; decide), if_neg (by rw [b8]; decide), if_pos b9])
                      go_wp2_with fail
                      exact bodyPost_ret (v := .tuple #[.int .i64 0, .bool true]) (by simp [results, Tryd.results74, go_sem]) rfl ⟨by rw [HP.out]; rfl, rfl⟩
                    · rcases (by decide : ∀ b : Bool, b = true ∨ b = false) (s == [108, 111, 119]) with b10 | b10
                      · have HP : Hid (kindK s = some 0) := Lib.hid (by unfold kindK; rw [if_neg (by rw [b0]; decide), if_neg (by rw [b1]; decide), if_neg (by rw [b2]; decide), if_neg (by rw [b3]; decide), if_neg (by rw [b4]; decide), if_neg (by rw [b5]; decide), if_neg (by rw [b6]; decide), if_neg (by rw [b7]; decide), if_neg (by rw [b8]; decide), if_neg (by rw [b9]; decide), if_pos b10])
                        go_wp2_with fail
                        exact bodyPost_ret (v := .tuple #[.int .i64 0, .bool true]) (by simp [results, Tryd.results74, go_sem]) rfl ⟨by rw [HP.out]; rfl, rfl⟩
                      · have HP : Hid (kindK s = none) := Lib.hid (by unfold kindK; rw [if_neg (by rw [b0]; decide), if_neg (by rw [b1]; decide), if_neg (by rw [b2]; decide), if_neg (by rw [b3]; decide), if_neg (by rw [b4]; decide), if_neg (by rw [b5]; decide), if_neg (by rw [b6]; decide), if_neg (by rw [b7]; decide), if_neg (by rw [b8]; decide), if_neg (by rw [b9]; decide), if_neg (by rw [b10]; decide)])
                        go_wp2_with fail
                        exact bodyPost_ret (v := .tuple #[.int .i64 0, .bool false]) (by simp [results, Tryd.results74, go_sem]) rfl ⟨by rw [HP.out]; rfl, rfl⟩
def protoK (s : List UInt8) : Option Int :=
  if (s == [117, 100, 112]) = true then some 17 else
  if (s == [116, 99, 112]) = true then some 6 else
  none
set_option linter.unusedVariables false in
set_option linter.unusedSimpArgs false in
set_option maxRecDepth 100000 in
set_option maxHeartbeats 16000000 in
theorem protoOf_any (s : List UInt8) (w : World) : Calls Tryd.prog 73 #[.string ⟨s.toArray⟩] w fun e w' => e = .returned (.tuple #[.int .i64 ((protoK s).getD 0), .bool (protoK s).isSome]) ∧ w = w' := by
  skip
  go_enter Tryd.func73, Tryd.ntmps73
  rcases (by decide : ∀ b : Bool, b = true ∨ b = false) (s == [117, 100, 112]) with b0 | b0
  · have HP : Hid (protoK s = some 17) := Lib.hid (by unfold protoK; rw [if_pos b0])
    go_wp2_with fail
    exact bodyPost_ret (v := .tuple #[.int .i64 17, .bool true]) (by simp [results, Tryd.results73, go_sem]) rfl ⟨by rw [HP.out]; rfl, rfl⟩
  · rcases (by decide : ∀ b : Bool, b = true ∨ b = false) (s == [116, 99, 112]) with b1 | b1
    · have HP : Hid (protoK s = some 6) := Lib.hid (by unfold protoK; rw [if_neg (by rw [b0]; decide), if_pos b1])
      go_wp2_with fail
      exact bodyPost_ret (v := .tuple #[.int .i64 6, .bool true]) (by simp [results, Tryd.results73, go_sem]) rfl ⟨by rw [HP.out]; rfl, rfl⟩
    · have HP : Hid (protoK s = none) := Lib.hid (by unfold protoK; rw [if_neg (by rw [b0]; decide), if_neg (by rw [b1]; decide)])
      go_wp2_with fail
      exact bodyPost_ret (v := .tuple #[.int .i64 0, .bool false]) (by simp [results, Tryd.results73, go_sem]) rfl ⟨by rw [HP.out]; rfl, rfl⟩
set_option linter.unusedVariables false in
set_option linter.unusedSimpArgs false in
set_option maxRecDepth 100000 in
set_option maxHeartbeats 16000000 in
theorem sindex_any (A : Option Addr) (n c : Nat) (ls : List (List UInt8)) (s : List UInt8) (w : World) (hl : Sle stf 1 w A n c ls) (hm : n ≤ 100000) : Calls Tryd.prog 86 #[.slice A n c, .string ⟨s.toArray⟩] w fun e w' => e = .returned (.int .i64 (posI ls s)) ∧ w = w' := by
  have n0 : (n : Int) ≤ 100000 := by omega
  have bel := Below.refl w.heap.size w
  go_enter Tryd.func86, Tryd.ntmps86
  go_wp2_with fail
  go_loopg [8] (n + 1) (fun gk s8 wr => ∃ j : Nat, gk = n + 1 - j ∧ j ≤ n ∧ Hid ((ls.take j).contains s = false) ∧ s8 = .int .i64 (j : Int) ∧ w = wr)
  case atStart => exact ⟨0, rfl, Nat.zero_le _, Lib.hid rfl, rfl, rfl⟩
  case round =>
    obtain ⟨j, HGK, hj, HN, rfl, rfl⟩ := hrel
    have HGK_ := Lib.hid HGK
    clear HGK
    have j0 : (0 : Int) ≤ j := by omega
    by_cases hlj : j < n
    · obtain ⟨g, o, rfl⟩ := hl.place (by omega)
      have hjl : j < ls.length := by rw [hl.1]; exact hlj
      obtain ⟨x, hx⟩ : ∃ x, ls[j]? = some x := ⟨_, List.getElem?_eq_getElem hjl⟩
      have HX := Lib.hid hx
      clear hx
      rcases (by decide : ∀ b : Bool, b = true ∨ b = false) (s == x) with he | he
      · have HP : Hid (posI ls s = (j : Int)) := Lib.hid (by unfold posI; rw [posN_hit HN.out HX.out (by rw [eq_of_beq he]; exact beq_self_eq_true _)])
        have R15 := Sle.st (i := j) hl HX.out
        go_wp2_with fail
        clear R15
        go_ret
        exact ⟨by rw [HP.out]; rfl, rfl⟩
      · have HC : Hid ((ls.take (j + 1)).contains s = false) := Lib.hid (has_step HX.out HN.out (by rw [beq_eq_false_iff_ne] at he ⊢; exact fun e => he e.symm))
        have R15 := Sle.st (i := j) hl HX.out
        go_wp2_with fail
        clear R15
        go_roundg (n + 1 - (j + 1))
        case measure => have := HGK_.out; omega
        case rel => exact ⟨j + 1, rfl, by omega, HC, by go_num, rfl⟩
    · obtain rfl : j = n := by omega
      have HP : Hid (posI ls s = -1) := Lib.hid (by unfold posI; rw [posN_none (contains_none (by rw [hl.1]; exact Nat.le_refl _) HN.out)])
      go_wp2_with fail
      go_ret
      exact ⟨by rw [HP.out]; rfl, rfl⟩
theorem posI_has (ls : List (List UInt8)) (s : List UInt8) : decide (0 ≤ posI ls s) = ls.contains s := by
  cases h : ls.contains s with
  | false => unfold posI; rw [posN_none h]; rfl
  | true =>
    have : ∀ ls : List (List UInt8), ls.contains s = true → ∃ k, posN ls s = some k := by
      intro ls
      induction ls with
      | nil => intro h; simp at h
      | cons y l ih =>
        intro h
        rw [posN]
        by_cases hy : (y == s) = true
        · exact ⟨0, if_pos hy⟩
        · rw [if_neg hy]
          rw [List.contains_cons, Bool.or_eq_true] at h
          rcases h with h | h
          · exact absurd (by rw [eq_of_beq h]; exact beq_self_eq_true _) hy
          · obtain ⟨k, hk⟩ := ih h
            exact ⟨k + 1, by rw [hk]; rfl⟩
    obtain ⟨k, hk⟩ := this ls h
    unfold posI
    rw [hk]
    exact decide_eq_true (by simp)
set_option linter.unusedVariables false in
set_option linter.unusedSimpArgs false in
set_option maxRecDepth 100000 in
set_option maxHeartbeats 16000000 in
theorem scontains_any (A : Option Addr) (n c : Nat) (ls : List (List UInt8)) (s : List UInt8) (w : World) (hl : Sle stf 1 w A n c ls) (hm : n ≤ 100000) : Calls Tryd.prog 77 #[.slice A n c, .string ⟨s.toArray⟩] w fun e w' => e = .returned (.bool (ls.contains s)) ∧ w = w' := by
  have bel := Below.refl w.heap.size w
  go_enter Tryd.func77, Tryd.ntmps77
  go_wp2_with fail
  with_reducible refine (sindex_any _ _ _ ls s _ hl hm).mono ?_
  rintro e _ ⟨rfl, rfl⟩
  have hps := posI_has ls s
  obtain ⟨b, hb⟩ : ∃ b, ls.contains s = b := ⟨_, rfl⟩
  rw [hb] at hps
  have HP := Lib.hid hb
  generalize posI ls s = p at hps ⊢
  clear hb
  rcases b with _ | _
  · go_wp2_with fail
    go_ret
    exact ⟨by rw [HP.out]; rfl, rfl⟩
  · have hp : 0 ≤ p := of_decide_eq_true hps
    go_wp2_with fail
    go_ret
    exact ⟨by rw [HP.out]; rfl, rfl⟩
set_option maxRecDepth 100000 in
set_option maxHeartbeats 16000000 in
theorem within_any (v lo hi : Int) (w : World) : Calls Tryd.prog 60 #[.int .i64 v, .int .i64 lo, .int .i64 hi] w fun e w' => e = .returned (.bool (inI v lo hi)) ∧ w = w' := by
  unfold inI
  skip
  go_enter Tryd.func60, Tryd.ntmps60
  by_cases h0 : lo ≤ v
  · rw [decide_eq_true h0, Bool.true_and]
    by_cases h1 : v ≤ hi
    · rw [decide_eq_true h1]
      go_wp2_with fail
      go_ret
      exact ⟨rfl, rfl⟩
    · have h2 : decide (v ≤ hi) = false := decide_eq_false h1
      rw [h2]
      clear h1
      go_wp2_with fail
      go_ret
      exact ⟨rfl, rfl⟩
  · have h2 : decide (lo ≤ v) = false := decide_eq_false h0
    rw [h2, Bool.false_and]
    clear h0
    go_wp2_with fail
    go_ret
    exact ⟨rfl, rfl⟩
theorem group_is (m : Mc6) : isGroup m.l = (((m.a.toNat % 2 : Nat) : Int) == 1) := by
  unfold isGroup Mc6.l
  rw [Bool.eq_iff_iff, decide_eq_true_eq, beq_iff_eq, Int.natCast_emod]
  rfl
theorem u8_and1 (x : UInt8) : bits .and .u8 (x.toNat : Int) 1 = ((x.toNat % 2 : Nat) : Int) := by
  have : ∀ x : Fin 256, bits .and .u8 (x.val : Int) 1 = ((x.val % 2 : Nat) : Int) := by decide +kernel
  exact this ⟨x.toNat, x.toNat_lt⟩
set_option linter.unusedVariables false in
set_option linter.unusedSimpArgs false in
set_option maxRecDepth 100000 in
set_option maxHeartbeats 16000000 in
theorem isGroup_any (m : Mc6) (w : World) : Calls Tryd.prog 62 #[.agg #[.int .u8 (m.a.toNat : Int), .int .u8 (m.b.toNat : Int), .int .u8 (m.c.toNat : Int), .int .u8 (m.d.toNat : Int), .int .u8 (m.e.toNat : Int), .int .u8 (m.f.toNat : Int)]] w fun e w' => e = .returned (.bool (isGroup m.l)) ∧ Below w.heap.size w w' := by
  have e1 := u8_and1 m.a
  have HP : Hid (isGroup m.l = (((m.a.toNat % 2 : Nat) : Int) == 1)) := Lib.hid (group_is m)
  have bel := Below.refl w.heap.size w
  go_enter Tryd.func62, Tryd.ntmps62
  go_wp2_with (first | ((with_reducible show wpList _ _ _ (⟨some 1, _, _, _, _, _⟩ :: _) _ _); refine wpList_box_n rfl 28 (.tmp 0) rfl #[.int .u8 (m.a.toNat : Int), .int .u8 (m.b.toNat : Int), .int .u8 (m.c.toNat : Int), .int .u8 (m.d.toNat : Int), .int .u8 (m.e.toNat : Int), .int .u8 (m.f.toNat : Int)] rfl ?_; intro g1 w1 ge lt hh bb; have op := Nat.le_trans bel.size ge; replace bel := bel.trans (bb.mono bel.size); have hp := hh; clear hh lt ge bb; have R4 := cell_lit hp 0 _ rfl))
  try clear R4
  go_ret
  exact ⟨by rw [HP.out]; rfl, bel⟩
open Go.RowKit

/-- A network's address and bits, as far as they are read; whether they are. -/
def nwK (l : List UInt8) : Bool := match cut1 47 l with
  | some (x, y) => p4ok x && decOk y
  | none => false
def nwO (l : List UInt8) : Ad4 := match cut1 47 l with
  | some (x, _) => p4 x
  | none => ⟨0, 0, 0, 0⟩
def nwB (l : List UInt8) : Int := match cut1 47 l with
  | some (x, y) => if p4ok x = true then decV y else 0
  | none => 0
theorem p4_no {l : List UInt8} (h : p4ok l = false) : p4 l = ⟨0, 0, 0, 0⟩ := by
  unfold p4ok at h
  unfold p4
  cases hp : parse4 l with
  | none => rfl
  | some x => rw [hp] at h; cases h
theorem mcl_no {l : List UInt8} (h : mcok l = false) : mcl l = ⟨0, 0, 0, 0, 0, 0⟩ := if_neg (of_decide_eq_false h)
theorem cut1_len {b : UInt8} : ∀ {l x y : List UInt8}, cut1 b l = some (x, y) → x.length + y.length + 1 = l.length
  | [], x, y, h => by simp [cut1] at h
  | c :: l, x, y, h => by
    rw [cut1] at h
    split at h
    · simp only [Option.some.injEq, Prod.mk.injEq] at h
      obtain ⟨rfl, rfl⟩ := h
      simp
    · cases hc : cut1 b l with
      | none => rw [hc] at h; simp at h
      | some z =>
        rw [hc] at h
        simp only [Option.map_some, Option.some.injEq, Prod.mk.injEq] at h
        obtain ⟨rfl, rfl⟩ := h
        have := cut1_len (x := z.1) (y := z.2) hc
        simp only [List.length_cons]
        omega
theorem errI_is (b : Bool) : (errI b == 0) = b := by cases b <;> rfl
/-- What readAny answers. -/
def anyV (l : List UInt8) : Value :=
  if decOk l = true then .iface 3 (.int .i64 (decV l)) else
  if p4ok l = true then .iface 24 (.agg #[.int .u8 ((p4 l).a.toNat : Int), .int .u8 ((p4 l).b.toNat : Int), .int .u8 ((p4 l).c.toNat : Int), .int .u8 ((p4 l).d.toNat : Int)]) else
  if mcok l = true then .iface 28 (.agg #[.int .u8 ((mcl l).a.toNat : Int), .int .u8 ((mcl l).b.toNat : Int), .int .u8 ((mcl l).c.toNat : Int), .int .u8 ((mcl l).d.toNat : Int), .int .u8 ((mcl l).e.toNat : Int), .int .u8 ((mcl l).f.toNat : Int)]) else .nilIface
theorem numGo_digits : ∀ {l : List UInt8} {v n : Nat}, numGo l v = some n → ∀ c ∈ l, 48 ≤ c.toNat ∧ c.toNat ≤ 57
  | [], _, _, _ => by simp
  | c :: l, v, n, h => by
    rw [numGo] at h
    split at h
    · cases h
    · intro d hd
      rcases List.mem_cons.1 hd with rfl | hd
      · omega
      · exact numGo_digits h d hd
theorem decOk_spec {l : List UInt8} (h : decOk l = true) : l.length ≤ 9 ∧ 1 ≤ l.length ∧ ∀ c ∈ l, 48 ≤ c.toNat ∧ c.toNat ≤ 57 := by
  have h0 := of_decide_eq_true h
  by_cases hs : l.length < 1 ∨ 9 < l.length ∨ (1 < l.length ∧ l[0]? = some 48)
  · rw [numI_shape _ hs] at h0; omega
  · refine ⟨by omega, by omega, ?_⟩
    cases hg : numGo l 0 with
    | none => rw [numI_none _ hg] at h0; omega
    | some n => exact numGo_digits hg
theorem p4ok_len {l : List UInt8} (h : p4ok l = true) : l.length ≤ 15 ∧ ∃ a b c d, cutF 46 l = [a, b, c, d] := by
  unfold p4ok parse4 at h
  split at h
  · cases h
  · rename_i h15
    refine ⟨by omega, ?_⟩
    split at h
    · rename_i a b c d hc; exact ⟨a, b, c, d, hc⟩
    · cases h
theorem dec_p4 {l : List UInt8} (h : decOk l = true) : p4ok l = false := by
  cases hp : p4ok l with
  | false => rfl
  | true =>
    obtain ⟨_, a, b, c, d, hc⟩ := p4ok_len hp
    rw [cut_none 46 l (fun x hx e => by have := (decOk_spec h).2.2 x hx; rw [e] at this; simp at this)] at hc
    simp at hc
theorem dec_mc {l : List UInt8} (h : decOk l = true) : mcok l = false := by
  cases hp : mcok l with
  | false => rfl
  | true => have h1 := (of_decide_eq_true hp).1; have := (decOk_spec h).1; omega
theorem p4_mc {l : List UInt8} (h : p4ok l = true) : mcok l = false := by
  cases hp : mcok l with
  | false => rfl
  | true => have h1 := (of_decide_eq_true hp).1; have := (p4ok_len h).1; omega
theorem tas_ii (v : Value) (W : World) : (Instr.typeAssert (.iface 3 v) 20 3 true).run Tryd.prog W = .ok (.tuple #[v, .bool true]) W := by kernel_rfl
theorem tas_ia (v : Value) (W : World) : (Instr.typeAssert (.iface 3 v) 20 24 true).run Tryd.prog W = .ok (.tuple #[.agg #[.int .u8 0, .int .u8 0, .int .u8 0, .int .u8 0], .bool false]) W := by kernel_rfl
theorem tas_im (v : Value) (W : World) : (Instr.typeAssert (.iface 3 v) 20 28 true).run Tryd.prog W = .ok (.tuple #[.agg #[.int .u8 0, .int .u8 0, .int .u8 0, .int .u8 0, .int .u8 0, .int .u8 0], .bool false]) W := by kernel_rfl
theorem tas_ai (v : Value) (W : World) : (Instr.typeAssert (.iface 24 v) 20 3 true).run Tryd.prog W = .ok (.tuple #[.int .i64 0, .bool false]) W := by kernel_rfl
theorem tas_aa (v : Value) (W : World) : (Instr.typeAssert (.iface 24 v) 20 24 true).run Tryd.prog W = .ok (.tuple #[v, .bool true]) W := by kernel_rfl
theorem tas_am (v : Value) (W : World) : (Instr.typeAssert (.iface 24 v) 20 28 true).run Tryd.prog W = .ok (.tuple #[.agg #[.int .u8 0, .int .u8 0, .int .u8 0, .int .u8 0, .int .u8 0, .int .u8 0], .bool false]) W := by kernel_rfl
theorem tas_mi (v : Value) (W : World) : (Instr.typeAssert (.iface 28 v) 20 3 true).run Tryd.prog W = .ok (.tuple #[.int .i64 0, .bool false]) W := by kernel_rfl
theorem tas_ma (v : Value) (W : World) : (Instr.typeAssert (.iface 28 v) 20 24 true).run Tryd.prog W = .ok (.tuple #[.agg #[.int .u8 0, .int .u8 0, .int .u8 0, .int .u8 0], .bool false]) W := by kernel_rfl
theorem tas_mm (v : Value) (W : World) : (Instr.typeAssert (.iface 28 v) 20 28 true).run Tryd.prog W = .ok (.tuple #[v, .bool true]) W := by kernel_rfl
theorem tas_ni (W : World) : (Instr.typeAssert .nilIface 20 3 true).run Tryd.prog W = .ok (.tuple #[.int .i64 0, .bool false]) W := by kernel_rfl
theorem tas_na (W : World) : (Instr.typeAssert .nilIface 20 24 true).run Tryd.prog W = .ok (.tuple #[.agg #[.int .u8 0, .int .u8 0, .int .u8 0, .int .u8 0], .bool false]) W := by kernel_rfl
theorem tas_nm (W : World) : (Instr.typeAssert .nilIface 20 28 true).run Tryd.prog W = .ok (.tuple #[.agg #[.int .u8 0, .int .u8 0, .int .u8 0, .int .u8 0, .int .u8 0, .int .u8 0], .bool false]) W := by kernel_rfl
theorem ta_int (l : List UInt8) (W : World) : (Instr.typeAssert (anyV l) 20 3 true).run Tryd.prog W = .ok (.tuple #[.int .i64 (decV l), .bool (decOk l)]) W := by
  unfold anyV
  cases hd : decOk l with
  | true => exact tas_ii _ W
  | false =>
    have hv : decV l = 0 := by unfold decV; rw [if_neg (of_decide_eq_false hd)]
    rw [hv, if_neg (by decide)]
    split
    · exact tas_ai _ W
    · split
      · exact tas_mi _ W
      · exact tas_ni W
theorem ta_ad (l : List UInt8) (W : World) : (Instr.typeAssert (anyV l) 20 24 true).run Tryd.prog W = .ok (.tuple #[.agg #[.int .u8 ((p4 l).a.toNat : Int), .int .u8 ((p4 l).b.toNat : Int), .int .u8 ((p4 l).c.toNat : Int), .int .u8 ((p4 l).d.toNat : Int)], .bool (p4ok l)]) W := by
  unfold anyV
  cases hp : p4ok l with
  | true =>
    have hd : decOk l = false := by
      cases hd : decOk l with
      | false => rfl
      | true => rw [dec_p4 hd] at hp; cases hp
    rw [hd, if_neg (by decide), if_pos rfl]
    exact tas_aa _ W
  | false =>
    rw [p4_no hp]
    split
    · exact tas_ia _ W
    · rw [if_neg (by decide)]
      split
      · exact tas_ma _ W
      · exact tas_na W
theorem ta_mc (l : List UInt8) (W : World) : (Instr.typeAssert (anyV l) 20 28 true).run Tryd.prog W = .ok (.tuple #[.agg #[.int .u8 ((mcl l).a.toNat : Int), .int .u8 ((mcl l).b.toNat : Int), .int .u8 ((mcl l).c.toNat : Int), .int .u8 ((mcl l).d.toNat : Int), .int .u8 ((mcl l).e.toNat : Int), .int .u8 ((mcl l).f.toNat : Int)], .bool (mcok l)]) W := by
  unfold anyV
  cases hm : mcok l with
  | true =>
    have hd : decOk l = false := by
      cases hd : decOk l with
      | false => rfl
      | true => rw [dec_mc hd] at hm; cases hm
    have hp : p4ok l = false := by
      cases hp : p4ok l with
      | false => rfl
      | true => rw [p4_mc hp] at hm; cases hm
    rw [hd, hp, if_neg (by decide), if_neg (by decide), if_pos rfl]
    exact tas_mm _ W
  | false =>
    rw [mcl_no hm]
    split
    · exact tas_im _ W
    · split
      · exact tas_am _ W
      · rw [if_neg (by decide)]
        exact tas_nm W
set_option linter.unusedVariables false in
set_option linter.unusedSimpArgs false in
set_option maxRecDepth 100000 in
set_option maxHeartbeats 16000000 in
theorem readNetwork_any (l : List UInt8) (w : World) (hlen : l.length ≤ 100000) : Calls Tryd.prog 85 #[.string ⟨l.toArray⟩] w fun e w' => e = .returned (.tuple #[.agg #[.int .u8 ((nwO l).a.toNat : Int), .int .u8 ((nwO l).b.toNat : Int), .int .u8 ((nwO l).c.toNat : Int), .int .u8 ((nwO l).d.toNat : Int), .int .i64 (nwB l)], .bool (nwK l)]) ∧ Below w.heap.size w w' := by
  have bel := Below.refl w.heap.size w
  go_enter Tryd.func85, Tryd.ntmps85
  rcases hc : cut1 47 l with _ | ⟨x, y⟩
  · have hcv : cutV 47 l = .tuple #[.string ⟨#[]⟩, .string ⟨#[]⟩, .bool false] := by unfold cutV; rw [hc]
    have HO : Hid (nwO l = ⟨0, 0, 0, 0⟩) := Lib.hid (by unfold nwO; rw [hc])
    have HB : Hid (nwB l = 0) := Lib.hid (by unfold nwB; rw [hc])
    have HK : Hid (nwK l = false) := Lib.hid (by unfold nwK; rw [hc])
    clear hc
    go_wp2_with (first | ((with_reducible show wpList _ _ _ (⟨some 2, _, _, _, _, _⟩ :: _) _ _); refine wpList_new_a rfl 132 rfl #[.int .u8 0, .int .u8 0, .int .u8 0, .int .u8 0, .int .i64 0] (by kernel_rfl) ?_; intro g2 w1 ge hh bb; have on := Nat.le_trans bel.size ge; replace bel := bel.trans (bb.mono bel.size); have hn := hh; clear hh ge bb))
    with_reducible refine (ccut_any 47 47 rfl (by decide) l _ hlen).mono ?_
    rintro e w2 ⟨rfl, b2⟩
    replace hn := blk_u hn b2
    replace bel := bel.trans (b2.mono bel.size)
    clear b2
    rw [hcv]
    go_wp2_with (first | ((with_reducible show wpList _ _ _ (⟨none, Op.store _ (.tmp 2) _, _, _, _, _⟩ :: _) _ _); refine wpList_store_blk rfl 132 (.tmp 2) (.tmp 18) rfl g2 rfl _ rfl _ 132 hn (by rfl) (by kernel_rfl) (by kernel_rfl) ?_; intro w3 hq gr; replace bel := below_grown bel gr on bel.size; clear hn; have hn := hq; clear hq gr))
    exact bodyPost_ret (results_cell_tmp_row rfl _ _ _ _ _ _ _ rfl hn Tryd.underlying132 rfl (by kernel_rfl) (.bool false) rfl) rfl ⟨by rw [HO.out, HB.out, HK.out]; rfl, bel⟩
  · have hcv : cutV 47 l = .tuple #[.string ⟨x.toArray⟩, .string ⟨y.toArray⟩, .bool true] := by unfold cutV; rw [hc]
    have hxl : x.length ≤ 100000 := by have := cut1_len hc; omega
    have HO : Hid (nwO l = p4 x) := Lib.hid (by unfold nwO; rw [hc])
    have HB : Hid (nwB l = if p4ok x = true then decV y else 0) := Lib.hid (by unfold nwB; rw [hc])
    have HK : Hid (nwK l = (p4ok x && decOk y)) := Lib.hid (by unfold nwK; rw [hc])
    clear hc
    go_wp2_with (first | ((with_reducible show wpList _ _ _ (⟨some 2, _, _, _, _, _⟩ :: _) _ _); refine wpList_new_a rfl 132 rfl #[.int .u8 0, .int .u8 0, .int .u8 0, .int .u8 0, .int .i64 0] (by kernel_rfl) ?_; intro g2 w1 ge hh bb; have on := Nat.le_trans bel.size ge; replace bel := bel.trans (bb.mono bel.size); have hn := hh; clear hh ge bb))
    with_reducible refine (ccut_any 47 47 rfl (by decide) l _ hlen).mono ?_
    rintro e w2 ⟨rfl, b2⟩
    replace hn := blk_u hn b2
    replace bel := bel.trans (b2.mono bel.size)
    clear b2
    rw [hcv]
    rcases hp : p4ok x with _ | _
    · have HP0 := Lib.hid (p4_no hp)
      rw [hp] at HB HK
      go_wp2_with fail
      with_reducible refine (aparse_l x _ (hxl)).mono ?_
      rintro e w3 ⟨rfl, b3⟩
      replace hn := blk_u hn b3
      replace bel := bel.trans (b3.mono bel.size)
      clear b3
      rw [hp, show errI false = 9 from rfl]
      go_wp2_with (first | ((with_reducible show wpList _ _ _ (⟨some 7, _, _, _, _, _⟩ :: _) _ _); refine wpList_new_a rfl 24 rfl #[.int .u8 0, .int .u8 0, .int .u8 0, .int .u8 0] (by kernel_rfl) ?_; intro g7 w4 ge hh bb; have d_n_a := ne_new (hlt hn) ge; have oa := Nat.le_trans bel.size ge; replace hn := blk_u hn bb; replace bel := bel.trans (bb.mono bel.size); have ha := hh; clear hh ge bb) | ((with_reducible show wpList _ _ _ (⟨none, Op.store _ (.tmp 7) _, _, _, _, _⟩ :: _) _ _); refine wpList_store_blk rfl 24 (.tmp 7) (.tmp 22) rfl g7 rfl _ rfl _ 24 ha (by rfl) (by kernel_rfl) (by kernel_rfl) ?_; intro w5 hq gr; replace hn := blk_a hn gr d_n_a; replace bel := below_grown bel gr oa bel.size; clear ha; have ha := hq; clear hq gr) | ((with_reducible show wpList _ _ _ (⟨none, Op.store _ (.tmp 2) _, _, _, _, _⟩ :: _) _ _); refine wpList_store_blk rfl 132 (.tmp 2) (.tmp 26) rfl g2 rfl _ rfl _ 132 hn (by rfl) (by kernel_rfl) (by kernel_rfl) ?_; intro w6 hq gr; replace ha := blk_a ha gr (ne_symm d_n_a); replace bel := below_grown bel gr on bel.size; clear hn; have hn := hq; clear hq gr))
      exact bodyPost_ret (results_cell_tmp_row rfl _ _ _ _ _ _ _ rfl hn Tryd.underlying132 rfl (by kernel_rfl) (.bool false) rfl) rfl ⟨by rw [HO.out, HB.out, HK.out, HP0.out]; rfl, bel⟩
    · rw [hp] at HB HK
      go_wp2_with fail
      with_reducible refine (aparse_l x _ (hxl)).mono ?_
      rintro e w3 ⟨rfl, b3⟩
      replace hn := blk_u hn b3
      replace bel := bel.trans (b3.mono bel.size)
      clear b3
      rw [hp, show errI true = 0 from rfl]
      go_wp2_with (first | ((with_reducible show wpList _ _ _ (⟨some 7, _, _, _, _, _⟩ :: _) _ _); refine wpList_new_a rfl 24 rfl #[.int .u8 0, .int .u8 0, .int .u8 0, .int .u8 0] (by kernel_rfl) ?_; intro g7 w4 ge hh bb; have d_n_a := ne_new (hlt hn) ge; have oa := Nat.le_trans bel.size ge; replace hn := blk_u hn bb; replace bel := bel.trans (bb.mono bel.size); have ha := hh; clear hh ge bb) | ((with_reducible show wpList _ _ _ (⟨none, Op.store _ (.tmp 7) _, _, _, _, _⟩ :: _) _ _); refine wpList_store_blk rfl 24 (.tmp 7) (.tmp 22) rfl g7 rfl _ rfl _ 24 ha (by rfl) (by kernel_rfl) (by kernel_rfl) ?_; intro w5 hq gr; replace hn := blk_a hn gr d_n_a; replace bel := below_grown bel gr oa bel.size; clear ha; have ha := hq; clear hq gr))
      with_reducible refine (cdecimal_any y _).mono ?_
      rintro e w6 ⟨rfl, b6⟩
      replace hn := blk_u hn b6
      replace ha := blk_u ha b6
      replace bel := bel.trans (b6.mono bel.size)
      clear b6
      have R32 := Lib.hid (range_lit ha 0 4 [.int .u8 ((p4 x).a.toNat : Int), .int .u8 ((p4 x).b.toNat : Int), .int .u8 ((p4 x).c.toNat : Int), .int .u8 ((p4 x).d.toNat : Int)] rfl)
      go_wp2_with (first | ((with_reducible show wpList _ _ _ (⟨some 32, _, _, _, _, _⟩ :: _) _ _); refine wpList_load_rng 24 (.tmp 7) rfl (by kernel_rfl) _ _ rfl _ R32.out _ Tryd.underlying24 rfl (by kernel_rfl) ?_) | ((with_reducible show wpList _ _ _ (⟨none, Op.store _ (.tmp 2) _, _, _, _, _⟩ :: _) _ _); refine wpList_store_blk rfl 132 (.tmp 2) (.tmp 34) rfl g2 rfl _ rfl _ 132 hn (by rfl) (by kernel_rfl) (by kernel_rfl) ?_; intro w7 hq gr; replace ha := blk_a ha gr (ne_symm d_n_a); replace bel := below_grown bel gr on bel.size; clear hn; have hn := hq; clear hq gr))
      try clear R32
      exact bodyPost_ret (results_cell_tmp_row rfl _ _ _ _ _ _ _ rfl hn Tryd.underlying132 rfl (by kernel_rfl) (.bool (decOk y)) rfl) rfl ⟨by rw [HO.out, HB.out, HK.out]; rfl, bel⟩
set_option linter.unusedVariables false in
set_option linter.unusedSimpArgs false in
set_option maxRecDepth 100000 in
set_option maxHeartbeats 16000000 in
theorem read0_any (l : List UInt8) (w : World) (hlen : l.length ≤ 100000) : Calls Tryd.prog 75 #[.int .i64 0, .string ⟨l.toArray⟩] w fun e w' => e = .returned (.tuple #[.iface 3 (.int .i64 (decV l)), .bool (decOk l)]) ∧ Below w.heap.size w w' := by
  have mi := fun (T : TypeId) (h : Tryd.prog.concrete T = true) (x : Value) (W : World) => run_makeInterface (P := Tryd.prog) (w := W) T x h
  have mi_int := mi 3 (by kernel_rfl)
  have mi_ad := mi 24 (by kernel_rfl)
  have mi_mc := mi 28 (by kernel_rfl)
  have mi_nw := mi 132 (by kernel_rfl)
  clear mi
  have bel := Below.refl w.heap.size w
  go_enter Tryd.func75, Tryd.ntmps75
  go_wp2_with fail
  with_reducible refine (cdecimal_any l _).mono ?_
  rintro e w1 ⟨rfl, b1⟩
  replace bel := bel.trans (b1.mono bel.size)
  clear b1
  go_wp2_with fail
  exact bodyPost_ret (v := .tuple #[.iface 3 (.int .i64 (decV l)), .bool (decOk l)]) (by simp [results, Tryd.results75, go_sem]) rfl ⟨rfl, bel⟩
set_option linter.unusedVariables false in
set_option linter.unusedSimpArgs false in
set_option maxRecDepth 100000 in
set_option maxHeartbeats 16000000 in
theorem read1_any (l : List UInt8) (w : World) (hlen : l.length ≤ 100000) : Calls Tryd.prog 75 #[.int .i64 1, .string ⟨l.toArray⟩] w fun e w' => e = .returned (.tuple #[.iface 24 (.agg #[.int .u8 ((p4 l).a.toNat : Int), .int .u8 ((p4 l).b.toNat : Int), .int .u8 ((p4 l).c.toNat : Int), .int .u8 ((p4 l).d.toNat : Int)]), .bool (p4ok l)]) ∧ Below w.heap.size w w' := by
  have mi := fun (T : TypeId) (h : Tryd.prog.concrete T = true) (x : Value) (W : World) => run_makeInterface (P := Tryd.prog) (w := W) T x h
  have mi_int := mi 3 (by kernel_rfl)
  have mi_ad := mi 24 (by kernel_rfl)
  have mi_mc := mi 28 (by kernel_rfl)
  have mi_nw := mi 132 (by kernel_rfl)
  clear mi
  have e1 := errI_is (p4ok l)
  have bel := Below.refl w.heap.size w
  go_enter Tryd.func75, Tryd.ntmps75
  go_wp2_with fail
  with_reducible refine (aparse_l l _ (hlen)).mono ?_
  rintro e w1 ⟨rfl, b1⟩
  replace bel := bel.trans (b1.mono bel.size)
  clear b1
  go_wp2_with (first | ((with_reducible show wpList _ _ _ (⟨some 6, _, _, _, _, _⟩ :: _) _ _); refine wpList_new_a rfl 24 rfl #[.int .u8 0, .int .u8 0, .int .u8 0, .int .u8 0] (by kernel_rfl) ?_; intro g6 w2 ge hh bb; have oa := Nat.le_trans bel.size ge; replace bel := bel.trans (bb.mono bel.size); have ha := hh; clear hh ge bb) | ((with_reducible show wpList _ _ _ (⟨none, Op.store _ (.tmp 6) _, _, _, _, _⟩ :: _) _ _); refine wpList_store_blk rfl 24 (.tmp 6) (.tmp 23) rfl g6 rfl _ rfl _ 24 ha (by rfl) (by kernel_rfl) (by kernel_rfl) ?_; intro w3 hq gr; replace bel := below_grown bel gr oa bel.size; clear ha; have ha := hq; clear hq gr; have R25 := Lib.hid (range_lit ha 0 4 [.int .u8 ((p4 l).a.toNat : Int), .int .u8 ((p4 l).b.toNat : Int), .int .u8 ((p4 l).c.toNat : Int), .int .u8 ((p4 l).d.toNat : Int)] rfl)) | ((with_reducible show wpList _ _ _ (⟨some 25, _, _, _, _, _⟩ :: _) _ _); refine wpList_load_rng 24 (.tmp 6) rfl (by kernel_rfl) _ _ rfl _ R25.out _ Tryd.underlying24 rfl (by kernel_rfl) ?_))
  try clear R25
  exact bodyPost_ret (v := .tuple #[.iface 24 (.agg #[.int .u8 ((p4 l).a.toNat : Int), .int .u8 ((p4 l).b.toNat : Int), .int .u8 ((p4 l).c.toNat : Int), .int .u8 ((p4 l).d.toNat : Int)]), .bool (p4ok l)]) (by simp [results, Tryd.results75, go_sem]) rfl ⟨rfl, bel⟩
set_option linter.unusedVariables false in
set_option linter.unusedSimpArgs false in
set_option maxRecDepth 100000 in
set_option maxHeartbeats 16000000 in
theorem read3_any (l : List UInt8) (w : World) (hlen : l.length ≤ 100000) : Calls Tryd.prog 75 #[.int .i64 3, .string ⟨l.toArray⟩] w fun e w' => e = .returned (.tuple #[.iface 28 (.agg #[.int .u8 ((mcl l).a.toNat : Int), .int .u8 ((mcl l).b.toNat : Int), .int .u8 ((mcl l).c.toNat : Int), .int .u8 ((mcl l).d.toNat : Int), .int .u8 ((mcl l).e.toNat : Int), .int .u8 ((mcl l).f.toNat : Int)]), .bool (mcok l)]) ∧ Below w.heap.size w w' := by
  have mi := fun (T : TypeId) (h : Tryd.prog.concrete T = true) (x : Value) (W : World) => run_makeInterface (P := Tryd.prog) (w := W) T x h
  have mi_int := mi 3 (by kernel_rfl)
  have mi_ad := mi 24 (by kernel_rfl)
  have mi_mc := mi 28 (by kernel_rfl)
  have mi_nw := mi 132 (by kernel_rfl)
  clear mi
  have e1 := errI_is (mcok l)
  have bel := Below.refl w.heap.size w
  go_enter Tryd.func75, Tryd.ntmps75
  go_wp2_with fail
  with_reducible refine (amac_l l _ (hlen)).mono ?_
  rintro e w1 ⟨rfl, b1⟩
  replace bel := bel.trans (b1.mono bel.size)
  clear b1
  go_wp2_with (first | ((with_reducible show wpList _ _ _ (⟨some 8, _, _, _, _, _⟩ :: _) _ _); refine wpList_new_a rfl 28 rfl #[.int .u8 0, .int .u8 0, .int .u8 0, .int .u8 0, .int .u8 0, .int .u8 0] (by kernel_rfl) ?_; intro g8 w2 ge hh bb; have om := Nat.le_trans bel.size ge; replace bel := bel.trans (bb.mono bel.size); have hm := hh; clear hh ge bb) | ((with_reducible show wpList _ _ _ (⟨none, Op.store _ (.tmp 8) _, _, _, _, _⟩ :: _) _ _); refine wpList_store_blk rfl 28 (.tmp 8) (.tmp 34) rfl g8 rfl _ rfl _ 28 hm (by rfl) (by kernel_rfl) (by kernel_rfl) ?_; intro w3 hq gr; replace bel := below_grown bel gr om bel.size; clear hm; have hm := hq; clear hq gr; have R36 := Lib.hid (range_lit hm 0 6 [.int .u8 ((mcl l).a.toNat : Int), .int .u8 ((mcl l).b.toNat : Int), .int .u8 ((mcl l).c.toNat : Int), .int .u8 ((mcl l).d.toNat : Int), .int .u8 ((mcl l).e.toNat : Int), .int .u8 ((mcl l).f.toNat : Int)] rfl)) | ((with_reducible show wpList _ _ _ (⟨some 36, _, _, _, _, _⟩ :: _) _ _); refine wpList_load_rng 28 (.tmp 8) rfl (by kernel_rfl) _ _ rfl _ R36.out _ Tryd.underlying28 rfl (by kernel_rfl) ?_))
  try clear R36
  exact bodyPost_ret (v := .tuple #[.iface 28 (.agg #[.int .u8 ((mcl l).a.toNat : Int), .int .u8 ((mcl l).b.toNat : Int), .int .u8 ((mcl l).c.toNat : Int), .int .u8 ((mcl l).d.toNat : Int), .int .u8 ((mcl l).e.toNat : Int), .int .u8 ((mcl l).f.toNat : Int)]), .bool (mcok l)]) (by simp [results, Tryd.results75, go_sem]) rfl ⟨rfl, bel⟩
set_option linter.unusedVariables false in
set_option linter.unusedSimpArgs false in
set_option maxRecDepth 100000 in
set_option maxHeartbeats 16000000 in
theorem read2_any (l : List UInt8) (w : World) (hlen : l.length ≤ 100000) : Calls Tryd.prog 75 #[.int .i64 2, .string ⟨l.toArray⟩] w fun e w' => e = .returned (.tuple #[.iface 132 (.agg #[.int .u8 ((nwO l).a.toNat : Int), .int .u8 ((nwO l).b.toNat : Int), .int .u8 ((nwO l).c.toNat : Int), .int .u8 ((nwO l).d.toNat : Int), .int .i64 (nwB l)]), .bool (nwK l)]) ∧ Below w.heap.size w w' := by
  have mi := fun (T : TypeId) (h : Tryd.prog.concrete T = true) (x : Value) (W : World) => run_makeInterface (P := Tryd.prog) (w := W) T x h
  have mi_int := mi 3 (by kernel_rfl)
  have mi_ad := mi 24 (by kernel_rfl)
  have mi_mc := mi 28 (by kernel_rfl)
  have mi_nw := mi 132 (by kernel_rfl)
  clear mi
  have bel := Below.refl w.heap.size w
  go_enter Tryd.func75, Tryd.ntmps75
  go_wp2_with fail
  with_reducible refine (readNetwork_any l _ hlen).mono ?_
  rintro e w1 ⟨rfl, b1⟩
  replace bel := bel.trans (b1.mono bel.size)
  clear b1
  go_wp2_with fail
  exact bodyPost_ret (v := .tuple #[.iface 132 (.agg #[.int .u8 ((nwO l).a.toNat : Int), .int .u8 ((nwO l).b.toNat : Int), .int .u8 ((nwO l).c.toNat : Int), .int .u8 ((nwO l).d.toNat : Int), .int .i64 (nwB l)]), .bool (nwK l)]) (by simp [results, Tryd.results75, go_sem]) rfl ⟨rfl, bel⟩
set_option linter.unusedVariables false in
set_option linter.unusedSimpArgs false in
set_option maxRecDepth 100000 in
set_option maxHeartbeats 16000000 in
theorem readAny_any (l : List UInt8) (w : World) (hlen : l.length ≤ 100000) : Calls Tryd.prog 72 #[.string ⟨l.toArray⟩] w fun e w' => e = .returned (anyV l) ∧ Below w.heap.size w w' := by
  have ix0 : ∀ W, (Instr.index 126 (.agg #[.int .i64 0, .int .i64 1, .int .i64 3]) (.int .i64 0)).run Tryd.prog W = .ok (.int .i64 0) W := fun W => by kernel_rfl
  have ix1 : ∀ W, (Instr.index 126 (.agg #[.int .i64 0, .int .i64 1, .int .i64 3]) (.int .i64 1)).run Tryd.prog W = .ok (.int .i64 1) W := fun W => by kernel_rfl
  have ix2 : ∀ W, (Instr.index 126 (.agg #[.int .i64 0, .int .i64 1, .int .i64 3]) (.int .i64 2)).run Tryd.prog W = .ok (.int .i64 3) W := fun W => by kernel_rfl
  have bel := Below.refl w.heap.size w
  go_enter Tryd.func72, Tryd.ntmps72
  go_wp2_with fail
  refine wp_loop_rounds 4 ?_
  rw [rounds_succ]
  rcases h0 : decOk l with _ | _
  · go_wp2_with fail
    with_reducible refine (read0_any l _ hlen).mono ?_
    rintro e w1 ⟨rfl, b1⟩
    replace bel := bel.trans (b1.mono bel.size)
    clear b1
    rw [h0]
    rcases h1 : p4ok l with _ | _
    · go_wp2_with fail
      rw [rounds_succ]
      go_wp2_with fail
      with_reducible refine (read1_any l _ hlen).mono ?_
      rintro e w2 ⟨rfl, b2⟩
      replace bel := bel.trans (b2.mono bel.size)
      clear b2
      rw [h1]
      rcases h3 : mcok l with _ | _
      · have HP : Hid (anyV l = .nilIface) := Lib.hid (by unfold anyV; rw [h0, h1, h3]; rfl)
        go_wp2_with fail
        rw [rounds_succ]
        go_wp2_with fail
        with_reducible refine (read3_any l _ hlen).mono ?_
        rintro e w3 ⟨rfl, b3⟩
        replace bel := bel.trans (b3.mono bel.size)
        clear b3
        rw [h3]
        go_wp2_with fail
        rw [rounds_succ]
        go_wp2_with fail
        go_ret
        exact ⟨by rw [HP.out]; rfl, bel⟩
      · have HP : Hid (anyV l = .iface 28 (.agg #[.int .u8 ((mcl l).a.toNat : Int), .int .u8 ((mcl l).b.toNat : Int), .int .u8 ((mcl l).c.toNat : Int), .int .u8 ((mcl l).d.toNat : Int), .int .u8 ((mcl l).e.toNat : Int), .int .u8 ((mcl l).f.toNat : Int)])) := Lib.hid (by unfold anyV; rw [h0, h1, h3]; rfl)
        go_wp2_with fail
        rw [rounds_succ]
        go_wp2_with fail
        with_reducible refine (read3_any l _ hlen).mono ?_
        rintro e w3 ⟨rfl, b3⟩
        replace bel := bel.trans (b3.mono bel.size)
        clear b3
        rw [h3]
        go_wp2_with fail
        go_ret
        exact ⟨by rw [HP.out]; rfl, bel⟩
    · have HP : Hid (anyV l = .iface 24 (.agg #[.int .u8 ((p4 l).a.toNat : Int), .int .u8 ((p4 l).b.toNat : Int), .int .u8 ((p4 l).c.toNat : Int), .int .u8 ((p4 l).d.toNat : Int)])) := Lib.hid (by unfold anyV; rw [h0, h1]; rfl)
      go_wp2_with fail
      rw [rounds_succ]
      go_wp2_with fail
      with_reducible refine (read1_any l _ hlen).mono ?_
      rintro e w2 ⟨rfl, b2⟩
      replace bel := bel.trans (b2.mono bel.size)
      clear b2
      rw [h1]
      go_wp2_with fail
      go_ret
      exact ⟨by rw [HP.out]; rfl, bel⟩
  · have HP : Hid (anyV l = .iface 3 (.int .i64 (decV l))) := Lib.hid (by unfold anyV; rw [h0]; rfl)
    go_wp2_with fail
    with_reducible refine (read0_any l _ hlen).mono ?_
    rintro e w1 ⟨rfl, b1⟩
    replace bel := bel.trans (b1.mono bel.size)
    clear b1
    rw [h0]
    go_wp2_with fail
    go_ret
    exact ⟨by rw [HP.out]; rfl, bel⟩
open Go.RowKit

theorem ret_k {k : IntKind} {a b : Int} (h : a = b) : Ending.returned (.int k a) = .returned (.int k b) := by rw [h]
theorem idx4 (x0 x1 x2 x3 : Value) (W : World) : (Instr.index 24 (.agg #[x0, x1, x2, x3]) (.int .i64 0)).run Tryd.prog W = .ok x0 W ∧ (Instr.index 24 (.agg #[x0, x1, x2, x3]) (.int .i64 1)).run Tryd.prog W = .ok x1 W ∧
    (Instr.index 24 (.agg #[x0, x1, x2, x3]) (.int .i64 2)).run Tryd.prog W = .ok x2 W ∧ (Instr.index 24 (.agg #[x0, x1, x2, x3]) (.int .i64 3)).run Tryd.prog W = .ok x3 W := by
  simp [Instr.index, run_underlying Tryd.underlying24, asIntOf, go_sem]

set_option maxRecDepth 100000 in
set_option maxHeartbeats 1000000 in
theorem anum_any (a b c d : UInt8) (w : World) : Calls Tryd.prog 17 #[.agg #[.int .u8 (a.toNat : Int), .int .u8 (b.toNat : Int), .int .u8 (c.toNat : Int), .int .u8 (d.toNat : Int)]] w fun e w' => e = .returned (.int .u32 (be [a, b, c, d])) ∧ Below w.heap.size w w' := by
  have bel := (Below.refl w.heap.size w).alloc (Nat.le_refl _) (.cells #[.int .u8 (a.toNat : Int), .int .u8 (b.toNat : Int), .int .u8 (c.toNat : Int), .int .u8 (d.toNat : Int)] 24)
  have i0 := fun W => (idx4 (.int .u8 (a.toNat : Int)) (.int .u8 (b.toNat : Int)) (.int .u8 (c.toNat : Int)) (.int .u8 (d.toNat : Int)) W).1
  have i1 := fun W => (idx4 (.int .u8 (a.toNat : Int)) (.int .u8 (b.toNat : Int)) (.int .u8 (c.toNat : Int)) (.int .u8 (d.toNat : Int)) W).2.1
  have i2 := fun W => (idx4 (.int .u8 (a.toNat : Int)) (.int .u8 (b.toNat : Int)) (.int .u8 (c.toNat : Int)) (.int .u8 (d.toNat : Int)) W).2.2.1
  have i3 := fun W => (idx4 (.int .u8 (a.toNat : Int)) (.int .u8 (b.toNat : Int)) (.int .u8 (c.toNat : Int)) (.int .u8 (d.toNat : Int)) W).2.2.2
  have ha := a.toNat_lt; have hb := b.toNat_lt; have hc := c.toNat_lt; have hd := d.toNat_lt
  have h1 := or_u32 0 a.toNat (by omega) (by omega)
  have h1' : bits .or .u32 0 (a.toNat : Int) = a.toNat := by simpa using h1
  obtain ⟨n2, e2⟩ : ∃ n, n = a.toNat * 256 + b.toNat := ⟨_, rfl⟩
  have h2 : bits .or .u32 ((a.toNat : Int) * 256) (b.toNat : Int) = (n2 : Int) := by rw [e2]; exact or_u32 a.toNat b.toNat (by omega) (by omega)
  have g2 : n2 < 65536 := by omega
  obtain ⟨n3, e3⟩ : ∃ n, n = n2 * 256 + c.toNat := ⟨_, rfl⟩
  have h3 : bits .or .u32 ((n2 : Int) * 256) (c.toNat : Int) = (n3 : Int) := by rw [e3]; exact or_u32 n2 c.toNat (by omega) (by omega)
  have g3 : n3 < 16777216 := by omega
  obtain ⟨n4, e4⟩ : ∃ n, n = n3 * 256 + d.toNat := ⟨_, rfl⟩
  have h4 : bits .or .u32 ((n3 : Int) * 256) (d.toNat : Int) = (n4 : Int) := by rw [e4]; exact or_u32 n3 d.toNat (by omega) (by omega)
  have e : Hid (n4 = be [a, b, c, d]) := Lib.hid (by simp [be, e4, e3, e2])
  clear e2 e3 e4
  have x0 : (0 : Int) ≤ a.toNat := by omega
  have x1 : (a.toNat : Int) < 256 := by omega
  have x2 : (0 : Int) ≤ b.toNat := by omega
  have x3 : (b.toNat : Int) < 256 := by omega
  have x4 : (0 : Int) ≤ c.toNat := by omega
  have x5 : (c.toNat : Int) < 256 := by omega
  have x6 : (0 : Int) ≤ d.toNat := by omega
  have x7 : (d.toNat : Int) < 256 := by omega
  have y0 : (0 : Int) ≤ n2 := by omega
  have y1 : (n2 : Int) < 65536 := by omega
  have y2 : (0 : Int) ≤ n3 := by omega
  have y3 : (n3 : Int) < 16777216 := by omega
  clear h1 ha hb hc hd g2 g3
  go_enter Tryd.func17, Tryd.ntmps17
  go_wp2
  refine wp_loop_rounds 5 ?_
  rw [rounds_succ]
  go_wp2_with fail
  rw [rounds_succ]
  go_wp2_with fail
  rw [rounds_succ]
  go_wp2_with fail
  rw [rounds_succ]
  go_wp2_with fail
  rw [rounds_succ]
  go_wp2
  go_ret
  exact ⟨ret_k (congrArg _ e.out), bel⟩

/-- The number of a net's ones. -/
def maskN (m : Nat) : Nat := 4294967296 - 2 ^ (32 - m)
theorem maskN_lt (m : Nat) : maskN m < 4294967296 := by have := Nat.two_pow_pos (32 - m); unfold maskN; omega
theorem mask_shl (m : Nat) (hm : m ≤ 32) : 4294967295 * (2 : Int) ^ (32 - m) % 4294967296 = (maskN m : Int) := by
  have h : ∀ k : Fin 33, 4294967295 * (2 : Int) ^ k.val % 4294967296 = ((4294967296 - 2 ^ k.val : Nat) : Int) := by decide +kernel
  exact h ⟨32 - m, by omega⟩
set_option maxRecDepth 100000 in
theorem amask_any (x0 x1 x2 x3 : Value) (bt : Int) (w : World) : Calls Tryd.prog 49 #[.agg #[x0, x1, x2, x3, .int .i64 bt]] w fun e w' => e = .returned (.int .u32 (maskN (clamp bt))) ∧ Below w.heap.size w w' := by
  have bel := (Below.refl w.heap.size w).alloc (Nat.le_refl _) (.cells #[x0, x1, x2, x3, .int .i64 bt] 26)
  by_cases h0 : bt < 0
  · have hc : clamp bt = 0 := if_pos h0
    rw [hc]; clear hc
    go_enter Tryd.func49, Tryd.ntmps49
    go_wp2
    go_ret
    exact ⟨rfl, bel⟩
  by_cases h1 : 32 < bt
  · have hc : clamp bt = 32 := by unfold clamp; rw [if_neg h0, if_pos h1]
    have b0 : 0 ≤ bt := by omega
    rw [hc]; clear hc h0
    go_enter Tryd.func49, Tryd.ntmps49
    go_wp2
    go_ret
    exact ⟨rfl, bel⟩
  · obtain ⟨m, rfl⟩ : ∃ m : Nat, bt = m := ⟨bt.toNat, by omega⟩
    have hc : clamp (m : Int) = m := by unfold clamp; rw [if_neg h0, if_neg h1]; omega
    have hm := mask_shl m (by omega)
    have he : (32 - (m : Int)).toNat = 32 - m := by omega
    have b0 : (0 : Int) ≤ m := by omega
    have b1 : (m : Int) ≤ 32 := by omega
    have b2 : decide (((m : Int)) < 0) = false := decide_eq_false h0
    have b3 : decide ((32 : Int) < m) = false := decide_eq_false h1
    rw [hc]
    generalize maskN m = k at *
    clear h0 h1 hc
    have HM := Lib.hid hm
    clear hm
    go_enter Tryd.func49, Tryd.ntmps49
    go_wp2
    go_ret
    exact ⟨ret_k HM.out, bel⟩

theorem aof_any (n : Nat) (w : World) (hn : n < 4294967296) : Calls Tryd.prog 48 #[.int .u32 (n : Int)] w fun e w' => e = .returned (adr n) ∧ Below w.heap.size w w' := by
  have n0 : (0 : Int) ≤ n := by omega
  have n1 : (n : Int) < 4294967296 := by omega
  go_enter Tryd.func48, Tryd.ntmps48
  go_wp2
  exact bodyPost_ret (v := adr n) (by simp [results, Tryd.results48, go_sem, adr]) rfl ⟨rfl, (Below.refl _ _).alloc (Nat.le_refl _) _⟩
end Go.Proofs.YtdfobilagidmfaaDoor
