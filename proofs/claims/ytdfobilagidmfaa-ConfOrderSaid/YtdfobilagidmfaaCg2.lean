/- conf's decimal, onlyWord, kindOf, protoOf, within, isGroup; slices.Index, Contains; addr's Parse, ParseMac on lists. -/
import Derived.Test.YtdfobilagidmfaaCg1
import Derived.Test.YtdfobilagidmfaaAdr5
import Derived.Test.YtdfobilagidmfaaCfz
namespace Go.Proofs.Ytdfobilagidmfaa
open Go.RowKit

/-- A number's value, and whether it is one; an address's, a MAC's. -/
def decOk (l : List UInt8) : Bool := decide (0 ≤ numI l 999999999)
def decV (l : List UInt8) : Int := if 0 ≤ numI l 999999999 then numI l 999999999 else 0
theorem dec_no {l : List UInt8} (h : numI l 999999999 = -1) : decV l = 0 ∧ decOk l = false := by unfold decV decOk; rw [h]; exact ⟨rfl, rfl⟩
theorem dec_yes {l : List UInt8} {n : Nat} (h : numI l 999999999 = n) : decV l = n ∧ decOk l = true := by
  unfold decV decOk; rw [h, if_pos (by omega), decide_eq_true (by omega)]; exact ⟨rfl, rfl⟩
theorem decV_range (l : List UInt8) : 0 ≤ decV l ∧ decV l ≤ 999999999 := by
  have := numI_range l 999999999
  unfold decV
  split <;> omega
def p4 (l : List UInt8) : Ad4 := match parse4 l with
  | some (a, b, c, d) => ⟨a, b, c, d⟩
  | none => ⟨0, 0, 0, 0⟩
def p4ok (l : List UInt8) : Bool := (parse4 l).isSome
def errI (b : Bool) : Int := if b then 0 else 9
theorem errI_range (b : Bool) : 0 ≤ errI b ∧ errI b ≤ 9 := by cases b <;> decide
theorem aparse_l (l : List UInt8) (w : World) (hl : l.length ≤ 100000) : Calls Try.prog 77 #[.string ⟨l.toArray⟩] w fun e w' => e = .returned (.tuple #[.agg #[.int .u8 ((p4 l).a.toNat : Int), .int .u8 ((p4 l).b.toNat : Int), .int .u8 ((p4 l).c.toNat : Int), .int .u8 ((p4 l).d.toNat : Int)], .int .i64 (errI (p4ok l))]) ∧ Below w.heap.size w w' := by
  refine (aparse_any ⟨l.toArray⟩ w (by rw [st_size]; omega)).mono fun e w' h => ?_
  unfold AParsePost at h
  change (match parse4 l with
   | none => e = .returned (.tuple #[addrV 0 0 0 0, .int .i64 9])
   | some (a, b, c, d) => e = .returned (.tuple #[addrV a b c d, .int .i64 0])) ∧ Below w.heap.size w w' at h
  unfold p4 p4ok
  cases hp : parse4 l with
  | none => rw [hp] at h; exact h
  | some x => obtain ⟨a, b, c, d⟩ := x; rw [hp] at h; exact h
instance (l : List UInt8) : Decidable (macOk l) := by unfold macOk; infer_instance
def mcok (l : List UInt8) : Bool := decide (macOk l)
def mcl (l : List UInt8) : Mc6 := if macOk l then ⟨byteOf (macB l 0), byteOf (macB l 1), byteOf (macB l 2), byteOf (macB l 3), byteOf (macB l 4), byteOf (macB l 5)⟩ else ⟨0, 0, 0, 0, 0, 0⟩
theorem macBs_six (l : List UInt8) : macBs l 6 = [byteOf (macB l 0), byteOf (macB l 1), byteOf (macB l 2), byteOf (macB l 3), byteOf (macB l 4), byteOf (macB l 5)] := by simp [macBs, List.range, List.range.loop]
theorem amac_l (l : List UInt8) (w : World) (hl : l.length ≤ 100000) : Calls Try.prog 78 #[.string ⟨l.toArray⟩] w fun e w' => e = .returned (.tuple #[.agg #[.int .u8 ((mcl l).a.toNat : Int), .int .u8 ((mcl l).b.toNat : Int), .int .u8 ((mcl l).c.toNat : Int), .int .u8 ((mcl l).d.toNat : Int), .int .u8 ((mcl l).e.toNat : Int), .int .u8 ((mcl l).f.toNat : Int)], .int .i64 (errI (mcok l))]) ∧ Below w.heap.size w w' := by
  refine (amac_any ⟨l.toArray⟩ w (by rw [st_size]; omega)).mono fun e w' h => ?_
  unfold AMacPost at h
  change (macOk l ∧ e = .returned (.tuple #[.agg ((macBs l 6).map u8v).toArray, .int .i64 0]) ∨ ¬ macOk l ∧ e = .returned (.tuple #[mac0, .int .i64 9])) ∧ Below w.heap.size w w' at h
  obtain ⟨h | h, hb⟩ := h
  · refine ⟨?_, hb⟩
    rw [h.2, macBs_six]
    unfold mcl mcok
    rw [if_pos h.1, decide_eq_true h.1]
    rfl
  · refine ⟨?_, hb⟩
    rw [h.2]
    unfold mcl mcok
    rw [if_neg h.1, decide_eq_false h.1]
    rfl
theorem onlyW_none {l : List UInt8} (h : (wordsL l).length ≠ 1) : onlyW l = none := by
  unfold onlyW
  split
  · rename_i hh; rw [hh] at h; exact absurd rfl h
  · rfl
theorem onlyW_some {l x : List UInt8} (h : (wordsL l).length = 1) (hx : (wordsL l)[0]? = some x) : onlyW l = some x := by
  obtain ⟨y, hy⟩ := List.length_eq_one_iff.1 h
  rw [hy] at hx
  unfold onlyW
  rw [hy]
  simpa using hx
set_option linter.unusedVariables false in
set_option linter.unusedSimpArgs false in
set_option maxRecDepth 100000 in
set_option maxHeartbeats 16000000 in
theorem cdecimal_any (l : List UInt8) (w : World) : Calls Try.prog 76 #[.string ⟨l.toArray⟩] w fun e w' => e = .returned (.tuple #[.int .i64 (decV l), .bool (decOk l)]) ∧ Below w.heap.size w w' := by
  have bel := Below.refl w.heap.size w
  go_enter Try.func76, Try.ntmps76
  by_cases h9 : 9 < l.length
  · have h9k : (9 : Int) < l.length := by omega
    have HP : Hid (decV l = 0 ∧ decOk l = false) := Lib.hid (dec_no (numI_shape _ (.inr (.inl h9))))
    have R9 := fun W => st_len l 3 W
    go_wp2_with fail
    clear R9
    exact bodyPost_ret (v := .tuple #[.int .i64 0, .bool false]) (by simp [results, Try.results76, go_sem]) rfl ⟨by rw [HP.out.1, HP.out.2], bel⟩
  · have h9k : decide ((9 : Int) < l.length) = false := decide_eq_false (by omega)
    have R9 := fun W => st_len l 3 W
    go_wp2_with (first | ((with_reducible show wpList _ _ _ (⟨some 12, _, _, _, _, _⟩ :: _) _ _); refine wpList_range_n rfl 9 (.tmp 11) rfl (by kernel_rfl) (l) rfl ?_; intro g12 w1 ge lt hh bb; have oit := Nat.le_trans bel.size ge; replace bel := bel.trans (bb.mono bel.size); have hit := hh; clear hh lt ge bb))
    try clear R9
    simp only [Act.put, List.setIfInBounds_toArray, List.set_cons_zero, List.set_cons_succ]
    go_loopg [4] (l.length + 1) (fun gk s4 wr => ∃ pos : Nat, ∃ n : Nat, gk = l.length + 1 - pos ∧ pos ≤ l.length ∧ Hid (DecInv l pos n) ∧ Hid (n < 10 ^ pos) ∧ s4 = .int .i64 (n : Int) ∧ wr.heap[g12]? = some (.stringIter ⟨(l).toArray⟩ (pos)) ∧ Below w.heap.size w wr)
    case atStart => exact ⟨0, 0, rfl, Nat.zero_le _, Lib.hid (dec_start _), Lib.hid (by decide), rfl, hit, bel⟩
    case round =>
      clear hit bel
      obtain ⟨pos, n, HGK, hp, HI, HN, rfl, hit, bel⟩ := hrel
      have HGK_ := Lib.hid HGK
      clear HGK
      by_cases hpl : pos < l.length
      · obtain ⟨r, k, c, hd, hc, hr, hk, hcase⟩ := dec_rune ⟨l.toArray⟩ pos (by rw [st_size]; exact hpl)
        replace hc : l[pos]? = some c := hc
        have HD := Lib.hid hd
        have HC := Lib.hid hc
        clear hd hc
        have r0 : (0 : Int) ≤ r := by omega
        have r1 : (r : Int) ≤ 1114111 := by omega
        have n0 : (0 : Int) ≤ n := by omega
        have n1 : (n : Int) ≤ 99999999 := pow_le9 HN.out (by omega)
        obtain ⟨ip, hip⟩ : ∃ ip : Int, ip = (pos : Int) := ⟨_, rfl⟩
        have HIP := Lib.hid hip
        have ip0 : 0 ≤ ip := by omega
        have ip9 : ip ≤ 9 := by omega
        clear hip
        by_cases hz : 0 < pos ∧ n = 0
        · have HP : Hid (decV l = 0 ∧ decOk l = false) := Lib.hid (dec_no (by have h := HI.out; rw [hz.2] at h; exact dec_zero h hz.1 HC.out _))
          have en : ((n : Int) == 0) = true := beq_iff_eq.2 (by omega)
          have ip1 : (0 : Int) < ip := by have := HIP.out; omega
          clear hcase hz hk hr
          go_wp2_with (first | ((with_reducible show wpList _ _ _ (⟨some 13, _, _, _, _, _⟩ :: _) _ _); refine wpList_next_n rfl (.tmp 12) rfl g12 rfl (l) (pos) hit (r) (k) (HD.out) (hpl) (ip) (HIP.out) ?_; intro w2 hq gr; replace bel := below_grown bel gr oit bel.size; clear hit; have hit := hq; clear hq gr))
          exact bodyPost_ret (v := .tuple #[.int .i64 0, .bool false]) (by simp [results, Try.results76, go_sem]) rfl ⟨by rw [HP.out.1, HP.out.2], bel⟩
        · have HZ := Lib.hid hz
          clear hz
          by_cases hp0 : pos = 0
          · have ip1 : decide ((0 : Int) < ip) = false := decide_eq_false (by have := HIP.out; omega)
            rcases hcase with ⟨hc1, hr1⟩ | ⟨hc1, hr1⟩ | ⟨hc1, hc2, hrc, hk1⟩
            · have HP : Hid (decV l = 0 ∧ decOk l = false) := Lib.hid (dec_no (dec_bad HI.out HC.out (.inl hc1) _))
              have t1 : (r : Int) < 48 := by omega
              clear hc1 hr1 hk hr
              go_wp2_with (first | ((with_reducible show wpList _ _ _ (⟨some 13, _, _, _, _, _⟩ :: _) _ _); refine wpList_next_n rfl (.tmp 12) rfl g12 rfl (l) (pos) hit (r) (k) (HD.out) (hpl) (ip) (HIP.out) ?_; intro w2 hq gr; replace bel := below_grown bel gr oit bel.size; clear hit; have hit := hq; clear hq gr))
              exact bodyPost_ret (v := .tuple #[.int .i64 0, .bool false]) (by simp [results, Try.results76, go_sem]) rfl ⟨by rw [HP.out.1, HP.out.2], bel⟩
            · have HP : Hid (decV l = 0 ∧ decOk l = false) := Lib.hid (dec_no (dec_bad HI.out HC.out (.inr hc1) _))
              have t1 : decide ((r : Int) < 48) = false := decide_eq_false (by omega)
              have t2 : (57 : Int) < r := by omega
              clear hc1 hr1 hk hr
              go_wp2_with (first | ((with_reducible show wpList _ _ _ (⟨some 13, _, _, _, _, _⟩ :: _) _ _); refine wpList_next_n rfl (.tmp 12) rfl g12 rfl (l) (pos) hit (r) (k) (HD.out) (hpl) (ip) (HIP.out) ?_; intro w2 hq gr; replace bel := below_grown bel gr oit bel.size; clear hit; have hit := hq; clear hq gr))
              exact bodyPost_ret (v := .tuple #[.int .i64 0, .bool false]) (by simp [results, Try.results76, go_sem]) rfl ⟨by rw [HP.out.1, HP.out.2], bel⟩
            · have t1 : decide ((r : Int) < 48) = false := decide_eq_false (by omega)
              have t2 : decide ((57 : Int) < r) = false := decide_eq_false (by omega)
              have q0 : (48 : Int) ≤ r := by omega
              have q1 : (r : Int) ≤ 57 := by omega
              have E1 : Hid (((10 * n + (c.toNat - 48) : Nat) : Int) = 10 * n + (r - 48)) := Lib.hid (by omega)
              have HS := Lib.hid (dec_step HI.out HC.out hc1 hc2 HZ.out)
              have HPW := Lib.hid (pow_next (d := c.toNat - 48) HN.out (by omega))
              have HK1 := Lib.hid hk1
              clear hc1 hc2 hrc hk1 hk hr
              go_wp2_with (first | ((with_reducible show wpList _ _ _ (⟨some 13, _, _, _, _, _⟩ :: _) _ _); refine wpList_next_n rfl (.tmp 12) rfl g12 rfl (l) (pos) hit (r) (k) (HD.out) (hpl) (ip) (HIP.out) ?_; intro w2 hq gr; replace bel := below_grown bel gr oit bel.size; clear hit; have hit := hq; clear hq gr))
              go_roundg (l.length + 1 - (pos + k))
              case measure => have := HGK_.out; have := HK1.out; omega
              case rel => exact ⟨pos + k, 10 * n + (c.toNat - 48), rfl, by have := HK1.out; omega, by rw [HK1.out]; exact HS, by rw [HK1.out]; exact HPW, by rw [E1.out], hit, bel⟩
          · have ip1 : (0 : Int) < ip := by have := HIP.out; omega
            have en : ((n : Int) == 0) = false := beq_eq_false_iff_ne.2 (by have := HZ.out; omega)
            rcases hcase with ⟨hc1, hr1⟩ | ⟨hc1, hr1⟩ | ⟨hc1, hc2, hrc, hk1⟩
            · have HP : Hid (decV l = 0 ∧ decOk l = false) := Lib.hid (dec_no (dec_bad HI.out HC.out (.inl hc1) _))
              have t1 : (r : Int) < 48 := by omega
              clear hc1 hr1 hk hr
              go_wp2_with (first | ((with_reducible show wpList _ _ _ (⟨some 13, _, _, _, _, _⟩ :: _) _ _); refine wpList_next_n rfl (.tmp 12) rfl g12 rfl (l) (pos) hit (r) (k) (HD.out) (hpl) (ip) (HIP.out) ?_; intro w2 hq gr; replace bel := below_grown bel gr oit bel.size; clear hit; have hit := hq; clear hq gr))
              exact bodyPost_ret (v := .tuple #[.int .i64 0, .bool false]) (by simp [results, Try.results76, go_sem]) rfl ⟨by rw [HP.out.1, HP.out.2], bel⟩
            · have HP : Hid (decV l = 0 ∧ decOk l = false) := Lib.hid (dec_no (dec_bad HI.out HC.out (.inr hc1) _))
              have t1 : decide ((r : Int) < 48) = false := decide_eq_false (by omega)
              have t2 : (57 : Int) < r := by omega
              clear hc1 hr1 hk hr
              go_wp2_with (first | ((with_reducible show wpList _ _ _ (⟨some 13, _, _, _, _, _⟩ :: _) _ _); refine wpList_next_n rfl (.tmp 12) rfl g12 rfl (l) (pos) hit (r) (k) (HD.out) (hpl) (ip) (HIP.out) ?_; intro w2 hq gr; replace bel := below_grown bel gr oit bel.size; clear hit; have hit := hq; clear hq gr))
              exact bodyPost_ret (v := .tuple #[.int .i64 0, .bool false]) (by simp [results, Try.results76, go_sem]) rfl ⟨by rw [HP.out.1, HP.out.2], bel⟩
            · have t1 : decide ((r : Int) < 48) = false := decide_eq_false (by omega)
              have t2 : decide ((57 : Int) < r) = false := decide_eq_false (by omega)
              have q0 : (48 : Int) ≤ r := by omega
              have q1 : (r : Int) ≤ 57 := by omega
              have E1 : Hid (((10 * n + (c.toNat - 48) : Nat) : Int) = 10 * n + (r - 48)) := Lib.hid (by omega)
              have HS := Lib.hid (dec_step HI.out HC.out hc1 hc2 HZ.out)
              have HPW := Lib.hid (pow_next (d := c.toNat - 48) HN.out (by omega))
              have HK1 := Lib.hid hk1
              clear hc1 hc2 hrc hk1 hk hr
              go_wp2_with (first | ((with_reducible show wpList _ _ _ (⟨some 13, _, _, _, _, _⟩ :: _) _ _); refine wpList_next_n rfl (.tmp 12) rfl g12 rfl (l) (pos) hit (r) (k) (HD.out) (hpl) (ip) (HIP.out) ?_; intro w2 hq gr; replace bel := below_grown bel gr oit bel.size; clear hit; have hit := hq; clear hq gr))
              go_roundg (l.length + 1 - (pos + k))
              case measure => have := HGK_.out; have := HK1.out; omega
              case rel => exact ⟨pos + k, 10 * n + (c.toNat - 48), rfl, by have := HK1.out; omega, by rw [HK1.out]; exact HS, by rw [HK1.out]; exact HPW, by rw [E1.out], hit, bel⟩
      · obtain rfl : pos = l.length := by omega
        have n0 : (0 : Int) ≤ n := by omega
        have n1 : (n : Int) ≤ 999999999 := by have := HN.out; have h_ : (10 : Nat) ^ l.length ≤ 10 ^ 9 := Nat.pow_le_pow_right (by omega) (by omega); omega
        by_cases hn : l = []
        · have e9 : (l == []) = true := by rw [hn]; rfl
          have HNN : Hid ((n : Int) = 0) := Lib.hid (by rcases HI.out.2 with h | h | h <;> simp [hn] at h <;> omega)
          have HP : Hid (decV l = 0 ∧ decOk l = false) := Lib.hid (dec_no (by rw [hn]; exact dec_none _))
          clear hn
          have R13 := fun ty => next_end (P := Try.prog) ty hit (hpl)
          go_wp2_with fail
          clear R13
          exact bodyPost_ret (v := .tuple #[.int .i64 (n : Int), .bool false]) (by simp [results, Try.results76, go_sem]) rfl ⟨by rw [HP.out.1, HP.out.2, HNN.out], bel⟩
        · have e9 : (l == []) = false := by simpa using hn
          have HP : Hid (decV l = n ∧ decOk l = true) := Lib.hid (dec_yes (dec_end9 HI.out (List.length_pos_iff.2 hn) (by omega) _ n1))
          clear hn
          have R13 := fun ty => next_end (P := Try.prog) ty hit (hpl)
          go_wp2_with fail
          clear R13
          exact bodyPost_ret (v := .tuple #[.int .i64 (n : Int), .bool true]) (by simp [results, Try.results76, go_sem]) rfl ⟨by rw [HP.out.1, HP.out.2], bel⟩
set_option linter.unusedVariables false in
set_option linter.unusedSimpArgs false in
set_option maxRecDepth 100000 in
set_option maxHeartbeats 16000000 in
theorem onlyWord_any (l : List UInt8) (w : World) (hlen : l.length ≤ 100000) : Calls Try.prog 38 #[.string ⟨l.toArray⟩] w fun e w' => e = .returned (.tuple #[.string ⟨((onlyW l).getD []).toArray⟩, .bool (onlyW l).isSome]) ∧ Below w.heap.size w w' := by
  have bel := Below.refl w.heap.size w
  go_enter Try.func38, Try.ntmps38
  go_wp2_with fail
  with_reducible refine (wordsOf_any l _ hlen).mono ?_
  rintro e w1 ⟨v, rfl, wtw, b1⟩
  have wtlo := bel.size
  have lz_wt := b1.size
  replace bel := bel.trans (b1.mono bel.size)
  clear b1
  obtain ⟨Awt, cwt, rfl⟩ := owk_val wtw
  have wt := (owk_sle (by decide) stf_len wtw).1
  have fr_wt := (owk_sle (by decide) stf_len wtw).2
  obtain ⟨ws, hws⟩ : ∃ ws, wordsL l = ws := ⟨_, rfl⟩
  obtain ⟨n, hn⟩ : ∃ n, ws.length = n := ⟨_, rfl⟩
  rw [hws, hn] at wt wtw fr_wt
  rw [hws, hn]
  have HWS := Lib.hid hws
  have HNN := Lib.hid hn
  have n0 : (0 : Int) ≤ n := by omega
  clear hws hn
  by_cases h1 : n = 1
  · obtain ⟨x, hx⟩ : ∃ x, ws[0]? = some x := ⟨_, List.getElem?_eq_getElem (by rw [HNN.out]; omega)⟩
    have HX := Lib.hid hx
    have HP : Hid (onlyW l = some x) := Lib.hid (onlyW_some (by rw [HWS.out, HNN.out]; exact h1) (by rw [HWS.out]; exact hx))
    clear hx
    obtain ⟨g, o, rfl⟩ := wt.place (by omega)
    have h1k : ((n : Int) == 1) = true := beq_iff_eq.2 (by omega)
    have h1j : ((n : Int) != 1) = false := by rw [bne, h1k]; rfl
    have n1 : (1 : Int) ≤ n := by omega
    have R12 := (by have h_ := Sle.st (i := 0) wt HX.out; rw [Nat.add_zero] at h_; exact h_)
    go_wp2_with fail
    clear R12
    exact bodyPost_ret (v := .tuple #[.string ⟨(x).toArray⟩, .bool true]) (by simp [results, Try.results38, go_sem]) rfl ⟨by rw [HP.out]; rfl, bel⟩
  · have HP : Hid (onlyW l = none) := Lib.hid (onlyW_none (by rw [HWS.out, HNN.out]; exact h1))
    have h1k : ((n : Int) == 1) = false := beq_eq_false_iff_ne.2 (by omega)
    have h1j : ((n : Int) != 1) = true := by rw [bne, h1k]; rfl
    go_wp2_with fail
    exact bodyPost_ret (v := .tuple #[.string ⟨#[]⟩, .bool false]) (by simp [results, Try.results38, go_sem]) rfl ⟨by rw [HP.out]; rfl, bel⟩
/-- A name's kind. -/
def kindK (s : List UInt8) : Option Nat :=
  if (s == [108, 97, 110]) = true then some 2 else
  if (s == [108, 97, 110, 109, 97, 99]) = true then some 3 else
  if (s == [119, 97, 110, 109, 97, 99]) = true then some 3 else
  if (s == [102, 105, 114, 115, 116]) = true then some 1 else
  if (s == [108, 97, 115, 116]) = true then some 1 else
  if (s == [100, 110, 115]) = true then some 1 else
  if (s == [116, 105, 109, 101]) = true then some 0 else
  if (s == [117, 100, 112, 116, 105, 109, 101]) = true then some 0 else
  if (s == [116, 99, 112, 116, 105, 109, 101]) = true then some 0 else
  if (s == [105, 99, 109, 112, 116, 105, 109, 101]) = true then some 0 else
  if (s == [108, 111, 119]) = true then some 0 else
  none
set_option linter.unusedVariables false in
set_option linter.unusedSimpArgs false in
set_option maxRecDepth 100000 in
set_option maxHeartbeats 16000000 in
theorem kindOf_any (s : List UInt8) (w : World) : Calls Try.prog 66 #[.string ⟨s.toArray⟩] w fun e w' => e = .returned (.tuple #[.int .i64 (((kindK s).getD 0 : Nat) : Int), .bool (kindK s).isSome]) ∧ w = w' := by
  skip
  go_enter Try.func66, Try.ntmps66
  rcases (by decide : ∀ b : Bool, b = true ∨ b = false) (s == [108, 97, 110]) with b0 | b0
  · have HP : Hid (kindK s = some 2) := Lib.hid (by unfold kindK; rw [if_pos b0])
    go_wp2_with fail
    exact bodyPost_ret (v := .tuple #[.int .i64 2, .bool true]) (by simp [results, Try.results66, go_sem]) rfl ⟨by rw [HP.out]; rfl, rfl⟩
  · rcases (by decide : ∀ b : Bool, b = true ∨ b = false) (s == [108, 97, 110, 109, 97, 99]) with b1 | b1
    · have HP : Hid (kindK s = some 3) := Lib.hid (by unfold kindK; rw [if_neg (by rw [b0]; decide), if_pos b1])
      go_wp2_with fail
      exact bodyPost_ret (v := .tuple #[.int .i64 3, .bool true]) (by simp [results, Try.results66, go_sem]) rfl ⟨by rw [HP.out]; rfl, rfl⟩
    · rcases (by decide : ∀ b : Bool, b = true ∨ b = false) (s == [119, 97, 110, 109, 97, 99]) with b2 | b2
      · have HP : Hid (kindK s = some 3) := Lib.hid (by unfold kindK; rw [if_neg (by rw [b0]; decide), if_neg (by rw [b1]; decide), if_pos b2])
        go_wp2_with fail
        exact bodyPost_ret (v := .tuple #[.int .i64 3, .bool true]) (by simp [results, Try.results66, go_sem]) rfl ⟨by rw [HP.out]; rfl, rfl⟩
      · rcases (by decide : ∀ b : Bool, b = true ∨ b = false) (s == [102, 105, 114, 115, 116]) with b3 | b3
        · have HP : Hid (kindK s = some 1) := Lib.hid (by unfold kindK; rw [if_neg (by rw [b0]; decide), if_neg (by rw [b1]; decide), if_neg (by rw [b2]; decide), if_pos b3])
          go_wp2_with fail
          exact bodyPost_ret (v := .tuple #[.int .i64 1, .bool true]) (by simp [results, Try.results66, go_sem]) rfl ⟨by rw [HP.out]; rfl, rfl⟩
        · rcases (by decide : ∀ b : Bool, b = true ∨ b = false) (s == [108, 97, 115, 116]) with b4 | b4
          · have HP : Hid (kindK s = some 1) := Lib.hid (by unfold kindK; rw [if_neg (by rw [b0]; decide), if_neg (by rw [b1]; decide), if_neg (by rw [b2]; decide), if_neg (by rw [b3]; decide), if_pos b4])
            go_wp2_with fail
            exact bodyPost_ret (v := .tuple #[.int .i64 1, .bool true]) (by simp [results, Try.results66, go_sem]) rfl ⟨by rw [HP.out]; rfl, rfl⟩
          · rcases (by decide : ∀ b : Bool, b = true ∨ b = false) (s == [100, 110, 115]) with b5 | b5
            · have HP : Hid (kindK s = some 1) := Lib.hid (by unfold kindK; rw [if_neg (by rw [b0]; decide), if_neg (by rw [b1]; decide), if_neg (by rw [b2]; decide), if_neg (by rw [b3]; decide), if_neg (by rw [b4]; decide), if_pos b5])
              go_wp2_with fail
              exact bodyPost_ret (v := .tuple #[.int .i64 1, .bool true]) (by simp [results, Try.results66, go_sem]) rfl ⟨by rw [HP.out]; rfl, rfl⟩
            · rcases (by decide : ∀ b : Bool, b = true ∨ b = false) (s == [116, 105, 109, 101]) with b6 | b6
              · have HP : Hid (kindK s = some 0) := Lib.hid (by unfold kindK; rw [if_neg (by rw [b0]; decide), if_neg (by rw [b1]; decide), if_neg (by rw [b2]; decide), if_neg (by rw [b3]; decide), if_neg (by rw [b4]; decide), if_neg (by rw [b5]; decide), if_pos b6])
                go_wp2_with fail
                exact bodyPost_ret (v := .tuple #[.int .i64 0, .bool true]) (by simp [results, Try.results66, go_sem]) rfl ⟨by rw [HP.out]; rfl, rfl⟩
              · rcases (by decide : ∀ b : Bool, b = true ∨ b = false) (s == [117, 100, 112, 116, 105, 109, 101]) with b7 | b7
                · have HP : Hid (kindK s = some 0) := Lib.hid (by unfold kindK; rw [if_neg (by rw [b0]; decide), if_neg (by rw [b1]; decide), if_neg (by rw [b2]; decide), if_neg (by rw [b3]; decide), if_neg (by rw [b4]; decide), if_neg (by rw [b5]; decide), if_neg (by rw [b6]; decide), if_pos b7])
                  go_wp2_with fail
                  exact bodyPost_ret (v := .tuple #[.int .i64 0, .bool true]) (by simp [results, Try.results66, go_sem]) rfl ⟨by rw [HP.out]; rfl, rfl⟩
                · rcases (by decide : ∀ b : Bool, b = true ∨ b = false) (s == [116, 99, 112, 116, 105, 109, 101]) with b8 | b8
                  · have HP : Hid (kindK s = some 0) := Lib.hid (by unfold kindK; rw [if_neg (by rw [b0]; decide), if_neg (by rw [b1]; decide), if_neg (by rw [b2]; decide), if_neg (by rw [b3]; decide), if_neg (by rw [b4]; decide), if_neg (by rw [b5]; decide), if_neg (by rw [b6]; decide), if_neg (by rw [b7]; decide), if_pos b8])
                    go_wp2_with fail
                    exact bodyPost_ret (v := .tuple #[.int .i64 0, .bool true]) (by simp [results, Try.results66, go_sem]) rfl ⟨by rw [HP.out]; rfl, rfl⟩
                  · rcases (by decide : ∀ b : Bool, b = true ∨ b = false) (s == [105, 99, 109, 112, 116, 105, 109, 101]) with b9 | b9
                    · have HP : Hid (kindK s = some 0) := Lib.hid (by unfold kindK; rw [if_neg (by rw [b0]; decide), if_neg (by rw [b1]; decide), if_neg (by rw [b2]; decide), if_neg (by rw [b3]; decide), if_neg (by rw [b4]; decide), if_neg (by rw [b5]; decide), if_neg (by rw [b6]; decide), if_neg (by rw [b7]; decide), if_neg (by rw [b8]; decide), if_pos b9])
                      go_wp2_with fail
                      exact bodyPost_ret (v := .tuple #[.int .i64 0, .bool true]) (by simp [results, Try.results66, go_sem]) rfl ⟨by rw [HP.out]; rfl, rfl⟩
                    · rcases (by decide : ∀ b : Bool, b = true ∨ b = false) (s == [108, 111, 119]) with b10 | b10
                      · have HP : Hid (kindK s = some 0) := Lib.hid (by unfold kindK; rw [if_neg (by rw [b0]; decide), if_neg (by rw [b1]; decide), if_neg (by rw [b2]; decide), if_neg (by rw [b3]; decide), if_neg (by rw [b4]; decide), if_neg (by rw [b5]; decide), if_neg (by rw [b6]; decide), if_neg (by rw [b7]; decide), if_neg (by rw [b8]; decide), if_neg (by rw [b9]; decide), if_pos b10])
                        go_wp2_with fail
                        exact bodyPost_ret (v := .tuple #[.int .i64 0, .bool true]) (by simp [results, Try.results66, go_sem]) rfl ⟨by rw [HP.out]; rfl, rfl⟩
                      · have HP : Hid (kindK s = none) := Lib.hid (by unfold kindK; rw [if_neg (by rw [b0]; decide), if_neg (by rw [b1]; decide), if_neg (by rw [b2]; decide), if_neg (by rw [b3]; decide), if_neg (by rw [b4]; decide), if_neg (by rw [b5]; decide), if_neg (by rw [b6]; decide), if_neg (by rw [b7]; decide), if_neg (by rw [b8]; decide), if_neg (by rw [b9]; decide), if_neg (by rw [b10]; decide)])
                        go_wp2_with fail
                        exact bodyPost_ret (v := .tuple #[.int .i64 0, .bool false]) (by simp [results, Try.results66, go_sem]) rfl ⟨by rw [HP.out]; rfl, rfl⟩
def protoK (s : List UInt8) : Option Int :=
  if (s == [117, 100, 112]) = true then some 17 else
  if (s == [116, 99, 112]) = true then some 6 else
  none
set_option linter.unusedVariables false in
set_option linter.unusedSimpArgs false in
set_option maxRecDepth 100000 in
set_option maxHeartbeats 16000000 in
theorem protoOf_any (s : List UInt8) (w : World) : Calls Try.prog 65 #[.string ⟨s.toArray⟩] w fun e w' => e = .returned (.tuple #[.int .i64 ((protoK s).getD 0), .bool (protoK s).isSome]) ∧ w = w' := by
  skip
  go_enter Try.func65, Try.ntmps65
  rcases (by decide : ∀ b : Bool, b = true ∨ b = false) (s == [117, 100, 112]) with b0 | b0
  · have HP : Hid (protoK s = some 17) := Lib.hid (by unfold protoK; rw [if_pos b0])
    go_wp2_with fail
    exact bodyPost_ret (v := .tuple #[.int .i64 17, .bool true]) (by simp [results, Try.results65, go_sem]) rfl ⟨by rw [HP.out]; rfl, rfl⟩
  · rcases (by decide : ∀ b : Bool, b = true ∨ b = false) (s == [116, 99, 112]) with b1 | b1
    · have HP : Hid (protoK s = some 6) := Lib.hid (by unfold protoK; rw [if_neg (by rw [b0]; decide), if_pos b1])
      go_wp2_with fail
      exact bodyPost_ret (v := .tuple #[.int .i64 6, .bool true]) (by simp [results, Try.results65, go_sem]) rfl ⟨by rw [HP.out]; rfl, rfl⟩
    · have HP : Hid (protoK s = none) := Lib.hid (by unfold protoK; rw [if_neg (by rw [b0]; decide), if_neg (by rw [b1]; decide)])
      go_wp2_with fail
      exact bodyPost_ret (v := .tuple #[.int .i64 0, .bool false]) (by simp [results, Try.results65, go_sem]) rfl ⟨by rw [HP.out]; rfl, rfl⟩
set_option linter.unusedVariables false in
set_option linter.unusedSimpArgs false in
set_option maxRecDepth 100000 in
set_option maxHeartbeats 16000000 in
theorem sindex_any (A : Option Addr) (n c : Nat) (ls : List (List UInt8)) (s : List UInt8) (w : World) (hl : Sle stf 1 w A n c ls) (hm : n ≤ 100000) : Calls Try.prog 80 #[.slice A n c, .string ⟨s.toArray⟩] w fun e w' => e = .returned (.int .i64 (posI ls s)) ∧ w = w' := by
  have n0 : (n : Int) ≤ 100000 := by omega
  have bel := Below.refl w.heap.size w
  go_enter Try.func80, Try.ntmps80
  go_wp2_with fail
  go_loopg [8] (n + 1) (fun gk s8 wr => ∃ j : Nat, gk = n + 1 - j ∧ j ≤ n ∧ Hid ((ls.take j).contains s = false) ∧ s8 = .int .i64 (j : Int) ∧ w = wr)
  case atStart => exact ⟨0, rfl, Nat.zero_le _, Lib.hid rfl, rfl, rfl⟩
  case round =>
    obtain ⟨j, HGK, hj, HN, rfl, rfl⟩ := hrel
    have HGK_ := Lib.hid HGK
    clear HGK
    have j0 : (0 : Int) ≤ j := by omega
    by_cases hlj : j < n
    · obtain ⟨g, o, rfl⟩ := hl.place (by omega)
      have hjl : j < ls.length := by rw [hl.1]; exact hlj
      obtain ⟨x, hx⟩ : ∃ x, ls[j]? = some x := ⟨_, List.getElem?_eq_getElem hjl⟩
      have HX := Lib.hid hx
      clear hx
      rcases (by decide : ∀ b : Bool, b = true ∨ b = false) (s == x) with he | he
      · have HP : Hid (posI ls s = (j : Int)) := Lib.hid (by unfold posI; rw [posN_hit HN.out HX.out (by rw [eq_of_beq he]; exact beq_self_eq_true _)])
        have R15 := Sle.st (i := j) hl HX.out
        go_wp2_with fail
        clear R15
        go_ret
        exact ⟨by rw [HP.out]; rfl, rfl⟩
      · have HC : Hid ((ls.take (j + 1)).contains s = false) := Lib.hid (has_step HX.out HN.out (by rw [beq_eq_false_iff_ne] at he ⊢; exact fun e => he e.symm))
        have R15 := Sle.st (i := j) hl HX.out
        go_wp2_with fail
        clear R15
        go_roundg (n + 1 - (j + 1))
        case measure => have := HGK_.out; omega
        case rel => exact ⟨j + 1, rfl, by omega, HC, by go_num, rfl⟩
    · obtain rfl : j = n := by omega
      have HP : Hid (posI ls s = -1) := Lib.hid (by unfold posI; rw [posN_none (contains_none (by rw [hl.1]; exact Nat.le_refl _) HN.out)])
      go_wp2_with fail
      go_ret
      exact ⟨by rw [HP.out]; rfl, rfl⟩
theorem posI_has (ls : List (List UInt8)) (s : List UInt8) : decide (0 ≤ posI ls s) = ls.contains s := by
  cases h : ls.contains s with
  | false => unfold posI; rw [posN_none h]; rfl
  | true =>
    have : ∀ ls : List (List UInt8), ls.contains s = true → ∃ k, posN ls s = some k := by
      intro ls
      induction ls with
      | nil => intro h; simp at h
      | cons y l ih =>
        intro h
        rw [posN]
        by_cases hy : (y == s) = true
        · exact ⟨0, if_pos hy⟩
        · rw [if_neg hy]
          rw [List.contains_cons, Bool.or_eq_true] at h
          rcases h with h | h
          · exact absurd (by rw [eq_of_beq h]; exact beq_self_eq_true _) hy
          · obtain ⟨k, hk⟩ := ih h
            exact ⟨k + 1, by rw [hk]; rfl⟩
    obtain ⟨k, hk⟩ := this ls h
    unfold posI
    rw [hk]
    exact decide_eq_true (by simp)
set_option linter.unusedVariables false in
set_option linter.unusedSimpArgs false in
set_option maxRecDepth 100000 in
set_option maxHeartbeats 16000000 in
theorem scontains_any (A : Option Addr) (n c : Nat) (ls : List (List UInt8)) (s : List UInt8) (w : World) (hl : Sle stf 1 w A n c ls) (hm : n ≤ 100000) : Calls Try.prog 69 #[.slice A n c, .string ⟨s.toArray⟩] w fun e w' => e = .returned (.bool (ls.contains s)) ∧ w = w' := by
  have bel := Below.refl w.heap.size w
  go_enter Try.func69, Try.ntmps69
  go_wp2_with fail
  with_reducible refine (sindex_any _ _ _ ls s _ hl hm).mono ?_
  rintro e _ ⟨rfl, rfl⟩
  have hps := posI_has ls s
  obtain ⟨b, hb⟩ : ∃ b, ls.contains s = b := ⟨_, rfl⟩
  rw [hb] at hps
  have HP := Lib.hid hb
  generalize posI ls s = p at hps ⊢
  clear hb
  rcases b with _ | _
  · go_wp2_with fail
    go_ret
    exact ⟨by rw [HP.out]; rfl, rfl⟩
  · have hp : 0 ≤ p := of_decide_eq_true hps
    go_wp2_with fail
    go_ret
    exact ⟨by rw [HP.out]; rfl, rfl⟩
set_option maxRecDepth 100000 in
set_option maxHeartbeats 16000000 in
theorem within_any (v lo hi : Int) (w : World) : Calls Try.prog 58 #[.int .i64 v, .int .i64 lo, .int .i64 hi] w fun e w' => e = .returned (.bool (inI v lo hi)) ∧ w = w' := by
  unfold inI
  skip
  go_enter Try.func58, Try.ntmps58
  by_cases h0 : lo ≤ v
  · rw [decide_eq_true h0, Bool.true_and]
    by_cases h1 : v ≤ hi
    · rw [decide_eq_true h1]
      go_wp2_with fail
      go_ret
      exact ⟨rfl, rfl⟩
    · have h2 : decide (v ≤ hi) = false := decide_eq_false h1
      rw [h2]
      clear h1
      go_wp2_with fail
      go_ret
      exact ⟨rfl, rfl⟩
  · have h2 : decide (lo ≤ v) = false := decide_eq_false h0
    rw [h2, Bool.false_and]
    clear h0
    go_wp2_with fail
    go_ret
    exact ⟨rfl, rfl⟩
theorem group_is (m : Mc6) : isGroup m.l = (((m.a.toNat % 2 : Nat) : Int) == 1) := by
  unfold isGroup Mc6.l
  rw [Bool.eq_iff_iff, decide_eq_true_eq, beq_iff_eq, Int.natCast_emod]
  rfl
theorem u8_and1 (x : UInt8) : bits .and .u8 (x.toNat : Int) 1 = ((x.toNat % 2 : Nat) : Int) := by
  have : ∀ x : Fin 256, bits .and .u8 (x.val : Int) 1 = ((x.val % 2 : Nat) : Int) := by decide +kernel
  exact this ⟨x.toNat, x.toNat_lt⟩
set_option linter.unusedVariables false in
set_option linter.unusedSimpArgs false in
set_option maxRecDepth 100000 in
set_option maxHeartbeats 16000000 in
theorem isGroup_any (m : Mc6) (w : World) : Calls Try.prog 60 #[.agg #[.int .u8 (m.a.toNat : Int), .int .u8 (m.b.toNat : Int), .int .u8 (m.c.toNat : Int), .int .u8 (m.d.toNat : Int), .int .u8 (m.e.toNat : Int), .int .u8 (m.f.toNat : Int)]] w fun e w' => e = .returned (.bool (isGroup m.l)) ∧ Below w.heap.size w w' := by
  have e1 := u8_and1 m.a
  have HP : Hid (isGroup m.l = (((m.a.toNat % 2 : Nat) : Int) == 1)) := Lib.hid (group_is m)
  have bel := Below.refl w.heap.size w
  go_enter Try.func60, Try.ntmps60
  go_wp2_with (first | ((with_reducible show wpList _ _ _ (⟨some 1, _, _, _, _, _⟩ :: _) _ _); refine wpList_box_n rfl 28 (.tmp 0) rfl #[.int .u8 (m.a.toNat : Int), .int .u8 (m.b.toNat : Int), .int .u8 (m.c.toNat : Int), .int .u8 (m.d.toNat : Int), .int .u8 (m.e.toNat : Int), .int .u8 (m.f.toNat : Int)] rfl ?_; intro g1 w1 ge lt hh bb; have op := Nat.le_trans bel.size ge; replace bel := bel.trans (bb.mono bel.size); have hp := hh; clear hh lt ge bb; have R4 := cell_lit hp 0 _ rfl))
  try clear R4
  go_ret
  exact ⟨by rw [HP.out]; rfl, bel⟩
end Go.Proofs.Ytdfobilagidmfaa
