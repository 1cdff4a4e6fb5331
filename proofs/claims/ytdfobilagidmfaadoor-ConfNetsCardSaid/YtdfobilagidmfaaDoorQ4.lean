/- Texts put together: Adr4, Walkw, Ref3t, Ref3a, Nets, Refn, Ref3s, Back3, Ref3m, Adr5, AdrEq, Ref3n, Ref3h, Cf3, Eth1. -/
import Derived.Test.YtdfobilagidmfaaDoorQ1
import Derived.Test.YtdfobilagidmfaaDoorQ2
import Derived.Test.YtdfobilagidmfaaDoorQ3
import Derived.Deep.QuietTactic
import Derived.BigQuiet
import Derived.Deep.RegionHeld3
import Derived.Lib.Hide
import Derived.Deep.LoopGhost
import Derived.Stop.BytesEq
import Derived.BigRegion
namespace Go.Proofs.YtdfobilagidmfaaDoor
open Go.RowKit

/-! ### A cut text and its pieces -/
def joinF (b : UInt8) : List (List UInt8) → List UInt8
  | [] => []
  | [x] => x
  | x :: y :: t => x ++ [b] ++ joinF b (y :: t)
theorem joinF_cons (b : UInt8) (x : List UInt8) (t : List (List UInt8)) (h : t ≠ []) : joinF b (x :: t) = x ++ [b] ++ joinF b t := by
  cases t with
  | nil => exact absurd rfl h
  | cons y t => rfl
theorem joinF_snoc (b : UInt8) : ∀ (ls : List (List UInt8)) (x : List UInt8), ls ≠ [] → joinF b (ls ++ [x]) = joinF b ls ++ [b] ++ x
  | [], x, h => absurd rfl h
  | [y], x, _ => by simp [joinF]
  | y :: z :: t, x, _ => by
    rw [List.cons_append, joinF_cons b y _ (by simp), joinF_snoc b (z :: t) x (by simp), joinF_cons b y (z :: t) (by simp)]
    simp
theorem joinF_last (b : UInt8) (c : UInt8) : ∀ (ls : List (List UInt8)) (x : List UInt8), joinF b (ls ++ [x ++ [c]]) = joinF b (ls ++ [x]) ++ [c]
  | [], x => by simp [joinF]
  | y :: t, x => by
    rw [joinF_snoc b (y :: t) _ (by simp), joinF_snoc b (y :: t) _ (by simp)]
    simp
/-- The pieces, joined again, are the text. -/
theorem joinF_rev (b : UInt8) : ∀ r : List UInt8, joinF b (cutF b r.reverse) = r.reverse
  | [] => by simp [cutF, joinF]
  | c :: r => by
    have ih := joinF_rev b r
    have hne := cutF_ne b r.reverse
    rw [List.reverse_cons, cutF_snoc]
    generalize cutF b r.reverse = ls at *
    obtain ⟨i, x, rfl⟩ : ∃ i x, ls = i ++ [x] := ⟨ls.dropLast, ls.getLast hne, (List.dropLast_concat_getLast hne).symm⟩
    unfold cutStep
    split
    · rename_i h
      subst h
      rw [joinF_snoc _ _ _ hne, ih]; simp
    · simp only [List.dropLast_concat, List.getLastD_concat]
      rw [joinF_last, ih]
theorem joinF_cut (b : UInt8) (l : List UInt8) : joinF b (cutF b l) = l := by
  have := joinF_rev b l.reverse
  rwa [List.reverse_reverse] at this

/-- A number of at most 255 has at most three digits. -/
theorem numGo_ge : ∀ (t : List UInt8) (v n : Nat), numGo t v = some n → v * 10 ^ t.length ≤ n
  | [], v, n, h => by simp [numGo] at h; subst h; simp
  | c :: t, v, n, h => by
    rw [numGo] at h
    split at h
    · cases h
    · have := numGo_ge t _ n h
      have h2 : 10 * v * 10 ^ t.length ≤ (10 * v + (c.toNat - 48)) * 10 ^ t.length := Nat.mul_le_mul_right _ (by omega)
      have h3 : v * 10 ^ (c :: t).length = 10 * v * 10 ^ t.length := by
        rw [List.length_cons, Nat.pow_succ, Nat.mul_comm 10 v, Nat.mul_assoc, Nat.mul_comm 10]
      omega
theorem numI_len {l : List UInt8} {most : Int} (h : 0 ≤ numI l most) (hm : most < 1000) : l.length ≤ 3 := by
  have hs : ¬ (l.length < 1 ∨ 9 < l.length ∨ (1 < l.length ∧ l[0]? = some 48)) := fun hs => by rw [numI_shape most hs] at h; omega
  match hg : numGo l 0 with
  | none => rw [numI_none most hg] at h; omega
  | some n =>
    rw [numI_some most n hs hg] at h
    have hn : (n : Int) ≤ most := by split at h <;> omega
    cases l with
    | nil => simp at hs
    | cons c t =>
      rw [numGo] at hg
      split at hg
      · cases hg
      rename_i hd
      by_cases ht : t.length ≤ 2
      · rw [List.length_cons]; omega
      exfalso
      have h0 : c.toNat ≠ 48 := fun e => hs (.inr (.inr ⟨by rw [List.length_cons]; omega, by
        rw [List.getElem?_cons_zero]; congr 1; exact UInt8.toNat_inj.1 e⟩))
      have h1 := numGo_ge t _ n hg
      have h2 : (10 : Nat) ^ 3 ≤ 10 ^ t.length := Nat.pow_le_pow_right (by omega) (by omega)
      have h3 : 1 * 10 ^ t.length ≤ (10 * 0 + (c.toNat - 48)) * 10 ^ t.length := Nat.mul_le_mul_right _ (by omega)
      omega

/-- Parse, with no bound on the length. -/
theorem parse4_cut {l a b c d : List UInt8} (h : cutF 46 l = [a, b, c, d]) :
    parse4 l = if 0 ≤ numI a 255 ∧ 0 ≤ numI b 255 ∧ 0 ≤ numI c 255 ∧ 0 ≤ numI d 255 then some (byteOf (numI a 255), byteOf (numI b 255), byteOf (numI c 255), byteOf (numI d 255)) else none := by
  unfold parse4
  by_cases hk : 0 ≤ numI a 255 ∧ 0 ≤ numI b 255 ∧ 0 ≤ numI c 255 ∧ 0 ≤ numI d 255
  · have ha := numI_len hk.1 (by omega)
    have hb := numI_len hk.2.1 (by omega)
    have hc := numI_len hk.2.2.1 (by omega)
    have hd := numI_len hk.2.2.2 (by omega)
    have hj := joinF_cut 46 l
    rw [h] at hj
    have hl : l.length ≤ 15 := by
      rw [← hj]; simp only [joinF, List.length_append, List.length_singleton]; omega
    rw [if_neg (by omega), h]
  · rw [if_neg hk]
    split
    · rfl
    · rw [h]; exact if_neg hk
theorem parse4_not {l : List UInt8} (h : (cutF 46 l).length ≠ 4) : parse4 l = none := by
  unfold parse4
  split
  · rfl
  · match hm : cutF 46 l with
    | [a, b, c, d] => rw [hm] at h; exact absurd rfl h
    | [] | [_] | [_, _] | [_, _, _] | _ :: _ :: _ :: _ :: _ :: _ => rfl

/-- The bytes that are read so far. -/
def pBs (ls : List (List UInt8)) (k : Nat) : List UInt8 := (List.range 4).map fun i => if i < k then byteOf (numI (ls.getD i []) 255) else 0
theorem pBs_len (ls : List (List UInt8)) (k : Nat) : (pBs ls k).length = 4 := by simp [pBs]
theorem pBs_zero (ls : List (List UInt8)) : pBs ls 0 = [0, 0, 0, 0] := by simp [pBs, List.range, List.range.loop]
theorem pBs_four (a b c d : List UInt8) : pBs [a, b, c, d] 4 = [byteOf (numI a 255), byteOf (numI b 255), byteOf (numI c 255), byteOf (numI d 255)] := by simp [pBs, List.range, List.range.loop]
theorem pBs_set (ls : List (List UInt8)) (k : Nat) : (pBs ls k).set k (byteOf (numI (ls.getD k []) 255)) = pBs ls (k + 1) := by
  apply List.ext_getElem
  · simp [pBs]
  · intro i h1 h2
    rw [List.getElem_set]
    simp only [pBs, List.getElem_map, List.getElem_range]
    by_cases e : k = i
    · subst e; simp
    · rw [if_neg e]
      by_cases e2 : i < k
      · rw [if_pos e2, if_pos (by omega)]
      · rw [if_neg e2, if_neg (by omega)]

theorem decimal_no (s : ByteArray) (most : Int) (w : World) (hs : s.size ≤ 140737488355328) (hm0 : 0 ≤ most) (hm1 : most < 1000) (h : numI s.data.toList most = -1) :
    Calls Tryd.prog 92 #[.string s, .int .i64 most] w fun e w' => e = .returned (.tuple #[.int .i64 0, .bool false]) ∧ Below w.heap.size w w' :=
  (decimal_any s most w hs hm0 hm1).mono fun e w' hh => by unfold DecPost at hh; rw [h] at hh; exact hh
theorem decimal_yes (s : ByteArray) (most : Int) (w : World) (hs : s.size ≤ 140737488355328) (hm0 : 0 ≤ most) (hm1 : most < 1000) (h : 0 ≤ numI s.data.toList most) :
    Calls Tryd.prog 92 #[.string s, .int .i64 most] w fun e w' => e = .returned (.tuple #[.int .i64 (numI s.data.toList most), .bool true]) ∧ Below w.heap.size w w' :=
  (decimal_any s most w hs hm0 hm1).mono fun e w' hh => by unfold DecPost at hh; rw [if_pos h, decide_eq_true h] at hh; exact hh

/-- What Parse answers. -/
def AParsePost (l : List UInt8) (w : World) (e : Ending) (w' : World) : Prop :=
  (match parse4 l with
   | none => e = .returned (.tuple #[addrV 0 0 0 0, .int .i64 9])
   | some (a, b, c, d) => e = .returned (.tuple #[addrV a b c d, .int .i64 0])) ∧ Below w.heap.size w w'
theorem aparse_no {l : List UInt8} {w w' : World} (h : parse4 l = none) (hb : Below w.heap.size w w') : AParsePost l w (.returned (.tuple #[addrV 0 0 0 0, .int .i64 9])) w' := by
  unfold AParsePost; rw [h]; exact ⟨rfl, hb⟩
theorem aparse_yes {l : List UInt8} {w w' : World} {a b c d : UInt8} (h : parse4 l = some (a, b, c, d)) (hb : Below w.heap.size w w') : AParsePost l w (.returned (.tuple #[addrV a b c d, .int .i64 0])) w' := by
  unfold AParsePost; rw [h]; exact ⟨rfl, hb⟩

/-- Two blocks of four zeros, behind a call. -/
theorem two_addr {w w1 : World} (h : Below ((w.alloc (.cells #[.int .u8 0, .int .u8 0, .int .u8 0, .int .u8 0] 24)).alloc (.cells #[.int .u8 0, .int .u8 0, .int .u8 0, .int .u8 0] 24)).heap.size ((w.alloc (.cells #[.int .u8 0, .int .u8 0, .int .u8 0, .int .u8 0] 24)).alloc (.cells #[.int .u8 0, .int .u8 0, .int .u8 0, .int .u8 0] 24)) w1) :
    w1.heap[w.heap.size]? = some (.cells #[.int .u8 0, .int .u8 0, .int .u8 0, .int .u8 0] 24 (0, 0)) ∧ w1.heap[w.heap.size + 1]? = some (.cells #[.int .u8 0, .int .u8 0, .int .u8 0, .int .u8 0] 24 (0, 0)) ∧ w.heap.size + 1 < w1.heap.size ∧ Below w.heap.size w w1 := by
  have hs := h.size
  simp at hs
  have h0 : ((w.alloc (.cells #[.int .u8 0, .int .u8 0, .int .u8 0, .int .u8 0] 24)).alloc (.cells #[.int .u8 0, .int .u8 0, .int .u8 0, .int .u8 0] 24)).heap[w.heap.size]? = some (.cells #[.int .u8 0, .int .u8 0, .int .u8 0, .int .u8 0] 24 (0, 0)) :=
    (Go.heap_alloc_old (w.alloc (.cells #[.int .u8 0, .int .u8 0, .int .u8 0, .int .u8 0] 24)) (.cells #[.int .u8 0, .int .u8 0, .int .u8 0, .int .u8 0] 24) (r := w.heap.size) (by simp)).trans (heap_alloc_new w _)
  have h1 : ((w.alloc (.cells #[.int .u8 0, .int .u8 0, .int .u8 0, .int .u8 0] 24)).alloc (.cells #[.int .u8 0, .int .u8 0, .int .u8 0, .int .u8 0] 24)).heap[w.heap.size + 1]? = some (.cells #[.int .u8 0, .int .u8 0, .int .u8 0, .int .u8 0] 24 (0, 0)) := by
    have := heap_alloc_new (w.alloc (.cells #[.int .u8 0, .int .u8 0, .int .u8 0, .int .u8 0] 24)) (.cells #[.int .u8 0, .int .u8 0, .int .u8 0, .int .u8 0] 24); simpa using this
  refine ⟨(h.block _ (by simp; omega)).trans h0, (h.block _ (by simp)).trans h1, by omega, ?_⟩
  exact (((Below.refl w.heap.size w).alloc (Nat.le_refl _) _).alloc (by simp) _).trans (h.mono (by simp; omega))

theorem asplit_as (s : ByteArray) (b n : Int) (bb : UInt8) (m : Nat) (hb : b = (bb.toNat : Int)) (hn : n = (m : Int)) (hb7 : bb.toNat < 128) (hm : 0 < m) (hm1 : m < 1000) (w : World) (hs : s.size ≤ 140737488355328) :
    Calls Tryd.prog 91 #[.string s, .int .i32 b, .int .i64 n] w (SpPost bb s.data.toList m w) := by
  subst hb; subst hn; exact asplit_any s bb hb7 m hm hm1 w hs
theorem asplit_no (s : ByteArray) (b n : Int) (bb : UInt8) (m : Nat) (hb : b = (bb.toNat : Int)) (hn : n = (m : Int)) (hb7 : bb.toNat < 128) (hm : 0 < m) (hm1 : m < 1000) (w : World) (hs : s.size ≤ 140737488355328) (h : (cutF bb s.data.toList).length ≠ m) :
    Calls Tryd.prog 91 #[.string s, .int .i32 b, .int .i64 n] w fun e w' => e = .returned (.tuple #[.slice none 0 0, .bool false]) ∧ Below w.heap.size w w' :=
  (asplit_as s b n bb m hb hn hb7 hm hm1 w hs).mono fun e w' hh => by unfold SpPost at hh; rw [if_neg h] at hh; exact hh
theorem asplit_yes (s : ByteArray) (b n : Int) (bb : UInt8) (m : Nat) (hb : b = (bb.toNat : Int)) (hn : n = (m : Int)) (hb7 : bb.toNat < 128) (hm : 0 < m) (hm1 : m < 1000) (w : World) (hs : s.size ≤ 140737488355328) (h : (cutF bb s.data.toList).length = m) :
    Calls Tryd.prog 91 #[.string s, .int .i32 b, .int .i64 n] w fun e w' => ∃ g cap, e = .returned (.tuple #[.slice (some ⟨g, 0, none⟩) m cap, .bool true]) ∧ m ≤ cap ∧ w.heap.size ≤ g ∧ g < w'.heap.size ∧ (∀ (j : Nat) (x : List UInt8), (cutF bb s.data.toList)[j]? = some x → w'.cell? ⟨g, j, none⟩ = some (.string ⟨x.toArray⟩)) ∧ Below w.heap.size w w' :=
  (asplit_as s b n bb m hb hn hb7 hm hm1 w hs).mono fun e w' hh => by
    unfold SpPost at hh; rw [if_pos h] at hh
    obtain ⟨⟨g, cap, h1, h2, h3, h4, h5⟩, h6⟩ := hh
    exact ⟨g, cap, h1, h2, h3, h4, h5, h6⟩

set_option maxRecDepth 100000 in
set_option maxHeartbeats 4000000 in
theorem aparse_pieces (s : ByteArray) (w : World) (hs : s.size ≤ 140737488355328) (h : (cutF 46 s.data.toList).length ≠ 4) : Calls Tryd.prog 83 #[.string s] w (AParsePost s.data.toList w) := by
  have NO := Lib.hid (parse4_not h)
  have SP := Lib.hid fun W => asplit_no s 46 4 46 4 rfl rfl (by decide) (by omega) (by omega) W hs h
  clear h hs
  go_enter Tryd.func83, Tryd.ntmps83
  go_wp2_with fail
  with_reducible refine (SP.out _).mono ?_
  rintro e w1 ⟨rfl, bel1⟩
  obtain ⟨r0, r1, r2, bel⟩ := two_addr bel1
  obtain ⟨⟨q0, q1, q2, q3⟩, f0, f1, f2, f3⟩ := cells4 r0
  have R0 := Lib.hid r0
  clear r0 r1 bel1
  go_wp2
  have R4 := put4 (x := .int .u8 0) (y := .int .u8 0) (z := .int .u8 0) (u := .int .u8 0) R0.out
  obtain ⟨⟨k0, k1, k2, k3⟩, _⟩ := cells4 R4
  clear R4
  exact bodyPost_ret (v := .tuple #[addrV 0 0 0 0, .int .i64 9]) (by simp [results, Tryd.results83, go_sem, addrV, u8v, k0, k1, k2, k3]) rfl (aparse_no NO.out ((((bel.setCell (Nat.le_refl _) _).setCell (Nat.le_refl _) _).setCell (Nat.le_refl _) _).setCell (Nat.le_refl _) _))

set_option maxRecDepth 100000 in
set_option maxHeartbeats 4000000 in
theorem aparse_four (s : ByteArray) (w : World) (hs : s.size ≤ 140737488355328) (a b c d : List UInt8) (h : cutF 46 s.data.toList = [a, b, c, d]) : Calls Tryd.prog 83 #[.string s] w (AParsePost s.data.toList w) := by
  have P4 := Lib.hid (parse4_cut h)
  have hpc := cutF_piece 46 s.data.toList
  rw [h] at hpc
  have HPC := Lib.hid hpc
  have HS := Lib.hid hs
  have SP := fun W => asplit_yes s 46 4 46 4 rfl rfl (by decide) (by omega) (by omega) W hs (by rw [h]; rfl)
  rw [h] at SP
  have SPH := Lib.hid SP
  have HLS : Hid (([a, b, c, d] : List (List UInt8)).length = 4) := Lib.hid rfl
  obtain ⟨ls, hls⟩ : ∃ ls, Hid (ls = [a, b, c, d]) := ⟨_, Lib.hid rfl⟩
  rw [← hls.out] at SPH HLS HPC
  clear SP hpc hs h
  go_enter Tryd.func83, Tryd.ntmps83
  go_wp2_with fail
  with_reducible refine (SPH.out _).mono ?_
  rintro e w1 ⟨g, cap, rfl, hcap, hg0, hg1, hc, bel1⟩
  obtain ⟨r0, r1, r2, bel⟩ := two_addr bel1
  have hgw : g ≠ w.heap.size := by simp at hg0; omega
  have hgw1 : g ≠ w.heap.size + 1 := by simp at hg0; omega
  have HC := Lib.hid hc
  have hcap' : (4 : Int) ≤ cap := by omega
  clear hc bel1 hg0 hcap
  go_wp2_with fail
  go_loopw [21] (fun i wr => ∃ k : Nat, k ≤ 4 ∧ i = .int .i64 k ∧ (∀ j, j < k → 0 ≤ numI (ls.getD j []) 255) ∧ wr.heap[w.heap.size]? = some (.cells #[.int .u8 0, .int .u8 0, .int .u8 0, .int .u8 0] 24 (0, 0)) ∧ Ow 24 wr (w.heap.size + 1) 4 (pBs ls k) ∧ (∀ (j : Nat) (x : List UInt8), ls[j]? = some x → wr.cell? ⟨g, j, none⟩ = some (.string ⟨x.toArray⟩)) ∧ g < wr.heap.size ∧ Below w.heap.size w wr) (fun i _ => 4 - (intOf i).toNat)
  case atStart =>
    refine ⟨0, by omega, rfl, fun j hj => by omega, r0, ?_, HC.out, hg1, bel⟩
    rw [pBs_zero]
    refine ⟨by simp, by unfold maxLen; omega, _, r1, fun j b hj => ?_⟩
    match j, hj with
    | 0, hj | 1, hj | 2, hj | 3, hj => simp at hj; subst hj; rfl
    | j + 4, hj => simp at hj
  case round =>
    clear r0 r1 bel hg1
    obtain ⟨k, hk, rfl, hall, hz, hb, hcs, hgl, bel⟩ := hrel
    have HZ := Lib.hid hz
    have HALL := Lib.hid hall
    have HCS := Lib.hid hcs
    have hzl : w.heap.size + 1 < wr.heap.size := hb.lt
    clear hz hall hcs
    by_cases hlt : k < 4
    · obtain ⟨x, hx⟩ : ∃ x, Hid (ls.getD k [] = x) := ⟨_, Lib.hid rfl⟩
      have hxk : ls[k]? = some x := by
        have := HLS.out
        rw [List.getElem?_eq_getElem (by omega), ← hx.out, List.getD_eq_getElem?_getD, List.getElem?_eq_getElem (by omega)]; rfl
      have hcx := HCS.out k x hxk
      have hxs : (⟨x.toArray⟩ : ByteArray).size ≤ 140737488355328 := by
        rw [size_bs]
        have := HPC.out x (List.mem_of_getElem? hxk)
        have := HS.out
        simp at *; omega
      have k0 : (0 : Int) ≤ k := by omega
      have k4 : (k : Int) < 4 := by omega
      have DX : (⟨x.toArray⟩ : ByteArray).data.toList = x := by simp
      by_cases hn : 0 ≤ numI x 255
      · have DEC := fun W => decimal_yes ⟨x.toArray⟩ 255 W hxs (by omega) (by omega) (by rw [DX]; exact hn)
        rw [DX] at DEC
        have DECH := Lib.hid DEC
        have hr := numI_range x 255
        have n1 : numI x 255 ≤ 255 := by omega
        have ALL : Hid (∀ j, j < k + 1 → 0 ≤ numI (ls.getD j []) 255) := Lib.hid fun j hj => by
          by_cases e : j = k
          · subst e; rw [hx.out]; exact hn
          · exact HALL.out j (by omega)
        have MS : Hid ((pBs ls k).set k (byteOf (numI x 255)) = pBs ls (k + 1)) := Lib.hid (by rw [← pBs_set, hx.out])
        have UB : Hid (u8v (byteOf (numI x 255)) = .int .u8 (numI x 255)) := Lib.hid (u8v_byteOf hn n1)
        clear hxk hxs DX DEC hr
        go_wp2_with fail
        with_reducible refine (DECH.out _).mono ?_
        rintro e w2 ⟨rfl, bel2⟩
        have hz2 := (bel2.block _ (by omega)).trans HZ.out
        have hb2 := hb.below bel2
        have HCS2 : Hid (∀ (j : Nat) (x : List UInt8), ls[j]? = some x → w2.cell? ⟨g, j, none⟩ = some (.string ⟨x.toArray⟩)) := Lib.hid fun j x hj => (bel2.cell (p := ⟨g, j, none⟩) hgl).trans (HCS.out j x hj)
        have hgl2 := Nat.lt_of_lt_of_le hgl bel2.size
        have belb := bel.trans (bel2.mono (by omega))
        obtain ⟨_, _, cb, fb⟩ := hb2.at_ k (by rw [pBs_len]; exact hlt)
        have HZ2' := Lib.hid hz2
        clear hz2 bel bel2 hb hcx hgl hzl
        go_wp2
        have OW2 := hb2.set k (byteOf (numI x 255))
        rw [UB.out, MS.out] at OW2
        have HZ2 := (Below.heap_setCell w2 ⟨w.heap.size + 1, k, none⟩ (.int .u8 (numI x 255)) w.heap.size (by simp)).trans HZ2'.out
        have BE2 := belb.setCell (p := ⟨w.heap.size + 1, k, none⟩) (by simp) (.int .u8 (numI x 255))
        have CS2 : ∀ (j : Nat) (x' : List UInt8), ls[j]? = some x' → (w2.setCell ⟨w.heap.size + 1, k, none⟩ (.int .u8 (numI x 255))).cell? ⟨g, j, none⟩ = some (.string ⟨x'.toArray⟩) := fun j x' hj => by
          rw [World.cell?_of_block (w := w2) (Below.heap_setCell w2 ⟨w.heap.size + 1, k, none⟩ (.int .u8 (numI x 255)) g (fun e => hgw1 e))]
          exact HCS2.out j x' hj
        go_roundw
        case rel => exact ⟨k + 1, by omega, by go_num, ALL.out, HZ2, OW2, CS2, by simp; exact hgl2, BE2⟩
        case measure => simp [intOf]; omega
      · have hn1 : numI x 255 = -1 := by have := numI_range x 255; omega
        have DEC := Lib.hid fun W => decimal_no ⟨x.toArray⟩ 255 W hxs (by omega) (by omega) (by rw [DX]; exact hn1)
        have NO : Hid (parse4 s.data.toList = none) := Lib.hid (by
          rw [P4.out, if_neg]
          have h1 := hx.out
          rw [hls.out] at h1
          rintro ⟨g0, g1, g2, g3⟩
          match k, hlt, h1 with
          | 0, _, h1 | 1, _, h1 | 2, _, h1 | 3, _, h1 => simp at h1; subst h1; omega)
        clear hxk hxs DX hn hn1
        go_wp2_with fail
        with_reducible refine (DEC.out _).mono ?_
        rintro e w2 ⟨rfl, bel2⟩
        have hz2 := (bel2.block _ (by omega)).trans HZ.out
        have belb := bel.trans (bel2.mono (by omega))
        obtain ⟨⟨q0, q1, q2, q3⟩, f0, f1, f2, f3⟩ := cells4 hz2
        have R0 := Lib.hid hz2
        clear hz2 bel bel2 hb hcx hgl hzl
        go_wp2
        have R4 := put4 (x := .int .u8 0) (y := .int .u8 0) (z := .int .u8 0) (u := .int .u8 0) R0.out
        obtain ⟨⟨k0, k1, k2, k3⟩, _⟩ := cells4 R4
        clear R4
        exact bodyPost_ret (v := .tuple #[addrV 0 0 0 0, .int .i64 9]) (by simp [results, Tryd.results83, go_sem, addrV, u8v, k0, k1, k2, k3]) rfl (aparse_no NO.out ((((belb.setCell (Nat.le_refl _) _).setCell (Nat.le_refl _) _).setCell (Nat.le_refl _) _).setCell (Nat.le_refl _) _))
    · obtain rfl : k = 4 := by omega
      have YES : Hid (parse4 s.data.toList = some (byteOf (numI a 255), byteOf (numI b 255), byteOf (numI c 255), byteOf (numI d 255))) := Lib.hid (by
        have hall := HALL.out
        rw [hls.out] at hall
        rw [P4.out, if_pos ⟨hall 0 (by omega), hall 1 (by omega), hall 2 (by omega), hall 3 (by omega)⟩])
      have hb4 := hb
      rw [hls.out, pBs_four] at hb4
      obtain ⟨p0, _⟩ := hb4.cell 0 (by simp)
      obtain ⟨p1, _⟩ := hb4.cell 1 (by simp)
      obtain ⟨p2, _⟩ := hb4.cell 2 (by simp)
      obtain ⟨p3, _⟩ := hb4.cell 3 (by simp)
      simp only [List.getElem_cons_zero, List.getElem_cons_succ] at p0 p1 p2 p3
      obtain ⟨⟨q0, q1, q2, q3⟩, f0, f1, f2, f3⟩ := cells4 HZ.out
      clear hb hb4 HALL hgl hzl
      go_wp2
      have R4 := put4 (x := u8v (byteOf (numI a 255))) (y := u8v (byteOf (numI b 255))) (z := u8v (byteOf (numI c 255))) (u := u8v (byteOf (numI d 255))) HZ.out
      obtain ⟨⟨k0', k1', k2', k3'⟩, _⟩ := cells4 R4
      clear R4
      simp only [u8v] at k0' k1' k2' k3'
      exact bodyPost_ret (v := .tuple #[addrV (byteOf (numI a 255)) (byteOf (numI b 255)) (byteOf (numI c 255)) (byteOf (numI d 255)), .int .i64 0]) (by simp [results, Tryd.results83, go_sem, addrV, u8v, k0', k1', k2', k3']) rfl (aparse_yes YES.out ((((bel.setCell (Nat.le_refl _) _).setCell (Nat.le_refl _) _).setCell (Nat.le_refl _) _).setCell (Nat.le_refl _) _))

theorem aparse_any (s : ByteArray) (w : World) (hs : s.size ≤ 140737488355328) : Calls Tryd.prog 83 #[.string s] w (AParsePost s.data.toList w) := by
  match hm : cutF 46 s.data.toList with
  | [a, b, c, d] => exact aparse_four s w hs a b c d hm
  | [] | [_] | [_, _] | [_, _, _] | _ :: _ :: _ :: _ :: _ :: _ => exact aparse_pieces s w hs (by rw [hm]; simp)
open Go.RowKit

/-! awake: what the document tells of three bytes. -/
open Go.RowKit

/-- A digit's byte. -/
def digT (n : Nat) : UInt8 := UInt8.ofNat (48 + n)
theorem digT_val {n : Nat} (h : n < 10) : (digT n).toNat = 48 + n := by unfold digT; rw [UInt8.toNat_ofNat']; omega
/-- A number's digits. -/
def decT (n : Nat) : List UInt8 := if n < 10 then [digT n] else decT (n / 10) ++ [digT (n % 10)]
decreasing_by omega
theorem decT_small {n : Nat} (h : n < 10) : decT n = [digT n] := by rw [decT, if_pos h]
theorem decT_more {n : Nat} (h : ¬ n < 10) : decT n = decT (n / 10) ++ [digT (n % 10)] := by rw [decT, if_neg h]
theorem decT_len (k : Nat) : ∀ n : Nat, n < 10 ^ (k + 1) → (decT n).length ≤ k + 1 := by
  induction k with
  | zero => intro n h; rw [decT_small (by omega)]; simp
  | succ k ih =>
    intro n h
    by_cases hn : n < 10
    · rw [decT_small hn]; simp
    · rw [decT_more hn, List.length_append]
      have := ih (n / 10) (by rw [Nat.pow_succ] at h; omega)
      simp; omega

theorem size_bs' (l : List UInt8) : (⟨l.toArray⟩ : ByteArray).size = l.length := by simp [ByteArray.size]
theorem Sl.drew' {w : World} {A : Option Addr} {n c : Nat} {l : List UInt8} (h : Sl w A n c l) : Sl w.drew A n c l := h.keep fun _ _ _ hc => hc
theorem wpAnyH_grow' {P : Program} {ops : Array Oper} {Q : Exit → Act → World → Prop} {md : Region.Mode} {S S' : World → Prop} (hs : ∀ w, S' w → S w) :
    ∀ {fuel : Nat} {listed : Array Bool} {a : Act} {w : World}, wpAnyH P md ops Q S' fuel listed a w → wpAnyH P md ops Q S fuel listed a w
  | 0, _, _, _, h => h
  | _ + 1, _, _, _, h => ⟨h.1, fun i hi => wpOp_mono (fun _ w' h' => ⟨hs w' h'.1, wpAnyH_grow' hs h'.2⟩) (h.2 i hi)⟩
theorem exec_convert' {P : Program} {o : Oper} {a : Act} {src dst : TypeId} {x : Operand} {val v : Value} {w : World} (ho : o.op = .convert src dst x) (hx : a.eval x = val) (h : (convert src dst val).run P w = .ok v w) :
    (execOp a.eval o).run P w = .ok (.value v) w := by
  subst hx
  simp [execOp, ho, h, Result.andThen]

theorem made_dig (d : UInt8) (x : Int) (hx : x = (d.toNat : Int)) (w : World) : Sl (w.alloc (.cells #[.int .u8 x] 5)) (some ⟨w.heap.size, 0, none⟩) 1 1 [d] := by
  subst hx; exact Sl.made w 5 [d] (by simp [maxLen])

set_option maxRecDepth 100000 in
set_option maxHeartbeats 2000000 in
theorem rtext_any (k : Nat) (hk : k ≤ 17) : ∀ (n : Nat) (w : World), n < 10 ^ (k + 1) →
    Calls Tryd.prog 16 #[.int .i64 (n : Int)] w fun e w' => e = .returned (.string ⟨(decT n).toArray⟩) ∧ Below w.heap.size w w' := by
  induction k with
  | zero =>
    intro n w h
    have hd : n < 10 := by omega
    rw [decT_small hd]
    have n0 : (0 : Int) ≤ n := by omega
    have n1 : (n : Int) < 10 := by omega
    have hm := made_dig (digT n) (48 + n) (by rw [digT_val hd]; omega) w
    have st := hm.str (P := Tryd.prog) 66 5 9 Tryd.underlying66 Tryd.underlying5 Tryd.underlying9
    have bel := (Below.refl w.heap.size w).alloc (Nat.le_refl _) (.cells #[.int .u8 (48 + (n : Int))] 5)
    clear hm
    go_enter Tryd.func16, Tryd.ntmps16
    go_wp2
    go_ret
    exact ⟨rfl, bel⟩
  | succ k ih =>
    intro n w h
    by_cases hn : n < 10
    · exact ih (by omega) n w (by have : (10 : Nat) ^ 1 ≤ 10 ^ (k + 1) := Nat.pow_le_pow_right (by omega) (by omega); omega)
    rw [decT_more hn]
    have h10 : n / 10 < 10 ^ (k + 1) := by rw [Nat.pow_succ] at h; omega
    have hlen := decT_len k (n / 10) h10
    have hb : n < 1000000000000000000 := by
      have : (10 : Nat) ^ (k + 1 + 1) ≤ 10 ^ 18 := Nat.pow_le_pow_right (by omega) (by omega)
      omega
    have n0 : (9 : Int) < n := by omega
    have t1 : decide ((n : Int) < 0) = false := decide_eq_false (by omega)
    have t2 : decide ((n : Int) < 10) = false := decide_eq_false (by omega)
    have n1 : (n : Int) < 1000000000000000000 := by omega
    have hdig := digT_val (n := n % 10) (by omega)
    have IH' := fun W => ih (by omega) (n / 10) W h10
    have hq : IntKind.i64.wrap ((n : Int) / 10) = ((n / 10 : Nat) : Int) := (IntWalk.i64_in _ (by omega)).trans (by omega)
    have ht : (n : Int).tmod 10 = ((n % 10 : Nat) : Int) := by rw [Int.tmod_eq_emod_of_nonneg (by omega)]; omega
    have hr := Nat.mod_lt n (show 0 < 10 by omega)
    generalize n / 10 = q at *
    generalize n % 10 = r at *
    have d0 : (0 : Int) ≤ r := by omega
    have d1 : (r : Int) < 10 := by omega
    have hadd : ∀ W, (Op.stringOp .add ⟨(decT q).toArray⟩ ⟨[digT r].toArray⟩).run Tryd.prog W = .ok (.string ⟨(decT q ++ [digT r]).toArray⟩) W := fun W => by
      rw [run_string_add_sum W _ _ (by rw [size_bs', size_bs']; simp; omega), ByteArray.mk_append_mk]
    have IH := Lib.hid IH'
    have hwr : IntKind.i64.wrap (48 + (r : Int)) = 48 + (r : Int) := IntWalk.i64_in _ (by omega)
    have hw8 : IntKind.u8.wrap (48 + (r : Int)) = 48 + (r : Int) := by simp [IntKind.wrap, IntKind.signed, IntKind.bits]; omega
    have HD : Hid ((48 + (r : Int)) = ((digT r).toNat : Int)) := Lib.hid (by rw [hdig]; omega)
    clear hdig IH' hr hlen
    clear h hn h10 ih hb
    go_enter Tryd.func16, Tryd.ntmps16
    go_wp2_with fail
    refine wp_region_held_drew (S := fun _ => True) (by kernel_rfl) trivial (fun hH => ?_)
    refine wpAnyH_take (i := 0) (v := ?_) rfl (by kernel_rfl) (by kernel_rfl) (by kernel_rfl) (fun _ _ _ h => h) (Or.inl ⟨by rfl, ?_⟩) hH ?_
    rotate_left
    · ((intro w hw; clear hw; go_simp) <;> with_reducible rfl)
    simp only [Act.put, List.getElem_toArray, List.getElem_cons_zero, List.setIfInBounds_toArray, List.set_cons_zero, List.set_cons_succ]
    refine wpAnyH_take (i := 1) (v := ?_) rfl (by kernel_rfl) (by kernel_rfl) (by kernel_rfl) (fun _ _ _ h => h) (Or.inl ⟨by rfl, ?_⟩) hH ?_
    rotate_left
    · ((intro w hw; clear hw; go_simp) <;> with_reducible rfl)
    simp only [Act.put, List.getElem_toArray, List.getElem_cons_zero, List.getElem_cons_succ, List.setIfInBounds_toArray, List.set_cons_zero, List.set_cons_succ]
    refine wpAnyH_take (i := 3) (v := ?_) rfl (by kernel_rfl) (by kernel_rfl) (by kernel_rfl) (fun _ _ _ h => h) (Or.inl ⟨by rfl, ?_⟩) hH ?_
    rotate_left
    · ((intro w hw; clear hw; go_simp) <;> with_reducible rfl)
    simp only [Act.put, List.getElem_toArray, List.getElem_cons_zero, List.getElem_cons_succ, List.setIfInBounds_toArray, List.set_cons_zero, List.set_cons_succ]
    refine wpAnyH_take (i := 4) (v := ?_) rfl (by kernel_rfl) (by kernel_rfl) (by kernel_rfl) (fun _ _ _ h => h) (Or.inl ⟨by rfl, ?_⟩) hH ?_
    rotate_left
    · ((intro w hw; clear hw; go_simp) <;> with_reducible rfl)
    simp only [Act.put, List.getElem_toArray, List.getElem_cons_zero, List.getElem_cons_succ, List.setIfInBounds_toArray, List.set_cons_zero, List.set_cons_succ]
    refine wpAnyH_take (i := 5) (v := ?_) rfl (by kernel_rfl) (by kernel_rfl) (by kernel_rfl) (fun _ _ _ h => h) (Or.inl ⟨by rfl, ?_⟩) hH ?_
    rotate_left
    · ((intro w hw; clear hw; go_simp) <;> with_reducible rfl)
    simp only [Act.put, List.getElem_toArray, List.getElem_cons_zero, List.getElem_cons_succ, List.setIfInBounds_toArray, List.set_cons_zero, List.set_cons_succ]
    refine wpAnyH_take (i := 6) (v := ?_) rfl (by kernel_rfl) (by kernel_rfl) (by kernel_rfl) (fun _ _ _ h => h) (Or.inl ⟨by rfl, ?_⟩) hH ?_
    rotate_left
    · ((intro w hw; clear hw; go_simp) <;> with_reducible rfl)
    simp only [Act.put, List.getElem_toArray, List.getElem_cons_zero, List.getElem_cons_succ, List.setIfInBounds_toArray, List.set_cons_zero, List.set_cons_succ]
    refine wpAnyH_ready (rs := [2, 7]) (by kernel_rfl) (by simp) ?_
    refine AllReadyH.cons (o := _) rfl (fun K hK => ?_) (AllReadyH.cons (o := _) rfl (fun K hK => ?_) AllReadyH.nil)
    · simp only [List.getElem_toArray, List.getElem_cons_zero, List.getElem_cons_succ]
      go_simp
      refine (IH.out _).mono ?_
      rintro e w3 ⟨rfl, bel3⟩
      dsimp only
      have bel3a : Below w.heap.size w w3 := (Below.refl _ w).drew.trans (bel3.mono (Nat.le_refl _))
      refine hK.out _ _ trivial (fun _ => ?_)
      clear hK K
      refine wpAnyH_ready (rs := [7]) (by kernel_rfl) (by simp) ?_
      refine AllReadyH.cons (o := _) rfl (fun K hK => ?_) AllReadyH.nil
      simp only [List.getElem_toArray, List.getElem_cons_zero, List.getElem_cons_succ]
      go_simp
      have hm := made_dig (digT r) _ HD.out w3
      have bel4 := bel3a.alloc bel3a.size (.cells #[.int .u8 (48 + (r : Int))] 5)
      refine hK.out _ _ trivial (fun _ => ?_)
      refine wpAnyH_grow' (S' := fun W => Sl W (some ⟨w3.heap.size, 0, none⟩) 1 1 [digT r]) (fun _ _ => trivial) ?_
      clear hK K
      refine wpAnyH_take (i := 8) (v := .string ⟨[digT r].toArray⟩) rfl (by kernel_rfl) (by kernel_rfl) (by kernel_rfl) (fun _ _ _ h => h) (Or.inl ⟨by rfl, fun W hW => exec_convert' rfl rfl (hW.str 66 5 9 Tryd.underlying66 Tryd.underlying5 Tryd.underlying9)⟩) hm ?_
      simp only [Act.put, List.getElem_toArray, List.getElem_cons_zero, List.getElem_cons_succ, List.setIfInBounds_toArray, List.set_cons_zero, List.set_cons_succ]
      refine wpAnyH_take (i := 9) (v := ?_) rfl (by kernel_rfl) (by kernel_rfl) (by kernel_rfl) (fun _ _ _ h => h) (Or.inl ⟨by rfl, ?_⟩) hm ?_
      rotate_left
      · ((intro w hw; clear hw; go_simp) <;> with_reducible rfl)
      simp only [Act.put, List.getElem_toArray, List.getElem_cons_zero, List.getElem_cons_succ, List.setIfInBounds_toArray, List.set_cons_zero, List.set_cons_succ]
      refine wpAnyH_take (i := 10) (v := ?_) rfl (by kernel_rfl) (by kernel_rfl) (by kernel_rfl) (fun _ _ _ h => h) (Or.inl ⟨by rfl, ?_⟩) hm ?_
      rotate_left
      · ((intro w hw; clear hw; go_simp) <;> with_reducible rfl)
      simp only [Act.put, List.getElem_toArray, List.getElem_cons_zero, List.getElem_cons_succ, List.setIfInBounds_toArray, List.set_cons_zero, List.set_cons_succ]
      refine wpAnyH_done (by kernel_rfl) ?_ _
      go_wp2
      go_ret
      exact ⟨rfl, bel4⟩
    · simp only [List.getElem_toArray, List.getElem_cons_zero, List.getElem_cons_succ]
      go_simp
      have hm : Sl (w.alloc (.cells #[.int .u8 (48 + (r : Int))] 5)).drew (some ⟨w.heap.size, 0, none⟩) 1 1 [digT r] := (made_dig (digT r) _ HD.out w).drew'
      have bel4 : Below w.heap.size w (w.alloc (.cells #[.int .u8 (48 + (r : Int))] 5)).drew := ((Below.refl _ w).alloc (Nat.le_refl _) _).drew
      refine hK.out _ _ trivial (fun _ => ?_)
      refine wpAnyH_grow' (S' := fun W => Sl W (some ⟨w.heap.size, 0, none⟩) 1 1 [digT r]) (fun _ _ => trivial) ?_
      clear hK K
      refine wpAnyH_take (i := 8) (v := .string ⟨[digT r].toArray⟩) rfl (by kernel_rfl) (by kernel_rfl) (by kernel_rfl) (fun _ _ _ h => h) (Or.inl ⟨by rfl, fun W hW => exec_convert' rfl rfl (hW.str 66 5 9 Tryd.underlying66 Tryd.underlying5 Tryd.underlying9)⟩) hm ?_
      simp only [Act.put, List.getElem_toArray, List.getElem_cons_zero, List.getElem_cons_succ, List.setIfInBounds_toArray, List.set_cons_zero, List.set_cons_succ]
      refine wpAnyH_ready (rs := [2]) (by kernel_rfl) (by simp) ?_
      refine AllReadyH.cons (o := _) rfl (fun K hK => ?_) AllReadyH.nil
      simp only [List.getElem_toArray, List.getElem_cons_zero, List.getElem_cons_succ]
      go_simp
      refine (IH.out _).mono ?_
      rintro e w3 ⟨rfl, bel3⟩
      dsimp only
      have bel5 := bel4.trans (bel3.mono bel4.size)
      refine hK.out _ _ (hm.below bel3) (fun hm3 => ?_)
      clear hK K hm
      refine wpAnyH_take (i := 9) (v := ?_) rfl (by kernel_rfl) (by kernel_rfl) (by kernel_rfl) (fun _ _ _ h => h) (Or.inl ⟨by rfl, ?_⟩) hm3 ?_
      rotate_left
      · ((intro w hw; clear hw; go_simp) <;> with_reducible rfl)
      simp only [Act.put, List.getElem_toArray, List.getElem_cons_zero, List.getElem_cons_succ, List.setIfInBounds_toArray, List.set_cons_zero, List.set_cons_succ]
      refine wpAnyH_take (i := 10) (v := ?_) rfl (by kernel_rfl) (by kernel_rfl) (by kernel_rfl) (fun _ _ _ h => h) (Or.inl ⟨by rfl, ?_⟩) hm3 ?_
      rotate_left
      · ((intro w hw; clear hw; go_simp) <;> with_reducible rfl)
      simp only [Act.put, List.getElem_toArray, List.getElem_cons_zero, List.getElem_cons_succ, List.setIfInBounds_toArray, List.set_cons_zero, List.set_cons_succ]
      refine wpAnyH_done (by kernel_rfl) ?_ _
      go_wp2
      go_ret
      exact ⟨rfl, bel5⟩
open Go.RowKit

/-- An address's text. -/
def adT (a b c d : UInt8) : List UInt8 := decT a.toNat ++ [46] ++ decT b.toNat ++ [46] ++ decT c.toNat ++ [46] ++ decT d.toNat
theorem byte_len (a : UInt8) : (decT a.toNat).length ≤ 3 := decT_len 2 _ (by have := a.toNat_lt; omega)

/-- The first and the last number of a net of m bits. -/
def firstN (n m : Nat) : Nat := 2 ^ (32 - m) * (n / 2 ^ (32 - m))
def lastN (n m : Nat) : Nat := 2 ^ (32 - m) * (n / 2 ^ (32 - m)) + (2 ^ (32 - m) - 1)
/-- On the way from bit m to bit k. -/
def clrN (n m k : Nat) : Nat := 2 ^ (32 - m) * (n / 2 ^ (32 - m)) + n % 2 ^ (32 - k)
def setN (n m k : Nat) : Nat := 2 ^ (32 - m) * (n / 2 ^ (32 - m)) + (2 ^ (32 - m) - 2 ^ (32 - k)) + n % 2 ^ (32 - k)
theorem net_top (n m : Nat) (hm : m ≤ 32) (hn : n < 2 ^ 32) : 2 ^ (32 - m) * (n / 2 ^ (32 - m)) + 2 ^ (32 - m) ≤ 2 ^ 32 := by
  have h1 : n / 2 ^ (32 - m) < 2 ^ m := by
    rw [Nat.div_lt_iff_lt_mul (Nat.two_pow_pos _), ← Nat.pow_add, show m + (32 - m) = 32 by omega]; exact hn
  have h2 : 2 ^ (32 - m) * (n / 2 ^ (32 - m) + 1) ≤ 2 ^ (32 - m) * 2 ^ m := Nat.mul_le_mul_left _ h1
  rw [← Nat.pow_add, show 32 - m + m = 32 by omega, Nat.mul_add, Nat.mul_one] at h2
  exact h2
theorem lastN_lt (n m : Nat) (hm : m ≤ 32) (hn : n < 4294967296) : lastN n m < 4294967296 := by
  have := net_top n m hm hn
  have := Nat.two_pow_pos (32 - m)
  unfold lastN; omega
theorem firstN_le (n m : Nat) : firstN n m ≤ n := Nat.mul_div_le n _
/-- A net has a number: its first bits are the net's. -/
theorem firstN_eq (n k m : Nat) : firstN n m = firstN k m ↔ n / 2 ^ (32 - m) = k / 2 ^ (32 - m) := by
  unfold firstN
  exact ⟨fun h => Nat.eq_of_mul_eq_mul_left (Nat.two_pow_pos _) h, fun h => by rw [h]⟩
theorem has_between (n k m : Nat) : firstN n m = firstN k m ↔ firstN n m ≤ k ∧ k ≤ lastN n m := by
  rw [firstN_eq]
  have hP := Nat.two_pow_pos (32 - m)
  have h1 := Nat.div_add_mod k (2 ^ (32 - m))
  have h2 := Nat.mod_lt k hP
  unfold firstN lastN
  generalize (2 : Nat) ^ (32 - m) = P at *
  constructor
  · intro h
    rw [h]
    omega
  · rintro ⟨ha, hb⟩
    have hc : n / P ≤ k / P := by
      rw [Nat.le_div_iff_mul_le hP, Nat.mul_comm]; exact ha
    have hd : k / P ≤ n / P := by
      have : k < (n / P + 1) * P := by rw [Nat.add_mul, Nat.one_mul, Nat.mul_comm]; omega
      have := Nat.div_lt_of_lt_mul (by rw [Nat.mul_comm]; exact this : k < P * (n / P + 1))
      omega
    omega
open Go.RowKit

/-- An address by its number. -/
def adr (n : Nat) : Value := .agg #[.int .u8 ((n : Int) / 16777216), .int .u8 ((n : Int) / 65536 % 256), .int .u8 ((n : Int) / 256 % 256), .int .u8 ((n : Int) % 256)]

def clamp (b : Int) : Nat := if b < 0 then 0 else if 32 < b then 32 else b.toNat
theorem clamp_le (b : Int) : clamp b ≤ 32 := by unfold clamp; split <;> (try split) <;> omega

theorem be_four_lt (a b c d : UInt8) : be [a, b, c, d] < 4294967296 := be_lt 4 [a, b, c, d] rfl

open Go.RowKit

/-- An address and bits, as the reference reads them. -/
def splitA (l : List UInt8) : UInt8 × UInt8 × UInt8 × UInt8 :=
  if 18 < l.length then (0, 0, 0, 0) else match cutF 47 l with
  | [x, _] => (parse4 x).getD (0, 0, 0, 0)
  | _ => (0, 0, 0, 0)
def splitN (l : List UInt8) : Int :=
  if 18 < l.length then 0 else match cutF 47 l with
  | [_, y] => numI y 32
  | _ => 0
def splitOk (l : List UInt8) : Bool :=
  if 18 < l.length then false else match cutF 47 l with
  | [x, y] => (parse4 x).isSome && decide (0 ≤ numI y 32)
  | _ => false
/-- What Split answers. -/
def SplitPost (l : List UInt8) (w : World) (e : Ending) (w' : World) : Prop :=
  e = .returned (.tuple #[addrV (splitA l).1 (splitA l).2.1 (splitA l).2.2.1 (splitA l).2.2.2, .int .i64 (splitN l), .bool (splitOk l)]) ∧ Below w.heap.size w w'
theorem numGo_append : ∀ (l t : List UInt8) (v : Nat), numGo (l ++ t) v = (numGo l v).bind (numGo t)
  | [], t, v => rfl
  | c :: l, t, v => by
    rw [List.cons_append, numGo, numGo]
    split
    · rfl
    · exact numGo_append l t _
theorem numGo_dig (r v : Nat) (h : r < 10) : numGo [digT r] v = some (10 * v + r) := by
  rw [numGo, digT_val h, if_neg (by omega), numGo]; congr 1; omega
theorem numGo_decT : ∀ (k n : Nat), n < 10 ^ (k + 1) → numGo (decT n) 0 = some n := by
  intro k
  induction k with
  | zero => intro n h; rw [decT_small (by omega), numGo_dig _ _ (by omega)]; congr 1; omega
  | succ k ih =>
    intro n h
    by_cases hn : n < 10
    · rw [decT_small hn, numGo_dig _ _ hn]; congr 1; omega
    · rw [decT_more hn, numGo_append, ih (n / 10) (by rw [Nat.pow_succ] at h; omega)]
      show numGo [digT (n % 10)] (n / 10) = _
      rw [numGo_dig _ _ (by omega)]; congr 1; omega
theorem decT_pos (n : Nat) : 1 ≤ (decT n).length := by
  by_cases hn : n < 10
  · rw [decT_small hn]; simp
  · rw [decT_more hn]; simp
theorem decT_head : ∀ (k n : Nat), n < 10 ^ (k + 1) → 1 ≤ n → (decT n)[0]? ≠ some 48 := by
  intro k
  induction k with
  | zero =>
    intro n h h1
    rw [decT_small (by omega)]
    intro he
    have e : digT n = 48 := by simpa using he
    have := digT_val (n := n) (by omega)
    rw [e] at this
    have : (48 : UInt8).toNat = 48 := rfl
    omega
  | succ k ih =>
    intro n h h1
    by_cases hn : n < 10
    · exact ih n (by have : (10 : Nat) ^ 1 ≤ 10 ^ (k + 1) := Nat.pow_le_pow_right (by omega) (by omega); omega) h1
    · rw [decT_more hn, List.getElem?_append_left (decT_pos _)]
      exact ih (n / 10) (by rw [Nat.pow_succ] at h; omega) (by omega)
theorem numI_decT (n : Nat) (most : Int) (h : n < 1000000000) (hm : (n : Int) ≤ most) : numI (decT n) most = n := by
  have hl := decT_len 8 n (by omega)
  have hp := decT_pos n
  rw [numI_some most n ?_ (numGo_decT 8 n (by omega)), if_neg (by omega)]
  rintro (h1 | h1 | ⟨h1, h2⟩)
  · omega
  · omega
  · by_cases h0 : n < 10
    · rw [decT_small h0] at h1; simp at h1
    · exact decT_head 8 n (by omega) (by omega) h2
theorem decT_digits : ∀ (k n : Nat), n < 10 ^ (k + 1) → ∀ c ∈ decT n, 48 ≤ c.toNat ∧ c.toNat ≤ 57 := by
  intro k
  induction k with
  | zero =>
    intro n h c hc
    rw [decT_small (by omega)] at hc
    rw [List.mem_singleton.1 hc, digT_val (by omega)]; omega
  | succ k ih =>
    intro n h c hc
    by_cases hn : n < 10
    · rw [decT_small hn] at hc
      rw [List.mem_singleton.1 hc, digT_val hn]; omega
    · rw [decT_more hn] at hc
      rcases List.mem_append.1 hc with h1 | h1
      · exact ih (n / 10) (by rw [Nat.pow_succ] at h; omega) c h1
      · rw [List.mem_singleton.1 h1, digT_val (by omega)]; omega

theorem cut_free (b : UInt8) : ∀ (t : List UInt8) (ls : List (List UInt8)) (x : List UInt8), (∀ c ∈ t, c ≠ b) → t.foldl (cutStep b) (ls ++ [x]) = ls ++ [x ++ t]
  | [], ls, x, _ => by simp
  | c :: t, ls, x, h => by
    rw [List.foldl_cons]
    have hc : cutStep b (ls ++ [x]) c = ls ++ [x ++ [c]] := by
      unfold cutStep; rw [if_neg (h c (by simp))]; simp
    rw [hc, cut_free b t ls (x ++ [c]) (fun y hy => h y (by simp [hy]))]
    simp
theorem cut_at (b : UInt8) (l t : List UInt8) (ht : ∀ c ∈ t, c ≠ b) : cutF b (l ++ [b] ++ t) = cutF b l ++ [t] := by
  unfold cutF
  rw [List.foldl_append, List.foldl_append, List.foldl_cons, List.foldl_nil]
  have hb : cutStep b (List.foldl (cutStep b) [[]] l) b = List.foldl (cutStep b) [[]] l ++ [[]] := if_pos rfl
  rw [hb, cut_free b t _ [] ht]
  simp
theorem cut_none (b : UInt8) (t : List UInt8) (ht : ∀ c ∈ t, c ≠ b) : cutF b t = [t] := by
  have := cut_free b t [] [] ht
  simpa [cutF] using this
theorem dec_free (b : UInt8) (n : Nat) (hn : n < 1000) (hb : b.toNat < 48) : ∀ c ∈ decT n, c ≠ b := by
  intro c hc e
  have := decT_digits 2 n (by omega) c hc
  rw [e] at this; omega
theorem cut_adT (a b c d : UInt8) : cutF 46 (adT a b c d) = [decT a.toNat, decT b.toNat, decT c.toNat, decT d.toNat] := by
  have fa := dec_free 46 a.toNat (by have := a.toNat_lt; omega) (by decide)
  have fb := dec_free 46 b.toNat (by have := b.toNat_lt; omega) (by decide)
  have fc := dec_free 46 c.toNat (by have := c.toNat_lt; omega) (by decide)
  have fd := dec_free 46 d.toNat (by have := d.toNat_lt; omega) (by decide)
  unfold adT
  rw [cut_at 46 _ _ fd, cut_at 46 _ _ fc, cut_at 46 _ _ fb, cut_none 46 _ fa]
  rfl
theorem byteOf_nat (a : UInt8) : byteOf (a.toNat : Int) = a := by
  apply UInt8.toNat_inj.1
  have := byteOf_val (a.toNat : Int)
  have := a.toNat_lt
  omega
theorem adT_len (a b c d : UInt8) : (adT a b c d).length ≤ 15 := by
  have := byte_len a; have := byte_len b; have := byte_len c; have := byte_len d
  unfold adT
  simp only [List.length_append, List.length_singleton]
  omega
/-- An address's text is read as the address. -/
theorem parse_adT (a b c d : UInt8) : parse4 (adT a b c d) = some (a, b, c, d) := by
  have hl := adT_len a b c d
  have na := numI_decT a.toNat 255 (by have := a.toNat_lt; omega) (by have := a.toNat_lt; omega)
  have nb := numI_decT b.toNat 255 (by have := b.toNat_lt; omega) (by have := b.toNat_lt; omega)
  have nc := numI_decT c.toNat 255 (by have := c.toNat_lt; omega) (by have := c.toNat_lt; omega)
  have nd := numI_decT d.toNat 255 (by have := d.toNat_lt; omega) (by have := d.toNat_lt; omega)
  unfold parse4
  rw [if_neg (by omega), cut_adT]
  simp only [na, nb, nc, nd]
  rw [if_pos (by omega), byteOf_nat, byteOf_nat, byteOf_nat, byteOf_nat]
theorem adT_free (a b c d : UInt8) : ∀ x ∈ adT a b c d, x ≠ 47 := by
  intro x hx
  unfold adT at hx
  simp only [List.mem_append, List.mem_singleton] at hx
  have f := fun (u : UInt8) => dec_free 47 u.toNat (by have := u.toNat_lt; omega) (by decide)
  rcases hx with (((((h | h) | h) | h) | h) | h) | h
  · exact f a x h
  · rw [h]; decide
  · exact f b x h
  · rw [h]; decide
  · exact f c x h
  · rw [h]; decide
  · exact f d x h
open Go.RowKit

/-- The i-th byte of a Mac's text; -1: none. -/
def macB (l : List UInt8) (i : Nat) : Int :=
  if hexI (l.getD (3 * i) 0) < 0 ∨ hexI (l.getD (3 * i + 1) 0) < 0 ∨ (i < 5 ∧ l.getD (3 * i + 2) 0 ≠ 58) then -1 else 16 * hexI (l.getD (3 * i) 0) + hexI (l.getD (3 * i + 1) 0)
def macBs (l : List UInt8) (k : Nat) : List UInt8 := (List.range 6).map fun i => if i < k then byteOf (macB l i) else 0
def macOk (l : List UInt8) : Prop := l.length = 17 ∧ ∀ i, i < 6 → 0 ≤ macB l i
def mac0 : Value := .agg #[.int .u8 0, .int .u8 0, .int .u8 0, .int .u8 0, .int .u8 0, .int .u8 0]
theorem cells6 {w : World} {k : Nat} {a b c d e f : Value} {T : TypeId} (h : w.heap[k]? = some (.cells #[a, b, c, d, e, f] T (0, 0))) :
    (w.cell? ⟨k, 0, none⟩ = some a ∧ w.cell? ⟨k, 1, none⟩ = some b ∧ w.cell? ⟨k, 2, none⟩ = some c ∧ w.cell? ⟨k, 3, none⟩ = some d ∧ w.cell? ⟨k, 4, none⟩ = some e ∧ w.cell? ⟨k, 5, none⟩ = some f) ∧
    (w.frozen? ⟨k, 0, none⟩ = false ∧ w.frozen? ⟨k, 1, none⟩ = false ∧ w.frozen? ⟨k, 2, none⟩ = false ∧ w.frozen? ⟨k, 3, none⟩ = false ∧ w.frozen? ⟨k, 4, none⟩ = false ∧ w.frozen? ⟨k, 5, none⟩ = false) := by
  simp [World.cell?, World.frozen?, h]
theorem put6 {w : World} {k : Nat} {a b c d e f x y z u v t : Value} {T : TypeId} (h : w.heap[k]? = some (.cells #[a, b, c, d, e, f] T (0, 0))) :
    ((((((w.setCell ⟨k, 0, none⟩ x).setCell ⟨k, 1, none⟩ y).setCell ⟨k, 2, none⟩ z).setCell ⟨k, 3, none⟩ u).setCell ⟨k, 4, none⟩ v).setCell ⟨k, 5, none⟩ t).heap[k]? = some (.cells #[x, y, z, u, v, t] T (0, 0)) := by
  simp [World.setCell, Array.getElem?_modify, h]

/-- What ParseMac answers: the value's bytes are macBs. -/
def MacPost (l : List UInt8) (w : World) (e : Ending) (w' : World) : Prop :=
  (macOk l ∧ e = .returned (.tuple #[.agg ((macBs l 6).map u8v).toArray, .bool true]) ∨ ¬ macOk l ∧ e = .returned (.tuple #[mac0, .bool false])) ∧ Below w.heap.size w w'
open Go.RowKit

/-- Two digits' value; -1: none. -/
def hpI (x : List UInt8) : Int := match x with
  | [a, b] => if 0 ≤ hexI a ∧ 0 ≤ hexI b then 16 * hexI a + hexI b else -1
  | _ => -1
theorem hpI_range (x : List UInt8) : hpI x = -1 ∨ (0 ≤ hpI x ∧ hpI x ≤ 255) := by
  unfold hpI
  split
  · rename_i a b
    have := hexI_range a
    have := hexI_range b
    split
    · right; omega
    · exact .inl rfl
  · exact .inl rfl
theorem hpI_two {x : List UInt8} (h : 0 ≤ hpI x) : ∃ a b, x = [a, b] ∧ 0 ≤ hexI a ∧ 0 ≤ hexI b ∧ hpI x = 16 * hexI a + hexI b := by
  match x, h with
  | [a, b], h =>
    unfold hpI at h ⊢
    simp only at h ⊢
    by_cases hk : 0 ≤ hexI a ∧ 0 ≤ hexI b
    · rw [if_pos hk]; exact ⟨a, b, rfl, hk.1, hk.2, rfl⟩
    · rw [if_neg hk] at h; omega
  | [], h | [_], h | _ :: _ :: _ :: _, h => simp [hpI] at h
theorem hexI_58 {c : UInt8} (h : 0 ≤ hexI c) : c ≠ 58 := by
  intro e; subst e; revert h; decide
theorem macB_at {l : List UInt8} {i : Nat} {a b : UInt8} (h0 : l.getD (3 * i) 0 = a) (h1 : l.getD (3 * i + 1) 0 = b) (h2 : i < 5 → l.getD (3 * i + 2) 0 = 58) (ha : 0 ≤ hexI a) (hb : 0 ≤ hexI b) : macB l i = 16 * hexI a + hexI b := by
  unfold macB
  rw [h0, h1, if_neg]
  rintro (h | h | ⟨h, h'⟩)
  · omega
  · omega
  · exact h' (h2 h)
theorem mac_of_pieces {l p0 p1 p2 p3 p4 p5 : List UInt8} (h : cutF 58 l = [p0, p1, p2, p3, p4, p5]) (h0 : 0 ≤ hpI p0) (h1 : 0 ≤ hpI p1) (h2 : 0 ≤ hpI p2) (h3 : 0 ≤ hpI p3) (h4 : 0 ≤ hpI p4) (h5 : 0 ≤ hpI p5) :
    macOk l ∧ macBs l 6 = [byteOf (hpI p0), byteOf (hpI p1), byteOf (hpI p2), byteOf (hpI p3), byteOf (hpI p4), byteOf (hpI p5)] := by
  obtain ⟨a0, b0, rfl, x0, y0, e0⟩ := hpI_two h0
  obtain ⟨a1, b1, rfl, x1, y1, e1⟩ := hpI_two h1
  obtain ⟨a2, b2, rfl, x2, y2, e2⟩ := hpI_two h2
  obtain ⟨a3, b3, rfl, x3, y3, e3⟩ := hpI_two h3
  obtain ⟨a4, b4, rfl, x4, y4, e4⟩ := hpI_two h4
  obtain ⟨a5, b5, rfl, x5, y5, e5⟩ := hpI_two h5
  have hj := joinF_cut 58 l
  rw [h] at hj
  have hl : l = [a0, b0, 58, a1, b1, 58, a2, b2, 58, a3, b3, 58, a4, b4, 58, a5, b5] := by rw [← hj]; rfl
  subst hl
  have m0 : macB [a0, b0, 58, a1, b1, 58, a2, b2, 58, a3, b3, 58, a4, b4, 58, a5, b5] 0 = 16 * hexI a0 + hexI b0 := macB_at rfl rfl (fun _ => rfl) x0 y0
  have m1 : macB [a0, b0, 58, a1, b1, 58, a2, b2, 58, a3, b3, 58, a4, b4, 58, a5, b5] 1 = 16 * hexI a1 + hexI b1 := macB_at rfl rfl (fun _ => rfl) x1 y1
  have m2 : macB [a0, b0, 58, a1, b1, 58, a2, b2, 58, a3, b3, 58, a4, b4, 58, a5, b5] 2 = 16 * hexI a2 + hexI b2 := macB_at rfl rfl (fun _ => rfl) x2 y2
  have m3 : macB [a0, b0, 58, a1, b1, 58, a2, b2, 58, a3, b3, 58, a4, b4, 58, a5, b5] 3 = 16 * hexI a3 + hexI b3 := macB_at rfl rfl (fun _ => rfl) x3 y3
  have m4 : macB [a0, b0, 58, a1, b1, 58, a2, b2, 58, a3, b3, 58, a4, b4, 58, a5, b5] 4 = 16 * hexI a4 + hexI b4 := macB_at rfl rfl (fun _ => rfl) x4 y4
  have m5 : macB [a0, b0, 58, a1, b1, 58, a2, b2, 58, a3, b3, 58, a4, b4, 58, a5, b5] 5 = 16 * hexI a5 + hexI b5 := macB_at rfl rfl (fun h => absurd h (by omega)) x5 y5
  refine ⟨⟨rfl, fun i hi => ?_⟩, ?_⟩
  · rcases (by omega : i = 0 ∨ i = 1 ∨ i = 2 ∨ i = 3 ∨ i = 4 ∨ i = 5) with rfl | rfl | rfl | rfl | rfl | rfl
    · rw [m0]; omega
    · rw [m1]; omega
    · rw [m2]; omega
    · rw [m3]; omega
    · rw [m4]; omega
    · rw [m5]; omega
  · rw [e0, e1, e2, e3, e4, e5, ← m0, ← m1, ← m2, ← m3, ← m4, ← m5]
    rfl
theorem macB_parts {l : List UInt8} {i : Nat} (h : 0 ≤ macB l i) : 0 ≤ hexI (l.getD (3 * i) 0) ∧ 0 ≤ hexI (l.getD (3 * i + 1) 0) ∧ (i < 5 → l.getD (3 * i + 2) 0 = 58) := by
  unfold macB at h
  split at h
  · omega
  · rename_i hn
    refine ⟨by omega, by omega, fun h5 => ?_⟩
    by_cases e : l.getD (3 * i + 2) 0 = 58
    · exact e
    · exact absurd (.inr (.inr ⟨h5, e⟩)) hn
theorem pair_free {a b : UInt8} (ha : 0 ≤ hexI a) (hb : 0 ≤ hexI b) : ∀ c ∈ [a, b], c ≠ 58 := by
  intro c hc
  simp only [List.mem_cons, List.not_mem_nil, or_false] at hc
  rcases hc with rfl | rfl
  · exact hexI_58 ha
  · exact hexI_58 hb
theorem hpI_pair {a b : UInt8} (ha : 0 ≤ hexI a) (hb : 0 ≤ hexI b) : 0 ≤ hpI [a, b] := by
  unfold hpI; simp only; rw [if_pos ⟨ha, hb⟩]; omega
theorem list_17 (l : List UInt8) (h : l.length = 17) : ∃ a0 b0 c0 a1 b1 c1 a2 b2 c2 a3 b3 c3 a4 b4 c4 a5 b5 : UInt8, l = [a0, b0, c0, a1, b1, c1, a2, b2, c2, a3, b3, c3, a4, b4, c4, a5, b5] := by
  match l, h with
  | [a0, b0, c0, a1, b1, c1, a2, b2, c2, a3, b3, c3, a4, b4, c4, a5, b5], _ => exact ⟨_, _, _, _, _, _, _, _, _, _, _, _, _, _, _, _, _, rfl⟩
theorem pieces_of_mac {l : List UInt8} (h : macOk l) : ∃ p0 p1 p2 p3 p4 p5 : List UInt8, cutF 58 l = [p0, p1, p2, p3, p4, p5] ∧ 0 ≤ hpI p0 ∧ 0 ≤ hpI p1 ∧ 0 ≤ hpI p2 ∧ 0 ≤ hpI p3 ∧ 0 ≤ hpI p4 ∧ 0 ≤ hpI p5 := by
  obtain ⟨a0, b0, c0, a1, b1, c1, a2, b2, c2, a3, b3, c3, a4, b4, c4, a5, b5, rfl⟩ := list_17 l h.1
  obtain ⟨x0, y0, z0⟩ := macB_parts (h.2 0 (by omega))
  obtain ⟨x1, y1, z1⟩ := macB_parts (h.2 1 (by omega))
  obtain ⟨x2, y2, z2⟩ := macB_parts (h.2 2 (by omega))
  obtain ⟨x3, y3, z3⟩ := macB_parts (h.2 3 (by omega))
  obtain ⟨x4, y4, z4⟩ := macB_parts (h.2 4 (by omega))
  obtain ⟨x5, y5, _⟩ := macB_parts (h.2 5 (by omega))
  obtain rfl : c0 = 58 := z0 (by omega)
  obtain rfl : c1 = 58 := z1 (by omega)
  obtain rfl : c2 = 58 := z2 (by omega)
  obtain rfl : c3 = 58 := z3 (by omega)
  obtain rfl : c4 = 58 := z4 (by omega)
  replace x0 : 0 ≤ hexI a0 := x0
  replace y0 : 0 ≤ hexI b0 := y0
  replace x1 : 0 ≤ hexI a1 := x1
  replace y1 : 0 ≤ hexI b1 := y1
  replace x2 : 0 ≤ hexI a2 := x2
  replace y2 : 0 ≤ hexI b2 := y2
  replace x3 : 0 ≤ hexI a3 := x3
  replace y3 : 0 ≤ hexI b3 := y3
  replace x4 : 0 ≤ hexI a4 := x4
  replace y4 : 0 ≤ hexI b4 := y4
  replace x5 : 0 ≤ hexI a5 := x5
  replace y5 : 0 ≤ hexI b5 := y5
  have e : cutF 58 ([a0, b0] ++ [58] ++ [a1, b1] ++ [58] ++ [a2, b2] ++ [58] ++ [a3, b3] ++ [58] ++ [a4, b4] ++ [58] ++ [a5, b5]) = [[a0, b0], [a1, b1], [a2, b2], [a3, b3], [a4, b4], [a5, b5]] := by
    rw [cut_at 58 _ _ (pair_free x5 y5), cut_at 58 _ _ (pair_free x4 y4), cut_at 58 _ _ (pair_free x3 y3), cut_at 58 _ _ (pair_free x2 y2), cut_at 58 _ _ (pair_free x1 y1), cut_none 58 _ (pair_free x0 y0)]
    rfl
  exact ⟨_, _, _, _, _, _, e, hpI_pair x0 y0, hpI_pair x1 y1, hpI_pair x2 y2, hpI_pair x3 y3, hpI_pair x4 y4, hpI_pair x5 y5⟩

/-- The bytes that are read so far. -/
def mBs (ls : List (List UInt8)) (k : Nat) : List UInt8 := (List.range 6).map fun i => if i < k then byteOf (hpI (ls.getD i [])) else 0
theorem mBs_len (ls : List (List UInt8)) (k : Nat) : (mBs ls k).length = 6 := by simp [mBs]
theorem mBs_zero (ls : List (List UInt8)) : mBs ls 0 = [0, 0, 0, 0, 0, 0] := by simp [mBs, List.range, List.range.loop]
theorem mBs_six (a b c d e f : List UInt8) : mBs [a, b, c, d, e, f] 6 = [byteOf (hpI a), byteOf (hpI b), byteOf (hpI c), byteOf (hpI d), byteOf (hpI e), byteOf (hpI f)] := by simp [mBs, List.range, List.range.loop]
theorem mBs_set (ls : List (List UInt8)) (k : Nat) : (mBs ls k).set k (byteOf (hpI (ls.getD k []))) = mBs ls (k + 1) := by
  apply List.ext_getElem
  · simp [mBs]
  · intro i h1 h2
    rw [List.getElem_set]
    simp only [mBs, List.getElem_map, List.getElem_range]
    by_cases e : k = i
    · subst e; simp
    · rw [if_neg e]
      by_cases e2 : i < k
      · rw [if_pos e2, if_pos (by omega)]
      · rw [if_neg e2, if_neg (by omega)]

theorem hexP_no (x : List UInt8) (h : hpI x = -1) (w : World) : Calls Tryd.prog 93 #[.string ⟨x.toArray⟩] w fun e w' => e = .returned (.tuple #[.int .u8 0, .bool false]) ∧ Below w.heap.size w w' := by
  have hsz : (⟨x.toArray⟩ : ByteArray).size = x.length := size_bs x
  by_cases h2 : x.length = 2
  · match x, h2, h, hsz with
    | [a, b], _, h, hsz =>
      refine hexPair_no ⟨#[a, b]⟩ rfl ?_ w
      unfold hpI at h
      simp only at h
      have ha : (⟨#[a, b]⟩ : ByteArray)[0]'(by show 0 < (2 : Nat); omega) = a := rfl
      have hb : (⟨#[a, b]⟩ : ByteArray)[1]'(by show 1 < (2 : Nat); omega) = b := rfl
      rw [ha, hb]
      have := hexI_range a
      have := hexI_range b
      split at h <;> omega
  · exact hexPair_len ⟨x.toArray⟩ (by rw [hsz]; exact h2) w
theorem hexP_yes (x : List UInt8) (h : 0 ≤ hpI x) (w : World) : Calls Tryd.prog 93 #[.string ⟨x.toArray⟩] w fun e w' => e = .returned (.tuple #[.int .u8 (hpI x), .bool true]) ∧ Below w.heap.size w w' := by
  obtain ⟨a, b, rfl, ha, hb, e⟩ := hpI_two h
  rw [e]
  exact hexPair_ok ⟨#[a, b]⟩ rfl ha hb w

/-- What ParseMac answers. -/
def AMacPost (l : List UInt8) (w : World) (e : Ending) (w' : World) : Prop :=
  (macOk l ∧ e = .returned (.tuple #[.agg ((macBs l 6).map u8v).toArray, .int .i64 0]) ∨ ¬ macOk l ∧ e = .returned (.tuple #[mac0, .int .i64 9])) ∧ Below w.heap.size w w'

abbrev z6 : Array Value := #[.int .u8 0, .int .u8 0, .int .u8 0, .int .u8 0, .int .u8 0, .int .u8 0]
/-- Two blocks of six zeros, behind a call. -/
theorem two_mac {w w1 : World} (h : Below ((w.alloc (.cells #[.int .u8 0, .int .u8 0, .int .u8 0, .int .u8 0, .int .u8 0, .int .u8 0] 28)).alloc (.cells #[.int .u8 0, .int .u8 0, .int .u8 0, .int .u8 0, .int .u8 0, .int .u8 0] 28)).heap.size ((w.alloc (.cells #[.int .u8 0, .int .u8 0, .int .u8 0, .int .u8 0, .int .u8 0, .int .u8 0] 28)).alloc (.cells #[.int .u8 0, .int .u8 0, .int .u8 0, .int .u8 0, .int .u8 0, .int .u8 0] 28)) w1) :
    w1.heap[w.heap.size]? = some (.cells #[.int .u8 0, .int .u8 0, .int .u8 0, .int .u8 0, .int .u8 0, .int .u8 0] 28 (0, 0)) ∧ w1.heap[w.heap.size + 1]? = some (.cells #[.int .u8 0, .int .u8 0, .int .u8 0, .int .u8 0, .int .u8 0, .int .u8 0] 28 (0, 0)) ∧ w.heap.size + 1 < w1.heap.size ∧ Below w.heap.size w w1 := by
  have hs := h.size
  simp at hs
  have h0 : ((w.alloc (.cells z6 28)).alloc (.cells z6 28)).heap[w.heap.size]? = some (.cells z6 28 (0, 0)) :=
    (Go.heap_alloc_old (w.alloc (.cells z6 28)) (.cells z6 28) (r := w.heap.size) (by simp)).trans (heap_alloc_new w _)
  have h1 : ((w.alloc (.cells z6 28)).alloc (.cells z6 28)).heap[w.heap.size + 1]? = some (.cells z6 28 (0, 0)) := by
    have := heap_alloc_new (w.alloc (.cells z6 28)) (.cells z6 28); simpa using this
  refine ⟨(h.block _ (by simp; omega)).trans h0, (h.block _ (by simp)).trans h1, by omega, ?_⟩
  exact (((Below.refl w.heap.size w).alloc (Nat.le_refl _) _).alloc (by simp) _).trans (h.mono (by simp; omega))

set_option maxRecDepth 100000 in
set_option maxHeartbeats 4000000 in
theorem amac_pieces (s : ByteArray) (w : World) (hs : s.size ≤ 140737488355328) (h : (cutF 58 s.data.toList).length ≠ 6) : Calls Tryd.prog 84 #[.string s] w (AMacPost s.data.toList w) := by
  have NO : Hid (¬ macOk s.data.toList) := Lib.hid fun hm => by
    obtain ⟨_, _, _, _, _, _, e, _⟩ := pieces_of_mac hm
    rw [e] at h; exact h rfl
  have SP := Lib.hid fun W => asplit_no s 58 6 58 6 rfl rfl (by decide) (by omega) (by omega) W hs h
  clear h hs
  go_enter Tryd.func84, Tryd.ntmps84
  go_wp2_with fail
  with_reducible refine (SP.out _).mono ?_
  rintro e w1 ⟨rfl, bel1⟩
  obtain ⟨r0, r1, r2, bel⟩ := two_mac bel1
  obtain ⟨⟨q0, q1, q2, q3, q4, q5⟩, f0, f1, f2, f3, f4, f5⟩ := cells6 r0
  have R0 := Lib.hid r0
  clear r0 r1 bel1
  go_wp2
  have R4 := put6 (x := .int .u8 0) (y := .int .u8 0) (z := .int .u8 0) (u := .int .u8 0) (v := .int .u8 0) (t := .int .u8 0) R0.out
  obtain ⟨⟨k0, k1, k2, k3, k4, k5⟩, _⟩ := cells6 R4
  clear R4
  exact bodyPost_ret (v := .tuple #[mac0, .int .i64 9]) (by simp [results, Tryd.results84, go_sem, mac0, k0, k1, k2, k3, k4, k5]) rfl ⟨.inr ⟨NO.out, rfl⟩, (((((bel.setCell (Nat.le_refl _) _).setCell (Nat.le_refl _) _).setCell (Nat.le_refl _) _).setCell (Nat.le_refl _) _).setCell (Nat.le_refl _) _).setCell (Nat.le_refl _) _⟩

set_option maxRecDepth 100000 in
set_option maxHeartbeats 4000000 in
theorem amac_six (s : ByteArray) (w : World) (hs : s.size ≤ 140737488355328) (p0 p1 p2 p3 p4 p5 : List UInt8) (h : cutF 58 s.data.toList = [p0, p1, p2, p3, p4, p5]) : Calls Tryd.prog 84 #[.string s] w (AMacPost s.data.toList w) := by
  have H6 := Lib.hid h
  have SP := fun W => asplit_yes s 58 6 58 6 rfl rfl (by decide) (by omega) (by omega) W hs (by rw [h]; rfl)
  rw [h] at SP
  have SPH := Lib.hid SP
  have HLS : Hid (([p0, p1, p2, p3, p4, p5] : List (List UInt8)).length = 6) := Lib.hid rfl
  obtain ⟨ls, hls⟩ : ∃ ls, Hid (ls = [p0, p1, p2, p3, p4, p5]) := ⟨_, Lib.hid rfl⟩
  rw [← hls.out] at SPH HLS
  clear SP hs h
  go_enter Tryd.func84, Tryd.ntmps84
  go_wp2_with fail
  with_reducible refine (SPH.out _).mono ?_
  rintro e w1 ⟨g, cap, rfl, hcap, hg0, hg1, hc, bel1⟩
  obtain ⟨r0, r1, r2, bel⟩ := two_mac bel1
  have hgw : g ≠ w.heap.size := by simp at hg0; omega
  have hgw1 : g ≠ w.heap.size + 1 := by simp at hg0; omega
  have HC := Lib.hid hc
  have hcap' : (6 : Int) ≤ cap := by omega
  clear hc bel1 hg0 hcap
  go_wp2_with fail
  go_loopw [21] (fun i wr => ∃ k : Nat, k ≤ 6 ∧ i = .int .i64 k ∧ (∀ j, j < k → 0 ≤ hpI (ls.getD j [])) ∧ wr.heap[w.heap.size]? = some (.cells #[.int .u8 0, .int .u8 0, .int .u8 0, .int .u8 0, .int .u8 0, .int .u8 0] 28 (0, 0)) ∧ Ow 28 wr (w.heap.size + 1) 6 (mBs ls k) ∧ (∀ (j : Nat) (x : List UInt8), ls[j]? = some x → wr.cell? ⟨g, j, none⟩ = some (.string ⟨x.toArray⟩)) ∧ g < wr.heap.size ∧ Below w.heap.size w wr) (fun i _ => 6 - (intOf i).toNat)
  case atStart =>
    refine ⟨0, by omega, rfl, fun j hj => by omega, r0, ?_, HC.out, hg1, bel⟩
    rw [mBs_zero]
    refine ⟨by simp, by unfold maxLen; omega, _, r1, fun j b hj => ?_⟩
    match j, hj with
    | 0, hj | 1, hj | 2, hj | 3, hj | 4, hj | 5, hj => simp at hj; subst hj; rfl
    | j + 6, hj => simp at hj
  case round =>
    clear r0 r1 bel hg1
    obtain ⟨k, hk, rfl, hall, hz, hb, hcs, hgl, bel⟩ := hrel
    have HZ := Lib.hid hz
    have HALL := Lib.hid hall
    have HCS := Lib.hid hcs
    have hzl : w.heap.size + 1 < wr.heap.size := hb.lt
    clear hz hall hcs
    by_cases hlt : k < 6
    · obtain ⟨x, hx⟩ : ∃ x, Hid (ls.getD k [] = x) := ⟨_, Lib.hid rfl⟩
      have hxk : ls[k]? = some x := by
        have := HLS.out
        rw [List.getElem?_eq_getElem (by omega), ← hx.out, List.getD_eq_getElem?_getD, List.getElem?_eq_getElem (by omega)]; rfl
      have hcx := HCS.out k x hxk
      have k0 : (0 : Int) ≤ k := by omega
      have k4 : (k : Int) < 6 := by omega
      by_cases hn : 0 ≤ hpI x
      · have DECH := Lib.hid fun W => hexP_yes x hn W
        have hr := hpI_range x
        have n1 : hpI x ≤ 255 := by omega
        have ALL : Hid (∀ j, j < k + 1 → 0 ≤ hpI (ls.getD j [])) := Lib.hid fun j hj => by
          by_cases e : j = k
          · subst e; rw [hx.out]; exact hn
          · exact HALL.out j (by omega)
        have MS : Hid ((mBs ls k).set k (byteOf (hpI x)) = mBs ls (k + 1)) := Lib.hid (by rw [← mBs_set, hx.out])
        have UB : Hid (u8v (byteOf (hpI x)) = .int .u8 (hpI x)) := Lib.hid (u8v_byteOf hn n1)
        clear hxk hr
        go_wp2_with fail
        with_reducible refine (DECH.out _).mono ?_
        rintro e w2 ⟨rfl, bel2⟩
        have hz2 := (bel2.block _ (by omega)).trans HZ.out
        have hb2 := hb.below bel2
        have HCS2 : Hid (∀ (j : Nat) (x : List UInt8), ls[j]? = some x → w2.cell? ⟨g, j, none⟩ = some (.string ⟨x.toArray⟩)) := Lib.hid fun j x hj => (bel2.cell (p := ⟨g, j, none⟩) hgl).trans (HCS.out j x hj)
        have hgl2 := Nat.lt_of_lt_of_le hgl bel2.size
        have belb := bel.trans (bel2.mono (by omega))
        obtain ⟨_, _, cb, fb⟩ := hb2.at_ k (by rw [mBs_len]; exact hlt)
        have HZ2' := Lib.hid hz2
        clear hz2 bel bel2 hb hcx hgl hzl
        go_wp2
        have OW2 := hb2.set k (byteOf (hpI x))
        rw [UB.out, MS.out] at OW2
        have HZ2 := (Below.heap_setCell w2 ⟨w.heap.size + 1, k, none⟩ (.int .u8 (hpI x)) w.heap.size (by simp)).trans HZ2'.out
        have BE2 := belb.setCell (p := ⟨w.heap.size + 1, k, none⟩) (by simp) (.int .u8 (hpI x))
        have CS2 : ∀ (j : Nat) (x' : List UInt8), ls[j]? = some x' → (w2.setCell ⟨w.heap.size + 1, k, none⟩ (.int .u8 (hpI x))).cell? ⟨g, j, none⟩ = some (.string ⟨x'.toArray⟩) := fun j x' hj => by
          rw [World.cell?_of_block (w := w2) (Below.heap_setCell w2 ⟨w.heap.size + 1, k, none⟩ (.int .u8 (hpI x)) g (fun e => hgw1 e))]
          exact HCS2.out j x' hj
        go_roundw
        case rel => exact ⟨k + 1, by omega, by go_num, ALL.out, HZ2, OW2, CS2, by simp; exact hgl2, BE2⟩
        case measure => simp [intOf]; omega
      · have hn1 : hpI x = -1 := by have := hpI_range x; omega
        have DEC := Lib.hid fun W => hexP_no x hn1 W
        have NO : Hid (¬ macOk s.data.toList) := Lib.hid fun hm => by
          obtain ⟨_, _, _, _, _, _, e, g0, g1, g2, g3, g4, g5⟩ := pieces_of_mac hm
          rw [H6.out] at e
          simp only [List.cons.injEq, and_true] at e
          obtain ⟨rfl, rfl, rfl, rfl, rfl, rfl⟩ := e
          have h1 := hx.out
          rw [hls.out] at h1
          match k, hlt, h1 with
          | 0, _, h1 | 1, _, h1 | 2, _, h1 | 3, _, h1 | 4, _, h1 | 5, _, h1 => simp at h1; subst h1; omega
        clear hxk hn hn1
        go_wp2_with fail
        with_reducible refine (DEC.out _).mono ?_
        rintro e w2 ⟨rfl, bel2⟩
        have hz2 := (bel2.block _ (by omega)).trans HZ.out
        have belb := bel.trans (bel2.mono (by omega))
        obtain ⟨⟨q0, q1, q2, q3, q4, q5⟩, f0, f1, f2, f3, f4, f5⟩ := cells6 hz2
        have R0 := Lib.hid hz2
        clear hz2 bel bel2 hb hcx hgl hzl
        go_wp2
        have R4 := put6 (x := .int .u8 0) (y := .int .u8 0) (z := .int .u8 0) (u := .int .u8 0) (v := .int .u8 0) (t := .int .u8 0) R0.out
        obtain ⟨⟨k0, k1, k2, k3, k4, k5⟩, _⟩ := cells6 R4
        clear R4
        exact bodyPost_ret (v := .tuple #[mac0, .int .i64 9]) (by simp [results, Tryd.results84, go_sem, mac0, k0, k1, k2, k3, k4, k5]) rfl ⟨.inr ⟨NO.out, rfl⟩, (((((belb.setCell (Nat.le_refl _) _).setCell (Nat.le_refl _) _).setCell (Nat.le_refl _) _).setCell (Nat.le_refl _) _).setCell (Nat.le_refl _) _).setCell (Nat.le_refl _) _⟩
    · obtain rfl : k = 6 := by omega
      have YES : Hid (macOk s.data.toList ∧ macBs s.data.toList 6 = [byteOf (hpI p0), byteOf (hpI p1), byteOf (hpI p2), byteOf (hpI p3), byteOf (hpI p4), byteOf (hpI p5)]) := Lib.hid (by
        have hall := HALL.out
        rw [hls.out] at hall
        exact mac_of_pieces H6.out (hall 0 (by omega)) (hall 1 (by omega)) (hall 2 (by omega)) (hall 3 (by omega)) (hall 4 (by omega)) (hall 5 (by omega)))
      have hb6 := hb
      rw [hls.out, mBs_six] at hb6
      generalize byteOf (hpI p0) = b0 at *
      generalize byteOf (hpI p1) = b1 at *
      generalize byteOf (hpI p2) = b2 at *
      generalize byteOf (hpI p3) = b3 at *
      generalize byteOf (hpI p4) = b4 at *
      generalize byteOf (hpI p5) = b5 at *
      obtain ⟨c0, _⟩ := hb6.cell 0 (by simp)
      obtain ⟨c1, _⟩ := hb6.cell 1 (by simp)
      obtain ⟨c2, _⟩ := hb6.cell 2 (by simp)
      obtain ⟨c3, _⟩ := hb6.cell 3 (by simp)
      obtain ⟨c4, _⟩ := hb6.cell 4 (by simp)
      obtain ⟨c5, _⟩ := hb6.cell 5 (by simp)
      simp only [List.getElem_cons_zero, List.getElem_cons_succ] at c0 c1 c2 c3 c4 c5
      obtain ⟨⟨q0, q1, q2, q3, q4, q5⟩, f0, f1, f2, f3, f4, f5⟩ := cells6 HZ.out
      clear hb hb6 HALL hgl hzl
      go_wp2
      have R4 := put6 (x := .int .u8 (b0.toNat : Int)) (y := .int .u8 (b1.toNat : Int)) (z := .int .u8 (b2.toNat : Int)) (u := .int .u8 (b3.toNat : Int)) (v := .int .u8 (b4.toNat : Int)) (t := .int .u8 (b5.toNat : Int)) HZ.out
      obtain ⟨⟨k0', k1', k2', k3', k4', k5'⟩, _⟩ := cells6 R4
      clear R4
      refine bodyPost_ret (v := .tuple #[.agg #[.int .u8 (b0.toNat : Int), .int .u8 (b1.toNat : Int), .int .u8 (b2.toNat : Int), .int .u8 (b3.toNat : Int), .int .u8 (b4.toNat : Int), .int .u8 (b5.toNat : Int)], .int .i64 0]) (by simp [results, Tryd.results84, go_sem, k0', k1', k2', k3', k4', k5']) rfl ⟨.inl ⟨YES.out.1, ?_⟩, (((((bel.setCell (Nat.le_refl _) _).setCell (Nat.le_refl _) _).setCell (Nat.le_refl _) _).setCell (Nat.le_refl _) _).setCell (Nat.le_refl _) _).setCell (Nat.le_refl _) _⟩
      rw [YES.out.2]; rfl

theorem amac_any (s : ByteArray) (w : World) (hs : s.size ≤ 140737488355328) : Calls Tryd.prog 84 #[.string s] w (AMacPost s.data.toList w) := by
  match hm : cutF 58 s.data.toList with
  | [p0, p1, p2, p3, p4, p5] => exact amac_six s w hs p0 p1 p2 p3 p4 p5 hm
  | [] | [_] | [_, _] | [_, _, _] | [_, _, _, _] | [_, _, _, _, _] | _ :: _ :: _ :: _ :: _ :: _ :: _ :: _ => exact amac_pieces s w hs (by rw [hm]; simp)
open Go.RowKit

theorem be_abcd (a b c d : UInt8) : be [a, b, c, d] = a.toNat * 16777216 + b.toNat * 65536 + c.toNat * 256 + d.toNat := by
  simp [be]; omega
theorem adr_be (a b c d : UInt8) : adr (be [a, b, c, d]) = .agg #[.int .u8 (a.toNat : Int), .int .u8 (b.toNat : Int), .int .u8 (c.toNat : Int), .int .u8 (d.toNat : Int)] := by
  have := a.toNat_lt; have := b.toNat_lt; have := c.toNat_lt; have := d.toNat_lt
  rw [be_abcd]
  unfold adr
  have e1 : ((a.toNat * 16777216 + b.toNat * 65536 + c.toNat * 256 + d.toNat : Nat) : Int) / 16777216 = a.toNat := by omega
  have e2 : ((a.toNat * 16777216 + b.toNat * 65536 + c.toNat * 256 + d.toNat : Nat) : Int) / 65536 % 256 = b.toNat := by omega
  have e3 : ((a.toNat * 16777216 + b.toNat * 65536 + c.toNat * 256 + d.toNat : Nat) : Int) / 256 % 256 = c.toNat := by omega
  have e4 : ((a.toNat * 16777216 + b.toNat * 65536 + c.toNat * 256 + d.toNat : Nat) : Int) % 256 = d.toNat := by omega
  rw [e1, e2, e3, e4]
theorem be_inj (a b c d a' b' c' d' : UInt8) : be [a, b, c, d] = be [a', b', c', d'] ↔ [a, b, c, d] = [a', b', c', d'] := by
  have := a.toNat_lt; have := b.toNat_lt; have := c.toNat_lt; have := d.toNat_lt
  have := a'.toNat_lt; have := b'.toNat_lt; have := c'.toNat_lt; have := d'.toNat_lt
  rw [be_abcd, be_abcd]
  constructor
  · intro h
    have e1 : a = a' := UInt8.toNat_inj.1 (by omega)
    have e2 : b = b' := UInt8.toNat_inj.1 (by omega)
    have e3 : c = c' := UInt8.toNat_inj.1 (by omega)
    have e4 : d = d' := UInt8.toNat_inj.1 (by omega)
    rw [e1, e2, e3, e4]
  · intro h
    simp only [List.cons.injEq, and_true] at h
    rw [h.1, h.2.1, h.2.2.1, h.2.2.2]
/-- Every number below 2^32 is four bytes'. -/
theorem be_onto (n : Nat) (h : n < 4294967296) : ∃ a b c d : UInt8, n = be [a, b, c, d] := by
  refine ⟨UInt8.ofNat (n / 16777216), UInt8.ofNat (n / 65536), UInt8.ofNat (n / 256), UInt8.ofNat n, ?_⟩
  rw [be_abcd, UInt8.toNat_ofNat', UInt8.toNat_ofNat', UInt8.toNat_ofNat', UInt8.toNat_ofNat']
  omega

theorem eql_adr (n k : Nat) (hn : n < 4294967296) (hk : k < 4294967296) (w : World) : (binOp .eql 24 (adr n) (adr k)).run Tryd.prog w = .ok (.bool (n == k)) w := by
  obtain ⟨a, b, c, d, rfl⟩ := be_onto n hn
  obtain ⟨a', b', c', d', rfl⟩ := be_onto k hk
  rw [adr_be, adr_be]
  have h := run_eql_bytes (P := Tryd.prog) w 24 5 4 (by kernel_rfl) (by kernel_rfl) (fun w => by kernel_rfl) [a, b, c, d] [a', b', c', d'] rfl rfl
  have e : (be [a, b, c, d] == be [a', b', c', d']) = ([a, b, c, d] == [a', b', c', d']) := by
    rw [Bool.eq_iff_iff, beq_iff_eq, beq_iff_eq]; exact be_inj ..
  rw [e]
  exact h
theorem neq_adr (n k : Nat) (hn : n < 4294967296) (hk : k < 4294967296) (w : World) : (binOp .neq 24 (adr n) (adr k)).run Tryd.prog w = .ok (.bool (!(n == k))) w := by
  have h := eql_adr n k hn hk w
  unfold adr at h ⊢
  rw [run_eql_struct] at h
  rw [run_neq_struct]
  revert h
  generalize (Op.equalIn 10000 24 (.agg #[.int .u8 ((n : Int) / 16777216), .int .u8 ((n : Int) / 65536 % 256), .int .u8 ((n : Int) / 256 % 256), .int .u8 ((n : Int) % 256)]) (.agg #[.int .u8 ((k : Int) / 16777216), .int .u8 ((k : Int) / 65536 % 256), .int .u8 ((k : Int) / 256 % 256), .int .u8 ((k : Int) % 256)])).run Tryd.prog w = r
  intro h
  cases r <;> simp_all [Result.andThen]
open Go.RowKit

/-- A net as a value. -/
def netV (a b c d : UInt8) (n : Int) : Value := .agg #[.int .u8 (a.toNat : Int), .int .u8 (b.toNat : Int), .int .u8 (c.toNat : Int), .int .u8 (d.toNat : Int), .int .i64 n]
theorem cells5 {w : World} {k : Nat} {a b c d e : Value} {T : TypeId} (h : w.heap[k]? = some (.cells #[a, b, c, d, e] T (0, 0))) :
    (w.cell? ⟨k, 0, none⟩ = some a ∧ w.cell? ⟨k, 1, none⟩ = some b ∧ w.cell? ⟨k, 2, none⟩ = some c ∧ w.cell? ⟨k, 3, none⟩ = some d ∧ w.cell? ⟨k, 4, none⟩ = some e) ∧
    (w.frozen? ⟨k, 0, none⟩ = false ∧ w.frozen? ⟨k, 1, none⟩ = false ∧ w.frozen? ⟨k, 2, none⟩ = false ∧ w.frozen? ⟨k, 3, none⟩ = false ∧ w.frozen? ⟨k, 4, none⟩ = false) := by
  simp [World.cell?, World.frozen?, h]
/-- What ParseNet answers. -/
def netE (l : List UInt8) : Int :=
  if splitOk l = false then 9 else if firstN (be [(splitA l).1, (splitA l).2.1, (splitA l).2.2.1, (splitA l).2.2.2]) (clamp (splitN l)) = be [(splitA l).1, (splitA l).2.1, (splitA l).2.2.1, (splitA l).2.2.2] then 0 else 1
def netA (l : List UInt8) : UInt8 × UInt8 × UInt8 × UInt8 := if netE l = 0 then splitA l else (0, 0, 0, 0)
def netN (l : List UInt8) : Int := if netE l = 0 then splitN l else 0
open Go.RowKit

open Go.RowKit

structure Ad4 where
  (a b c d : UInt8)
structure Mc6 where
  (a b c d e f : UInt8)
def Ad4.num (x : Ad4) : Nat := be [x.a, x.b, x.c, x.d]
theorem Ad4.lt (x : Ad4) : x.num < 4294967296 := be_four_lt _ _ _ _
theorem Ad4.cells (x : Ad4) : adr x.num = .agg #[.int .u8 (x.a.toNat : Int), .int .u8 (x.b.toNat : Int), .int .u8 (x.c.toNat : Int), .int .u8 (x.d.toNat : Int)] := adr_be _ _ _ _
structure Cf where
  (own lan : Ad4)
  bits : Int
  (lanmac wanmac : Mc6)
  (first last : Ad4)
  time : Int
  dns : Ad4
  (udp tcp icmp low : Int)
  fixed : List (Mc6 × Ad4)
  opens : List (Int × Int × Ad4 × Int)
/-- The first and the last address of a configuration's net; an address of it, neither of them. -/
def Cf.fst (c : Cf) : Nat := firstN c.lan.num (clamp c.bits)
def Cf.lst (c : Cf) : Nat := lastN c.lan.num (clamp c.bits)
def Cf.has (c : Cf) (x : Ad4) : Bool := c.fst == firstN x.num (clamp c.bits)
def Cf.inner (c : Cf) (x : Ad4) : Bool := c.has x && (!(x.num == c.fst) && !(x.num == c.lst))
theorem ad_eql (x : Ad4) (n : Nat) (hn : n < 4294967296) (W : World) : (binOp .eql 24 (.agg #[.int .u8 (x.a.toNat : Int), .int .u8 (x.b.toNat : Int), .int .u8 (x.c.toNat : Int), .int .u8 (x.d.toNat : Int)]) (adr n)).run Tryd.prog W = .ok (.bool (x.num == n)) W := by
  rw [← x.cells]; exact eql_adr _ _ x.lt hn W
theorem ad_neq (x : Ad4) (n : Nat) (hn : n < 4294967296) (W : World) : (binOp .neq 24 (.agg #[.int .u8 (x.a.toNat : Int), .int .u8 (x.b.toNat : Int), .int .u8 (x.c.toNat : Int), .int .u8 (x.d.toNat : Int)]) (adr n)).run Tryd.prog W = .ok (.bool (!(x.num == n))) W := by
  rw [← x.cells]; exact neq_adr _ _ x.lt hn W
theorem ad_guard (op : BinOp) (y z : Operand) (x : Array Value) (n : Nat) (W : World) : (eqGuard op 24 y z (.agg x) (adr n)).run Tryd.prog W = .ok () W := by
  unfold adr; exact run_eqGuard_agg W op 24 y z _ _ (by kernel_rfl)
open Go.RowKit

/-- A group's address: its first byte is odd. -/
def isGroup (l : List UInt8) : Bool := decide (((l.getD 0 0).toNat : Int) % 2 = 1)

end Go.Proofs.YtdfobilagidmfaaDoor
