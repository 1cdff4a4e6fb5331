/- Texts put together: Adr4, Walkw, Ref3t, Ref3a, Nets, Refn, Ref3s, Back3, Ref3m. -/
import Derived.Test.YtdfobilagidmfaaDoorQ1
import Derived.Test.YtdfobilagidmfaaDoorQ2
import Derived.Deep.QuietTactic
import Derived.BigQuiet
import Derived.Deep.RegionHeld3
import Derived.Lib.Hide
import Derived.Deep.LoopGhost
namespace Go.Proofs.YtdfobilagidmfaaDoor
open Go.RowKit

/-! ### A cut text and its pieces -/
def joinF (b : UInt8) : List (List UInt8) → List UInt8
  | [] => []
  | [x] => x
  | x :: y :: t => x ++ [b] ++ joinF b (y :: t)
theorem joinF_cons (b : UInt8) (x : List UInt8) (t : List (List UInt8)) (h : t ≠ []) : joinF b (x :: t) = x ++ [b] ++ joinF b t := by
  cases t with
  | nil => exact absurd rfl h
  | cons y t => rfl
theorem joinF_snoc (b : UInt8) : ∀ (ls : List (List UInt8)) (x : List UInt8), ls ≠ [] → joinF b (ls ++ [x]) = joinF b ls ++ [b] ++ x
  | [], x, h => absurd rfl h
  | [y], x, _ => by simp [joinF]
  | y :: z :: t, x, _ => by
    rw [List.cons_append, joinF_cons b y _ (by simp), joinF_snoc b (z :: t) x (by simp), joinF_cons b y (z :: t) (by simp)]
    simp
theorem joinF_last (b : UInt8) (c : UInt8) : ∀ (ls : List (List UInt8)) (x : List UInt8), joinF b (ls ++ [x ++ [c]]) = joinF b (ls ++ [x]) ++ [c]
  | [], x => by simp [joinF]
  | y :: t, x => by
    rw [joinF_snoc b (y :: t) _ (by simp), joinF_snoc b (y :: t) _ (by simp)]
    simp
/-- The pieces, joined again, are the text. -/
theorem joinF_rev (b : UInt8) : ∀ r : List UInt8, joinF b (cutF b r.reverse) = r.reverse
  | [] => by simp [cutF, joinF]
  | c :: r => by
    have ih := joinF_rev b r
    have hne := cutF_ne b r.reverse
    rw [List.reverse_cons, cutF_snoc]
    generalize cutF b r.reverse = ls at *
    obtain ⟨i, x, rfl⟩ : ∃ i x, ls = i ++ [x] := ⟨ls.dropLast, ls.getLast hne, (List.dropLast_concat_getLast hne).symm⟩
    unfold cutStep
    split
    · rename_i h
      subst h
      rw [joinF_snoc _ _ _ hne, ih]; simp
    · simp only [List.dropLast_concat, List.getLastD_concat]
      rw [joinF_last, ih]
theorem joinF_cut (b : UInt8) (l : List UInt8) : joinF b (cutF b l) = l := by
  have := joinF_rev b l.reverse
  rwa [List.reverse_reverse] at this

/-- A number of at most 255 has at most three digits. -/
theorem numGo_ge : ∀ (t : List UInt8) (v n : Nat), numGo t v = some n → v * 10 ^ t.length ≤ n
  | [], v, n, h => by simp [numGo] at h; subst h; simp
  | c :: t, v, n, h => by
    rw [numGo] at h
    split at h
    · cases h
    · have := numGo_ge t _ n h
      have h2 : 10 * v * 10 ^ t.length ≤ (10 * v + (c.toNat - 48)) * 10 ^ t.length := Nat.mul_le_mul_right _ (by omega)
      have h3 : v * 10 ^ (c :: t).length = 10 * v * 10 ^ t.length := by
        rw [List.length_cons, Nat.pow_succ, Nat.mul_comm 10 v, Nat.mul_assoc, Nat.mul_comm 10]
      omega
theorem numI_len {l : List UInt8} {most : Int} (h : 0 ≤ numI l most) (hm : most < 1000) : l.length ≤ 3 := by
  have hs : ¬ (l.length < 1 ∨ 9 < l.length ∨ (1 < l.length ∧ l[0]? = some 48)) := fun hs => by rw [numI_shape most hs] at h; omega
  match hg : numGo l 0 with
  | none => rw [numI_none most hg] at h; omega
  | some n =>
    rw [numI_some most n hs hg] at h
    have hn : (n : Int) ≤ most := by split at h <;> omega
    cases l with
    | nil => simp at hs
    | cons c t =>
      rw [numGo] at hg
      split at hg
      · cases hg
      rename_i hd
      by_cases ht : t.length ≤ 2
      · rw [List.length_cons]; omega
      exfalso
      have h0 : c.toNat ≠ 48 := fun e => hs (.inr (.inr ⟨by rw [List.length_cons]; omega, by
        rw [List.getElem?_cons_zero]; congr 1; exact UInt8.toNat_inj.1 e⟩))
      have h1 := numGo_ge t _ n hg
      have h2 : (10 : Nat) ^ 3 ≤ 10 ^ t.length := Nat.pow_le_pow_right (by omega) (by omega)
      have h3 : 1 * 10 ^ t.length ≤ (10 * 0 + (c.toNat - 48)) * 10 ^ t.length := Nat.mul_le_mul_right _ (by omega)
      omega

/-- Parse, with no bound on the length. -/
theorem parse4_cut {l a b c d : List UInt8} (h : cutF 46 l = [a, b, c, d]) :
    parse4 l = if 0 ≤ numI a 255 ∧ 0 ≤ numI b 255 ∧ 0 ≤ numI c 255 ∧ 0 ≤ numI d 255 then some (byteOf (numI a 255), byteOf (numI b 255), byteOf (numI c 255), byteOf (numI d 255)) else none := by
  unfold parse4
  by_cases hk : 0 ≤ numI a 255 ∧ 0 ≤ numI b 255 ∧ 0 ≤ numI c 255 ∧ 0 ≤ numI d 255
  · have ha := numI_len hk.1 (by omega)
    have hb := numI_len hk.2.1 (by omega)
    have hc := numI_len hk.2.2.1 (by omega)
    have hd := numI_len hk.2.2.2 (by omega)
    have hj := joinF_cut 46 l
    rw [h] at hj
    have hl : l.length ≤ 15 := by
      rw [← hj]; simp only [joinF, List.length_append, List.length_singleton]; omega
    rw [if_neg (by omega), h]
  · rw [if_neg hk]
    split
    · rfl
    · rw [h]; exact if_neg hk
theorem parse4_not {l : List UInt8} (h : (cutF 46 l).length ≠ 4) : parse4 l = none := by
  unfold parse4
  split
  · rfl
  · match hm : cutF 46 l with
    | [a, b, c, d] => rw [hm] at h; exact absurd rfl h
    | [] | [_] | [_, _] | [_, _, _] | _ :: _ :: _ :: _ :: _ :: _ => rfl

/-- The bytes that are read so far. -/
def pBs (ls : List (List UInt8)) (k : Nat) : List UInt8 := (List.range 4).map fun i => if i < k then byteOf (numI (ls.getD i []) 255) else 0
theorem pBs_len (ls : List (List UInt8)) (k : Nat) : (pBs ls k).length = 4 := by simp [pBs]
theorem pBs_zero (ls : List (List UInt8)) : pBs ls 0 = [0, 0, 0, 0] := by simp [pBs, List.range, List.range.loop]
theorem pBs_four (a b c d : List UInt8) : pBs [a, b, c, d] 4 = [byteOf (numI a 255), byteOf (numI b 255), byteOf (numI c 255), byteOf (numI d 255)] := by simp [pBs, List.range, List.range.loop]
theorem pBs_set (ls : List (List UInt8)) (k : Nat) : (pBs ls k).set k (byteOf (numI (ls.getD k []) 255)) = pBs ls (k + 1) := by
  apply List.ext_getElem
  · simp [pBs]
  · intro i h1 h2
    rw [List.getElem_set]
    simp only [pBs, List.getElem_map, List.getElem_range]
    by_cases e : k = i
    · subst e; simp
    · rw [if_neg e]
      by_cases e2 : i < k
      · rw [if_pos e2, if_pos (by omega)]
      · rw [if_neg e2, if_neg (by omega)]

theorem decimal_no (s : ByteArray) (most : Int) (w : World) (hs : s.size ≤ 140737488355328) (hm0 : 0 ≤ most) (hm1 : most < 1000) (h : numI s.data.toList most = -1) :
    Calls Tryd.prog 92 #[.string s, .int .i64 most] w fun e w' => e = .returned (.tuple #[.int .i64 0, .bool false]) ∧ Below w.heap.size w w' :=
  (decimal_any s most w hs hm0 hm1).mono fun e w' hh => by unfold DecPost at hh; rw [h] at hh; exact hh
theorem decimal_yes (s : ByteArray) (most : Int) (w : World) (hs : s.size ≤ 140737488355328) (hm0 : 0 ≤ most) (hm1 : most < 1000) (h : 0 ≤ numI s.data.toList most) :
    Calls Tryd.prog 92 #[.string s, .int .i64 most] w fun e w' => e = .returned (.tuple #[.int .i64 (numI s.data.toList most), .bool true]) ∧ Below w.heap.size w w' :=
  (decimal_any s most w hs hm0 hm1).mono fun e w' hh => by unfold DecPost at hh; rw [if_pos h, decide_eq_true h] at hh; exact hh

/-- What Parse answers. -/
def AParsePost (l : List UInt8) (w : World) (e : Ending) (w' : World) : Prop :=
  (match parse4 l with
   | none => e = .returned (.tuple #[addrV 0 0 0 0, .int .i64 9])
   | some (a, b, c, d) => e = .returned (.tuple #[addrV a b c d, .int .i64 0])) ∧ Below w.heap.size w w'
theorem aparse_no {l : List UInt8} {w w' : World} (h : parse4 l = none) (hb : Below w.heap.size w w') : AParsePost l w (.returned (.tuple #[addrV 0 0 0 0, .int .i64 9])) w' := by
  unfold AParsePost; rw [h]; exact ⟨rfl, hb⟩
theorem aparse_yes {l : List UInt8} {w w' : World} {a b c d : UInt8} (h : parse4 l = some (a, b, c, d)) (hb : Below w.heap.size w w') : AParsePost l w (.returned (.tuple #[addrV a b c d, .int .i64 0])) w' := by
  unfold AParsePost; rw [h]; exact ⟨rfl, hb⟩

/-- Two blocks of four zeros, behind a call. -/
theorem two_addr {w w1 : World} (h : Below ((w.alloc (.cells #[.int .u8 0, .int .u8 0, .int .u8 0, .int .u8 0] 24)).alloc (.cells #[.int .u8 0, .int .u8 0, .int .u8 0, .int .u8 0] 24)).heap.size ((w.alloc (.cells #[.int .u8 0, .int .u8 0, .int .u8 0, .int .u8 0] 24)).alloc (.cells #[.int .u8 0, .int .u8 0, .int .u8 0, .int .u8 0] 24)) w1) :
    w1.heap[w.heap.size]? = some (.cells #[.int .u8 0, .int .u8 0, .int .u8 0, .int .u8 0] 24 (0, 0)) ∧ w1.heap[w.heap.size + 1]? = some (.cells #[.int .u8 0, .int .u8 0, .int .u8 0, .int .u8 0] 24 (0, 0)) ∧ w.heap.size + 1 < w1.heap.size ∧ Below w.heap.size w w1 := by
  have hs := h.size
  simp at hs
  have h0 : ((w.alloc (.cells #[.int .u8 0, .int .u8 0, .int .u8 0, .int .u8 0] 24)).alloc (.cells #[.int .u8 0, .int .u8 0, .int .u8 0, .int .u8 0] 24)).heap[w.heap.size]? = some (.cells #[.int .u8 0, .int .u8 0, .int .u8 0, .int .u8 0] 24 (0, 0)) :=
    (Go.heap_alloc_old (w.alloc (.cells #[.int .u8 0, .int .u8 0, .int .u8 0, .int .u8 0] 24)) (.cells #[.int .u8 0, .int .u8 0, .int .u8 0, .int .u8 0] 24) (r := w.heap.size) (by simp)).trans (heap_alloc_new w _)
  have h1 : ((w.alloc (.cells #[.int .u8 0, .int .u8 0, .int .u8 0, .int .u8 0] 24)).alloc (.cells #[.int .u8 0, .int .u8 0, .int .u8 0, .int .u8 0] 24)).heap[w.heap.size + 1]? = some (.cells #[.int .u8 0, .int .u8 0, .int .u8 0, .int .u8 0] 24 (0, 0)) := by
    have := heap_alloc_new (w.alloc (.cells #[.int .u8 0, .int .u8 0, .int .u8 0, .int .u8 0] 24)) (.cells #[.int .u8 0, .int .u8 0, .int .u8 0, .int .u8 0] 24); simpa using this
  refine ⟨(h.block _ (by simp; omega)).trans h0, (h.block _ (by simp)).trans h1, by omega, ?_⟩
  exact (((Below.refl w.heap.size w).alloc (Nat.le_refl _) _).alloc (by simp) _).trans (h.mono (by simp; omega))

theorem asplit_as (s : ByteArray) (b n : Int) (bb : UInt8) (m : Nat) (hb : b = (bb.toNat : Int)) (hn : n = (m : Int)) (hb7 : bb.toNat < 128) (hm : 0 < m) (hm1 : m < 1000) (w : World) (hs : s.size ≤ 140737488355328) :
    Calls Tryd.prog 91 #[.string s, .int .i32 b, .int .i64 n] w (SpPost bb s.data.toList m w) := by
  subst hb; subst hn; exact asplit_any s bb hb7 m hm hm1 w hs
theorem asplit_no (s : ByteArray) (b n : Int) (bb : UInt8) (m : Nat) (hb : b = (bb.toNat : Int)) (hn : n = (m : Int)) (hb7 : bb.toNat < 128) (hm : 0 < m) (hm1 : m < 1000) (w : World) (hs : s.size ≤ 140737488355328) (h : (cutF bb s.data.toList).length ≠ m) :
    Calls Tryd.prog 91 #[.string s, .int .i32 b, .int .i64 n] w fun e w' => e = .returned (.tuple #[.slice none 0 0, .bool false]) ∧ Below w.heap.size w w' :=
  (asplit_as s b n bb m hb hn hb7 hm hm1 w hs).mono fun e w' hh => by unfold SpPost at hh; rw [if_neg h] at hh; exact hh
theorem asplit_yes (s : ByteArray) (b n : Int) (bb : UInt8) (m : Nat) (hb : b = (bb.toNat : Int)) (hn : n = (m : Int)) (hb7 : bb.toNat < 128) (hm : 0 < m) (hm1 : m < 1000) (w : World) (hs : s.size ≤ 140737488355328) (h : (cutF bb s.data.toList).length = m) :
    Calls Tryd.prog 91 #[.string s, .int .i32 b, .int .i64 n] w fun e w' => ∃ g cap, e = .returned (.tuple #[.slice (some ⟨g, 0, none⟩) m cap, .bool true]) ∧ m ≤ cap ∧ w.heap.size ≤ g ∧ g < w'.heap.size ∧ (∀ (j : Nat) (x : List UInt8), (cutF bb s.data.toList)[j]? = some x → w'.cell? ⟨g, j, none⟩ = some (.string ⟨x.toArray⟩)) ∧ Below w.heap.size w w' :=
  (asplit_as s b n bb m hb hn hb7 hm hm1 w hs).mono fun e w' hh => by
    unfold SpPost at hh; rw [if_pos h] at hh
    obtain ⟨⟨g, cap, h1, h2, h3, h4, h5⟩, h6⟩ := hh
    exact ⟨g, cap, h1, h2, h3, h4, h5, h6⟩

set_option maxRecDepth 100000 in
set_option maxHeartbeats 4000000 in
theorem aparse_pieces (s : ByteArray) (w : World) (hs : s.size ≤ 140737488355328) (h : (cutF 46 s.data.toList).length ≠ 4) : Calls Tryd.prog 83 #[.string s] w (AParsePost s.data.toList w) := by
  have NO := Lib.hid (parse4_not h)
  have SP := Lib.hid fun W => asplit_no s 46 4 46 4 rfl rfl (by decide) (by omega) (by omega) W hs h
  clear h hs
  go_enter Tryd.func83, Tryd.ntmps83
  go_wp2_with fail
  with_reducible refine (SP.out _).mono ?_
  rintro e w1 ⟨rfl, bel1⟩
  obtain ⟨r0, r1, r2, bel⟩ := two_addr bel1
  obtain ⟨⟨q0, q1, q2, q3⟩, f0, f1, f2, f3⟩ := cells4 r0
  have R0 := Lib.hid r0
  clear r0 r1 bel1
  go_wp2
  have R4 := put4 (x := .int .u8 0) (y := .int .u8 0) (z := .int .u8 0) (u := .int .u8 0) R0.out
  obtain ⟨⟨k0, k1, k2, k3⟩, _⟩ := cells4 R4
  clear R4
  exact bodyPost_ret (v := .tuple #[addrV 0 0 0 0, .int .i64 9]) (by simp [results, Tryd.results83, go_sem, addrV, u8v, k0, k1, k2, k3]) rfl (aparse_no NO.out ((((bel.setCell (Nat.le_refl _) _).setCell (Nat.le_refl _) _).setCell (Nat.le_refl _) _).setCell (Nat.le_refl _) _))

set_option maxRecDepth 100000 in
set_option maxHeartbeats 4000000 in
theorem aparse_four (s : ByteArray) (w : World) (hs : s.size ≤ 140737488355328) (a b c d : List UInt8) (h : cutF 46 s.data.toList = [a, b, c, d]) : Calls Tryd.prog 83 #[.string s] w (AParsePost s.data.toList w) := by
  have P4 := Lib.hid (parse4_cut h)
  have hpc := cutF_piece 46 s.data.toList
  rw [h] at hpc
  have HPC := Lib.hid hpc
  have HS := Lib.hid hs
  have SP := fun W => asplit_yes s 46 4 46 4 rfl rfl (by decide) (by omega) (by omega) W hs (by rw [h]; rfl)
  rw [h] at SP
  have SPH := Lib.hid SP
  have HLS : Hid (([a, b, c, d] : List (List UInt8)).length = 4) := Lib.hid rfl
  obtain ⟨ls, hls⟩ : ∃ ls, Hid (ls = [a, b, c, d]) := ⟨_, Lib.hid rfl⟩
  rw [← hls.out] at SPH HLS HPC
  clear SP hpc hs h
  go_enter Tryd.func83, Tryd.ntmps83
  go_wp2_with fail
  with_reducible refine (SPH.out _).mono ?_
  rintro e w1 ⟨g, cap, rfl, hcap, hg0, hg1, hc, bel1⟩
  obtain ⟨r0, r1, r2, bel⟩ := two_addr bel1
  have hgw : g ≠ w.heap.size := by simp at hg0; omega
  have hgw1 : g ≠ w.heap.size + 1 := by simp at hg0; omega
  have HC := Lib.hid hc
  have hcap' : (4 : Int) ≤ cap := by omega
  clear hc bel1 hg0 hcap
  go_wp2_with fail
  go_loopw [21] (fun i wr => ∃ k : Nat, k ≤ 4 ∧ i = .int .i64 k ∧ (∀ j, j < k → 0 ≤ numI (ls.getD j []) 255) ∧ wr.heap[w.heap.size]? = some (.cells #[.int .u8 0, .int .u8 0, .int .u8 0, .int .u8 0] 24 (0, 0)) ∧ Ow 24 wr (w.heap.size + 1) 4 (pBs ls k) ∧ (∀ (j : Nat) (x : List UInt8), ls[j]? = some x → wr.cell? ⟨g, j, none⟩ = some (.string ⟨x.toArray⟩)) ∧ g < wr.heap.size ∧ Below w.heap.size w wr) (fun i _ => 4 - (intOf i).toNat)
  case atStart =>
    refine ⟨0, by omega, rfl, fun j hj => by omega, r0, ?_, HC.out, hg1, bel⟩
    rw [pBs_zero]
    refine ⟨by simp, by unfold maxLen; omega, _, r1, fun j b hj => ?_⟩
    match j, hj with
    | 0, hj | 1, hj | 2, hj | 3, hj => simp at hj; subst hj; rfl
    | j + 4, hj => simp at hj
  case round =>
    clear r0 r1 bel hg1
    obtain ⟨k, hk, rfl, hall, hz, hb, hcs, hgl, bel⟩ := hrel
    have HZ := Lib.hid hz
    have HALL := Lib.hid hall
    have HCS := Lib.hid hcs
    have hzl : w.heap.size + 1 < wr.heap.size := hb.lt
    clear hz hall hcs
    by_cases hlt : k < 4
    · obtain ⟨x, hx⟩ : ∃ x, Hid (ls.getD k [] = x) := ⟨_, Lib.hid rfl⟩
      have hxk : ls[k]? = some x := by
        have := HLS.out
        rw [List.getElem?_eq_getElem (by omega), ← hx.out, List.getD_eq_getElem?_getD, List.getElem?_eq_getElem (by omega)]; rfl
      have hcx := HCS.out k x hxk
      have hxs : (⟨x.toArray⟩ : ByteArray).size ≤ 140737488355328 := by
        rw [size_bs]
        have := HPC.out x (List.mem_of_getElem? hxk)
        have := HS.out
        simp at *; omega
      have k0 : (0 : Int) ≤ k := by omega
      have k4 : (k : Int) < 4 := by omega
      have DX : (⟨x.toArray⟩ : ByteArray).data.toList = x := by simp
      by_cases hn : 0 ≤ numI x 255
      · have DEC := fun W => decimal_yes ⟨x.toArray⟩ 255 W hxs (by omega) (by omega) (by rw [DX]; exact hn)
        rw [DX] at DEC
        have DECH := Lib.hid DEC
        have hr := numI_range x 255
        have n1 : numI x 255 ≤ 255 := by omega
        have ALL : Hid (∀ j, j < k + 1 → 0 ≤ numI (ls.getD j []) 255) := Lib.hid fun j hj => by
          by_cases e : j = k
          · subst e; rw [hx.out]; exact hn
          · exact HALL.out j (by omega)
        have MS : Hid ((pBs ls k).set k (byteOf (numI x 255)) = pBs ls (k + 1)) := Lib.hid (by rw [← pBs_set, hx.out])
        have UB : Hid (u8v (byteOf (numI x 255)) = .int .u8 (numI x 255)) := Lib.hid (u8v_byteOf hn n1)
        clear hxk hxs DX DEC hr
        go_wp2_with fail
        with_reducible refine (DECH.out _).mono ?_
        rintro e w2 ⟨rfl, bel2⟩
        have hz2 := (bel2.block _ (by omega)).trans HZ.out
        have hb2 := hb.below bel2
        have HCS2 : Hid (∀ (j : Nat) (x : List UInt8), ls[j]? = some x → w2.cell? ⟨g, j, none⟩ = some (.string ⟨x.toArray⟩)) := Lib.hid fun j x hj => (bel2.cell (p := ⟨g, j, none⟩) hgl).trans (HCS.out j x hj)
        have hgl2 := Nat.lt_of_lt_of_le hgl bel2.size
        have belb := bel.trans (bel2.mono (by omega))
        obtain ⟨_, _, cb, fb⟩ := hb2.at_ k (by rw [pBs_len]; exact hlt)
        have HZ2' := Lib.hid hz2
        clear hz2 bel bel2 hb hcx hgl hzl
        go_wp2
        have OW2 := hb2.set k (byteOf (numI x 255))
        rw [UB.out, MS.out] at OW2
        have HZ2 := (Below.heap_setCell w2 ⟨w.heap.size + 1, k, none⟩ (.int .u8 (numI x 255)) w.heap.size (by simp)).trans HZ2'.out
        have BE2 := belb.setCell (p := ⟨w.heap.size + 1, k, none⟩) (by simp) (.int .u8 (numI x 255))
        have CS2 : ∀ (j : Nat) (x' : List UInt8), ls[j]? = some x' → (w2.setCell ⟨w.heap.size + 1, k, none⟩ (.int .u8 (numI x 255))).cell? ⟨g, j, none⟩ = some (.string ⟨x'.toArray⟩) := fun j x' hj => by
          rw [World.cell?_of_block (w := w2) (Below.heap_setCell w2 ⟨w.heap.size + 1, k, none⟩ (.int .u8 (numI x 255)) g (fun e => hgw1 e))]
          exact HCS2.out j x' hj
        go_roundw
        case rel => exact ⟨k + 1, by omega, by go_num, ALL.out, HZ2, OW2, CS2, by simp; exact hgl2, BE2⟩
        case measure => simp [intOf]; omega
      · have hn1 : numI x 255 = -1 := by have := numI_range x 255; omega
        have DEC := Lib.hid fun W => decimal_no ⟨x.toArray⟩ 255 W hxs (by omega) (by omega) (by rw [DX]; exact hn1)
        have NO : Hid (parse4 s.data.toList = none) := Lib.hid (by
          rw [P4.out, if_neg]
          have h1 := hx.out
          rw [hls.out] at h1
          rintro ⟨g0, g1, g2, g3⟩
          match k, hlt, h1 with
          | 0, _, h1 | 1, _, h1 | 2, _, h1 | 3, _, h1 => simp at h1; subst h1; omega)
        clear hxk hxs DX hn hn1
        go_wp2_with fail
        with_reducible refine (DEC.out _).mono ?_
        rintro e w2 ⟨rfl, bel2⟩
        have hz2 := (bel2.block _ (by omega)).trans HZ.out
        have belb := bel.trans (bel2.mono (by omega))
        obtain ⟨⟨q0, q1, q2, q3⟩, f0, f1, f2, f3⟩ := cells4 hz2
        have R0 := Lib.hid hz2
        clear hz2 bel bel2 hb hcx hgl hzl
        go_wp2
        have R4 := put4 (x := .int .u8 0) (y := .int .u8 0) (z := .int .u8 0) (u := .int .u8 0) R0.out
        obtain ⟨⟨k0, k1, k2, k3⟩, _⟩ := cells4 R4
        clear R4
        exact bodyPost_ret (v := .tuple #[addrV 0 0 0 0, .int .i64 9]) (by simp [results, Tryd.results83, go_sem, addrV, u8v, k0, k1, k2, k3]) rfl (aparse_no NO.out ((((belb.setCell (Nat.le_refl _) _).setCell (Nat.le_refl _) _).setCell (Nat.le_refl _) _).setCell (Nat.le_refl _) _))
    · obtain rfl : k = 4 := by omega
      have YES : Hid (parse4 s.data.toList = some (byteOf (numI a 255), byteOf (numI b 255), byteOf (numI c 255), byteOf (numI d 255))) := Lib.hid (by
        have hall := HALL.out
        rw [hls.out] at hall
        rw [P4.out, if_pos ⟨hall 0 (by omega), hall 1 (by omega), hall 2 (by omega), hall 3 (by omega)⟩])
      have hb4 := hb
      rw [hls.out, pBs_four] at hb4
      obtain ⟨p0, _⟩ := hb4.cell 0 (by simp)
      obtain ⟨p1, _⟩ := hb4.cell 1 (by simp)
      obtain ⟨p2, _⟩ := hb4.cell 2 (by simp)
      obtain ⟨p3, _⟩ := hb4.cell 3 (by simp)
      simp only [List.getElem_cons_zero, List.getElem_cons_succ] at p0 p1 p2 p3
      obtain ⟨⟨q0, q1, q2, q3⟩, f0, f1, f2, f3⟩ := cells4 HZ.out
      clear hb hb4 HALL hgl hzl
      go_wp2
      have R4 := put4 (x := u8v (byteOf (numI a 255))) (y := u8v (byteOf (numI b 255))) (z := u8v (byteOf (numI c 255))) (u := u8v (byteOf (numI d 255))) HZ.out
      obtain ⟨⟨k0', k1', k2', k3'⟩, _⟩ := cells4 R4
      clear R4
      simp only [u8v] at k0' k1' k2' k3'
      exact bodyPost_ret (v := .tuple #[addrV (byteOf (numI a 255)) (byteOf (numI b 255)) (byteOf (numI c 255)) (byteOf (numI d 255)), .int .i64 0]) (by simp [results, Tryd.results83, go_sem, addrV, u8v, k0', k1', k2', k3']) rfl (aparse_yes YES.out ((((bel.setCell (Nat.le_refl _) _).setCell (Nat.le_refl _) _).setCell (Nat.le_refl _) _).setCell (Nat.le_refl _) _))

theorem aparse_any (s : ByteArray) (w : World) (hs : s.size ≤ 140737488355328) : Calls Tryd.prog 83 #[.string s] w (AParsePost s.data.toList w) := by
  match hm : cutF 46 s.data.toList with
  | [a, b, c, d] => exact aparse_four s w hs a b c d hm
  | [] | [_] | [_, _] | [_, _, _] | _ :: _ :: _ :: _ :: _ :: _ => exact aparse_pieces s w hs (by rw [hm]; simp)
open Go.RowKit

theorem at16_any (A : Option Addr) (n c k : Nat) (l : List UInt8) (w : World) (hl : Sl w A n c l) (hk : k + 2 ≤ n) (hm : k + 2 ≤ 100000) :
    Calls Tryd.prog 80 #[.slice A n c, .int .i64 k] w fun e w' => e = .returned (.int .i64 (be ((l.drop k).take 2))) ∧ ∃ q, w' = w.drewN q := by
  obtain ⟨h1, h2, h3, h4⟩ := hl
  obtain ⟨d, o, rfl, hc⟩ := h4 (by omega)
  have k1 : k < l.length := by omega
  have k2 : k + 1 < l.length := by omega
  have c1 := hc k _ (List.getElem?_eq_getElem k1)
  have c2 := hc (k + 1) _ (List.getElem?_eq_getElem k2)
  have HB : Hid (be ((l.drop k).take 2) = l[k].toNat * 256 + l[k + 1].toNat) := by
    unfold Hid
    rw [List.drop_eq_getElem_cons k1, List.drop_eq_getElem_cons k2]
    exact be_two _ _
  have u1 := l[k].toNat_lt
  have u2 := l[k + 1].toNat_lt
  unfold u8v at c1 c2
  generalize l[k].toNat = x at *
  generalize l[k + 1].toNat = y at *
  have b1 : (0 : Int) ≤ k := by omega
  have b2 : (k : Int) < n := by omega
  have b3 : (k : Int) + 1 < n := by omega
  have b4 : (x : Int) < 256 := by omega
  have b5 : (y : Int) < 256 := by omega
  have b6 : (0 : Int) ≤ x := by omega
  have b7 : (0 : Int) ≤ y := by omega
  have b8 : (k : Int) ≤ 100000 := by omega
  clear hc h1 h4 u1 u2
  go_enter Tryd.func80, Tryd.ntmps80
  go_wp2
  go_quiet (fail)
  go_wp2
  have hor := or_i64 x y (by omega) (by omega)
  refine bodyPost_ret (v := .int .i64 (be ((l.drop k).take 2))) (by simp [results, Tryd.results80, go_sem, hor, HB.out]) rfl ⟨rfl, nq, rfl⟩

theorem Sl.drewN {w : World} {A : Option Addr} {n c : Nat} {l : List UInt8} (h : Sl w A n c l) (q : Nat) : Sl (w.drewN q) A n c l := h.keep fun _ _ _ hc => hc

theorem at32_any (A : Option Addr) (n c : Nat) (l : List UInt8) (w : World) (hl : Sl w A n c l) (hk : 4 ≤ n) :
    Calls Tryd.prog 68 #[.slice A n c, .int .i64 0] w fun e w' => e = .returned (.int .u32 (be (l.take 4))) ∧ ∃ q, w' = w.drewN q := by
  have hlen := hl.1
  have HB : Hid (be (l.take 4) = be (l.take 2) * 65536 + be ((l.drop 2).take 2)) := by
    unfold Hid
    rw [show 4 = 2 + 2 from rfl, List.take_add, be_append]
    rw [show ((l.drop 2).take 2).length = 2 by rw [List.length_take, List.length_drop]; omega]
  have p1 := be_lt 2 (l.take 2) (by rw [List.length_take]; omega)
  have p2 := be_lt 2 ((l.drop 2).take 2) (by rw [List.length_take, List.length_drop]; omega)
  have c1 := fun W (h : Sl W A n c l) => at16_any A n c 0 l W h (by omega) (by omega)
  have c2 := fun W (h : Sl W A n c l) => at16_any A n c 2 l W h (by omega) (by omega)
  simp only [List.drop_zero] at c1
  generalize be (l.take 2) = x at *
  generalize be ((l.drop 2).take 2) = y at *
  have b1 : (0 : Int) ≤ x := by omega
  have b2 : (x : Int) < 65536 := by omega
  have b3 : (0 : Int) ≤ y := by omega
  have b4 : (y : Int) < 65536 := by omega
  have hor := or_u32_16 x y (by omega) (by omega)
  have C1 : Hid _ := c1
  have C2 : Hid _ := c2
  clear c1 c2 hlen
  go_enter Tryd.func68, Tryd.ntmps68
  go_wp2_with fail
  refine (C1.out _ hl).mono ?_
  rintro e w1 ⟨rfl, q, rfl⟩
  go_wp2_with fail
  refine (C2.out _ (hl.drewN q)).mono ?_
  rintro e w2 ⟨rfl, q2, rfl⟩
  go_wp2
  refine bodyPost_ret (v := .int .u32 (be (l.take 4))) (by simp [results, Tryd.results68, go_sem, HB.out]) rfl ⟨rfl, q + q2, ?_⟩
  simp

/-! awake: what the document tells of three bytes. -/
open Go.RowKit

/-- A digit's byte. -/
def digT (n : Nat) : UInt8 := UInt8.ofNat (48 + n)
theorem digT_val {n : Nat} (h : n < 10) : (digT n).toNat = 48 + n := by unfold digT; rw [UInt8.toNat_ofNat']; omega
/-- A number's digits. -/
def decT (n : Nat) : List UInt8 := if n < 10 then [digT n] else decT (n / 10) ++ [digT (n % 10)]
decreasing_by omega
theorem decT_small {n : Nat} (h : n < 10) : decT n = [digT n] := by rw [decT, if_pos h]
theorem decT_more {n : Nat} (h : ¬ n < 10) : decT n = decT (n / 10) ++ [digT (n % 10)] := by rw [decT, if_neg h]
theorem decT_len (k : Nat) : ∀ n : Nat, n < 10 ^ (k + 1) → (decT n).length ≤ k + 1 := by
  induction k with
  | zero => intro n h; rw [decT_small (by omega)]; simp
  | succ k ih =>
    intro n h
    by_cases hn : n < 10
    · rw [decT_small hn]; simp
    · rw [decT_more hn, List.length_append]
      have := ih (n / 10) (by rw [Nat.pow_succ] at h; omega)
      simp; omega

theorem size_bs' (l : List UInt8) : (⟨l.toArray⟩ : ByteArray).size = l.length := by simp [ByteArray.size]
theorem Sl.drew' {w : World} {A : Option Addr} {n c : Nat} {l : List UInt8} (h : Sl w A n c l) : Sl w.drew A n c l := h.keep fun _ _ _ hc => hc
theorem wpAnyH_grow' {P : Program} {ops : Array Oper} {Q : Exit → Act → World → Prop} {md : Region.Mode} {S S' : World → Prop} (hs : ∀ w, S' w → S w) :
    ∀ {fuel : Nat} {listed : Array Bool} {a : Act} {w : World}, wpAnyH P md ops Q S' fuel listed a w → wpAnyH P md ops Q S fuel listed a w
  | 0, _, _, _, h => h
  | _ + 1, _, _, _, h => ⟨h.1, fun i hi => wpOp_mono (fun _ w' h' => ⟨hs w' h'.1, wpAnyH_grow' hs h'.2⟩) (h.2 i hi)⟩
theorem exec_convert' {P : Program} {o : Oper} {a : Act} {src dst : TypeId} {x : Operand} {val v : Value} {w : World} (ho : o.op = .convert src dst x) (hx : a.eval x = val) (h : (convert src dst val).run P w = .ok v w) :
    (execOp a.eval o).run P w = .ok (.value v) w := by
  subst hx
  simp [execOp, ho, h, Result.andThen]

theorem made_dig (d : UInt8) (x : Int) (hx : x = (d.toNat : Int)) (w : World) : Sl (w.alloc (.cells #[.int .u8 x] 5)) (some ⟨w.heap.size, 0, none⟩) 1 1 [d] := by
  subst hx; exact Sl.made w 5 [d] (by simp [maxLen])

set_option maxRecDepth 100000 in
set_option maxHeartbeats 2000000 in
theorem rtext_any (k : Nat) (hk : k ≤ 17) : ∀ (n : Nat) (w : World), n < 10 ^ (k + 1) →
    Calls Tryd.prog 16 #[.int .i64 (n : Int)] w fun e w' => e = .returned (.string ⟨(decT n).toArray⟩) ∧ Below w.heap.size w w' := by
  induction k with
  | zero =>
    intro n w h
    have hd : n < 10 := by omega
    rw [decT_small hd]
    have n0 : (0 : Int) ≤ n := by omega
    have n1 : (n : Int) < 10 := by omega
    have hm := made_dig (digT n) (48 + n) (by rw [digT_val hd]; omega) w
    have st := hm.str (P := Tryd.prog) 66 5 9 Tryd.underlying66 Tryd.underlying5 Tryd.underlying9
    have bel := (Below.refl w.heap.size w).alloc (Nat.le_refl _) (.cells #[.int .u8 (48 + (n : Int))] 5)
    clear hm
    go_enter Tryd.func16, Tryd.ntmps16
    go_wp2
    go_ret
    exact ⟨rfl, bel⟩
  | succ k ih =>
    intro n w h
    by_cases hn : n < 10
    · exact ih (by omega) n w (by have : (10 : Nat) ^ 1 ≤ 10 ^ (k + 1) := Nat.pow_le_pow_right (by omega) (by omega); omega)
    rw [decT_more hn]
    have h10 : n / 10 < 10 ^ (k + 1) := by rw [Nat.pow_succ] at h; omega
    have hlen := decT_len k (n / 10) h10
    have hb : n < 1000000000000000000 := by
      have : (10 : Nat) ^ (k + 1 + 1) ≤ 10 ^ 18 := Nat.pow_le_pow_right (by omega) (by omega)
      omega
    have n0 : (9 : Int) < n := by omega
    have t1 : decide ((n : Int) < 0) = false := decide_eq_false (by omega)
    have t2 : decide ((n : Int) < 10) = false := decide_eq_false (by omega)
    have n1 : (n : Int) < 1000000000000000000 := by omega
    have hdig := digT_val (n := n % 10) (by omega)
    have IH' := fun W => ih (by omega) (n / 10) W h10
    have hq : IntKind.i64.wrap ((n : Int) / 10) = ((n / 10 : Nat) : Int) := (IntWalk.i64_in _ (by omega)).trans (by omega)
    have ht : (n : Int).tmod 10 = ((n % 10 : Nat) : Int) := by rw [Int.tmod_eq_emod_of_nonneg (by omega)]; omega
    have hr := Nat.mod_lt n (show 0 < 10 by omega)
    generalize n / 10 = q at *
    generalize n % 10 = r at *
    have d0 : (0 : Int) ≤ r := by omega
    have d1 : (r : Int) < 10 := by omega
    have hadd : ∀ W, (Op.stringOp .add ⟨(decT q).toArray⟩ ⟨[digT r].toArray⟩).run Tryd.prog W = .ok (.string ⟨(decT q ++ [digT r]).toArray⟩) W := fun W => by
      rw [run_string_add_sum W _ _ (by rw [size_bs', size_bs']; simp; omega), ByteArray.mk_append_mk]
    have IH := Lib.hid IH'
    have hwr : IntKind.i64.wrap (48 + (r : Int)) = 48 + (r : Int) := IntWalk.i64_in _ (by omega)
    have hw8 : IntKind.u8.wrap (48 + (r : Int)) = 48 + (r : Int) := by simp [IntKind.wrap, IntKind.signed, IntKind.bits]; omega
    have HD : Hid ((48 + (r : Int)) = ((digT r).toNat : Int)) := Lib.hid (by rw [hdig]; omega)
    clear hdig IH' hr hlen
    clear h hn h10 ih hb
    go_enter Tryd.func16, Tryd.ntmps16
    go_wp2_with fail
    refine wp_region_held_drew (S := fun _ => True) (by kernel_rfl) trivial (fun hH => ?_)
    refine wpAnyH_take (i := 0) (v := ?_) rfl (by kernel_rfl) (by kernel_rfl) (by kernel_rfl) (fun _ _ _ h => h) (Or.inl ⟨by rfl, ?_⟩) hH ?_
    rotate_left
    · ((intro w hw; clear hw; go_simp) <;> with_reducible rfl)
    simp only [Act.put, List.getElem_toArray, List.getElem_cons_zero, List.setIfInBounds_toArray, List.set_cons_zero, List.set_cons_succ]
    refine wpAnyH_take (i := 1) (v := ?_) rfl (by kernel_rfl) (by kernel_rfl) (by kernel_rfl) (fun _ _ _ h => h) (Or.inl ⟨by rfl, ?_⟩) hH ?_
    rotate_left
    · ((intro w hw; clear hw; go_simp) <;> with_reducible rfl)
    simp only [Act.put, List.getElem_toArray, List.getElem_cons_zero, List.getElem_cons_succ, List.setIfInBounds_toArray, List.set_cons_zero, List.set_cons_succ]
    refine wpAnyH_take (i := 3) (v := ?_) rfl (by kernel_rfl) (by kernel_rfl) (by kernel_rfl) (fun _ _ _ h => h) (Or.inl ⟨by rfl, ?_⟩) hH ?_
    rotate_left
    · ((intro w hw; clear hw; go_simp) <;> with_reducible rfl)
    simp only [Act.put, List.getElem_toArray, List.getElem_cons_zero, List.getElem_cons_succ, List.setIfInBounds_toArray, List.set_cons_zero, List.set_cons_succ]
    refine wpAnyH_take (i := 4) (v := ?_) rfl (by kernel_rfl) (by kernel_rfl) (by kernel_rfl) (fun _ _ _ h => h) (Or.inl ⟨by rfl, ?_⟩) hH ?_
    rotate_left
    · ((intro w hw; clear hw; go_simp) <;> with_reducible rfl)
    simp only [Act.put, List.getElem_toArray, List.getElem_cons_zero, List.getElem_cons_succ, List.setIfInBounds_toArray, List.set_cons_zero, List.set_cons_succ]
    refine wpAnyH_take (i := 5) (v := ?_) rfl (by kernel_rfl) (by kernel_rfl) (by kernel_rfl) (fun _ _ _ h => h) (Or.inl ⟨by rfl, ?_⟩) hH ?_
    rotate_left
    · ((intro w hw; clear hw; go_simp) <;> with_reducible rfl)
    simp only [Act.put, List.getElem_toArray, List.getElem_cons_zero, List.getElem_cons_succ, List.setIfInBounds_toArray, List.set_cons_zero, List.set_cons_succ]
    refine wpAnyH_take (i := 6) (v := ?_) rfl (by kernel_rfl) (by kernel_rfl) (by kernel_rfl) (fun _ _ _ h => h) (Or.inl ⟨by rfl, ?_⟩) hH ?_
    rotate_left
    · ((intro w hw; clear hw; go_simp) <;> with_reducible rfl)
    simp only [Act.put, List.getElem_toArray, List.getElem_cons_zero, List.getElem_cons_succ, List.setIfInBounds_toArray, List.set_cons_zero, List.set_cons_succ]
    refine wpAnyH_ready (rs := [2, 7]) (by kernel_rfl) (by simp) ?_
    refine AllReadyH.cons (o := _) rfl (fun K hK => ?_) (AllReadyH.cons (o := _) rfl (fun K hK => ?_) AllReadyH.nil)
    · simp only [List.getElem_toArray, List.getElem_cons_zero, List.getElem_cons_succ]
      go_simp
      refine (IH.out _).mono ?_
      rintro e w3 ⟨rfl, bel3⟩
      dsimp only
      have bel3a : Below w.heap.size w w3 := (Below.refl _ w).drew.trans (bel3.mono (Nat.le_refl _))
      refine hK.out _ _ trivial (fun _ => ?_)
      clear hK K
      refine wpAnyH_ready (rs := [7]) (by kernel_rfl) (by simp) ?_
      refine AllReadyH.cons (o := _) rfl (fun K hK => ?_) AllReadyH.nil
      simp only [List.getElem_toArray, List.getElem_cons_zero, List.getElem_cons_succ]
      go_simp
      have hm := made_dig (digT r) _ HD.out w3
      have bel4 := bel3a.alloc bel3a.size (.cells #[.int .u8 (48 + (r : Int))] 5)
      refine hK.out _ _ trivial (fun _ => ?_)
      refine wpAnyH_grow' (S' := fun W => Sl W (some ⟨w3.heap.size, 0, none⟩) 1 1 [digT r]) (fun _ _ => trivial) ?_
      clear hK K
      refine wpAnyH_take (i := 8) (v := .string ⟨[digT r].toArray⟩) rfl (by kernel_rfl) (by kernel_rfl) (by kernel_rfl) (fun _ _ _ h => h) (Or.inl ⟨by rfl, fun W hW => exec_convert' rfl rfl (hW.str 66 5 9 Tryd.underlying66 Tryd.underlying5 Tryd.underlying9)⟩) hm ?_
      simp only [Act.put, List.getElem_toArray, List.getElem_cons_zero, List.getElem_cons_succ, List.setIfInBounds_toArray, List.set_cons_zero, List.set_cons_succ]
      refine wpAnyH_take (i := 9) (v := ?_) rfl (by kernel_rfl) (by kernel_rfl) (by kernel_rfl) (fun _ _ _ h => h) (Or.inl ⟨by rfl, ?_⟩) hm ?_
      rotate_left
      · ((intro w hw; clear hw; go_simp) <;> with_reducible rfl)
      simp only [Act.put, List.getElem_toArray, List.getElem_cons_zero, List.getElem_cons_succ, List.setIfInBounds_toArray, List.set_cons_zero, List.set_cons_succ]
      refine wpAnyH_take (i := 10) (v := ?_) rfl (by kernel_rfl) (by kernel_rfl) (by kernel_rfl) (fun _ _ _ h => h) (Or.inl ⟨by rfl, ?_⟩) hm ?_
      rotate_left
      · ((intro w hw; clear hw; go_simp) <;> with_reducible rfl)
      simp only [Act.put, List.getElem_toArray, List.getElem_cons_zero, List.getElem_cons_succ, List.setIfInBounds_toArray, List.set_cons_zero, List.set_cons_succ]
      refine wpAnyH_done (by kernel_rfl) ?_ _
      go_wp2
      go_ret
      exact ⟨rfl, bel4⟩
    · simp only [List.getElem_toArray, List.getElem_cons_zero, List.getElem_cons_succ]
      go_simp
      have hm : Sl (w.alloc (.cells #[.int .u8 (48 + (r : Int))] 5)).drew (some ⟨w.heap.size, 0, none⟩) 1 1 [digT r] := (made_dig (digT r) _ HD.out w).drew'
      have bel4 : Below w.heap.size w (w.alloc (.cells #[.int .u8 (48 + (r : Int))] 5)).drew := ((Below.refl _ w).alloc (Nat.le_refl _) _).drew
      refine hK.out _ _ trivial (fun _ => ?_)
      refine wpAnyH_grow' (S' := fun W => Sl W (some ⟨w.heap.size, 0, none⟩) 1 1 [digT r]) (fun _ _ => trivial) ?_
      clear hK K
      refine wpAnyH_take (i := 8) (v := .string ⟨[digT r].toArray⟩) rfl (by kernel_rfl) (by kernel_rfl) (by kernel_rfl) (fun _ _ _ h => h) (Or.inl ⟨by rfl, fun W hW => exec_convert' rfl rfl (hW.str 66 5 9 Tryd.underlying66 Tryd.underlying5 Tryd.underlying9)⟩) hm ?_
      simp only [Act.put, List.getElem_toArray, List.getElem_cons_zero, List.getElem_cons_succ, List.setIfInBounds_toArray, List.set_cons_zero, List.set_cons_succ]
      refine wpAnyH_ready (rs := [2]) (by kernel_rfl) (by simp) ?_
      refine AllReadyH.cons (o := _) rfl (fun K hK => ?_) AllReadyH.nil
      simp only [List.getElem_toArray, List.getElem_cons_zero, List.getElem_cons_succ]
      go_simp
      refine (IH.out _).mono ?_
      rintro e w3 ⟨rfl, bel3⟩
      dsimp only
      have bel5 := bel4.trans (bel3.mono bel4.size)
      refine hK.out _ _ (hm.below bel3) (fun hm3 => ?_)
      clear hK K hm
      refine wpAnyH_take (i := 9) (v := ?_) rfl (by kernel_rfl) (by kernel_rfl) (by kernel_rfl) (fun _ _ _ h => h) (Or.inl ⟨by rfl, ?_⟩) hm3 ?_
      rotate_left
      · ((intro w hw; clear hw; go_simp) <;> with_reducible rfl)
      simp only [Act.put, List.getElem_toArray, List.getElem_cons_zero, List.getElem_cons_succ, List.setIfInBounds_toArray, List.set_cons_zero, List.set_cons_succ]
      refine wpAnyH_take (i := 10) (v := ?_) rfl (by kernel_rfl) (by kernel_rfl) (by kernel_rfl) (fun _ _ _ h => h) (Or.inl ⟨by rfl, ?_⟩) hm3 ?_
      rotate_left
      · ((intro w hw; clear hw; go_simp) <;> with_reducible rfl)
      simp only [Act.put, List.getElem_toArray, List.getElem_cons_zero, List.getElem_cons_succ, List.setIfInBounds_toArray, List.set_cons_zero, List.set_cons_succ]
      refine wpAnyH_done (by kernel_rfl) ?_ _
      go_wp2
      go_ret
      exact ⟨rfl, bel5⟩
open Go.RowKit

/-- An address's text. -/
def adT (a b c d : UInt8) : List UInt8 := decT a.toNat ++ [46] ++ decT b.toNat ++ [46] ++ decT c.toNat ++ [46] ++ decT d.toNat
theorem add_run (x y : List UInt8) (hx : x.length ≤ 1000) (hy : y.length ≤ 1000) (W : World) : (Op.stringOp .add ⟨x.toArray⟩ ⟨y.toArray⟩).run Tryd.prog W = .ok (.string ⟨(x ++ y).toArray⟩) W := by
  rw [run_string_add_sum W _ _ (by rw [size_bs', size_bs']; omega), ByteArray.mk_append_mk]
theorem byte_len (a : UInt8) : (decT a.toNat).length ≤ 3 := decT_len 2 _ (by have := a.toNat_lt; omega)

set_option maxHeartbeats 2000000 in
theorem raddrtext_any (a b c d : UInt8) (w : World) :
    Calls Tryd.prog 44 #[.agg #[.int .u8 (a.toNat : Int), .int .u8 (b.toNat : Int), .int .u8 (c.toNat : Int), .int .u8 (d.toNat : Int)]] w fun e w' => e = .returned (.string ⟨(adT a b c d).toArray⟩) ∧ Below w.heap.size w w' := by
  have la := byte_len a
  have Ta := Lib.hid fun W => rtext_any 2 (by omega) a.toNat W (by have := a.toNat_lt; omega)
  have lb := byte_len b
  have Tb := Lib.hid fun W => rtext_any 2 (by omega) b.toNat W (by have := b.toNat_lt; omega)
  have lc := byte_len c
  have Tc := Lib.hid fun W => rtext_any 2 (by omega) c.toNat W (by have := c.toNat_lt; omega)
  have ld := byte_len d
  have Td := Lib.hid fun W => rtext_any 2 (by omega) d.toNat W (by have := d.toNat_lt; omega)
  have A1 := add_run (decT a.toNat) [46] (by omega) (by simp)
  have A2 := add_run (decT a.toNat ++ [46]) (decT b.toNat) (by rw [List.length_append, List.length_singleton]; omega) (by omega)
  have A3 := add_run (decT a.toNat ++ [46] ++ decT b.toNat) [46] (by simp only [List.length_append, List.length_singleton]; omega) (by simp)
  have A4 := add_run (decT a.toNat ++ [46] ++ decT b.toNat ++ [46]) (decT c.toNat) (by simp only [List.length_append, List.length_singleton]; omega) (by omega)
  have A5 := add_run (decT a.toNat ++ [46] ++ decT b.toNat ++ [46] ++ decT c.toNat) [46] (by simp only [List.length_append, List.length_singleton]; omega) (by simp)
  have A6 := add_run (decT a.toNat ++ [46] ++ decT b.toNat ++ [46] ++ decT c.toNat ++ [46]) (decT d.toNat) (by simp only [List.length_append, List.length_singleton]; omega) (by omega)
  have HE : Hid (decT a.toNat ++ [46] ++ decT b.toNat ++ [46] ++ decT c.toNat ++ [46] ++ decT d.toNat = adT a b c d) := Lib.hid rfl
  generalize decT a.toNat ++ [46] ++ decT b.toNat ++ [46] ++ decT c.toNat ++ [46] ++ decT d.toNat = s7 at *
  generalize decT a.toNat ++ [46] ++ decT b.toNat ++ [46] ++ decT c.toNat ++ [46] = s6 at *
  generalize decT a.toNat ++ [46] ++ decT b.toNat ++ [46] ++ decT c.toNat = s5 at *
  generalize decT a.toNat ++ [46] ++ decT b.toNat ++ [46] = s4 at *
  generalize decT a.toNat ++ [46] ++ decT b.toNat = s3 at *
  generalize decT a.toNat ++ [46] = s2 at *
  have xa : IntKind.i64.wrap (a.toNat : Int) = a.toNat := IntWalk.i64_in _ (by have := a.toNat_lt; omega)
  have xb : IntKind.i64.wrap (b.toNat : Int) = b.toNat := IntWalk.i64_in _ (by have := b.toNat_lt; omega)
  have xc : IntKind.i64.wrap (c.toNat : Int) = c.toNat := IntWalk.i64_in _ (by have := c.toNat_lt; omega)
  have xd : IntKind.i64.wrap (d.toNat : Int) = d.toNat := IntWalk.i64_in _ (by have := d.toNat_lt; omega)
  clear la lb lc ld
  have hblk := heap_alloc_new w (.cells #[.int .u8 (a.toNat : Int), .int .u8 (b.toNat : Int), .int .u8 (c.toNat : Int), .int .u8 (d.toNat : Int)] 24)
  obtain ⟨⟨q0, q1, q2, q3⟩, _⟩ := cells4 hblk
  have hlt : w.heap.size < (w.alloc (.cells #[.int .u8 (a.toNat : Int), .int .u8 (b.toNat : Int), .int .u8 (c.toNat : Int), .int .u8 (d.toNat : Int)] 24)).heap.size := by simp
  have bel1 : Below w.heap.size w (w.alloc (.cells #[.int .u8 (a.toNat : Int), .int .u8 (b.toNat : Int), .int .u8 (c.toNat : Int), .int .u8 (d.toNat : Int)] 24)) := (Below.refl _ w).alloc (Nat.le_refl _) _
  clear hblk
  go_enter Tryd.func44, Tryd.ntmps44
  go_wp2_with fail
  generalize w.alloc (.cells #[.int .u8 (a.toNat : Int), .int .u8 (b.toNat : Int), .int .u8 (c.toNat : Int), .int .u8 (d.toNat : Int)] 24) = w1 at q0 q1 q2 q3 hlt bel1 ⊢
  refine wp_region_held_drew (S := fun W => W.cell? ⟨w.heap.size, 0, none⟩ = some (.int .u8 (a.toNat : Int)) ∧ W.cell? ⟨w.heap.size, 1, none⟩ = some (.int .u8 (b.toNat : Int)) ∧ W.cell? ⟨w.heap.size, 2, none⟩ = some (.int .u8 (c.toNat : Int)) ∧ W.cell? ⟨w.heap.size, 3, none⟩ = some (.int .u8 (d.toNat : Int))) (by kernel_rfl) ⟨q0, q1, q2, q3⟩ (fun hH => ?_)
  refine wpAnyH_take (i := 0) (v := ?_) rfl (by kernel_rfl) (by kernel_rfl) (by kernel_rfl) (fun _ _ _ h => h) (Or.inl ⟨by rfl, ?_⟩) hH ?_
  rotate_left
  · ((intro W hW; obtain ⟨z0, z1, z2, z3⟩ := hW; go_simp) <;> with_reducible rfl)
  simp only [Act.put, List.getElem_toArray, List.getElem_cons_zero, List.setIfInBounds_toArray, List.set_cons_zero, List.set_cons_succ]
  refine wpAnyH_take (i := 1) (v := ?_) rfl (by kernel_rfl) (by kernel_rfl) (by kernel_rfl) (fun _ _ _ h => h) (Or.inl ⟨by rfl, ?_⟩) hH ?_
  rotate_left
  · ((intro W hW; obtain ⟨z0, z1, z2, z3⟩ := hW; go_simp) <;> with_reducible rfl)
  simp only [Act.put, List.getElem_toArray, List.getElem_cons_zero, List.getElem_cons_succ, List.setIfInBounds_toArray, List.set_cons_zero, List.set_cons_succ]
  refine wpAnyH_take (i := 2) (v := ?_) rfl (by kernel_rfl) (by kernel_rfl) (by kernel_rfl) (fun _ _ _ h => h) (Or.inl ⟨by rfl, ?_⟩) hH ?_
  rotate_left
  · ((intro W hW; obtain ⟨z0, z1, z2, z3⟩ := hW; go_simp) <;> with_reducible rfl)
  simp only [Act.put, List.getElem_toArray, List.getElem_cons_zero, List.getElem_cons_succ, List.setIfInBounds_toArray, List.set_cons_zero, List.set_cons_succ]
  refine wpAnyH_take (i := 5) (v := ?_) rfl (by kernel_rfl) (by kernel_rfl) (by kernel_rfl) (fun _ _ _ h => h) (Or.inl ⟨by rfl, ?_⟩) hH ?_
  rotate_left
  · ((intro W hW; obtain ⟨z0, z1, z2, z3⟩ := hW; go_simp) <;> with_reducible rfl)
  simp only [Act.put, List.getElem_toArray, List.getElem_cons_zero, List.getElem_cons_succ, List.setIfInBounds_toArray, List.set_cons_zero, List.set_cons_succ]
  refine wpAnyH_take (i := 6) (v := ?_) rfl (by kernel_rfl) (by kernel_rfl) (by kernel_rfl) (fun _ _ _ h => h) (Or.inl ⟨by rfl, ?_⟩) hH ?_
  rotate_left
  · ((intro W hW; obtain ⟨z0, z1, z2, z3⟩ := hW; go_simp) <;> with_reducible rfl)
  simp only [Act.put, List.getElem_toArray, List.getElem_cons_zero, List.getElem_cons_succ, List.setIfInBounds_toArray, List.set_cons_zero, List.set_cons_succ]
  refine wpAnyH_take (i := 7) (v := ?_) rfl (by kernel_rfl) (by kernel_rfl) (by kernel_rfl) (fun _ _ _ h => h) (Or.inl ⟨by rfl, ?_⟩) hH ?_
  rotate_left
  · ((intro W hW; obtain ⟨z0, z1, z2, z3⟩ := hW; go_simp) <;> with_reducible rfl)
  simp only [Act.put, List.getElem_toArray, List.getElem_cons_zero, List.getElem_cons_succ, List.setIfInBounds_toArray, List.set_cons_zero, List.set_cons_succ]
  refine wpAnyH_take (i := 11) (v := ?_) rfl (by kernel_rfl) (by kernel_rfl) (by kernel_rfl) (fun _ _ _ h => h) (Or.inl ⟨by rfl, ?_⟩) hH ?_
  rotate_left
  · ((intro W hW; obtain ⟨z0, z1, z2, z3⟩ := hW; go_simp) <;> with_reducible rfl)
  simp only [Act.put, List.getElem_toArray, List.getElem_cons_zero, List.getElem_cons_succ, List.setIfInBounds_toArray, List.set_cons_zero, List.set_cons_succ]
  refine wpAnyH_take (i := 12) (v := ?_) rfl (by kernel_rfl) (by kernel_rfl) (by kernel_rfl) (fun _ _ _ h => h) (Or.inl ⟨by rfl, ?_⟩) hH ?_
  rotate_left
  · ((intro W hW; obtain ⟨z0, z1, z2, z3⟩ := hW; go_simp) <;> with_reducible rfl)
  simp only [Act.put, List.getElem_toArray, List.getElem_cons_zero, List.getElem_cons_succ, List.setIfInBounds_toArray, List.set_cons_zero, List.set_cons_succ]
  refine wpAnyH_take (i := 13) (v := ?_) rfl (by kernel_rfl) (by kernel_rfl) (by kernel_rfl) (fun _ _ _ h => h) (Or.inl ⟨by rfl, ?_⟩) hH ?_
  rotate_left
  · ((intro W hW; obtain ⟨z0, z1, z2, z3⟩ := hW; go_simp) <;> with_reducible rfl)
  simp only [Act.put, List.getElem_toArray, List.getElem_cons_zero, List.getElem_cons_succ, List.setIfInBounds_toArray, List.set_cons_zero, List.set_cons_succ]
  refine wpAnyH_take (i := 17) (v := ?_) rfl (by kernel_rfl) (by kernel_rfl) (by kernel_rfl) (fun _ _ _ h => h) (Or.inl ⟨by rfl, ?_⟩) hH ?_
  rotate_left
  · ((intro W hW; obtain ⟨z0, z1, z2, z3⟩ := hW; go_simp) <;> with_reducible rfl)
  simp only [Act.put, List.getElem_toArray, List.getElem_cons_zero, List.getElem_cons_succ, List.setIfInBounds_toArray, List.set_cons_zero, List.set_cons_succ]
  refine wpAnyH_take (i := 18) (v := ?_) rfl (by kernel_rfl) (by kernel_rfl) (by kernel_rfl) (fun _ _ _ h => h) (Or.inl ⟨by rfl, ?_⟩) hH ?_
  rotate_left
  · ((intro W hW; obtain ⟨z0, z1, z2, z3⟩ := hW; go_simp) <;> with_reducible rfl)
  simp only [Act.put, List.getElem_toArray, List.getElem_cons_zero, List.getElem_cons_succ, List.setIfInBounds_toArray, List.set_cons_zero, List.set_cons_succ]
  refine wpAnyH_take (i := 19) (v := ?_) rfl (by kernel_rfl) (by kernel_rfl) (by kernel_rfl) (fun _ _ _ h => h) (Or.inl ⟨by rfl, ?_⟩) hH ?_
  rotate_left
  · ((intro W hW; obtain ⟨z0, z1, z2, z3⟩ := hW; go_simp) <;> with_reducible rfl)
  simp only [Act.put, List.getElem_toArray, List.getElem_cons_zero, List.getElem_cons_succ, List.setIfInBounds_toArray, List.set_cons_zero, List.set_cons_succ]
  refine wpAnyH_ready (rs := [3]) (by kernel_rfl) (by simp) ?_
  refine AllReadyH.cons (o := _) rfl (fun K hK => ?_) AllReadyH.nil
  simp only [List.getElem_toArray, List.getElem_cons_zero, List.getElem_cons_succ]
  go_simp
  refine (Ta.out _).mono ?_
  rintro e w2 ⟨rfl, b2⟩
  dsimp only
  have bel2 := bel1.drew.trans (b2.mono bel1.size)
  have hz2 : w.heap.size < w2.heap.size := Nat.lt_of_lt_of_le hlt b2.size
  refine hK.out _ _ ⟨(b2.cell (p := ⟨_, 0, none⟩) hlt).trans hH.1, (b2.cell (p := ⟨_, 1, none⟩) hlt).trans hH.2.1, (b2.cell (p := ⟨_, 2, none⟩) hlt).trans hH.2.2.1, (b2.cell (p := ⟨_, 3, none⟩) hlt).trans hH.2.2.2⟩ (fun h2 => ?_)
  clear hK K
  refine wpAnyH_take (i := 4) (v := ?_) rfl (by kernel_rfl) (by kernel_rfl) (by kernel_rfl) (fun _ _ _ h => h) (Or.inl ⟨by rfl, ?_⟩) h2 ?_
  rotate_left
  · ((intro w hw; clear hw; go_simp) <;> with_reducible rfl)
  simp only [Act.put, List.getElem_toArray, List.getElem_cons_zero, List.getElem_cons_succ, List.setIfInBounds_toArray, List.set_cons_zero, List.set_cons_succ]
  refine wpAnyH_ready (rs := [8]) (by kernel_rfl) (by simp) ?_
  refine AllReadyH.cons (o := _) rfl (fun K hK => ?_) AllReadyH.nil
  simp only [List.getElem_toArray, List.getElem_cons_zero, List.getElem_cons_succ]
  go_simp
  refine (Tb.out _).mono ?_
  rintro e w3 ⟨rfl, b3⟩
  dsimp only
  have bel3 := bel2.trans (b3.mono bel2.size)
  have hz3 : w.heap.size < w3.heap.size := Nat.lt_of_lt_of_le hz2 b3.size
  refine hK.out _ _ ⟨(b3.cell (p := ⟨_, 0, none⟩) hz2).trans h2.1, (b3.cell (p := ⟨_, 1, none⟩) hz2).trans h2.2.1, (b3.cell (p := ⟨_, 2, none⟩) hz2).trans h2.2.2.1, (b3.cell (p := ⟨_, 3, none⟩) hz2).trans h2.2.2.2⟩ (fun h3 => ?_)
  clear hK K
  refine wpAnyH_take (i := 9) (v := ?_) rfl (by kernel_rfl) (by kernel_rfl) (by kernel_rfl) (fun _ _ _ h => h) (Or.inl ⟨by rfl, ?_⟩) h3 ?_
  rotate_left
  · ((intro w hw; clear hw; go_simp) <;> with_reducible rfl)
  simp only [Act.put, List.getElem_toArray, List.getElem_cons_zero, List.getElem_cons_succ, List.setIfInBounds_toArray, List.set_cons_zero, List.set_cons_succ]
  refine wpAnyH_take (i := 10) (v := ?_) rfl (by kernel_rfl) (by kernel_rfl) (by kernel_rfl) (fun _ _ _ h => h) (Or.inl ⟨by rfl, ?_⟩) h3 ?_
  rotate_left
  · ((intro w hw; clear hw; go_simp) <;> with_reducible rfl)
  simp only [Act.put, List.getElem_toArray, List.getElem_cons_zero, List.getElem_cons_succ, List.setIfInBounds_toArray, List.set_cons_zero, List.set_cons_succ]
  refine wpAnyH_ready (rs := [14]) (by kernel_rfl) (by simp) ?_
  refine AllReadyH.cons (o := _) rfl (fun K hK => ?_) AllReadyH.nil
  simp only [List.getElem_toArray, List.getElem_cons_zero, List.getElem_cons_succ]
  go_simp
  refine (Tc.out _).mono ?_
  rintro e w4 ⟨rfl, b4⟩
  dsimp only
  have bel4 := bel3.trans (b4.mono bel3.size)
  have hz4 : w.heap.size < w4.heap.size := Nat.lt_of_lt_of_le hz3 b4.size
  refine hK.out _ _ ⟨(b4.cell (p := ⟨_, 0, none⟩) hz3).trans h3.1, (b4.cell (p := ⟨_, 1, none⟩) hz3).trans h3.2.1, (b4.cell (p := ⟨_, 2, none⟩) hz3).trans h3.2.2.1, (b4.cell (p := ⟨_, 3, none⟩) hz3).trans h3.2.2.2⟩ (fun h4 => ?_)
  clear hK K
  refine wpAnyH_take (i := 15) (v := ?_) rfl (by kernel_rfl) (by kernel_rfl) (by kernel_rfl) (fun _ _ _ h => h) (Or.inl ⟨by rfl, ?_⟩) h4 ?_
  rotate_left
  · ((intro w hw; clear hw; go_simp) <;> with_reducible rfl)
  simp only [Act.put, List.getElem_toArray, List.getElem_cons_zero, List.getElem_cons_succ, List.setIfInBounds_toArray, List.set_cons_zero, List.set_cons_succ]
  refine wpAnyH_take (i := 16) (v := ?_) rfl (by kernel_rfl) (by kernel_rfl) (by kernel_rfl) (fun _ _ _ h => h) (Or.inl ⟨by rfl, ?_⟩) h4 ?_
  rotate_left
  · ((intro w hw; clear hw; go_simp) <;> with_reducible rfl)
  simp only [Act.put, List.getElem_toArray, List.getElem_cons_zero, List.getElem_cons_succ, List.setIfInBounds_toArray, List.set_cons_zero, List.set_cons_succ]
  refine wpAnyH_ready (rs := [20]) (by kernel_rfl) (by simp) ?_
  refine AllReadyH.cons (o := _) rfl (fun K hK => ?_) AllReadyH.nil
  simp only [List.getElem_toArray, List.getElem_cons_zero, List.getElem_cons_succ]
  go_simp
  refine (Td.out _).mono ?_
  rintro e w5 ⟨rfl, b5⟩
  dsimp only
  have bel5 := bel4.trans (b5.mono bel4.size)
  have hz5 : w.heap.size < w5.heap.size := Nat.lt_of_lt_of_le hz4 b5.size
  refine hK.out _ _ ⟨(b5.cell (p := ⟨_, 0, none⟩) hz4).trans h4.1, (b5.cell (p := ⟨_, 1, none⟩) hz4).trans h4.2.1, (b5.cell (p := ⟨_, 2, none⟩) hz4).trans h4.2.2.1, (b5.cell (p := ⟨_, 3, none⟩) hz4).trans h4.2.2.2⟩ (fun h5 => ?_)
  clear hK K
  refine wpAnyH_take (i := 21) (v := ?_) rfl (by kernel_rfl) (by kernel_rfl) (by kernel_rfl) (fun _ _ _ h => h) (Or.inl ⟨by rfl, ?_⟩) h5 ?_
  rotate_left
  · ((intro w hw; clear hw; go_simp) <;> with_reducible rfl)
  simp only [Act.put, List.getElem_toArray, List.getElem_cons_zero, List.getElem_cons_succ, List.setIfInBounds_toArray, List.set_cons_zero, List.set_cons_succ]
  refine wpAnyH_take (i := 22) (v := ?_) rfl (by kernel_rfl) (by kernel_rfl) (by kernel_rfl) (fun _ _ _ h => h) (Or.inl ⟨by rfl, ?_⟩) h5 ?_
  rotate_left
  · ((intro w hw; clear hw; go_simp) <;> with_reducible rfl)
  simp only [Act.put, List.getElem_toArray, List.getElem_cons_zero, List.getElem_cons_succ, List.setIfInBounds_toArray, List.set_cons_zero, List.set_cons_succ]
  refine wpAnyH_done (by kernel_rfl) ?_ _
  go_wp2
  go_ret
  have h7 := HE.out
  subst h7
  exact ⟨rfl, bel5⟩
theorem and_clear (v j : Nat) (hv : v < 2 ^ 32) (hj : j < 32) : v &&& (4294967295 - 2 ^ j) = 2 ^ (j + 1) * (v / 2 ^ (j + 1)) + v % 2 ^ j := by
  have hlt : v % 2 ^ j < 2 ^ (j + 1) := by
    have h1 : v % 2 ^ j < 2 ^ j := Nat.mod_lt _ (Nat.two_pow_pos j)
    have h2 : (2 : Nat) ^ (j + 1) = 2 * 2 ^ j := by rw [Nat.pow_succ]; omega
    omega
  apply Nat.eq_of_testBit_eq
  intro i
  have hm : (4294967295 - 2 ^ j : Nat) = 2 ^ 32 - (2 ^ j + 1) := by omega
  have hpl : (2 : Nat) ^ j < 2 ^ 32 := Nat.pow_lt_pow_right (by omega) hj
  rw [Nat.testBit_and, hm, Nat.testBit_two_pow_sub_succ hpl, Nat.testBit_two_pow_mul_add _ hlt, Nat.testBit_two_pow, Nat.testBit_mod_two_pow, Nat.testBit_div_two_pow]
  by_cases h1 : i < j + 1
  · rw [if_pos h1]
    by_cases h2 : i = j
    · subst h2; simp
    · have h3 : i < j := by omega
      have h4 : i < 32 := by omega
      have h5 : ¬ j = i := fun e => h2 e.symm
      simp [h3, h4, h5]
  · rw [if_neg h1, show i - (j + 1) + (j + 1) = i by omega]
    have h5 : ¬ j = i := by omega
    by_cases h6 : i < 32
    · simp [h5, h6]
    · have : v.testBit i = false := Nat.testBit_lt_two_pow (Nat.lt_of_lt_of_le hv (Nat.pow_le_pow_right (by omega) (by omega)))
      simp [this]
theorem or_set (v j : Nat) : v ||| 2 ^ j = 2 ^ (j + 1) * (v / 2 ^ (j + 1)) + (2 ^ j + v % 2 ^ j) := by
  have h1 : v % 2 ^ j < 2 ^ j := Nat.mod_lt _ (Nat.two_pow_pos j)
  have h2 : (2 : Nat) ^ (j + 1) = 2 * 2 ^ j := by rw [Nat.pow_succ]; omega
  have hlt : 2 ^ j + v % 2 ^ j < 2 ^ (j + 1) := by omega
  apply Nat.eq_of_testBit_eq
  intro i
  rw [Nat.testBit_or, Nat.testBit_two_pow_mul_add _ hlt, Nat.testBit_two_pow, Nat.testBit_div_two_pow]
  by_cases h3 : i < j + 1
  · rw [if_pos h3]
    have e := Nat.testBit_two_pow_mul_add 1 h1 i
    rw [Nat.mul_one] at e
    rw [e, Nat.testBit_mod_two_pow]
    by_cases h4 : i = j
    · subst h4; simp
    · have h5 : i < j := by omega
      have h6 : ¬ j = i := fun e => h4 e.symm
      simp [h5, h6]
  · rw [if_neg h3, show i - (j + 1) + (j + 1) = i by omega]
    have h6 : ¬ j = i := by omega
    simp [h6]

/-- The first and the last number of a net of m bits. -/
def firstN (n m : Nat) : Nat := 2 ^ (32 - m) * (n / 2 ^ (32 - m))
def lastN (n m : Nat) : Nat := 2 ^ (32 - m) * (n / 2 ^ (32 - m)) + (2 ^ (32 - m) - 1)
/-- On the way from bit m to bit k. -/
def clrN (n m k : Nat) : Nat := 2 ^ (32 - m) * (n / 2 ^ (32 - m)) + n % 2 ^ (32 - k)
def setN (n m k : Nat) : Nat := 2 ^ (32 - m) * (n / 2 ^ (32 - m)) + (2 ^ (32 - m) - 2 ^ (32 - k)) + n % 2 ^ (32 - k)
theorem clrN_start (n m : Nat) : clrN n m m = n := Nat.div_add_mod n _
theorem clrN_end (n m : Nat) : clrN n m 32 = firstN n m := by simp [clrN, firstN, Nat.mod_one]
theorem setN_start (n m : Nat) : setN n m m = n := by
  unfold setN; rw [Nat.sub_self, Nat.add_zero]; exact Nat.div_add_mod n _
theorem setN_end (n m : Nat) : setN n m 32 = lastN n m := by simp [setN, lastN, Nat.mod_one]
theorem pow_split {m k : Nat} (h : m ≤ k) (hk : k < 32) : (2 : Nat) ^ (32 - m) = 2 ^ (k - m) * (2 * 2 ^ (31 - k)) ∧ (2 : Nat) ^ (32 - k) = 2 * 2 ^ (31 - k) := by
  have e : (2 : Nat) ^ (32 - k) = 2 * 2 ^ (31 - k) := by rw [show 32 - k = (31 - k) + 1 by omega, Nat.pow_succ]; omega
  refine ⟨?_, e⟩
  rw [← e, ← Nat.pow_add]
  congr 1; omega
theorem clr_step (t h R y : Nat) (hy : y < 2 * R) (hR : 0 < R) : 2 * R * ((t * (2 * R) * h + y) / (2 * R)) + (t * (2 * R) * h + y) % R = t * (2 * R) * h + y % R := by
  have e1 : t * (2 * R) * h = 2 * R * (t * h) := by rw [Nat.mul_comm t, Nat.mul_assoc]
  rw [e1, Nat.mul_add_div (by omega), Nat.div_eq_of_lt hy, Nat.add_zero]
  have e2 : 2 * R * (t * h) = R * (2 * (t * h)) := by rw [Nat.mul_comm 2 R, Nat.mul_assoc]
  rw [e2, Nat.mul_add_mod]
theorem clrN_step (n m k : Nat) (h : m ≤ k) (hk : k < 32) (hn : n < 2 ^ 32) : clrN n m k &&& (4294967295 - 2 ^ (31 - k)) = clrN n m (k + 1) ∧ clrN n m k < 2 ^ 32 := by
  obtain ⟨e1, e2⟩ := pow_split h hk
  have hR := Nat.two_pow_pos (31 - k)
  have hle : clrN n m k ≤ n := by
    have : n % 2 ^ (32 - k) ≤ n % 2 ^ (32 - m) := by
      rw [← Nat.mod_mod_of_dvd n (Nat.pow_dvd_pow 2 (by omega : 32 - k ≤ 32 - m))]
      exact Nat.mod_le _ _
    have := Nat.div_add_mod n (2 ^ (32 - m))
    unfold clrN; omega
  refine ⟨?_, by omega⟩
  rw [and_clear _ _ (by omega) (by omega)]
  unfold clrN
  rw [show 31 - k + 1 = 32 - k by omega, show 32 - (k + 1) = 31 - k by omega, e1, e2]
  have hy : n % (2 * 2 ^ (31 - k)) < 2 * 2 ^ (31 - k) := Nat.mod_lt _ (by omega)
  have hs := clr_step (2 ^ (k - m)) (n / (2 ^ (k - m) * (2 * 2 ^ (31 - k)))) (2 ^ (31 - k)) _ hy hR
  rw [hs]
  rw [Nat.mul_comm 2 (2 ^ (31 - k)), Nat.mod_mul_right_mod]
theorem setN_step (n m k : Nat) (h : m ≤ k) (hk : k < 32) (hm : m ≤ 32) (hn : n < 2 ^ 32) : setN n m k ||| 2 ^ (31 - k) = setN n m (k + 1) ∧ setN n m k < 2 ^ 32 := by
  obtain ⟨e1, e2⟩ := pow_split h hk
  have hR := Nat.two_pow_pos (31 - k)
  have hP := Nat.two_pow_pos (k - m)
  have hd := Nat.div_add_mod n (2 ^ (32 - m))
  have hml := Nat.mod_lt n (Nat.two_pow_pos (32 - m))
  have hmk := Nat.mod_lt n (Nat.two_pow_pos (32 - k))
  have hle : (2 : Nat) ^ (32 - k) ≤ 2 ^ (32 - m) := Nat.pow_le_pow_right (by omega) (by omega)
  have htop : 2 ^ (32 - m) * (n / 2 ^ (32 - m)) + 2 ^ (32 - m) ≤ 2 ^ 32 := by
    have h1 : n / 2 ^ (32 - m) < 2 ^ m := by
      rw [Nat.div_lt_iff_lt_mul (Nat.two_pow_pos _), ← Nat.pow_add, show m + (32 - m) = 32 by omega]; exact hn
    have h2 : 2 ^ (32 - m) * (n / 2 ^ (32 - m) + 1) ≤ 2 ^ (32 - m) * 2 ^ m := Nat.mul_le_mul_left _ h1
    rw [← Nat.pow_add, show 32 - m + m = 32 by omega, Nat.mul_add, Nat.mul_one] at h2
    exact h2
  refine ⟨?_, by unfold setN; omega⟩
  rw [or_set]
  unfold setN
  rw [show 31 - k + 1 = 32 - k by omega, show 32 - (k + 1) = 31 - k by omega, e1, e2]
  have hy : n % (2 * 2 ^ (31 - k)) < 2 * 2 ^ (31 - k) := Nat.mod_lt _ (by omega)
  have hmm : n % (2 * 2 ^ (31 - k)) % 2 ^ (31 - k) = n % 2 ^ (31 - k) := by rw [Nat.mul_comm 2 (2 ^ (31 - k)), Nat.mod_mul_right_mod]
  generalize n % (2 * 2 ^ (31 - k)) = y at *
  generalize n / (2 ^ (k - m) * (2 * 2 ^ (31 - k))) = q at *
  generalize n % 2 ^ (31 - k) = z at *
  generalize (2 : Nat) ^ (31 - k) = R at *
  generalize (2 : Nat) ^ (k - m) = t at *
  obtain ⟨u, rfl⟩ : ∃ u, t = u + 1 := ⟨t - 1, by omega⟩
  have e3 : (u + 1) * (2 * R) * q + ((u + 1) * (2 * R) - 2 * R) + y = 2 * R * ((u + 1) * q + u) + y := by
    have : (u + 1) * (2 * R) = u * (2 * R) + 2 * R := by rw [Nat.add_mul, Nat.one_mul]
    rw [this, Nat.add_sub_cancel, Nat.mul_add, ← this, Nat.mul_comm (u + 1) (2 * R), Nat.mul_assoc, Nat.mul_comm u (2 * R)]
  rw [e3, Nat.mul_add_div (by omega), Nat.div_eq_of_lt hy, Nat.add_zero]
  have e4 : 2 * R * ((u + 1) * q + u) = R * (2 * ((u + 1) * q + u)) := by rw [Nat.mul_comm 2 R, Nat.mul_assoc]
  rw [e4, Nat.mul_add_mod, hmm, ← e4]
  have e5 : (u + 1) * (2 * R) * q + ((u + 1) * (2 * R) - R) = 2 * R * ((u + 1) * q + u) + R := by
    have : (u + 1) * (2 * R) = u * (2 * R) + 2 * R := by rw [Nat.add_mul, Nat.one_mul]
    have h6 : (u + 1) * (2 * R) - R = u * (2 * R) + R := by omega
    rw [h6, Nat.mul_add, Nat.mul_comm (u + 1) (2 * R), Nat.mul_assoc, Nat.mul_comm u (2 * R)]; omega
  rw [e5]
  omega
theorem net_top (n m : Nat) (hm : m ≤ 32) (hn : n < 2 ^ 32) : 2 ^ (32 - m) * (n / 2 ^ (32 - m)) + 2 ^ (32 - m) ≤ 2 ^ 32 := by
  have h1 : n / 2 ^ (32 - m) < 2 ^ m := by
    rw [Nat.div_lt_iff_lt_mul (Nat.two_pow_pos _), ← Nat.pow_add, show m + (32 - m) = 32 by omega]; exact hn
  have h2 : 2 ^ (32 - m) * (n / 2 ^ (32 - m) + 1) ≤ 2 ^ (32 - m) * 2 ^ m := Nat.mul_le_mul_left _ h1
  rw [← Nat.pow_add, show 32 - m + m = 32 by omega, Nat.mul_add, Nat.mul_one] at h2
  exact h2
theorem lastN_lt (n m : Nat) (hm : m ≤ 32) (hn : n < 4294967296) : lastN n m < 4294967296 := by
  have := net_top n m hm hn
  have := Nat.two_pow_pos (32 - m)
  unfold lastN; omega
theorem firstN_le (n m : Nat) : firstN n m ≤ n := Nat.mul_div_le n _
/-- A net has a number: its first bits are the net's. -/
theorem firstN_eq (n k m : Nat) : firstN n m = firstN k m ↔ n / 2 ^ (32 - m) = k / 2 ^ (32 - m) := by
  unfold firstN
  exact ⟨fun h => Nat.eq_of_mul_eq_mul_left (Nat.two_pow_pos _) h, fun h => by rw [h]⟩
open Go.RowKit

/-- An address by its number. -/
def adr (n : Nat) : Value := .agg #[.int .u8 ((n : Int) / 16777216), .int .u8 ((n : Int) / 65536 % 256), .int .u8 ((n : Int) / 256 % 256), .int .u8 ((n : Int) % 256)]

def clamp (b : Int) : Nat := if b < 0 then 0 else if 32 < b then 32 else b.toNat
theorem clamp_le (b : Int) : clamp b ≤ 32 := by unfold clamp; split <;> (try split) <;> omega

theorem rbits_any (b : Int) (w : World) : Calls Tryd.prog 64 #[.int .i64 b] w fun e w' => e = .returned (.int .i64 (clamp b)) ∧ w = w' := by
  by_cases h0 : b < 0
  · have hc : clamp b = 0 := if_pos h0
    rw [hc]; clear hc
    go_enter Tryd.func64, Tryd.ntmps64
    go_wp2
    go_ret
    exact ⟨rfl, rfl⟩
  by_cases h1 : 32 < b
  · have hc : clamp b = 32 := by unfold clamp; rw [if_neg h0, if_pos h1]
    have b0 : 0 ≤ b := by omega
    rw [hc]; clear hc h0
    go_enter Tryd.func64, Tryd.ntmps64
    go_wp2
    go_ret
    exact ⟨rfl, rfl⟩
  · have hc : Hid ((clamp b : Int) = b) := Lib.hid (by unfold clamp; rw [if_neg h0, if_neg h1]; omega)
    have b0 : decide (b < 0) = false := decide_eq_false h0
    have b1 : decide (32 < b) = false := decide_eq_false h1
    clear h0 h1
    rw [hc.out]
    go_enter Tryd.func64, Tryd.ntmps64
    go_wp2
    go_ret
    exact ⟨rfl, rfl⟩

theorem rof4_any (n : Nat) (w : World) (hn : n < 4294967296) : Calls Tryd.prog 65 #[.int .u32 (n : Int)] w fun e w' => e = .returned (adr n) ∧ Below w.heap.size w w' := by
  have n0 : (0 : Int) ≤ n := by omega
  have n1 : (n : Int) < 4294967296 := by omega
  go_enter Tryd.func65, Tryd.ntmps65
  go_wp2
  exact bodyPost_ret (v := adr n) (by simp [results, Tryd.results65, go_sem, adr]) rfl ⟨rfl, (Below.refl _ _).alloc (Nat.le_refl _) _⟩

theorem made_abcd (a b c d : UInt8) (w : World) : Sl (w.alloc (.cells #[.int .u8 (a.toNat : Int), .int .u8 (b.toNat : Int), .int .u8 (c.toNat : Int), .int .u8 (d.toNat : Int)] 5)) (some ⟨w.heap.size, 0, none⟩) 4 4 [a, b, c, d] := Sl.made w 5 [a, b, c, d] (by simp [maxLen])

theorem rnum_any (a b c d : UInt8) (w : World) : Calls Tryd.prog 42 #[.agg #[.int .u8 (a.toNat : Int), .int .u8 (b.toNat : Int), .int .u8 (c.toNat : Int), .int .u8 (d.toNat : Int)]] w fun e w' => e = .returned (.int .u32 (be [a, b, c, d])) ∧ Below w.heap.size w w' := by
  have hm := made_abcd a b c d (w.alloc (.cells #[.int .u8 (a.toNat : Int), .int .u8 (b.toNat : Int), .int .u8 (c.toNat : Int), .int .u8 (d.toNat : Int)] 24))
  have bel := ((Below.refl w.heap.size w).alloc (Nat.le_refl _) (.cells #[.int .u8 (a.toNat : Int), .int .u8 (b.toNat : Int), .int .u8 (c.toNat : Int), .int .u8 (d.toNat : Int)] 24)).alloc (by simp) (.cells #[.int .u8 (a.toNat : Int), .int .u8 (b.toNat : Int), .int .u8 (c.toNat : Int), .int .u8 (d.toNat : Int)] 5)
  have hs : (w.alloc (.cells #[.int .u8 (a.toNat : Int), .int .u8 (b.toNat : Int), .int .u8 (c.toNat : Int), .int .u8 (d.toNat : Int)] 24)).heap.size = w.heap.size + 1 := by simp
  rw [hs] at hm
  have ha := fun W (h : Sl W (some ⟨w.heap.size + 1, 0, none⟩) 4 4 [a, b, c, d]) => at32_any _ 4 4 [a, b, c, d] W h (by omega)
  rw [show ([a, b, c, d] : List UInt8).take 4 = [a, b, c, d] from rfl] at ha
  generalize be [a, b, c, d] = n at *
  have HA := Lib.hid ha
  clear ha hs
  go_enter Tryd.func42, Tryd.ntmps42
  go_wp2_with fail
  with_reducible refine (HA.out _ hm).mono ?_
  rintro e w1 ⟨rfl, q, rfl⟩
  go_wp2
  go_ret
  exact ⟨rfl, ⟨bel.os, bel.tape, bel.output, bel.size, bel.block⟩⟩

theorem be_four_lt (a b c d : UInt8) : be [a, b, c, d] < 4294967296 := be_lt 4 [a, b, c, d] rfl

theorem clrN_le (n m k : Nat) (h : m ≤ k) : clrN n m k ≤ n := by
  have : n % 2 ^ (32 - k) ≤ n % 2 ^ (32 - m) := by
    rw [← Nat.mod_mod_of_dvd n (Nat.pow_dvd_pow 2 (by omega : 32 - k ≤ 32 - m))]
    exact Nat.mod_le _ _
  have := Nat.div_add_mod n (2 ^ (32 - m))
  unfold clrN; omega
theorem clr_walk (n m k : Nat) (h : m ≤ k) (hk : k < 32) (hn : n < 4294967296) : bits .andNot .u32 (clrN n m k : Int) ((2 : Int) ^ (31 - k) % 4294967296) = (clrN n m (k + 1) : Int) ∧ clrN n m k < 4294967296 := by
  have hle := clrN_le n m k h
  have hp : (2 : Nat) ^ (31 - k) ≤ 2 ^ 31 := Nat.pow_le_pow_right (by omega) (by omega)
  have e : ((2 : Int) ^ (31 - k) % 4294967296) = ((2 ^ (31 - k) : Nat) : Int) := by
    rw [show (2 : Int) ^ (31 - k) = ((2 ^ (31 - k) : Nat) : Int) by simp]
    generalize (2 : Nat) ^ (31 - k) = R at *
    omega
  rw [e, u32_andNot_nat _ _ (by omega) (by omega), (clrN_step n m k h hk (by omega)).1]
  exact ⟨rfl, by omega⟩

/-- The two blocks that First lays, behind what came later. -/
theorem first_kept {w w3 : World} {a b c d x0 x1 x2 x3 x4 : Value} (h : Below ((w.alloc (.cells #[a, b, c, d, x4] 40)).alloc (.cells #[x0, x1, x2, x3] 24)).heap.size ((w.alloc (.cells #[a, b, c, d, x4] 40)).alloc (.cells #[x0, x1, x2, x3] 24)) w3) :
    w3.cell? ⟨w.heap.size, 4, none⟩ = some x4 ∧ w3.heap[w.heap.size + 1]? = some (.cells #[x0, x1, x2, x3] 24 (0, 0)) ∧ Below w.heap.size w w3 ∧ w.heap.size + 1 < w3.heap.size := by
  have hs := h.size
  simp at hs
  have h1 : w3.heap[w.heap.size + 1]? = some (.cells #[x0, x1, x2, x3] 24 (0, 0)) := (h.block _ (by simp)).trans (by have := heap_alloc_new (w.alloc (.cells #[a, b, c, d, x4] 40)) (.cells #[x0, x1, x2, x3] 24); simpa using this)
  have h0 : w3.heap[w.heap.size]? = some (.cells #[a, b, c, d, x4] 40 (0, 0)) :=
    (h.block _ (by simp; omega)).trans ((Go.heap_alloc_old (w.alloc (.cells #[a, b, c, d, x4] 40)) (.cells #[x0, x1, x2, x3] 24) (r := w.heap.size) (by simp)).trans (heap_alloc_new w _))
  refine ⟨by simp [World.cell?, h0], h1, ?_, by omega⟩
  exact (((Below.refl w.heap.size w).alloc (Nat.le_refl _) _).alloc (by simp) _).trans (h.mono (by simp; omega))

set_option maxHeartbeats 1000000 in
theorem rfirst_any (a b c d : UInt8) (bt : Int) (w : World) :
    Calls Tryd.prog 39 #[.agg #[.int .u8 (a.toNat : Int), .int .u8 (b.toNat : Int), .int .u8 (c.toNat : Int), .int .u8 (d.toNat : Int), .int .i64 bt]] w fun e w' => e = .returned (adr (firstN (be [a, b, c, d]) (clamp bt))) ∧ Below w.heap.size w w' := by
  have hn := be_four_lt a b c d
  have hml := clamp_le bt
  have hnum := fun W => rnum_any a b c d W
  have hbits := fun W => rbits_any bt W
  generalize be [a, b, c, d] = n at *
  generalize clamp bt = m at *
  have HNUM := Lib.hid hnum
  have HBITS := Lib.hid hbits
  clear hnum hbits
  go_enter Tryd.func39, Tryd.ntmps39
  go_wp2_with fail
  with_reducible refine (HNUM.out _).mono ?_
  rintro e w3 ⟨rfl, bel3⟩
  obtain ⟨z4, hb4, bel, hsz⟩ := first_kept bel3
  clear bel3
  go_wp2_with fail
  with_reducible refine (HBITS.out _).mono ?_
  rintro e w4 ⟨rfl, rfl⟩
  have hst := Lib.hid (clrN_start n m)
  go_wp2_with fail
  go_loop [3, 4] (fun v i => ∃ k : Nat, m ≤ k ∧ k ≤ 32 ∧ i = .int .i64 k ∧ v = .int .u32 (clrN n m k)) (fun _ i => 32 - (intOf i).toNat)
  case atStart => exact ⟨m, Nat.le_refl _, hml, rfl, by rw [hst.out]⟩
  case round =>
    obtain ⟨k, hmk, hk, rfl, rfl⟩ := hrel
    by_cases hlt : k < 32
    · obtain ⟨hand, hvl⟩ := clr_walk n m k hmk hlt hn
      have k0 : (0 : Int) ≤ k := by omega
      have k1 : (k : Int) < 32 := by omega
      have v0 : (0 : Int) ≤ clrN n m k := by omega
      have v1 : (clrN n m k : Int) < 4294967296 := by omega
      go_wp2
      go_round
      case rel => exact ⟨k + 1, by omega, by omega, by go_num, rfl⟩
      case measure => simp [intOf]; omega
    · obtain rfl : k = 32 := by omega
      have he := clrN_end n m
      have hfl : firstN n m < 4294967296 := by
        have := clrN_le n m 32 hmk; rw [he] at this; omega
      rw [he]
      clear he
      go_wp2_with fail
      with_reducible refine (rof4_any (firstN n m) _ hfl).mono ?_
      rintro e w5 ⟨rfl, bel5⟩
      have bel6 := bel.trans (bel5.mono bel.size)
      have hb5 := (bel5.block _ hsz).trans hb4
      obtain ⟨⟨q0, q1, q2, q3⟩, f0, f1, f2, f3⟩ := cells4 hb5
      have HB := Lib.hid hb5
      clear hb5 hb4 z4 bel bel5
      simp only [adr]
      go_wp2
      have R4 := put4 (x := .int .u8 ((firstN n m : Int) / 16777216)) (y := .int .u8 ((firstN n m : Int) / 65536 % 256)) (z := .int .u8 ((firstN n m : Int) / 256 % 256)) (u := .int .u8 ((firstN n m : Int) % 256)) HB.out
      obtain ⟨⟨k0, k1, k2, k3⟩, _⟩ := cells4 R4
      clear R4
      exact bodyPost_ret (v := adr (firstN n m)) (by simp [results, Tryd.results39, go_sem, adr, k0, k1, k2, k3]) rfl ⟨rfl, (((bel6.setCell (by simp) _).setCell (by simp) _).setCell (by simp) _).setCell (by simp) _⟩

theorem set_walk (n m k : Nat) (h : m ≤ k) (hk : k < 32) (hm : m ≤ 32) (hn : n < 4294967296) : bits .or .u32 (setN n m k : Int) ((2 : Int) ^ (31 - k) % 4294967296) = (setN n m (k + 1) : Int) ∧ setN n m k < 4294967296 := by
  obtain ⟨h1, h2⟩ := setN_step n m k h hk hm (by omega)
  have hp : (2 : Nat) ^ (31 - k) ≤ 2 ^ 31 := Nat.pow_le_pow_right (by omega) (by omega)
  have e : ((2 : Int) ^ (31 - k) % 4294967296) = ((2 ^ (31 - k) : Nat) : Int) := by
    rw [show (2 : Int) ^ (31 - k) = ((2 ^ (31 - k) : Nat) : Int) by simp]
    generalize (2 : Nat) ^ (31 - k) = R at *
    omega
  rw [e, u32_or_nat _ _ (by omega) (by omega), h1]
  exact ⟨rfl, by omega⟩

set_option maxHeartbeats 1000000 in
theorem rlast_any (a b c d : UInt8) (bt : Int) (w : World) :
    Calls Tryd.prog 67 #[.agg #[.int .u8 (a.toNat : Int), .int .u8 (b.toNat : Int), .int .u8 (c.toNat : Int), .int .u8 (d.toNat : Int), .int .i64 bt]] w fun e w' => e = .returned (adr (lastN (be [a, b, c, d]) (clamp bt))) ∧ Below w.heap.size w w' := by
  have hn := be_four_lt a b c d
  have hml := clamp_le bt
  have hnum := fun W => rnum_any a b c d W
  have hbits := fun W => rbits_any bt W
  generalize be [a, b, c, d] = n at *
  generalize clamp bt = m at *
  have HNUM := Lib.hid hnum
  have HBITS := Lib.hid hbits
  clear hnum hbits
  go_enter Tryd.func67, Tryd.ntmps67
  go_wp2_with fail
  with_reducible refine (HNUM.out _).mono ?_
  rintro e w3 ⟨rfl, bel3⟩
  obtain ⟨z4, hb4, bel, hsz⟩ := first_kept bel3
  clear bel3
  go_wp2_with fail
  with_reducible refine (HBITS.out _).mono ?_
  rintro e w4 ⟨rfl, rfl⟩
  have hst := Lib.hid (setN_start n m)
  go_wp2_with fail
  go_loop [3, 4] (fun v i => ∃ k : Nat, m ≤ k ∧ k ≤ 32 ∧ i = .int .i64 k ∧ v = .int .u32 (setN n m k)) (fun _ i => 32 - (intOf i).toNat)
  case atStart => exact ⟨m, Nat.le_refl _, hml, rfl, by rw [hst.out]⟩
  case round =>
    obtain ⟨k, hmk, hk, rfl, rfl⟩ := hrel
    by_cases hlt : k < 32
    · obtain ⟨hand, hvl⟩ := set_walk n m k hmk hlt hml hn
      have k0 : (0 : Int) ≤ k := by omega
      have k1 : (k : Int) < 32 := by omega
      have v0 : (0 : Int) ≤ setN n m k := by omega
      have v1 : (setN n m k : Int) < 4294967296 := by omega
      go_wp2
      go_round
      case rel => exact ⟨k + 1, by omega, by omega, by go_num, rfl⟩
      case measure => simp [intOf]; omega
    · obtain rfl : k = 32 := by omega
      have he := setN_end n m
      have hfl : lastN n m < 4294967296 := by
        exact lastN_lt n m hml hn
      rw [he]
      clear he
      go_wp2_with fail
      with_reducible refine (rof4_any (lastN n m) _ hfl).mono ?_
      rintro e w5 ⟨rfl, bel5⟩
      have bel6 := bel.trans (bel5.mono bel.size)
      have hb5 := (bel5.block _ hsz).trans hb4
      obtain ⟨⟨q0, q1, q2, q3⟩, f0, f1, f2, f3⟩ := cells4 hb5
      have HB := Lib.hid hb5
      clear hb5 hb4 z4 bel bel5
      simp only [adr]
      go_wp2
      have R4 := put4 (x := .int .u8 ((lastN n m : Int) / 16777216)) (y := .int .u8 ((lastN n m : Int) / 65536 % 256)) (z := .int .u8 ((lastN n m : Int) / 256 % 256)) (u := .int .u8 ((lastN n m : Int) % 256)) HB.out
      obtain ⟨⟨k0, k1, k2, k3⟩, _⟩ := cells4 R4
      clear R4
      exact bodyPost_ret (v := adr (lastN n m)) (by simp [results, Tryd.results67, go_sem, adr, k0, k1, k2, k3]) rfl ⟨rfl, (((bel6.setCell (by simp) _).setCell (by simp) _).setCell (by simp) _).setCell (by simp) _⟩
open Go.RowKit

/-- An address and bits, as the reference reads them. -/
def splitA (l : List UInt8) : UInt8 × UInt8 × UInt8 × UInt8 :=
  if 18 < l.length then (0, 0, 0, 0) else match cutF 47 l with
  | [x, _] => (parse4 x).getD (0, 0, 0, 0)
  | _ => (0, 0, 0, 0)
def splitN (l : List UInt8) : Int :=
  if 18 < l.length then 0 else match cutF 47 l with
  | [_, y] => numI y 32
  | _ => 0
def splitOk (l : List UInt8) : Bool :=
  if 18 < l.length then false else match cutF 47 l with
  | [x, y] => (parse4 x).isSome && decide (0 ≤ numI y 32)
  | _ => false
/-- What Split answers. -/
def SplitPost (l : List UInt8) (w : World) (e : Ending) (w' : World) : Prop :=
  e = .returned (.tuple #[addrV (splitA l).1 (splitA l).2.1 (splitA l).2.2.1 (splitA l).2.2.2, .int .i64 (splitN l), .bool (splitOk l)]) ∧ Below w.heap.size w w'
theorem cut_free (b : UInt8) : ∀ (t : List UInt8) (ls : List (List UInt8)) (x : List UInt8), (∀ c ∈ t, c ≠ b) → t.foldl (cutStep b) (ls ++ [x]) = ls ++ [x ++ t]
  | [], ls, x, _ => by simp
  | c :: t, ls, x, h => by
    rw [List.foldl_cons]
    have hc : cutStep b (ls ++ [x]) c = ls ++ [x ++ [c]] := by
      unfold cutStep; rw [if_neg (h c (by simp))]; simp
    rw [hc, cut_free b t ls (x ++ [c]) (fun y hy => h y (by simp [hy]))]
    simp
theorem cut_at (b : UInt8) (l t : List UInt8) (ht : ∀ c ∈ t, c ≠ b) : cutF b (l ++ [b] ++ t) = cutF b l ++ [t] := by
  unfold cutF
  rw [List.foldl_append, List.foldl_append, List.foldl_cons, List.foldl_nil]
  have hb : cutStep b (List.foldl (cutStep b) [[]] l) b = List.foldl (cutStep b) [[]] l ++ [[]] := if_pos rfl
  rw [hb, cut_free b t _ [] ht]
  simp
theorem cut_none (b : UInt8) (t : List UInt8) (ht : ∀ c ∈ t, c ≠ b) : cutF b t = [t] := by
  have := cut_free b t [] [] ht
  simpa [cutF] using this
open Go.RowKit

/-- The i-th byte of a Mac's text; -1: none. -/
def macB (l : List UInt8) (i : Nat) : Int :=
  if hexI (l.getD (3 * i) 0) < 0 ∨ hexI (l.getD (3 * i + 1) 0) < 0 ∨ (i < 5 ∧ l.getD (3 * i + 2) 0 ≠ 58) then -1 else 16 * hexI (l.getD (3 * i) 0) + hexI (l.getD (3 * i + 1) 0)
def macBs (l : List UInt8) (k : Nat) : List UInt8 := (List.range 6).map fun i => if i < k then byteOf (macB l i) else 0
def macOk (l : List UInt8) : Prop := l.length = 17 ∧ ∀ i, i < 6 → 0 ≤ macB l i
def mac0 : Value := .agg #[.int .u8 0, .int .u8 0, .int .u8 0, .int .u8 0, .int .u8 0, .int .u8 0]
theorem cells6 {w : World} {k : Nat} {a b c d e f : Value} {T : TypeId} (h : w.heap[k]? = some (.cells #[a, b, c, d, e, f] T (0, 0))) :
    (w.cell? ⟨k, 0, none⟩ = some a ∧ w.cell? ⟨k, 1, none⟩ = some b ∧ w.cell? ⟨k, 2, none⟩ = some c ∧ w.cell? ⟨k, 3, none⟩ = some d ∧ w.cell? ⟨k, 4, none⟩ = some e ∧ w.cell? ⟨k, 5, none⟩ = some f) ∧
    (w.frozen? ⟨k, 0, none⟩ = false ∧ w.frozen? ⟨k, 1, none⟩ = false ∧ w.frozen? ⟨k, 2, none⟩ = false ∧ w.frozen? ⟨k, 3, none⟩ = false ∧ w.frozen? ⟨k, 4, none⟩ = false ∧ w.frozen? ⟨k, 5, none⟩ = false) := by
  simp [World.cell?, World.frozen?, h]
theorem put6 {w : World} {k : Nat} {a b c d e f x y z u v t : Value} {T : TypeId} (h : w.heap[k]? = some (.cells #[a, b, c, d, e, f] T (0, 0))) :
    ((((((w.setCell ⟨k, 0, none⟩ x).setCell ⟨k, 1, none⟩ y).setCell ⟨k, 2, none⟩ z).setCell ⟨k, 3, none⟩ u).setCell ⟨k, 4, none⟩ v).setCell ⟨k, 5, none⟩ t).heap[k]? = some (.cells #[x, y, z, u, v, t] T (0, 0)) := by
  simp [World.setCell, Array.getElem?_modify, h]

/-- What ParseMac answers: the value's bytes are macBs. -/
def MacPost (l : List UInt8) (w : World) (e : Ending) (w' : World) : Prop :=
  (macOk l ∧ e = .returned (.tuple #[.agg ((macBs l 6).map u8v).toArray, .bool true]) ∨ ¬ macOk l ∧ e = .returned (.tuple #[mac0, .bool false])) ∧ Below w.heap.size w w'
end Go.Proofs.YtdfobilagidmfaaDoor
