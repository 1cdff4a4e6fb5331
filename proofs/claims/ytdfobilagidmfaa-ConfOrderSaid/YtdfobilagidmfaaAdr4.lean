/- The contract of addr's Parse. -/
import Derived.Test.YtdfobilagidmfaaAdr3
import Derived.Test.YtdfobilagidmfaaRef3p
namespace Go.Proofs.Ytdfobilagidmfaa
open Go.RowKit

/-! ### A cut text and its pieces -/
def joinF (b : UInt8) : List (List UInt8) → List UInt8
  | [] => []
  | [x] => x
  | x :: y :: t => x ++ [b] ++ joinF b (y :: t)
theorem joinF_cons (b : UInt8) (x : List UInt8) (t : List (List UInt8)) (h : t ≠ []) : joinF b (x :: t) = x ++ [b] ++ joinF b t := by
  cases t with
  | nil => exact absurd rfl h
  | cons y t => rfl
theorem joinF_snoc (b : UInt8) : ∀ (ls : List (List UInt8)) (x : List UInt8), ls ≠ [] → joinF b (ls ++ [x]) = joinF b ls ++ [b] ++ x
  | [], x, h => absurd rfl h
  | [y], x, _ => by simp [joinF]
  | y :: z :: t, x, _ => by
    rw [List.cons_append, joinF_cons b y _ (by simp), joinF_snoc b (z :: t) x (by simp), joinF_cons b y (z :: t) (by simp)]
    simp
theorem joinF_last (b : UInt8) (c : UInt8) : ∀ (ls : List (List UInt8)) (x : List UInt8), joinF b (ls ++ [x ++ [c]]) = joinF b (ls ++ [x]) ++ [c]
  | [], x => by simp [joinF]
  | y :: t, x => by
    rw [joinF_snoc b (y :: t) _ (by simp), joinF_snoc b (y :: t) _ (by simp)]
    simp
/-- The pieces, joined again, are the text. -/
theorem joinF_rev (b : UInt8) : ∀ r : List UInt8, joinF b (cutF b r.reverse) = r.reverse
  | [] => by simp [cutF, joinF]
  | c :: r => by
    have ih := joinF_rev b r
    have hne := cutF_ne b r.reverse
    rw [List.reverse_cons, cutF_snoc]
    generalize cutF b r.reverse = ls at *
    obtain ⟨i, x, rfl⟩ : ∃ i x, ls = i ++ [x] := ⟨ls.dropLast, ls.getLast hne, (List.dropLast_concat_getLast hne).symm⟩
    unfold cutStep
    split
    · rename_i h
      subst h
      rw [joinF_snoc _ _ _ hne, ih]; simp
    · simp only [List.dropLast_concat, List.getLastD_concat]
      rw [joinF_last, ih]
theorem joinF_cut (b : UInt8) (l : List UInt8) : joinF b (cutF b l) = l := by
  have := joinF_rev b l.reverse
  rwa [List.reverse_reverse] at this

/-- A number of at most 255 has at most three digits. -/
theorem numGo_ge : ∀ (t : List UInt8) (v n : Nat), numGo t v = some n → v * 10 ^ t.length ≤ n
  | [], v, n, h => by simp [numGo] at h; subst h; simp
  | c :: t, v, n, h => by
    rw [numGo] at h
    split at h
    · cases h
    · have := numGo_ge t _ n h
      have h2 : 10 * v * 10 ^ t.length ≤ (10 * v + (c.toNat - 48)) * 10 ^ t.length := Nat.mul_le_mul_right _ (by omega)
      have h3 : v * 10 ^ (c :: t).length = 10 * v * 10 ^ t.length := by
        rw [List.length_cons, Nat.pow_succ, Nat.mul_comm 10 v, Nat.mul_assoc, Nat.mul_comm 10]
      omega
theorem numI_len {l : List UInt8} {most : Int} (h : 0 ≤ numI l most) (hm : most < 1000) : l.length ≤ 3 := by
  have hs : ¬ (l.length < 1 ∨ 9 < l.length ∨ (1 < l.length ∧ l[0]? = some 48)) := fun hs => by rw [numI_shape most hs] at h; omega
  match hg : numGo l 0 with
  | none => rw [numI_none most hg] at h; omega
  | some n =>
    rw [numI_some most n hs hg] at h
    have hn : (n : Int) ≤ most := by split at h <;> omega
    cases l with
    | nil => simp at hs
    | cons c t =>
      rw [numGo] at hg
      split at hg
      · cases hg
      rename_i hd
      by_cases ht : t.length ≤ 2
      · rw [List.length_cons]; omega
      exfalso
      have h0 : c.toNat ≠ 48 := fun e => hs (.inr (.inr ⟨by rw [List.length_cons]; omega, by
        rw [List.getElem?_cons_zero]; congr 1; exact UInt8.toNat_inj.1 e⟩))
      have h1 := numGo_ge t _ n hg
      have h2 : (10 : Nat) ^ 3 ≤ 10 ^ t.length := Nat.pow_le_pow_right (by omega) (by omega)
      have h3 : 1 * 10 ^ t.length ≤ (10 * 0 + (c.toNat - 48)) * 10 ^ t.length := Nat.mul_le_mul_right _ (by omega)
      omega

/-- Parse, with no bound on the length. -/
theorem parse4_cut {l a b c d : List UInt8} (h : cutF 46 l = [a, b, c, d]) :
    parse4 l = if 0 ≤ numI a 255 ∧ 0 ≤ numI b 255 ∧ 0 ≤ numI c 255 ∧ 0 ≤ numI d 255 then some (byteOf (numI a 255), byteOf (numI b 255), byteOf (numI c 255), byteOf (numI d 255)) else none := by
  unfold parse4
  by_cases hk : 0 ≤ numI a 255 ∧ 0 ≤ numI b 255 ∧ 0 ≤ numI c 255 ∧ 0 ≤ numI d 255
  · have ha := numI_len hk.1 (by omega)
    have hb := numI_len hk.2.1 (by omega)
    have hc := numI_len hk.2.2.1 (by omega)
    have hd := numI_len hk.2.2.2 (by omega)
    have hj := joinF_cut 46 l
    rw [h] at hj
    have hl : l.length ≤ 15 := by
      rw [← hj]; simp only [joinF, List.length_append, List.length_singleton]; omega
    rw [if_neg (by omega), h]
  · rw [if_neg hk]
    split
    · rfl
    · rw [h]; exact if_neg hk
theorem parse4_not {l : List UInt8} (h : (cutF 46 l).length ≠ 4) : parse4 l = none := by
  unfold parse4
  split
  · rfl
  · match hm : cutF 46 l with
    | [a, b, c, d] => rw [hm] at h; exact absurd rfl h
    | [] | [_] | [_, _] | [_, _, _] | _ :: _ :: _ :: _ :: _ :: _ => rfl

/-- The bytes that are read so far. -/
def pBs (ls : List (List UInt8)) (k : Nat) : List UInt8 := (List.range 4).map fun i => if i < k then byteOf (numI (ls.getD i []) 255) else 0
theorem pBs_len (ls : List (List UInt8)) (k : Nat) : (pBs ls k).length = 4 := by simp [pBs]
theorem pBs_zero (ls : List (List UInt8)) : pBs ls 0 = [0, 0, 0, 0] := by simp [pBs, List.range, List.range.loop]
theorem pBs_four (a b c d : List UInt8) : pBs [a, b, c, d] 4 = [byteOf (numI a 255), byteOf (numI b 255), byteOf (numI c 255), byteOf (numI d 255)] := by simp [pBs, List.range, List.range.loop]
theorem pBs_set (ls : List (List UInt8)) (k : Nat) : (pBs ls k).set k (byteOf (numI (ls.getD k []) 255)) = pBs ls (k + 1) := by
  apply List.ext_getElem
  · simp [pBs]
  · intro i h1 h2
    rw [List.getElem_set]
    simp only [pBs, List.getElem_map, List.getElem_range]
    by_cases e : k = i
    · subst e; simp
    · rw [if_neg e]
      by_cases e2 : i < k
      · rw [if_pos e2, if_pos (by omega)]
      · rw [if_neg e2, if_neg (by omega)]

theorem decimal_no (s : ByteArray) (most : Int) (w : World) (hs : s.size ≤ 140737488355328) (hm0 : 0 ≤ most) (hm1 : most < 1000) (h : numI s.data.toList most = -1) :
    Calls Try.prog 82 #[.string s, .int .i64 most] w fun e w' => e = .returned (.tuple #[.int .i64 0, .bool false]) ∧ Below w.heap.size w w' :=
  (decimal_any s most w hs hm0 hm1).mono fun e w' hh => by unfold DecPost at hh; rw [h] at hh; exact hh
theorem decimal_yes (s : ByteArray) (most : Int) (w : World) (hs : s.size ≤ 140737488355328) (hm0 : 0 ≤ most) (hm1 : most < 1000) (h : 0 ≤ numI s.data.toList most) :
    Calls Try.prog 82 #[.string s, .int .i64 most] w fun e w' => e = .returned (.tuple #[.int .i64 (numI s.data.toList most), .bool true]) ∧ Below w.heap.size w w' :=
  (decimal_any s most w hs hm0 hm1).mono fun e w' hh => by unfold DecPost at hh; rw [if_pos h, decide_eq_true h] at hh; exact hh

/-- What Parse answers. -/
def AParsePost (l : List UInt8) (w : World) (e : Ending) (w' : World) : Prop :=
  (match parse4 l with
   | none => e = .returned (.tuple #[addrV 0 0 0 0, .int .i64 9])
   | some (a, b, c, d) => e = .returned (.tuple #[addrV a b c d, .int .i64 0])) ∧ Below w.heap.size w w'
theorem aparse_no {l : List UInt8} {w w' : World} (h : parse4 l = none) (hb : Below w.heap.size w w') : AParsePost l w (.returned (.tuple #[addrV 0 0 0 0, .int .i64 9])) w' := by
  unfold AParsePost; rw [h]; exact ⟨rfl, hb⟩
theorem aparse_yes {l : List UInt8} {w w' : World} {a b c d : UInt8} (h : parse4 l = some (a, b, c, d)) (hb : Below w.heap.size w w') : AParsePost l w (.returned (.tuple #[addrV a b c d, .int .i64 0])) w' := by
  unfold AParsePost; rw [h]; exact ⟨rfl, hb⟩

/-- Two blocks of four zeros, behind a call. -/
theorem two_addr {w w1 : World} (h : Below ((w.alloc (.cells #[.int .u8 0, .int .u8 0, .int .u8 0, .int .u8 0] 24)).alloc (.cells #[.int .u8 0, .int .u8 0, .int .u8 0, .int .u8 0] 24)).heap.size ((w.alloc (.cells #[.int .u8 0, .int .u8 0, .int .u8 0, .int .u8 0] 24)).alloc (.cells #[.int .u8 0, .int .u8 0, .int .u8 0, .int .u8 0] 24)) w1) :
    w1.heap[w.heap.size]? = some (.cells #[.int .u8 0, .int .u8 0, .int .u8 0, .int .u8 0] 24 (0, 0)) ∧ w1.heap[w.heap.size + 1]? = some (.cells #[.int .u8 0, .int .u8 0, .int .u8 0, .int .u8 0] 24 (0, 0)) ∧ w.heap.size + 1 < w1.heap.size ∧ Below w.heap.size w w1 := by
  have hs := h.size
  simp at hs
  have h0 : ((w.alloc (.cells #[.int .u8 0, .int .u8 0, .int .u8 0, .int .u8 0] 24)).alloc (.cells #[.int .u8 0, .int .u8 0, .int .u8 0, .int .u8 0] 24)).heap[w.heap.size]? = some (.cells #[.int .u8 0, .int .u8 0, .int .u8 0, .int .u8 0] 24 (0, 0)) :=
    (Go.heap_alloc_old (w.alloc (.cells #[.int .u8 0, .int .u8 0, .int .u8 0, .int .u8 0] 24)) (.cells #[.int .u8 0, .int .u8 0, .int .u8 0, .int .u8 0] 24) (r := w.heap.size) (by simp)).trans (heap_alloc_new w _)
  have h1 : ((w.alloc (.cells #[.int .u8 0, .int .u8 0, .int .u8 0, .int .u8 0] 24)).alloc (.cells #[.int .u8 0, .int .u8 0, .int .u8 0, .int .u8 0] 24)).heap[w.heap.size + 1]? = some (.cells #[.int .u8 0, .int .u8 0, .int .u8 0, .int .u8 0] 24 (0, 0)) := by
    have := heap_alloc_new (w.alloc (.cells #[.int .u8 0, .int .u8 0, .int .u8 0, .int .u8 0] 24)) (.cells #[.int .u8 0, .int .u8 0, .int .u8 0, .int .u8 0] 24); simpa using this
  refine ⟨(h.block _ (by simp; omega)).trans h0, (h.block _ (by simp)).trans h1, by omega, ?_⟩
  exact (((Below.refl w.heap.size w).alloc (Nat.le_refl _) _).alloc (by simp) _).trans (h.mono (by simp; omega))

theorem asplit_as (s : ByteArray) (b n : Int) (bb : UInt8) (m : Nat) (hb : b = (bb.toNat : Int)) (hn : n = (m : Int)) (hb7 : bb.toNat < 128) (hm : 0 < m) (hm1 : m < 1000) (w : World) (hs : s.size ≤ 140737488355328) :
    Calls Try.prog 81 #[.string s, .int .i32 b, .int .i64 n] w (SpPost bb s.data.toList m w) := by
  subst hb; subst hn; exact asplit_any s bb hb7 m hm hm1 w hs
theorem asplit_no (s : ByteArray) (b n : Int) (bb : UInt8) (m : Nat) (hb : b = (bb.toNat : Int)) (hn : n = (m : Int)) (hb7 : bb.toNat < 128) (hm : 0 < m) (hm1 : m < 1000) (w : World) (hs : s.size ≤ 140737488355328) (h : (cutF bb s.data.toList).length ≠ m) :
    Calls Try.prog 81 #[.string s, .int .i32 b, .int .i64 n] w fun e w' => e = .returned (.tuple #[.slice none 0 0, .bool false]) ∧ Below w.heap.size w w' :=
  (asplit_as s b n bb m hb hn hb7 hm hm1 w hs).mono fun e w' hh => by unfold SpPost at hh; rw [if_neg h] at hh; exact hh
theorem asplit_yes (s : ByteArray) (b n : Int) (bb : UInt8) (m : Nat) (hb : b = (bb.toNat : Int)) (hn : n = (m : Int)) (hb7 : bb.toNat < 128) (hm : 0 < m) (hm1 : m < 1000) (w : World) (hs : s.size ≤ 140737488355328) (h : (cutF bb s.data.toList).length = m) :
    Calls Try.prog 81 #[.string s, .int .i32 b, .int .i64 n] w fun e w' => ∃ g cap, e = .returned (.tuple #[.slice (some ⟨g, 0, none⟩) m cap, .bool true]) ∧ m ≤ cap ∧ w.heap.size ≤ g ∧ g < w'.heap.size ∧ (∀ (j : Nat) (x : List UInt8), (cutF bb s.data.toList)[j]? = some x → w'.cell? ⟨g, j, none⟩ = some (.string ⟨x.toArray⟩)) ∧ Below w.heap.size w w' :=
  (asplit_as s b n bb m hb hn hb7 hm hm1 w hs).mono fun e w' hh => by
    unfold SpPost at hh; rw [if_pos h] at hh
    obtain ⟨⟨g, cap, h1, h2, h3, h4, h5⟩, h6⟩ := hh
    exact ⟨g, cap, h1, h2, h3, h4, h5, h6⟩

set_option maxRecDepth 100000 in
set_option maxHeartbeats 4000000 in
theorem aparse_pieces (s : ByteArray) (w : World) (hs : s.size ≤ 140737488355328) (h : (cutF 46 s.data.toList).length ≠ 4) : Calls Try.prog 77 #[.string s] w (AParsePost s.data.toList w) := by
  have NO := Lib.hid (parse4_not h)
  have SP := Lib.hid fun W => asplit_no s 46 4 46 4 rfl rfl (by decide) (by omega) (by omega) W hs h
  clear h hs
  go_enter Try.func77, Try.ntmps77
  go_wp2_with fail
  with_reducible refine (SP.out _).mono ?_
  rintro e w1 ⟨rfl, bel1⟩
  obtain ⟨r0, r1, r2, bel⟩ := two_addr bel1
  obtain ⟨⟨q0, q1, q2, q3⟩, f0, f1, f2, f3⟩ := cells4 r0
  have R0 := Lib.hid r0
  clear r0 r1 bel1
  go_wp2
  have R4 := put4 (x := .int .u8 0) (y := .int .u8 0) (z := .int .u8 0) (u := .int .u8 0) R0.out
  obtain ⟨⟨k0, k1, k2, k3⟩, _⟩ := cells4 R4
  clear R4
  exact bodyPost_ret (v := .tuple #[addrV 0 0 0 0, .int .i64 9]) (by simp [results, Try.results77, go_sem, addrV, u8v, k0, k1, k2, k3]) rfl (aparse_no NO.out ((((bel.setCell (Nat.le_refl _) _).setCell (Nat.le_refl _) _).setCell (Nat.le_refl _) _).setCell (Nat.le_refl _) _))

set_option maxRecDepth 100000 in
set_option maxHeartbeats 4000000 in
theorem aparse_four (s : ByteArray) (w : World) (hs : s.size ≤ 140737488355328) (a b c d : List UInt8) (h : cutF 46 s.data.toList = [a, b, c, d]) : Calls Try.prog 77 #[.string s] w (AParsePost s.data.toList w) := by
  have P4 := Lib.hid (parse4_cut h)
  have hpc := cutF_piece 46 s.data.toList
  rw [h] at hpc
  have HPC := Lib.hid hpc
  have HS := Lib.hid hs
  have SP := fun W => asplit_yes s 46 4 46 4 rfl rfl (by decide) (by omega) (by omega) W hs (by rw [h]; rfl)
  rw [h] at SP
  have SPH := Lib.hid SP
  have HLS : Hid (([a, b, c, d] : List (List UInt8)).length = 4) := Lib.hid rfl
  obtain ⟨ls, hls⟩ : ∃ ls, Hid (ls = [a, b, c, d]) := ⟨_, Lib.hid rfl⟩
  rw [← hls.out] at SPH HLS HPC
  clear SP hpc hs h
  go_enter Try.func77, Try.ntmps77
  go_wp2_with fail
  with_reducible refine (SPH.out _).mono ?_
  rintro e w1 ⟨g, cap, rfl, hcap, hg0, hg1, hc, bel1⟩
  obtain ⟨r0, r1, r2, bel⟩ := two_addr bel1
  have hgw : g ≠ w.heap.size := by simp at hg0; omega
  have hgw1 : g ≠ w.heap.size + 1 := by simp at hg0; omega
  have HC := Lib.hid hc
  have hcap' : (4 : Int) ≤ cap := by omega
  clear hc bel1 hg0 hcap
  go_wp2_with fail
  go_loopw [21] (fun i wr => ∃ k : Nat, k ≤ 4 ∧ i = .int .i64 k ∧ (∀ j, j < k → 0 ≤ numI (ls.getD j []) 255) ∧ wr.heap[w.heap.size]? = some (.cells #[.int .u8 0, .int .u8 0, .int .u8 0, .int .u8 0] 24 (0, 0)) ∧ Ow 24 wr (w.heap.size + 1) 4 (pBs ls k) ∧ (∀ (j : Nat) (x : List UInt8), ls[j]? = some x → wr.cell? ⟨g, j, none⟩ = some (.string ⟨x.toArray⟩)) ∧ g < wr.heap.size ∧ Below w.heap.size w wr) (fun i _ => 4 - (intOf i).toNat)
  case atStart =>
    refine ⟨0, by omega, rfl, fun j hj => by omega, r0, ?_, HC.out, hg1, bel⟩
    rw [pBs_zero]
    refine ⟨by simp, by unfold maxLen; omega, _, r1, fun j b hj => ?_⟩
    match j, hj with
    | 0, hj | 1, hj | 2, hj | 3, hj => simp at hj; subst hj; rfl
    | j + 4, hj => simp at hj
  case round =>
    clear r0 r1 bel hg1
    obtain ⟨k, hk, rfl, hall, hz, hb, hcs, hgl, bel⟩ := hrel
    have HZ := Lib.hid hz
    have HALL := Lib.hid hall
    have HCS := Lib.hid hcs
    have hzl : w.heap.size + 1 < wr.heap.size := hb.lt
    clear hz hall hcs
    by_cases hlt : k < 4
    · obtain ⟨x, hx⟩ : ∃ x, Hid (ls.getD k [] = x) := ⟨_, Lib.hid rfl⟩
      have hxk : ls[k]? = some x := by
        have := HLS.out
        rw [List.getElem?_eq_getElem (by omega), ← hx.out, List.getD_eq_getElem?_getD, List.getElem?_eq_getElem (by omega)]; rfl
      have hcx := HCS.out k x hxk
      have hxs : (⟨x.toArray⟩ : ByteArray).size ≤ 140737488355328 := by
        rw [size_bs]
        have := HPC.out x (List.mem_of_getElem? hxk)
        have := HS.out
        simp at *; omega
      have k0 : (0 : Int) ≤ k := by omega
      have k4 : (k : Int) < 4 := by omega
      have DX : (⟨x.toArray⟩ : ByteArray).data.toList = x := by simp
      by_cases hn : 0 ≤ numI x 255
      · have DEC := fun W => decimal_yes ⟨x.toArray⟩ 255 W hxs (by omega) (by omega) (by rw [DX]; exact hn)
        rw [DX] at DEC
        have DECH := Lib.hid DEC
        have hr := numI_range x 255
        have n1 : numI x 255 ≤ 255 := by omega
        have ALL : Hid (∀ j, j < k + 1 → 0 ≤ numI (ls.getD j []) 255) := Lib.hid fun j hj => by
          by_cases e : j = k
          · subst e; rw [hx.out]; exact hn
          · exact HALL.out j (by omega)
        have MS : Hid ((pBs ls k).set k (byteOf (numI x 255)) = pBs ls (k + 1)) := Lib.hid (by rw [← pBs_set, hx.out])
        have UB : Hid (u8v (byteOf (numI x 255)) = .int .u8 (numI x 255)) := Lib.hid (u8v_byteOf hn n1)
        clear hxk hxs DX DEC hr
        go_wp2_with fail
        with_reducible refine (DECH.out _).mono ?_
        rintro e w2 ⟨rfl, bel2⟩
        have hz2 := (bel2.block _ (by omega)).trans HZ.out
        have hb2 := hb.below bel2
        have HCS2 : Hid (∀ (j : Nat) (x : List UInt8), ls[j]? = some x → w2.cell? ⟨g, j, none⟩ = some (.string ⟨x.toArray⟩)) := Lib.hid fun j x hj => (bel2.cell (p := ⟨g, j, none⟩) hgl).trans (HCS.out j x hj)
        have hgl2 := Nat.lt_of_lt_of_le hgl bel2.size
        have belb := bel.trans (bel2.mono (by omega))
        obtain ⟨_, _, cb, fb⟩ := hb2.at_ k (by rw [pBs_len]; exact hlt)
        have HZ2' := Lib.hid hz2
        clear hz2 bel bel2 hb hcx hgl hzl
        go_wp2
        have OW2 := hb2.set k (byteOf (numI x 255))
        rw [UB.out, MS.out] at OW2
        have HZ2 := (Below.heap_setCell w2 ⟨w.heap.size + 1, k, none⟩ (.int .u8 (numI x 255)) w.heap.size (by simp)).trans HZ2'.out
        have BE2 := belb.setCell (p := ⟨w.heap.size + 1, k, none⟩) (by simp) (.int .u8 (numI x 255))
        have CS2 : ∀ (j : Nat) (x' : List UInt8), ls[j]? = some x' → (w2.setCell ⟨w.heap.size + 1, k, none⟩ (.int .u8 (numI x 255))).cell? ⟨g, j, none⟩ = some (.string ⟨x'.toArray⟩) := fun j x' hj => by
          rw [World.cell?_of_block (w := w2) (Below.heap_setCell w2 ⟨w.heap.size + 1, k, none⟩ (.int .u8 (numI x 255)) g (fun e => hgw1 e))]
          exact HCS2.out j x' hj
        go_roundw
        case rel => exact ⟨k + 1, by omega, by go_num, ALL.out, HZ2, OW2, CS2, by simp; exact hgl2, BE2⟩
        case measure => simp [intOf]; omega
      · have hn1 : numI x 255 = -1 := by have := numI_range x 255; omega
        have DEC := Lib.hid fun W => decimal_no ⟨x.toArray⟩ 255 W hxs (by omega) (by omega) (by rw [DX]; exact hn1)
        have NO : Hid (parse4 s.data.toList = none) := Lib.hid (by
          rw [P4.out, if_neg]
          have h1 := hx.out
          rw [hls.out] at h1
          rintro ⟨g0, g1, g2, g3⟩
          match k, hlt, h1 with
          | 0, _, h1 | 1, _, h1 | 2, _, h1 | 3, _, h1 => simp at h1; subst h1; omega)
        clear hxk hxs DX hn hn1
        go_wp2_with fail
        with_reducible refine (DEC.out _).mono ?_
        rintro e w2 ⟨rfl, bel2⟩
        have hz2 := (bel2.block _ (by omega)).trans HZ.out
        have belb := bel.trans (bel2.mono (by omega))
        obtain ⟨⟨q0, q1, q2, q3⟩, f0, f1, f2, f3⟩ := cells4 hz2
        have R0 := Lib.hid hz2
        clear hz2 bel bel2 hb hcx hgl hzl
        go_wp2
        have R4 := put4 (x := .int .u8 0) (y := .int .u8 0) (z := .int .u8 0) (u := .int .u8 0) R0.out
        obtain ⟨⟨k0, k1, k2, k3⟩, _⟩ := cells4 R4
        clear R4
        exact bodyPost_ret (v := .tuple #[addrV 0 0 0 0, .int .i64 9]) (by simp [results, Try.results77, go_sem, addrV, u8v, k0, k1, k2, k3]) rfl (aparse_no NO.out ((((belb.setCell (Nat.le_refl _) _).setCell (Nat.le_refl _) _).setCell (Nat.le_refl _) _).setCell (Nat.le_refl _) _))
    · obtain rfl : k = 4 := by omega
      have YES : Hid (parse4 s.data.toList = some (byteOf (numI a 255), byteOf (numI b 255), byteOf (numI c 255), byteOf (numI d 255))) := Lib.hid (by
        have hall := HALL.out
        rw [hls.out] at hall
        rw [P4.out, if_pos ⟨hall 0 (by omega), hall 1 (by omega), hall 2 (by omega), hall 3 (by omega)⟩])
      have hb4 := hb
      rw [hls.out, pBs_four] at hb4
      obtain ⟨p0, _⟩ := hb4.cell 0 (by simp)
      obtain ⟨p1, _⟩ := hb4.cell 1 (by simp)
      obtain ⟨p2, _⟩ := hb4.cell 2 (by simp)
      obtain ⟨p3, _⟩ := hb4.cell 3 (by simp)
      simp only [List.getElem_cons_zero, List.getElem_cons_succ] at p0 p1 p2 p3
      obtain ⟨⟨q0, q1, q2, q3⟩, f0, f1, f2, f3⟩ := cells4 HZ.out
      clear hb hb4 HALL hgl hzl
      go_wp2
      have R4 := put4 (x := u8v (byteOf (numI a 255))) (y := u8v (byteOf (numI b 255))) (z := u8v (byteOf (numI c 255))) (u := u8v (byteOf (numI d 255))) HZ.out
      obtain ⟨⟨k0', k1', k2', k3'⟩, _⟩ := cells4 R4
      clear R4
      simp only [u8v] at k0' k1' k2' k3'
      exact bodyPost_ret (v := .tuple #[addrV (byteOf (numI a 255)) (byteOf (numI b 255)) (byteOf (numI c 255)) (byteOf (numI d 255)), .int .i64 0]) (by simp [results, Try.results77, go_sem, addrV, u8v, k0', k1', k2', k3']) rfl (aparse_yes YES.out ((((bel.setCell (Nat.le_refl _) _).setCell (Nat.le_refl _) _).setCell (Nat.le_refl _) _).setCell (Nat.le_refl _) _))

theorem aparse_any (s : ByteArray) (w : World) (hs : s.size ≤ 140737488355328) : Calls Try.prog 77 #[.string s] w (AParsePost s.data.toList w) := by
  match hm : cutF 46 s.data.toList with
  | [a, b, c, d] => exact aparse_four s w hs a b c d hm
  | [] | [_] | [_, _] | [_, _, _] | _ :: _ :: _ :: _ :: _ :: _ => exact aparse_pieces s w hs (by rw [hm]; simp)
end Go.Proofs.Ytdfobilagidmfaa
