/- The contracts of the reference's texts of addresses. -/
import Derived.Test.YtdfobilagidmfaaRows
import Derived.Test.YtdfobilagidmfaaMem
import Derived.Test.YtdfobilagidmfaaText
import Derived.WalkSpells
import Derived.WalkLawsBesides
import Derived.Lib.Hide
import Derived.Deep.LoopGhost
import Derived.BigRegion
import Derived.Laws.OwnMore
namespace Go.Proofs.Ytdfobilagidmfaa
open Go.RowKit

theorem ret_i64' {a b : Int} (h : a = b) : Ending.returned (.int .i64 a) = .returned (.int .i64 b) := by rw [h]

theorem str_at (s : ByteArray) (k : Nat) (h : k < s.size) : s.data.toList.drop k = s[k] :: s.data.toList.drop (k + 1) := by
  rw [List.drop_eq_getElem_cons (by simpa using h)]; rfl

set_option maxHeartbeats 1000000 in
theorem number_any (s : ByteArray) (most : Int) (w : World) (hs : s.size ≤ maxLen) :
    Calls Try.prog 70 #[.string s, .int .i64 most] w fun e w' => e = .returned (.int .i64 (numI s.data.toList most)) ∧ w = w' := by
  unfold maxLen at hs
  have hlen : s.data.toList.length = s.size := by simp
  have s0 : (0 : Int) ≤ s.size := by omega
  have s1 : (s.size : Int) ≤ 9223372036854775807 := by omega
  by_cases hz : s.size < 1
  · have hr := Lib.hid (numI_shape (l := s.data.toList) most (.inl (by omega)))
    have b1 : (s.size : Int) < 1 := by omega
    rw [hr.out]
    clear hlen hz hs
    go_enter Try.func70, Try.ntmps70
    go_wp2
    go_ret
    exact ⟨rfl, rfl⟩
  by_cases h9 : 9 < s.size
  · have hr := Lib.hid (numI_shape (l := s.data.toList) most (.inr (.inl (by omega))))
    have b1 : (1 : Int) ≤ s.size := by omega
    have b2 : (9 : Int) < s.size := by omega
    rw [hr.out]
    clear hlen hz hs h9
    go_enter Try.func70, Try.ntmps70
    go_wp2
    go_ret
    exact ⟨rfl, rfl⟩
  have b1 : (1 : Int) ≤ s.size := by omega
  have b2 : (s.size : Int) ≤ 9 := by omega
  have hpos : 0 < s.size := by omega
  have h0 : s.data.toList[0]? = some s[0] := by
    rw [List.getElem?_eq_getElem (by omega)]; rfl
  obtain ⟨x, hx⟩ : ∃ x, Hid (s[0] = x) := ⟨_, Lib.hid rfl⟩
  rw [hx.out] at h0
  by_cases h1 : s.size = 1
  · have hsh' : ¬ (s.data.toList.length < 1 ∨ 9 < s.data.toList.length ∨ (1 < s.data.toList.length ∧ s.data.toList[0]? = some 48)) := by omega
    have b3 : decide ((1 : Int) < s.size) = false := decide_eq_false (by omega)
    have H1 := Lib.hid h1
    clear h1 h0 hx hz h9
    go_enter Try.func70, Try.ntmps70
    go_wp2
    go_loop [5, 6] (fun n i => ∃ k v : Nat, k ≤ s.size ∧ i = .int .i64 k ∧ n = .int .i64 v ∧ numGo (s.data.toList.drop k) v = numGo s.data.toList 0 ∧ v < 10 ^ k) (fun _ i => s.size - (intOf i).toNat)
    case atStart => exact ⟨0, 0, by omega, rfl, rfl, by rw [List.drop_zero], by simp⟩
    case round =>
      obtain ⟨k, v, hk, rfl, rfl, hv, hb⟩ := hrel
      have hb9 : (10 : Nat) ^ k ≤ 10 ^ 9 := Nat.pow_le_pow_right (by omega) (by omega)
      have v0 : (0 : Int) ≤ v := by omega
      have v1 : (v : Int) < 1000000000 := by omega
      by_cases hlt : k < s.size
      · have hat := str_at s k hlt
        have hpow : (10 : Nat) ^ (k + 1) = 10 * 10 ^ k := by rw [Nat.pow_succ]; omega
        obtain ⟨c, hc⟩ : ∃ c, Hid (s[k] = c) := ⟨_, Lib.hid rfl⟩
        have hcl := c.toNat_lt
        have hg : numGo (s.data.toList.drop k) v = if c.toNat < 48 ∨ 57 < c.toNat then none else numGo (s.data.toList.drop (k + 1)) (10 * v + (c.toNat - 48)) := by
          rw [hat, hc.out]; rfl
        have k0 : (0 : Int) ≤ k := by omega
        have k1 : (k : Int) < s.size := by omega
        have c0 : (0 : Int) ≤ c.toNat := by omega
        have c1 : (c.toNat : Int) < 256 := by omega
        by_cases hd : c.toNat < 48
        · have hn := Lib.hid (numI_none (l := s.data.toList) most (by rw [← hv, hg, if_pos (.inl hd)]))
          have d0 : (c.toNat : Int) < 48 := by omega
          have e := hc.out
          clear hv hat hg hb hb9 hpow hc
          go_wp2
          go_ret
          exact ⟨ret_i64' hn.out.symm, rfl⟩
        · by_cases hd2 : 57 < c.toNat
          · have hn := Lib.hid (numI_none (l := s.data.toList) most (by rw [← hv, hg, if_pos (.inr hd2)]))
            have d0 : (48 : Int) ≤ c.toNat := by omega
            have d1 : (57 : Int) < c.toNat := by omega
            have e := hc.out
            clear hv hat hg hb hb9 hpow hc
            go_wp2
            go_ret
            exact ⟨ret_i64' hn.out.symm, rfl⟩
          · have hn : Hid (numGo (s.data.toList.drop (k + 1)) (10 * v + (c.toNat - 48)) = numGo s.data.toList 0) := Lib.hid (by rw [← hv, hg, if_neg (by omega)])
            have d0 : (48 : Int) ≤ c.toNat := by omega
            have d1 : decide ((57 : Int) < c.toNat) = false := decide_eq_false (by omega)
            have d2 : decide ((c.toNat : Int) < 48) = false := decide_eq_false (by omega)
            have hb' : 10 * v + (c.toNat - 48) < 10 ^ (k + 1) := by omega
            have HB := Lib.hid hb'
            have e := hc.out
            clear hv hat hg hb hb9 hpow hc hb'
            go_wp2
            go_round
            case rel => exact ⟨k + 1, 10 * v + (c.toNat - 48), by omega, by go_num, by go_num, hn.out, HB.out⟩
            case measure => simp [intOf]; omega
      · obtain rfl : k = s.size := by omega
        rw [List.drop_of_length_le (by omega)] at hv
        have hn := Lib.hid (numI_some (l := s.data.toList) most v hsh' hv.symm)
        by_cases hm : most < (v : Int)
        · have hn' : Hid (numI s.data.toList most = -1) := Lib.hid (by rw [hn.out, if_pos hm])
          clear hv hb hb9 hn
          go_wp2
          go_ret
          exact ⟨ret_i64' hn'.out.symm, rfl⟩
        · have hn' : Hid (numI s.data.toList most = v) := Lib.hid (by rw [hn.out, if_neg hm])
          have hm' : decide (most < (v : Int)) = false := decide_eq_false (by omega)
          clear hv hb hb9 hn hm
          go_wp2
          go_ret
          exact ⟨ret_i64' hn'.out.symm, rfl⟩
  · have b3 : (1 : Int) < s.size := by omega
    by_cases h48 : x.toNat = 48
    · have hr := Lib.hid (numI_shape (l := s.data.toList) most (.inr (.inr ⟨by omega, by rw [h0]; congr 1; exact UInt8.toNat_inj.1 h48⟩)))
      rw [hr.out]
      have e := hx.out
      have b4 : (x.toNat : Int) = 48 := by omega
      clear hlen hz hs h9 h1 h0 hx h48
      go_enter Try.func70, Try.ntmps70
      go_wp2
      go_ret
      exact ⟨rfl, rfl⟩
    · have hsh' : ¬ (s.data.toList.length < 1 ∨ 9 < s.data.toList.length ∨ (1 < s.data.toList.length ∧ s.data.toList[0]? = some 48)) := by
        rw [h0]
        have : ¬ (some x = some (48 : UInt8)) := fun h => h48 (by rw [Option.some.inj h]; rfl)
        rintro (h | h | h)
        · omega
        · omega
        · exact this h.2
      have e := hx.out
      have b4 : ((x.toNat : Int) == 48) = false := beq_eq_false_iff_ne.2 (by omega)
      clear h1 h0 hx hz h9 h48
      go_enter Try.func70, Try.ntmps70
      go_wp2
      go_loop [5, 6] (fun n i => ∃ k v : Nat, k ≤ s.size ∧ i = .int .i64 k ∧ n = .int .i64 v ∧ numGo (s.data.toList.drop k) v = numGo s.data.toList 0 ∧ v < 10 ^ k) (fun _ i => s.size - (intOf i).toNat)
      case atStart => exact ⟨0, 0, by omega, rfl, rfl, by rw [List.drop_zero], by simp⟩
      case round =>
        obtain ⟨k, v, hk, rfl, rfl, hv, hb⟩ := hrel
        have hb9 : (10 : Nat) ^ k ≤ 10 ^ 9 := Nat.pow_le_pow_right (by omega) (by omega)
        have v0 : (0 : Int) ≤ v := by omega
        have v1 : (v : Int) < 1000000000 := by omega
        by_cases hlt : k < s.size
        · have hat := str_at s k hlt
          have hpow : (10 : Nat) ^ (k + 1) = 10 * 10 ^ k := by rw [Nat.pow_succ]; omega
          obtain ⟨c, hc⟩ : ∃ c, Hid (s[k] = c) := ⟨_, Lib.hid rfl⟩
          have hcl := c.toNat_lt
          have hg : numGo (s.data.toList.drop k) v = if c.toNat < 48 ∨ 57 < c.toNat then none else numGo (s.data.toList.drop (k + 1)) (10 * v + (c.toNat - 48)) := by
            rw [hat, hc.out]; rfl
          have k0 : (0 : Int) ≤ k := by omega
          have k1 : (k : Int) < s.size := by omega
          have c0 : (0 : Int) ≤ c.toNat := by omega
          have c1 : (c.toNat : Int) < 256 := by omega
          by_cases hd : c.toNat < 48
          · have hn := Lib.hid (numI_none (l := s.data.toList) most (by rw [← hv, hg, if_pos (.inl hd)]))
            have d0 : (c.toNat : Int) < 48 := by omega
            have e := hc.out
            clear hv hat hg hb hb9 hpow hc
            go_wp2
            go_ret
            exact ⟨ret_i64' hn.out.symm, rfl⟩
          · by_cases hd2 : 57 < c.toNat
            · have hn := Lib.hid (numI_none (l := s.data.toList) most (by rw [← hv, hg, if_pos (.inr hd2)]))
              have d0 : (48 : Int) ≤ c.toNat := by omega
              have d1 : (57 : Int) < c.toNat := by omega
              have e := hc.out
              clear hv hat hg hb hb9 hpow hc
              go_wp2
              go_ret
              exact ⟨ret_i64' hn.out.symm, rfl⟩
            · have hn : Hid (numGo (s.data.toList.drop (k + 1)) (10 * v + (c.toNat - 48)) = numGo s.data.toList 0) := Lib.hid (by rw [← hv, hg, if_neg (by omega)])
              have d0 : (48 : Int) ≤ c.toNat := by omega
              have d1 : decide ((57 : Int) < c.toNat) = false := decide_eq_false (by omega)
              have d2 : decide ((c.toNat : Int) < 48) = false := decide_eq_false (by omega)
              have hb' : 10 * v + (c.toNat - 48) < 10 ^ (k + 1) := by omega
              have HB := Lib.hid hb'
              have e := hc.out
              clear hv hat hg hb hb9 hpow hc hb'
              go_wp2
              go_round
              case rel => exact ⟨k + 1, 10 * v + (c.toNat - 48), by omega, by go_num, by go_num, hn.out, HB.out⟩
              case measure => simp [intOf]; omega
        · obtain rfl : k = s.size := by omega
          rw [List.drop_of_length_le (by omega)] at hv
          have hn := Lib.hid (numI_some (l := s.data.toList) most v hsh' hv.symm)
          by_cases hm : most < (v : Int)
          · have hn' : Hid (numI s.data.toList most = -1) := Lib.hid (by rw [hn.out, if_pos hm])
            clear hv hb hb9 hn
            go_wp2
            go_ret
            exact ⟨ret_i64' hn'.out.symm, rfl⟩
          · have hn' : Hid (numI s.data.toList most = v) := Lib.hid (by rw [hn.out, if_neg hm])
            have hm' : decide (most < (v : Int)) = false := decide_eq_false (by omega)
            clear hv hb hb9 hn hm
            go_wp2
            go_ret
            exact ⟨ret_i64' hn'.out.symm, rfl⟩

/-- Bytes as a string's value. -/
def strv (l : List UInt8) : Value := .string ⟨l.toArray⟩
theorem oneCell_str (l : List (List UInt8)) : ∀ u ∈ l.map strv, u.oneCell' = true := by
  intro u hu
  obtain ⟨_, _, rfl⟩ := List.mem_map.1 hu
  rfl
theorem str_more (last : List UInt8) (s : ByteArray) (k : Nat) (h : k < s.size) : ((⟨last.toArray⟩ : ByteArray) ++ s.extract k (k + 1)) = ⟨(last ++ [s[k]]).toArray⟩ := by
  apply ByteArray.ext
  rw [ByteArray.data_append, ByteArray.data_extract]
  apply Array.ext'
  simp only [Array.toList_append, Array.toList_extract, List.extract_eq_take_drop]
  have e : (s.data.toList.drop k).take (k + 1 - k) = [s[k]] := by
    rw [str_at s k h]; simp
  rw [e]
theorem take_str (s : ByteArray) (k : Nat) (h : k < s.size) : s.data.toList.take (k + 1) = s.data.toList.take k ++ [s[k]] := by
  rw [List.take_succ_eq_append_getElem (by simpa using h)]; rfl
theorem Try.info_str : (Try.prog.info? 9).map (fun i => (i.zero, i.size, i.bytes)) = some (some (.string ⟨#[]⟩), 1, 16) := by kernel_rfl

set_option maxHeartbeats 1000000 in
theorem cut_big (s : ByteArray) (b : UInt8) (w : World) (hs : s.size ≤ 100000) :
    Calls Try.prog 43 #[.string s, .int .u8 (b.toNat : Int)] w fun e w' => ∃ v, e = .returned v ∧ w'.ownsRow w.heap.size 9 1 v (cutF b s.data.toList).length ((cutF b s.data.toList).map strv) ∧ Below w.heap.size w w' := by
  obtain ⟨i0, hi, hz0, hz1, hz2⟩ := info_parts Try.info_str
  have s1 : (s.size : Int) ≤ 100000 := by omega
  have hb0 : (0 : Int) ≤ b.toNat := by omega
  have hb1 : (b.toNat : Int) < 256 := by have := b.toNat_lt; omega
  have hstart : (w.alloc (.cells #[.string ⟨#[]⟩] 9)).ownsRow w.heap.size 9 1 (.slice (some ⟨w.heap.size, 0, none⟩) 1 1) 1 (([[]] : List (List UInt8)).map strv) :=
    ⟨rfl, .inr ⟨w.heap.size, 1, _, rfl, Nat.le_refl _, heap_alloc_new w _, Nat.le_refl _, by unfold maxLen; omega, rfl, rfl⟩⟩
  have bel0 : Below w.heap.size w (w.alloc (.cells #[.string ⟨#[]⟩] 9)) := (Below.refl _ _).alloc (Nat.le_refl _) _
  go_enter Try.func43, Try.ntmps43
  go_wp2
  go_loopw [5, 6] (fun v i wr => ∃ (k : Nat) (v0 : Value), v0 = v ∧ k ≤ s.size ∧ i = .int .i64 k ∧ wr.ownsRow w.heap.size 9 1 v (cutF b (s.data.toList.take k)).length ((cutF b (s.data.toList.take k)).map strv) ∧ Below w.heap.size w wr) (fun _ i _ => s.size - (intOf i).toNat)
  case atStart => exact ⟨0, _, rfl, by omega, rfl, hstart, bel0⟩
  case round =>
    obtain ⟨k, v, rfl, hk, rfl, hown, bel⟩ := hrel
    by_cases hlt : k < s.size
    · have htk := take_str s k hlt
      have hlen := cutF_len b (s.data.toList.take k)
      have hne := cutF_ne b (s.data.toList.take k)
      have hpc := cutF_piece b (s.data.toList.take k)
      have hcl : (s.data.toList.take k).length ≤ k := List.length_take_le _ _
      have hsn : cutF b (s.data.toList.take (k + 1)) = cutStep b (cutF b (s.data.toList.take k)) s[k] := by rw [htk, cutF_snoc]
      generalize cutF b (s.data.toList.take k) = ls at *
      obtain ⟨c, hc⟩ : ∃ c, Hid (s[k] = c) := ⟨_, Lib.hid rfl⟩
      rw [hc.out] at hsn
      have k0 : (0 : Int) ≤ k := by omega
      have k1 : (k : Int) < s.size := by omega
      by_cases hcb : c = b
      · obtain rfl := hcb
        have hsn2 : Hid (cutF c (s.data.toList.take (k + 1)) = ls ++ [[]]) := Lib.hid (by rw [hsn]; exact if_pos rfl)
        have e := hc.out
        have hls : ls.length ≤ 100001 := by omega
        clear hsn htk hcl hne hc hpc
        go_wp2_with (at_builtin; refine wpList_append_own _ rfl (.tmp 19) (.tmp 20) 47 rfl w.heap.size 9 i0 (.string ⟨#[]⟩) 1 16 Try.underlying47 hi hz0 hz1 hz2 rfl (by decide) _ _ _ rfl (hown.alloc _) ⟨wr.heap.size, 0, none⟩ 1 1 [.string ⟨#[]⟩] rfl rfl ?c1 ?c2 ?c3 ?c4 ?c5 ?_)
        case c1 => exact cell_one_new _ _ _
        case c2 => intro u hu; rw [List.mem_singleton.1 hu]; rfl
        case c3 => unfold maxLen; omega
        case c4 => omega
        case c5 => have := bel.size; simp; omega
        intro v' w1 hown1 hg1 _
        have bel1 : Below w.heap.size w w1 := (bel.alloc bel.size _).grown hg1 (by have := bel.size; simp; omega) (fun k h => (hown.lt k h).1)
        have hown2 : w1.ownsRow w.heap.size 9 1 v' (ls ++ [[]]).length ((ls ++ [[]]).map strv) := by rw [List.map_append, List.length_append]; exact hown1
        clear hown hown1 hg1 bel
        go_wp2
        go_roundw
        case rel => exact ⟨k + 1, _, rfl, by omega, by go_num, by rw [hsn2.out]; exact hown2, bel1⟩
        case measure => simp [intOf]; omega
      · obtain ⟨init, last, hil⟩ : ∃ init last, ls = init ++ [last] := ⟨ls.dropLast, ls.getLast hne, (List.dropLast_concat_getLast hne).symm⟩
        subst hil
        have hsn2 : Hid (cutF b (s.data.toList.take (k + 1)) = init ++ [last ++ [c]]) := Lib.hid (by rw [hsn]; unfold cutStep; rw [if_neg hcb]; simp)
        have e := hc.out
        have hcb' : ((c.toNat : Int) == (b.toNat : Int)) = false := beq_eq_false_iff_ne.2 (fun h => hcb (UInt8.toNat_inj.1 (by omega)))
        have hm : init.length ≤ 100000 := by simp at hlen; omega
        have hmore := str_more last s k hlt
        rw [hc.out] at hmore
        have hll := hpc last (by simp)
        have hadd : ∀ W, (Op.stringOp .add ⟨last.toArray⟩ (s.extract k (k + 1))).run Try.prog W = .ok (.string ⟨(last ++ [c]).toArray⟩) W := fun W => by
          rw [run_string_add_sum W _ _ (by simp [ByteArray.size_extract]; show last.toArray.size + _ ≤ _; simp; omega), hmore]
        obtain ⟨m, hmm⟩ : ∃ m, Hid (init.length = m) := ⟨_, Lib.hid rfl⟩
        have hown' : wr.ownsRow w.heap.size 9 1 v (m + 1) ((init ++ [last]).map strv) := by rw [← hmm.out]; simpa using hown
        rcases hown'.2 with ⟨_, h0⟩ | ⟨g, cap, _, rfl, hgb, _, hcap, _⟩
        · omega
        have hcell := hown'.cellAt m (by omega)
        have hx : ((init ++ [last]).map strv)[m]? = some (.string ⟨last.toArray⟩) := by
          rw [← hmm.out, List.getElem?_map, List.getElem?_append_right (Nat.le_refl _)]; simp [strv]
        rw [hx] at hcell
        have hfz := hown'.frozenAt m
        have hst := (hown'.stored m (.string ⟨(last ++ [c]).toArray⟩)).1
        have hset : ((init ++ [last]).map strv).set m (.string ⟨(last ++ [c]).toArray⟩) = (init ++ [last ++ [c]]).map strv := by
          rw [← hmm.out]; simp [strv]
        rw [hset] at hst
        have hst2 : (wr.setCell ⟨g, m, none⟩ (.string ⟨(last ++ [c]).toArray⟩)).drew.ownsRow w.heap.size 9 1 (.slice (some ⟨g, 0, none⟩) (m + 1) cap) (m + 1) ((init ++ [last ++ [c]]).map strv) := hst.drew
        have bel2 : Below w.heap.size w (wr.setCell ⟨g, m, none⟩ (.string ⟨(last ++ [c]).toArray⟩)).drew := (bel.setCell hgb _).drew
        have m0 : (0 : Int) ≤ m := by omega
        have m1 : (m : Int) ≤ 100000 := by have := hmm.out; omega
        clear hown hown' hst hset hx hsn htk hcl hne hc hmore hcb hlen hcap hpc hll
        go_wp2
        go_region
        have hst3 : (wr.setCell ⟨g, m, none⟩ (.string ⟨(last ++ [c]).toArray⟩)).drew.ownsRow w.heap.size 9 1 (.slice (some ⟨g, 0, none⟩) (m + 1) cap) (init ++ [last ++ [c]]).length ((init ++ [last ++ [c]]).map strv) := by
          rw [show (init ++ [last ++ [c]]).length = m + 1 by rw [← hmm.out]; simp]; exact hst2
        clear hst2 hadd hcell hfz hcb'
        go_wp2
        go_roundw
        case rel => exact ⟨k + 1, _, rfl, by omega, by go_num, by rw [hsn2.out]; exact hst3, bel2⟩
        case measure => simp [intOf]; omega
    · obtain rfl : k = s.size := by omega
      have e1 : s.data.toList.take s.size = s.data.toList := List.take_of_length_le (by simp)
      rw [e1] at hown
      clear e1
      go_wp2
      go_ret
      exact ⟨_, rfl, hown, bel⟩
theorem cut_any (s : ByteArray) (b : UInt8) (w : World) (hs : s.size ≤ 1000) :
    Calls Try.prog 43 #[.string s, .int .u8 (b.toNat : Int)] w fun e w' => ∃ v, e = .returned v ∧ w'.ownsRow w.heap.size 9 1 v (cutF b s.data.toList).length ((cutF b s.data.toList).map strv) ∧ Below w.heap.size w w' :=
  cut_big s b w (by omega)

/-- A hexadecimal digit's value; -1: none. -/
def hexI (c : UInt8) : Int := if 48 ≤ c.toNat ∧ c.toNat ≤ 57 then (c.toNat : Int) - 48 else if 97 ≤ c.toNat ∧ c.toNat ≤ 102 then (c.toNat : Int) - 97 + 10 else if 65 ≤ c.toNat ∧ c.toNat ≤ 70 then (c.toNat : Int) - 65 + 10 else -1
theorem hexI_range (c : UInt8) : hexI c = -1 ∨ (0 ≤ hexI c ∧ hexI c ≤ 15) := by
  unfold hexI
  split
  · right; omega
  · split
    · right; omega
    · split
      · right; omega
      · left; rfl

set_option maxHeartbeats 2000000 in
theorem rhex_any (c : UInt8) (w : World) : Calls Try.prog 71 #[.int .u8 (c.toNat : Int)] w fun e w' => e = .returned (.int .i64 (hexI c)) ∧ w = w' := by
  have c0 : (0 : Int) ≤ c.toNat := by omega
  have c1 : (c.toNat : Int) < 256 := by have := c.toNat_lt; omega
  rcases (by omega : c.toNat < 48 ∨ (48 ≤ c.toNat ∧ c.toNat ≤ 57) ∨ (58 ≤ c.toNat ∧ c.toNat ≤ 64) ∨ (65 ≤ c.toNat ∧ c.toNat ≤ 70) ∨ (71 ≤ c.toNat ∧ c.toNat ≤ 96) ∨ (97 ≤ c.toNat ∧ c.toNat ≤ 102) ∨ 103 ≤ c.toNat) with h | h | h | h | h | h | h
  · have hv : Hid (hexI c = -1) := Lib.hid (by unfold hexI; rw [if_neg (by omega), if_neg (by omega), if_neg (by omega)])
    have t0 : decide ((48 : Int) ≤ c.toNat) = false := decide_eq_false (by omega)
    have t1 : decide ((c.toNat : Int) ≤ 57) = true := decide_eq_true (by omega)
    have t2 : decide ((97 : Int) ≤ c.toNat) = false := decide_eq_false (by omega)
    have t3 : decide ((c.toNat : Int) ≤ 102) = true := decide_eq_true (by omega)
    have t4 : decide ((65 : Int) ≤ c.toNat) = false := decide_eq_false (by omega)
    have t5 : decide ((c.toNat : Int) ≤ 70) = true := decide_eq_true (by omega)
    clear h
    go_enter Try.func71, Try.ntmps71
    go_wp2
    go_ret
    exact ⟨ret_i64' hv.out.symm, rfl⟩
  · have hv : Hid (hexI c = (c.toNat : Int) - 48) := Lib.hid (by unfold hexI; rw [if_pos (by omega)])
    have t0 : decide ((48 : Int) ≤ c.toNat) = true := decide_eq_true (by omega)
    have t1 : decide ((c.toNat : Int) ≤ 57) = true := decide_eq_true (by omega)
    have t2 : decide ((97 : Int) ≤ c.toNat) = false := decide_eq_false (by omega)
    have t3 : decide ((c.toNat : Int) ≤ 102) = true := decide_eq_true (by omega)
    have t4 : decide ((65 : Int) ≤ c.toNat) = false := decide_eq_false (by omega)
    have t5 : decide ((c.toNat : Int) ≤ 70) = true := decide_eq_true (by omega)
    have b0 : (48 : Int) ≤ c.toNat := by omega
    clear h
    go_enter Try.func71, Try.ntmps71
    go_wp2
    go_ret
    exact ⟨ret_i64' hv.out.symm, rfl⟩
  · have hv : Hid (hexI c = -1) := Lib.hid (by unfold hexI; rw [if_neg (by omega), if_neg (by omega), if_neg (by omega)])
    have t0 : decide ((48 : Int) ≤ c.toNat) = true := decide_eq_true (by omega)
    have t1 : decide ((c.toNat : Int) ≤ 57) = false := decide_eq_false (by omega)
    have t2 : decide ((97 : Int) ≤ c.toNat) = false := decide_eq_false (by omega)
    have t3 : decide ((c.toNat : Int) ≤ 102) = true := decide_eq_true (by omega)
    have t4 : decide ((65 : Int) ≤ c.toNat) = false := decide_eq_false (by omega)
    have t5 : decide ((c.toNat : Int) ≤ 70) = true := decide_eq_true (by omega)
    clear h
    go_enter Try.func71, Try.ntmps71
    go_wp2
    go_ret
    exact ⟨ret_i64' hv.out.symm, rfl⟩
  · have hv : Hid (hexI c = (c.toNat : Int) - 65 + 10) := Lib.hid (by unfold hexI; rw [if_neg (by omega), if_neg (by omega), if_pos (by omega)])
    have t0 : decide ((48 : Int) ≤ c.toNat) = true := decide_eq_true (by omega)
    have t1 : decide ((c.toNat : Int) ≤ 57) = false := decide_eq_false (by omega)
    have t2 : decide ((97 : Int) ≤ c.toNat) = false := decide_eq_false (by omega)
    have t3 : decide ((c.toNat : Int) ≤ 102) = true := decide_eq_true (by omega)
    have t4 : decide ((65 : Int) ≤ c.toNat) = true := decide_eq_true (by omega)
    have t5 : decide ((c.toNat : Int) ≤ 70) = true := decide_eq_true (by omega)
    have b0 : (65 : Int) ≤ c.toNat := by omega
    clear h
    go_enter Try.func71, Try.ntmps71
    go_wp2
    go_ret
    exact ⟨ret_i64' hv.out.symm, rfl⟩
  · have hv : Hid (hexI c = -1) := Lib.hid (by unfold hexI; rw [if_neg (by omega), if_neg (by omega), if_neg (by omega)])
    have t0 : decide ((48 : Int) ≤ c.toNat) = true := decide_eq_true (by omega)
    have t1 : decide ((c.toNat : Int) ≤ 57) = false := decide_eq_false (by omega)
    have t2 : decide ((97 : Int) ≤ c.toNat) = false := decide_eq_false (by omega)
    have t3 : decide ((c.toNat : Int) ≤ 102) = true := decide_eq_true (by omega)
    have t4 : decide ((65 : Int) ≤ c.toNat) = true := decide_eq_true (by omega)
    have t5 : decide ((c.toNat : Int) ≤ 70) = false := decide_eq_false (by omega)
    clear h
    go_enter Try.func71, Try.ntmps71
    go_wp2
    go_ret
    exact ⟨ret_i64' hv.out.symm, rfl⟩
  · have hv : Hid (hexI c = (c.toNat : Int) - 97 + 10) := Lib.hid (by unfold hexI; rw [if_neg (by omega), if_pos (by omega)])
    have t0 : decide ((48 : Int) ≤ c.toNat) = true := decide_eq_true (by omega)
    have t1 : decide ((c.toNat : Int) ≤ 57) = false := decide_eq_false (by omega)
    have t2 : decide ((97 : Int) ≤ c.toNat) = true := decide_eq_true (by omega)
    have t3 : decide ((c.toNat : Int) ≤ 102) = true := decide_eq_true (by omega)
    have t4 : decide ((65 : Int) ≤ c.toNat) = true := decide_eq_true (by omega)
    have t5 : decide ((c.toNat : Int) ≤ 70) = false := decide_eq_false (by omega)
    have b0 : (97 : Int) ≤ c.toNat := by omega
    clear h
    go_enter Try.func71, Try.ntmps71
    go_wp2
    go_ret
    exact ⟨ret_i64' hv.out.symm, rfl⟩
  · have hv : Hid (hexI c = -1) := Lib.hid (by unfold hexI; rw [if_neg (by omega), if_neg (by omega), if_neg (by omega)])
    have t0 : decide ((48 : Int) ≤ c.toNat) = true := decide_eq_true (by omega)
    have t1 : decide ((c.toNat : Int) ≤ 57) = false := decide_eq_false (by omega)
    have t2 : decide ((97 : Int) ≤ c.toNat) = true := decide_eq_true (by omega)
    have t3 : decide ((c.toNat : Int) ≤ 102) = false := decide_eq_false (by omega)
    have t4 : decide ((65 : Int) ≤ c.toNat) = true := decide_eq_true (by omega)
    have t5 : decide ((c.toNat : Int) ≤ 70) = false := decide_eq_false (by omega)
    clear h
    go_enter Try.func71, Try.ntmps71
    go_wp2
    go_ret
    exact ⟨ret_i64' hv.out.symm, rfl⟩
end Go.Proofs.Ytdfobilagidmfaa
